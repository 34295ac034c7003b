import PyProof.Rows.All
import Wide.All
import OpenK.AllK
import Wide.FinOn
import Lean
import PyProof.EqAt
import PyProof.EqKinds
import PyProof.TupleCall
import PySem.Challenge.RW_topstretch_k37_whole_great_rows
set_option Elab.async false
set_option linter.all false
set_option maxRecDepth 100000
/-! THE HAND LAYER, for ints, bools, texts, own classes, LISTS and tuples (index, slices, in, append, pop ..), calls, loops. Paste it whole ahead of your own text; what your proof does not reach may be deleted. -/
namespace L2
open PySem PySem.Spec PyProof.Rows

/-- a key: an int or a str -/
abbrev Key := Sum Int Str
def keyIs : Key → Value → Bool
  | .inl k, v => Value.isInt k v
  | .inr x, v => Value.isStrOf x v
def keyH (w : World) : Key → Int
  | .inl k => hashInt k
  | .inr x => hashStr w x
theorem keyIs_shape : ∀ {k : Key} {v : Value}, keyIs k v = true → (∃ i t, k = Sum.inl i ∧ v = Value.int i t) ∨ (∃ x t, k = Sum.inr x ∧ v = Value.str x t)
  | .inl i, v, h => by
    obtain ⟨t, e⟩ := Value.isInt_shape (k := i) (v := v) h
    exact .inl ⟨i, t, rfl, e⟩
  | .inr x, v, h => by
    obtain ⟨t, e⟩ := Value.isStrOf_shape (x := x) (v := v) h
    exact .inr ⟨x, t, rfl, e⟩
theorem key_ll (a b : Int) : decide ((Sum.inl a : Key) = Sum.inl b) = (a == b) := by
  by_cases e : a = b
  · subst e; simp
  · have h : ¬ (Sum.inl a : Key) = Sum.inl b := fun q => e (Sum.inl.inj q)
    rw [decide_eq_false h]
    exact (beq_eq_false_iff_ne.mpr e).symm
theorem key_rr (a b : Str) : decide ((Sum.inr a : Key) = Sum.inr b) = decide (a = b) := by
  by_cases e : a = b
  · subst e; simp
  · have h : ¬ (Sum.inr a : Key) = Sum.inr b := fun q => e (Sum.inr.inj q)
    rw [decide_eq_false h, decide_eq_false e]
theorem key_lr (a : Int) (b : Str) : decide ((Sum.inl a : Key) = Sum.inr b) = false := decide_eq_false (fun q => nomatch q)
theorem key_rl (a : Str) (b : Int) : decide ((Sum.inr a : Key) = Sum.inl b) = false := decide_eq_false (fun q => nomatch q)

def mixKind (prog : Program) (w : World) : PySem.KeyKind prog w Key where
  is := keyIs
  hash := keyH w
  inj := fun v a b ha hb => by
    rcases keyIs_shape ha with ⟨i, t, rfl, rfl⟩ | ⟨x, t, rfl, rfl⟩
    · rcases keyIs_shape hb with ⟨j, u, rfl, e⟩ | ⟨y, u, rfl, e⟩
      · injection e with e1 _; rw [e1]
      · exact nomatch e
    · rcases keyIs_shape hb with ⟨j, u, rfl, e⟩ | ⟨y, u, rfl, e⟩
      · exact nomatch e
      · injection e with e1 _; rw [e1]
  byValue := fun k v h => by
    rcases keyIs_shape h with ⟨i, t, rfl, rfl⟩ | ⟨x, t, rfl, rfl⟩ <;> rfl
  pyHash := fun hv h => by
    rcases keyIs_shape hv with ⟨i, t, rfl, rfl⟩ | ⟨x, t, rfl, rfl⟩
    · exact wpAny_pyHash_int h
    · exact wpAny_pyHash_str h
  eqBool := fun hu hv h => by
    rcases keyIs_shape hu with ⟨i, t, rfl, rfl⟩ | ⟨x, t, rfl, rfl⟩
    · rcases keyIs_shape hv with ⟨j, u, rfl, rfl⟩ | ⟨y, u, rfl, rfl⟩
      · rw [key_ll] at h; exact wpAny_eqBool_int h
      · rw [key_lr] at h; exact SeqAt.EqAt.int_str i t y u _ _ _ _ h
    · rcases keyIs_shape hv with ⟨j, u, rfl, rfl⟩ | ⟨y, u, rfl, rfl⟩
      · rw [key_rl] at h; exact SeqAt.EqAt.str_int x t j u _ _ _ _ h
      · rw [key_rr] at h; exact wpAny_eqBool_str h
  «strs» := fun k x t v h => by
    rcases keyIs_shape h with ⟨i, u, rfl, e⟩ | ⟨y, u, rfl, e⟩
    · exact nomatch e
    · injection e with e1 _
      subst e1
      cases v <;> rfl

end L2

namespace L2
open PySem PySem.Spec PyProof.Rows

/-- a value, without the heap -/
inductive V where
  | non | bl (b : Bool) | int (i : Int) | str (x : Str) | byt (b : Array UInt8) | flt (b : UInt64) | ref (a : Addr) | ty (n : String)
  deriving DecidableEq

def RelV : V → Value → Prop
  | .non, u => u = Value.none
  | .bl b, u => u = Value.bool b
  | .int i, u => ∃ t, u = Value.int i t
  | .str x, u => ∃ t, u = Value.str x t
  | .byt b, u => ∃ t, u = Value.bytes b t
  | .flt b, u => ∃ t, u = Value.float b t
  | .ref a, u => u = Value.ref a
  | .ty n, u => u = Value.type n

abbrev Vals : List V → List Value → Prop := Paired RelV
theorem Vals.length {xs : List V} {us : List Value} (r : Vals xs us) : xs.length = us.length := Paired.length r
theorem Vals.get : ∀ {xs : List V} {us : List Value} {i : Nat} {x : V}, Vals xs us → xs[i]? = some x → ∃ u, us[i]? = some u ∧ RelV x u
  | _, _, _, _, .nil, e => by simp at e
  | _, _, 0, _, .cons r _, e => by simp at e; subst e; exact ⟨_, rfl, r⟩
  | _, _, i + 1, x, .cons _ t, e => by
    obtain ⟨u, h1, h2⟩ := Vals.get (i := i) (x := x) t (by simpa using e)
    exact ⟨u, by simpa using h1, h2⟩
theorem Vals.set {x : V} {u : Value} (r : RelV x u) : ∀ {xs : List V} {us : List Value} (i : Nat), Vals xs us → Vals (xs.set i x) (us.set i u)
  | _, _, _, .nil => .nil
  | _, _, 0, .cons _ t => .cons r t
  | _, _, i + 1, .cons q t => .cons q (Vals.set r i t)
theorem Vals.append : ∀ {xs ys : List V} {us ws : List Value}, Vals xs us → Vals ys ws → Vals (xs ++ ys) (us ++ ws)
  | _, _, _, _, .nil, s => s
  | _, _, _, _, .cons r t, s => .cons r (Vals.append t s)
theorem Vals.take : ∀ {xs : List V} {us : List Value} (n : Nat), Vals xs us → Vals (xs.take n) (us.take n)
  | _, _, 0, _ => .nil
  | _, _, _ + 1, .nil => .nil
  | _, _, n + 1, .cons r t => .cons r (Vals.take n t)
theorem Vals.drop : ∀ {xs : List V} {us : List Value} (n : Nat), Vals xs us → Vals (xs.drop n) (us.drop n)
  | _, _, 0, r => r
  | _, _, _ + 1, .nil => .nil
  | _, _, n + 1, .cons _ t => Vals.drop n t
def RelO : Option V → Option Value → Prop
  | some v, some u => RelV v u
  | none, none => True
  | _, _ => False
def KV {κ : Type} : List (κ × V) → List (κ × Value) → Prop := Paired fun (p : κ × V) (q : κ × Value) => p.1 = q.1 ∧ RelV p.2 q.2

/-- a key of a dict (00_mix): an int or a text -/
def kV : Key → V
  | .inl i => .int i
  | .inr x => .str x

/-- what stands at a tracked address -/
inductive HO where
  /-- a list -/
  | lst (xs : List V)
  /-- a tuple (never changes) -/
  | tup (xs : List V)
  /-- a dict whose keys are ints and texts; one whose keys are tuples of ints and texts (the empty one is both) -/
  | dK (kvs : List (Key × V)) | dT (kvs : List (List Key × V))
  /-- a set of ints: its members, its size -/
  | set (S : Int → Bool) (n : Nat)
  /-- an instance of the class at C, its dict at dx, its attributes -/
  | ins (C dx : Addr) (fs : List (Str × V))
  /-- the dict of the instance at x -/
  | own (x : Addr)
  /-- the dict of an exception -/
  | xd (fs : List (Str × V))
  /-- a bound method, f of x -/
  | met (f x : Addr)
  /-- a range object lo, lo + 1, .. below hi -/
  | rng (lo hi : Int)
  /-- a thing that is known to the object (the script; a dict while a loop walks it): read, never written while it is so -/
  | frz (o : Obj) (u : HO)
  /-- a code object's table -/
  | tbl (ps : Array Value)
  /-- any other thing, by what is true of its one object (a def of one's own: SetO a S n := HO.ext fun h => ..) -/
  | ext (φ : Heap → Prop)

abbrev Hp := Addr → Option HO
def upd (H : Hp) (a : Addr) (o : HO) : Hp := fun b => if b = a then some o else H b
theorem upd_same {H : Hp} {a : Addr} {o : HO} : upd H a o a = some o := by unfold upd; rw [if_pos rfl]
theorem upd_ne {H : Hp} {a b : Addr} {o : HO} (h : b ≠ a) : upd H a o b = H b := by unfold upd; rw [if_neg h]
theorem ne_of_none {H : Hp} {a b : Addr} {o : HO} (h : H a = some o) (h' : H b = none) : a ≠ b := by
  intro e; subst e; rw [h] at h'; cases h'

section
variable (P : Program) (w : World)
def ObjOk (H : Hp) (h : Heap) (a : Addr) : HO → Prop
  | .lst xs => xs.length ≤ sizeLine ∧ ∃ (its : List Value) (n : Nat), Vals xs its ∧ h.get? a = some { cls := .type "list", data := .seq its.toArray n }
  | .tup xs => xs.length ≤ sizeLine ∧ ∃ its : List Value, Vals xs its ∧ IsTup h a its.toArray
  | .dK kvs => kvs.length ≤ sizeLine ∧ (a == sysModules) = false ∧ ∃ vs, KV kvs vs ∧ h.DictOf (mixKind P w) a vs
  | .dT kvs => kvs.length ≤ sizeLine ∧ (a == sysModules) = false ∧ ∃ xs : List (List Key × Addr × Value),
      Paired (fun (p : List Key × V) (q : List Key × Addr × Value) => p.1 = q.1 ∧ H q.2.1 = some (.tup (p.1.map kV)) ∧ RelV p.2 q.2.2) kvs xs ∧
      ∃ o es ep, h.get? a = some o ∧ o.ExactDict ∧ o.data = .dict es ep ∧ es.toList = xs.map (entryOfKey (tupleKind (mixKind P w))) ∧ (xs.map (·.1)).Nodup
  | .set S n => h.SetOf (intKind P w) a S n
  | .ins C dx fs => H dx = some (.own a) ∧ fs.length ≤ 1000 ∧ dx ≠ a ∧ h.get? a = some (PySem.W.instObj C dx) ∧
      ∃ mA, h.Ns1 dx mA ∧ (∀ f, RelO (fs.lookup f) (mA f)) ∧ PySem.Within mA (fs.map (·.1))
  | .own _ => ∃ o, h.get? a = some o
  | .xd fs => ∃ mA, h.Ns1 a mA ∧ ∀ f, RelO (fs.lookup f) (mA f)
  | .rng lo hi => ∃ t u v, h.get? a = some { cls := .type "range", data := .fields #[.int lo t, .int hi u, .int 1 v] }
  | .frz o u => h.get? a = some o ∧ ObjOk H h a u
  | .tbl ps => h.get? a = some { cls := .none, data := .fields ps }
  | .met f x => h.get? a = some (PySem.W.methodObj (.ref f) (.ref x))
  | .ext φ => φ h ∧ (∃ o, h.get? a = some o) ∧ ∀ h1 h2 : Heap, φ h1 → (∀ o, h1.get? a = some o → h2.get? a = some o) → φ h2
/-- the abstract heap is held -/
def HOk (H : Hp) (h : Heap) : Prop := ∀ a o, H a = some o → ObjOk P w H h a o
end

section
variable {P : Program} {w : World} {H H' : Hp} {h h' : Heap} {a : Addr} {o : HO}
theorem ObjOk.lt (x : ObjOk P w H h a o) : a < h.objs.size := by
  cases o with
  | lst xs => obtain ⟨_, _, _, _, e⟩ := x; exact Heap.lt_size e
  | tup xs => obtain ⟨_, _, _, p⟩ := x; exact p.lt
  | dK kvs => obtain ⟨_, _, _, _, o, _, _, e, _⟩ := x; exact Heap.lt_size e
  | dT kvs => obtain ⟨_, _, _, _, o, _, _, e, _⟩ := x; exact Heap.lt_size e
  | set S n => obtain ⟨o, _, _, _, e, _⟩ := x; exact Heap.lt_size e
  | ins C dx fs => obtain ⟨_, _, _, e, _⟩ := x; exact Heap.lt_size e
  | own y => obtain ⟨_, e⟩ := x; exact Heap.lt_size e
  | xd fs => obtain ⟨_, ⟨_, _, _, e, _⟩, _⟩ := x; exact Heap.lt_size e
  | rng lo hi => obtain ⟨_, _, _, e⟩ := x; exact Heap.lt_size e
  | frz ob u => obtain ⟨e, _⟩ := x; exact Heap.lt_size e
  | tbl ps => exact Heap.lt_size (show h.get? a = some _ from x)
  | met f y => exact Heap.lt_size (show h.get? a = some _ from x)
  | ext φ => obtain ⟨_, ⟨_, e⟩, _⟩ := x; exact Heap.lt_size e
theorem Paired.mapP {α β : Type} {F G : α → β → Prop} : ∀ {l₁ : List α} {l₂ : List β}, Paired F l₁ l₂ → (∀ a b, F a b → G a b) → Paired G l₁ l₂
  | _, _, .nil, _ => .nil
  | _, _, .cons r t, f => .cons (f _ _ r) (Paired.mapP t f)
/-- what an object's description leans on: its own object, its own dict, the tuples -/
theorem ObjOk.stay (x : ObjOk P w H h a o) (k : ∀ b u, (b = a ∨ H b = some (.own a)) → h.get? b = some u → h'.get? b = some u)
    (ho : ∀ b, H b = some (.own a) → H' b = some (.own a)) (ht : ∀ b xs, H b = some (.tup xs) → H' b = some (.tup xs)) : ObjOk P w H' h' a o := by
  induction o with
  | lst xs => obtain ⟨z, its, n, r, e⟩ := x; exact ⟨z, its, n, r, k _ _ (.inl rfl) e⟩
  | tup xs => obtain ⟨z, its, r, ob, e, c⟩ := x; exact ⟨z, its, r, ob, k _ _ (.inl rfl) e, c⟩
  | dK kvs => obtain ⟨z, y, vs, r, ob, es, ep, e, c⟩ := x; exact ⟨z, y, vs, r, ob, es, ep, k _ _ (.inl rfl) e, c⟩
  | dT kvs =>
    obtain ⟨z, y, xs, r, ob, es, ep, e, c⟩ := x
    exact ⟨z, y, xs, Paired.mapP r fun p q z => ⟨z.1, ht _ _ z.2.1, z.2.2⟩, ob, es, ep, k _ _ (.inl rfl) e, c⟩
  | set S n => obtain ⟨ob, es, ep, t, e, c⟩ := x; exact ⟨ob, es, ep, t, k _ _ (.inl rfl) e, c⟩
  | ins C dx fs =>
    obtain ⟨d, z, ne, e, mA, ⟨od, es, ep, e2, c⟩, r⟩ := x
    exact ⟨ho _ d, z, ne, k _ _ (.inl rfl) e, mA, ⟨od, es, ep, k _ _ (.inr d) e2, c⟩, r⟩
  | own y => obtain ⟨ob, e⟩ := x; exact ⟨ob, k _ _ (.inl rfl) e⟩
  | xd fs => obtain ⟨mA, ⟨od, es, ep, e, c⟩, r⟩ := x; exact ⟨mA, ⟨od, es, ep, k _ _ (.inl rfl) e, c⟩, r⟩
  | rng lo hi => obtain ⟨t, u, v, e⟩ := x; exact ⟨t, u, v, k _ _ (.inl rfl) e⟩
  | frz ob u ih => obtain ⟨e, q⟩ := x; exact ⟨k _ _ (.inl rfl) e, ih q⟩
  | tbl ps =>
    have e : h.get? a = some { cls := .none, data := .fields ps } := x
    show h'.get? a = some { cls := .none, data := .fields ps }
    exact k a _ (.inl rfl) e
  | met f y =>
    have e : h.get? a = some (PySem.W.methodObj (.ref f) (.ref y)) := x
    show h'.get? a = some (PySem.W.methodObj (.ref f) (.ref y))
    exact k a _ (.inl rfl) e
  | ext φ => obtain ⟨p, ⟨o, e⟩, st⟩ := x; exact ⟨st _ _ p fun o q => k _ _ (.inl rfl) q, ⟨o, k _ _ (.inl rfl) e⟩, st⟩
theorem HOk.lt (x : HOk P w H h) (e : H a = some o) : a < h.objs.size := (x a o e).lt
theorem HOk.fresh (x : HOk P w H h) (e : h.objs.size ≤ a) : H a = none := by
  cases q : H a with
  | none => rfl
  | some u => exact absurd (Nat.lt_of_lt_of_le (x.lt q) e) (Nat.lt_irrefl _)
/-- every object of the heap is kept -/
theorem HOk.kept (x : HOk P w H h) (k : ∀ b u, h.get? b = some u → h'.get? b = some u) : HOk P w H h' := fun a o e =>
  (x a o e).stay (fun b u _ q => k b u q) (fun _ q => q) fun _ _ q => q
/-- a new object is laid and tracked -/
theorem HOk.laid (x : HOk P w H h) (k : ∀ b u, h.get? b = some u → h'.get? b = some u) (hp : h.objs.size ≤ a) (new : ObjOk P w (upd H a o) h' a o) : HOk P w (upd H a o) h' := fun b u e => by
  have hn := x.fresh hp
  by_cases hb : b = a
  · subst hb; rw [upd_same] at e; cases e; exact new
  · rw [upd_ne hb] at e
    exact (x b u e).stay (fun c v _ q => k c v q) (fun c q => by rw [upd_ne (ne_of_none q hn)]; exact q) fun c xs q => by rw [upd_ne (ne_of_none q hn)]; exact q
end

/-- what may be read as u: it is u, or a known u -/
def Rd (H : Hp) (a : Addr) (u : HO) : Prop := H a = some u ∨ ∃ o, H a = some (.frz o u)
theorem Rd.ok {P : Program} {w : World} {H : Hp} {h : Heap} {a : Addr} {u : HO} (r : Rd H a u) (x : HOk P w H h) : ObjOk P w H h a u := by
  rcases r with r | ⟨o, r⟩
  · exact x a u r
  · obtain ⟨_, q⟩ := x a _ r
    exact q
/-- what may be written -/
def Mut : Option HO → Prop
  | some (.lst _) => True
  | some (.dK _) => True
  | some (.dT _) => True
  | some (.set _ _) => True
  | some (.ins _ _ _) => True
  | some (.ext _) => True
  | _ => False
section
variable {P : Program} {w : World} {H : Hp} {h h' : Heap} {x e : Addr} {o' : HO}
/-- the object at e is changed: x itself, or the dict of the instance x -/
theorem HOk.write (ok : HOk P w H h) (mu : Mut (H x)) (he : e = x ∨ H e = some (.own x)) (k : ∀ b u, b ≠ e → h.get? b = some u → h'.get? b = some u) (heo : ∃ u, h'.get? e = some u)
    (new : ObjOk P w (upd H x o') h' x o') : HOk P w (upd H x o') h' := fun b u q => by
  have nown : ∀ c y, H c = some (.own y) → c ≠ x := fun c y r z => by subst z; rw [r] at mu; exact mu
  have ntup : ∀ c xs, H c = some (.tup xs) → c ≠ x := fun c xs r z => by subst z; rw [r] at mu; exact mu
  by_cases hb : b = x
  · subst hb; rw [upd_same] at q; cases q; exact new
  · rw [upd_ne hb] at q
    by_cases hbe : b = e
    · have q' : H b = some (.own x) := by
        rcases he with z | z
        · exact absurd (hbe.trans z) hb
        · rw [hbe]; exact z
      rw [q] at q'; cases q'
      obtain ⟨v, hv⟩ := heo
      exact ⟨v, by rw [hbe]; exact hv⟩
    · refine (ok b u q).stay (fun c v hc r => k c v ?_ r) (fun c r => by rw [upd_ne (nown c b r)]; exact r) fun c xs r => by rw [upd_ne (ntup c xs r)]; exact r
      rcases hc with rfl | hc
      · exact hbe
      · rintro rfl
        rcases he with z | z
        · exact nown c b hc z
        · rw [hc] at z; cases z; exact hb rfl
end

/-! ### kept unless tracked; of the frames at fs (the callers') the slots may change (an exception that passes writes there); of the records at ex (iterators) nothing is said -/
structure Un (fs ex : List Addr) (H H' : Hp) (h h' : Heap) : Prop where
  keep : ∀ b o, h.get? b = some o → H b = none → b ∉ fs → b ∉ ex → h'.get? b = some o
  slot : ∀ b o, h.get? b = some o → H b = none → b ∈ fs → b ∉ ex → ∃ sl, h'.get? b = some { o with slots := sl }
  free : ∀ b o, h.get? b = some o → H b = none → b ∉ ex → H' b = none
  there : ∀ b o, h.get? b = some o → b ∉ ex → ∃ o', h'.get? b = some o'
  tups : ∀ b xs, H b = some (.tup xs) → H' b = some (.tup xs)
  frzs : ∀ b o u, H b = some (.frz o u) → H' b = some (.frz o u)
  tbls : ∀ b ps, H b = some (.tbl ps) → ∃ more, H' b = some (.tbl (ps ++ more))
section
variable {fs fs' ex ex' : List Addr} {H H1 H2 : Hp} {h h1 h2 h' : Heap} {a x e : Addr} {o : HO}
theorem Un.any (u : Un fs ex H H1 h h1) {b : Addr} {ob : Obj} (q : h.get? b = some ob) (n : H b = none) (hx : b ∉ ex) : ∃ sl, h1.get? b = some { ob with slots := sl } := by
  by_cases hb : b ∈ fs
  · exact u.slot b ob q n hb hx
  · exact ⟨ob.slots, u.keep b ob q n hb hx⟩
theorem Un.trans (a : Un fs ex H H1 h h1) (b : Un fs ex H1 H2 h1 h2) : Un fs ex H H2 h h2 where
  keep := fun c ob q n hc hx => b.keep c ob (a.keep c ob q n hc hx) (a.free c ob q n hx) hc hx
  slot := fun c ob q n hc hx => by
    obtain ⟨sl, e1⟩ := a.slot c ob q n hc hx
    obtain ⟨sl', e2⟩ := b.slot c _ e1 (a.free c ob q n hx) hc hx
    exact ⟨sl', e2⟩
  free := fun c ob q n hx => by
    obtain ⟨o', e1⟩ := a.there c ob q hx
    exact b.free c o' e1 (a.free c ob q n hx) hx
  there := fun c ob q hx => by
    obtain ⟨o', e1⟩ := a.there c ob q hx
    exact b.there c o' e1 hx
  tups := fun c xs q => b.tups c xs (a.tups c xs q)
  frzs := fun c ob xs q => b.frzs c ob xs (a.frzs c ob xs q)
  tbls := fun c ps q => by
    obtain ⟨m1, e1⟩ := a.tbls c ps q
    obtain ⟨m2, e2⟩ := b.tbls c _ e1
    exact ⟨m1 ++ m2, by rw [e2, Array.append_assoc]⟩
theorem Un.kept (k : ∀ b u, h.get? b = some u → h'.get? b = some u) : Un fs ex H H h h' :=
  ⟨fun b ob q _ _ _ => k b ob q, fun b ob q _ _ _ => ⟨ob.slots, k b ob q⟩, fun _ _ _ n _ => n, fun b ob q _ => ⟨ob, k b ob q⟩, fun _ _ q => q, fun _ _ _ q => q, fun _ ps q => ⟨#[], by rw [q]; simp⟩⟩
theorem Un.refl : Un fs ex H H h h := Un.kept fun _ _ q => q
theorem Un.laid (k : ∀ b u, h.get? b = some u → h'.get? b = some u) (hp : h.objs.size ≤ a) (hn : H a = none) : Un fs ex H (upd H a o) h h' where
  keep := fun b u q _ _ _ => k b u q
  slot := fun b u q _ _ _ => ⟨u.slots, k b u q⟩
  free := fun b u q n _ => by rw [upd_ne (Nat.ne_of_lt (Nat.lt_of_lt_of_le (Heap.lt_size q) hp))]; exact n
  there := fun b u q _ => ⟨u, k b u q⟩
  tups := fun b xs q => by rw [upd_ne (ne_of_none q hn)]; exact q
  frzs := fun b u xs q => by rw [upd_ne (ne_of_none q hn)]; exact q
  tbls := fun b ps q => ⟨#[], by rw [upd_ne (ne_of_none q hn), q]; simp⟩
theorem Un.write (mu : Mut (H x)) (he : e = x ∨ H e = some (.own x)) (k : ∀ b u, b ≠ e → h.get? b = some u → h'.get? b = some u) (heo : ∃ u, h'.get? e = some u) : Un fs ex H (upd H x o) h h' := by
  have hx : ∀ b, H b = none → b ≠ x := fun b n z => by subst z; rw [n] at mu; exact mu
  have hb : ∀ b, H b = none → b ≠ e := fun b n z => by
    subst z
    rcases he with r | r
    · exact hx b n r
    · rw [n] at r; cases r
  have hm : ∀ b u, H b = some u → ¬ Mut (some u) → b ≠ x := fun b u q nm z => by subst z; rw [q] at mu; exact nm mu
  refine ⟨fun b u q n _ _ => k b u (hb b n) q, fun b u q n _ _ => ⟨u.slots, k b u (hb b n) q⟩, fun b u q n _ => by rw [upd_ne (hx b n)]; exact n, fun b u q _ => ?_,
    fun b xs q => by rw [upd_ne (hm b _ q fun z => z)]; exact q, fun b u xs q => by rw [upd_ne (hm b _ q fun z => z)]; exact q, fun b ps q => ⟨#[], by rw [upd_ne (hm b _ q fun z => z), q]; simp⟩⟩
  by_cases hbe : b = e
  · subst hbe; exact heo
  · exact ⟨u, k b u hbe q⟩
end

/-! ### the heap without what is tracked -/
def trk (h : Heap) (H : Hp) : List Addr := (List.range h.objs.size).filter fun a => (H a).isSome
def hidT (h : Heap) (H : Hp) : Heap := PySem.W.hideAll h (trk h H)
theorem hidT_size (h : Heap) (H : Hp) : (hidT h H).objs.size = h.objs.size := PySem.W.hideAll_size _ _
theorem hidT_get {h : Heap} {H : Hp} {b : Addr} {o : Obj} (e : h.get? b = some o) (n : H b = none) : (hidT h H).get? b = some o :=
  PySem.W.hideAll_get _ e fun hm => by
    have q : (H b).isSome = true := (List.mem_filter.mp hm).2
    rw [n] at q; simp at q
theorem of_hidT {h : Heap} {H : Hp} {b : Addr} {o : Obj} (e : (hidT h H).get? b = some o) : h.get? b = some o ∧ H b = none := by
  have e' : h.get? b = some o := PySem.W.of_hideAll (trk h H) e
  refine ⟨e', ?_⟩
  cases q : H b with
  | none => rfl
  | some x =>
    have hm : b ∈ trk h H := List.mem_filter.mpr ⟨List.mem_range.mpr (Heap.lt_size e'), by simp [q]⟩
    have z : (hidT h H).get? b = none := PySem.W.hideAll_none (trk h H) hm
    rw [z] at e; cases e

/-! ### OpenK's ledger, filled with every new object but one -/
def allNews (g h : Heap) (L : Addr) : List (Addr × Obj) := (List.range h.objs.size).filterMap fun a => if a = L ∨ (g.get? a).isSome = true then none else (h.get? a).map fun o => (a, o)
def rest (g h : Heap) (L d : Addr) : List (Addr × Obj) := (allNews g h L).filter fun p => decide (p.1 ≠ d)
end L2

namespace L2
open PySem PySem.Spec PyProof.Rows

/-- the module's facts, over the base: the heap at the law's entry without what is tracked there -/
structure Mod (K : PySem.W.Frag) (mg : Str → Option Value) (base : Heap) : Prop where
  kin : K.In base
  glob : base.Ns mainGlobals mg
  blt : ∃ mb, base.Ns builtinsNs mb ∧ ∀ x : Str, x ≠ "__name__" → mb x = bootBuiltins x
  nolimit : base.NoLimit

/-- the context: a def's body (or a comprehension's block) running. base: fixed through the whole law; s₀, H₀: the entry; outer: the frames whose slots others may change (a def's callers); stack: all frames that run;
   ex: iterators that were made ahead of the entry and are walked here (a comprehension's); fn: the names whose cells were made at the entry (a def: all; a comprehension's block: its own); calm: not within an except suite; pn: pins that every state bears; xe: what is wanted of an exception that leaves the code -/
structure Cx where
  prog : Program
  w : World
  K : PySem.W.Frag
  mg : Str → Option Value
  base : Heap
  A : Around
  N : List Str
  s₀ : Shared
  H₀ : Hp
  env : Env
  outer : List Env
  stack : List Env
  ex : List Addr
  fn : Str → Bool
  calm : Bool
  pn : List (Addr × Obj)
  xe : Value → Shared → Prop
/-- the callers' frames -/
def frs (l : List Env) : List Addr := l.filterMap (·.frame)
abbrev Cx.fs (X : Cx) : List Addr := frs X.outer

def Vis (sc : Scope) (x : Str) : Prop := sc.names.lookup x = some .local ∨ sc.names.lookup x = some .cell ∨ sc.names.lookup x = some .free
def Loc (sc : Scope) (x : Str) : Prop := sc.names.lookup x = some .local ∨ sc.names.lookup x = some .cell
def Look (env : Env) (h : Heap) (m : Str → Option Value) (x : Str) (u : Value) : Prop :=
  (env.kindOf x = some .local ∧ m x = some u) ∨ ((env.kindOf x = some .cell ∨ env.kindOf x = some .free) ∧ ∃ c, env.cells.lookup x = some c ∧ h.IsCell c (some u))

structure Cx.Ok (X : Cx) : Prop where
  mod : Mod X.K X.mg X.base
  kind : X.env.scope.kind = .function
  glob : X.env.globals = mainGlobals
  blt : X.env.builtins = builtinsNs
  above : X.s₀.heap.objs.size ≤ X.env.locals
  inj : ∀ x y c, X.env.cells.lookup x = some c → X.env.cells.lookup y = some c → x = y
  has : ∀ x, (X.env.kindOf x = some .cell ∨ X.env.kindOf x = some .free) → ∃ c, X.env.cells.lookup x = some c
  cab : ∀ x c, X.fn x = true → X.env.cells.lookup x = some c → X.s₀.heap.objs.size ≤ c
  hd : X.calm = true → X.A.handled = none
  frames : X.A.frames = some X.stack
  stk : X.stack = X.outer ∨ (X.stack = X.env :: X.outer ∧ X.env.frame = some X.env.locals)
  exf : ∀ b ∈ X.ex, b ≠ X.env.locals ∧ ∀ x c, X.env.cells.lookup x = some c → c ≠ b
  bs : ∀ b o, X.base.get? b = some o → X.s₀.heap.get? b = some o ∧ X.H₀ b = none
  bsz : X.base.objs.size ≤ X.s₀.heap.objs.size
  noex : ∀ b o, X.base.get? b = some o → b ∉ X.ex
  exfs : ∀ b ∈ X.ex, b ∉ X.fs
  funs : X.s₀.heap.FunFrames X.base X.outer
  frf : ∀ b ∈ X.fs, X.H₀ b = none

structure Inv (X : Cx) (pins : List (Addr × Obj)) (σ : List (Option V)) (H : Hp) (s : Shared) : Prop where
  ok : X.Ok
  os : s.os = X.s₀.os
  bare : AllBare s.gens
  base : Un X.fs X.ex X.H₀ H X.s₀.heap s.heap
  loc : ∃ m, s.heap.Ns X.env.locals m ∧ ∀ (i : Nat) (x : Str) (v : V), X.N[i]? = some x → σ[i]? = some (some v) → Vis X.env.scope x → ∃ u, RelV v u ∧ Look X.env s.heap m x u
  cell : ∀ x c, X.env.cells.lookup x = some c → ∃ v, s.heap.IsCell c v
  free : H X.env.locals = none
  freeC : ∀ x c, X.env.cells.lookup x = some c → H c = none
  pin : ∀ p ∈ X.pn ++ pins, s.heap.get? p.1 = some p.2 ∧ H p.1 = none ∧ p.1 ≠ X.env.locals ∧ p.1 ∉ X.fs ∧ ∀ v, p.2.data ≠ .cell v
  hok : HOk X.prog X.w H s.heap
  len : σ.length = X.N.length

section
variable {X : Cx} {pins : List (Addr × Obj)} {σ : List (Option V)} {H H' : Hp} {s : Shared} {h' : Heap}

theorem Cx.Ok.nofr (ok : X.Ok) {b : Addr} {o : Obj} (e : X.base.get? b = some o) : b ∉ X.fs := fun hb => by
  have := (ok.funs.mem hb).1
  rw [e] at this; cases this
theorem Inv.bs (I : Inv X pins σ H s) : ∀ b o, X.base.get? b = some o → s.heap.get? b = some o ∧ H b = none := fun b o e =>
  ⟨I.base.keep b o (I.ok.bs b o e).1 (I.ok.bs b o e).2 (I.ok.nofr e) (I.ok.noex b o e), I.base.free b o (I.ok.bs b o e).1 (I.ok.bs b o e).2 (I.ok.noex b o e)⟩
theorem Inv.bk (I : Inv X pins σ H s) : ∀ b o, X.base.get? b = some o → s.heap.get? b = some o := fun b o e => (I.bs b o e).1
theorem Inv.mod (I : Inv X pins σ H s) : Mod X.K X.mg X.base := I.ok.mod
theorem Inv.kIn (I : Inv X pins σ H s) : X.K.In s.heap := I.ok.mod.kin.keeps I.bk
theorem Inv.lt (I : Inv X pins σ H s) : X.env.locals < s.heap.objs.size := let ⟨_, hn, _⟩ := I.loc; hn.lt
theorem Inv.sz (I : Inv X pins σ H s) : X.s₀.heap.objs.size ≤ s.heap.objs.size := Nat.le_trans I.ok.above (Nat.le_of_lt I.lt)
theorem Inv.nofs (I : Inv X pins σ H s) {a : Addr} (h : s.heap.objs.size ≤ a) : a ∉ X.fs := fun hb => by
  obtain ⟨_, o, ho, _⟩ := I.ok.funs.mem hb
  exact absurd (Nat.lt_of_lt_of_le (Heap.lt_size ho) (Nat.le_trans I.sz h)) (Nat.lt_irrefl _)
theorem Inv.cne (I : Inv X pins σ H s) : ∀ x c, X.env.cells.lookup x = some c → c ≠ X.env.locals := fun x c e z => by
  obtain ⟨v, o, ho, hd⟩ := I.cell x c e
  obtain ⟨m, ⟨o', es, ep, ho', hd', _⟩, _⟩ := I.loc
  rw [z, ho'] at ho; cases ho; rw [hd'] at hd; cases hd
theorem Inv.funs (I : Inv X pins σ H s) : s.heap.FunFrames X.base X.outer := by
  have all : ∀ (l : List Env), (∀ b ∈ frs l, b ∈ X.fs) → X.s₀.heap.FunFrames X.base l → s.heap.FunFrames X.base l := by
    intro l
    induction l with
    | nil => intro _ _; trivial
    | cons env r ih =>
      intro hs hl
      obtain ⟨hk, ⟨L, o, hf, hn, ho, hd⟩, hr⟩ := hl
      have hL : L ∈ X.fs := hs L (by unfold frs; rw [List.filterMap_cons, hf]; exact List.mem_cons_self)
      obtain ⟨sl, e⟩ := I.base.slot L o ho (I.ok.frf L hL) hL fun z => I.ok.exfs L z hL
      exact ⟨hk, ⟨L, _, hf, hn, e, hd⟩, ih (fun b hb => hs b (by unfold frs; rw [List.filterMap_cons, hf]; exact List.mem_cons_of_mem _ hb)) hr⟩
  exact all X.outer (fun _ hb => hb) I.ok.funs

/-- the frames that run, for a call -/
theorem Inv.stack (I : Inv X pins σ H s) : s.heap.FunFrames X.base X.stack := by
  rcases I.ok.stk with e | ⟨e, hf⟩
  · rw [e]; exact I.funs
  · rw [e]
    obtain ⟨m, hn, _⟩ := I.loc
    refine .cons (by rw [I.ok.kind]; decide) hf hn ?_ I.funs
    exact Heap.get?_none_of_le (Nat.le_trans I.ok.bsz I.ok.above)
theorem Inv.stkSub (I : Inv X pins σ H s) : ∀ b ∈ frs X.stack, b ∈ X.env.locals :: X.fs := fun b hb => by
  rcases I.ok.stk with e | ⟨e, hf⟩
  · rw [e] at hb; exact List.mem_cons_of_mem _ hb
  · rw [e] at hb
    unfold frs at hb
    rw [List.filterMap_cons, hf] at hb
    exact hb
theorem Inv.stkFree (I : Inv X pins σ H s) : ∀ b ∈ frs X.stack, H b = none := fun b hb => by
  rcases List.mem_cons.mp (I.stkSub b hb) with e | hb
  · rw [e]; exact I.free
  · obtain ⟨_, o, ho, _⟩ := I.ok.funs.mem hb
    exact I.base.free b o ho (I.ok.frf b hb) fun z => I.ok.exfs b z hb

/-- THE STEP: the untracked objects but the frame and the records at ch are kept (the callers' frames up to slots), the frame's map is kept, the new abstract heap is held -/
theorem Inv.step {g' : Array GenState} {t' : Nat} {d' : Drawn} {ch : List Addr} (I : Inv X pins σ H s)
    (hch : ∀ b ∈ ch, (b ∈ X.ex ∨ X.s₀.heap.objs.size ≤ b) ∧ b ≠ X.env.locals ∧ (∀ x c, X.env.cells.lookup x = some c → c ≠ b) ∧ ∀ p ∈ X.pn ++ pins, p.1 ≠ b)
    (keep : ∀ b o, b ≠ X.env.locals → b ∉ X.fs → b ∉ ch → s.heap.get? b = some o → H b = none → h'.get? b = some o)
    (slot : ∀ b o, b ≠ X.env.locals → b ∈ X.fs → b ∉ ch → s.heap.get? b = some o → H b = none → ∃ sl, h'.get? b = some { o with slots := sl }) (free : ∀ b o, b ∉ ch → s.heap.get? b = some o → H b = none → H' b = none)
    (there : ∀ b o, b ∉ ch → s.heap.get? b = some o → ∃ o', h'.get? b = some o')
    (tups : ∀ b xs, H b = some (.tup xs) → H' b = some (.tup xs)) (frzs : ∀ b o u, H b = some (.frz o u) → H' b = some (.frz o u)) (tbls : ∀ b ps, H b = some (.tbl ps) → ∃ more, H' b = some (.tbl (ps ++ more)))
    (ns : ∀ m, s.heap.Ns X.env.locals m → h'.Ns X.env.locals m) (hok : HOk X.prog X.w H' h') (hg : AllBare g') :
    Inv X pins σ H' { s with heap := h', gens := g', drawn := d', toks := t' } := by
  have neL : ∀ b o, X.s₀.heap.get? b = some o → b ≠ X.env.locals := fun b o e => Nat.ne_of_lt (Nat.lt_of_lt_of_le (Heap.lt_size e) I.ok.above)
  have neC : ∀ b o, X.s₀.heap.get? b = some o → b ∉ X.ex → b ∉ ch := fun b o e hx hb => by
    rcases (hch b hb).1 with z | z
    · exact hx z
    · exact absurd (Nat.lt_of_lt_of_le (Heap.lt_size e) z) (Nat.lt_irrefl _)
  have cellK : ∀ x c, X.env.cells.lookup x = some c → ∀ v, s.heap.IsCell c v → h'.IsCell c v := fun x c e v ⟨o, ho, hd⟩ => by
    have nch : c ∉ ch := fun z => (hch c z).2.2.1 x c e rfl
    by_cases hc : c ∈ X.fs
    · obtain ⟨sl, q⟩ := slot c o (I.cne x c e) hc nch ho (I.freeC x c e)
      exact ⟨_, q, hd⟩
    · exact ⟨o, keep c o (I.cne x c e) hc nch ho (I.freeC x c e), hd⟩
  refine ⟨I.ok, I.os, hg, ⟨fun b o e n hb hx => ?_, fun b o e n hb hx => ?_, fun b o e n hx => ?_, fun b o e hx => ?_, fun b xs e => tups b xs (I.base.tups b xs e), fun b o xs e => frzs b o xs (I.base.frzs b o xs e), fun b ps e => ?_⟩, ?_, fun x c e => ?_, ?_, fun x c e => ?_, fun p hp => ?_, hok, I.len⟩
  · exact keep b o (neL b o e) hb (neC b o e hx) (I.base.keep b o e n hb hx) (I.base.free b o e n hx)
  · obtain ⟨sl, e1⟩ := I.base.slot b o e n hb hx
    obtain ⟨sl', e2⟩ := slot b _ (neL b o e) hb (neC b o e hx) e1 (I.base.free b o e n hx)
    exact ⟨sl', e2⟩
  · obtain ⟨o', e1⟩ := I.base.there b o e hx
    exact free b o' (neC b o e hx) e1 (I.base.free b o e n hx)
  · obtain ⟨o', e1⟩ := I.base.there b o e hx
    exact there b o' (neC b o e hx) e1
  · obtain ⟨m1, e1⟩ := I.base.tbls b ps e
    obtain ⟨m2, e2⟩ := tbls b _ e1
    exact ⟨m1 ++ m2, by rw [e2, Array.append_assoc]⟩
  · obtain ⟨m, hn, hl⟩ := I.loc
    refine ⟨m, ns m hn, fun i x v e1 e2 e3 => ?_⟩
    obtain ⟨u, r, l⟩ := hl i x v e1 e2 e3
    refine ⟨u, r, ?_⟩
    rcases l with l | ⟨k, c, e, z⟩
    · exact .inl l
    · exact .inr ⟨k, c, e, cellK x c e _ z⟩
  · obtain ⟨v, z⟩ := I.cell x c e
    exact ⟨v, cellK x c e v z⟩
  · obtain ⟨m, ⟨o, _, _, ho, _⟩, _⟩ := I.loc
    exact free _ o (fun z => (hch _ z).2.1 rfl) ho I.free
  · obtain ⟨v, o, ho, hd⟩ := I.cell x c e
    exact free c o (fun z => (hch c z).2.2.1 x c e rfl) ho (I.freeC x c e)
  · obtain ⟨e, n, ne, nf, d⟩ := I.pin p hp
    have nch : p.1 ∉ ch := fun z => (hch p.1 z).2.2.2 p hp rfl
    exact ⟨keep p.1 p.2 ne nf nch e n, free p.1 p.2 nch e n, ne, nf, d⟩
/-- .. where the frame's own object is kept too -/
theorem Inv.un {t' : Nat} (I : Inv X pins σ H s) (u : Un X.fs [] H H' s.heap h') (hok : HOk X.prog X.w H' h') : Inv X pins σ H' { s with heap := h', toks := t' } := by
  obtain ⟨m, ⟨o, es, ep, ho, r⟩, _⟩ := id I.loc
  obtain ⟨sl, hL⟩ := u.any ho I.free (by simp)
  exact I.step (g' := s.gens) (d' := s.drawn) (ch := []) (fun _ z => nomatch z) (fun b o _ hb _ e n => u.keep b o e n hb (by simp)) (fun b o _ hb _ e n => u.slot b o e n hb (by simp)) (fun b o _ e n => u.free b o e n (by simp)) (fun b o _ e => u.there b o e (by simp)) u.tups u.frzs u.tbls (fun m' hm => by
    obtain ⟨o', es', ep', ho', r'⟩ := hm
    rw [ho] at ho'; cases ho'
    exact ⟨_, es', ep', hL, r'⟩) hok I.bare
/-- behind a call (or a comprehension's block): the slots of this frame may have changed too, the records at ch may have turned -/
theorem Inv.call {g' : Array GenState} {t' : Nat} {d' : Drawn} {ch : List Addr} (I : Inv X pins σ H s) (u : Un (frs X.stack) ch H H' s.heap h') (hok : HOk X.prog X.w H' h') (hg : AllBare g')
    (hch : ∀ b ∈ ch, (b ∈ X.ex ∨ X.s₀.heap.objs.size ≤ b) ∧ b ≠ X.env.locals ∧ (∀ x c, X.env.cells.lookup x = some c → c ≠ b) ∧ ∀ p ∈ X.pn ++ pins, p.1 ≠ b) :
    Inv X pins σ H' { s with heap := h', gens := g', drawn := d', toks := t' } := by
  obtain ⟨m, ⟨o, es, ep, ho, r⟩, _⟩ := id I.loc
  obtain ⟨sl, hL⟩ := u.any ho I.free fun z => (hch _ z).2.1 rfl
  exact I.step (ch := ch) hch (fun b o hL hb hc e n => u.keep b o e n (fun z => (List.mem_cons.mp (I.stkSub b z)).elim hL hb) hc) (fun b o _ _ hc e n => u.any e n hc) (fun b o hc e n => u.free b o e n hc) (fun b o hc e => u.there b o e hc) u.tups u.frzs u.tbls (fun m' hm => by
    obtain ⟨o', es', ep', ho', r'⟩ := hm
    rw [ho] at ho'; cases ho'
    exact ⟨_, es', ep', hL, r'⟩) hok hg
/-- an untracked record of ours (an iterator) has turned -/
theorem Inv.turned {t' : Nat} {it : Addr} (I : Inv X pins σ H s) (k : ∀ b o, b ≠ it → s.heap.get? b = some o → h'.get? b = some o) (hn : H it = none) (hL : it ≠ X.env.locals)
    (h1 : it ∈ X.ex ∨ X.s₀.heap.objs.size ≤ it) (h2 : ∀ x c, X.env.cells.lookup x = some c → c ≠ it) (h3 : ∀ p ∈ X.pn ++ pins, p.1 ≠ it) : Inv X pins σ H { s with heap := h', toks := t' } := by
  have nit : ∀ b u, H b = some u → b ≠ it := fun b u e z => by rw [z, hn] at e; cases e
  refine I.step (g' := s.gens) (d' := s.drawn) (ch := [it]) (fun b hb => ?_) (fun b o _ _ hc e _ => k b o (fun z => hc (by simp [z])) e) (fun b o _ _ hc e _ => ⟨o.slots, k b o (fun z => hc (by simp [z])) e⟩) (fun _ _ _ _ n => n)
    (fun b o hc e => ⟨o, k b o (fun z => hc (by simp [z])) e⟩) (fun _ _ e => e) (fun _ _ _ e => e) (fun b ps e => ⟨#[], by rw [e]; simp⟩) (fun m hm => ?_) (fun b u e => ?_) I.bare
  · have e : b = it := by simpa using hb
    subst e
    exact ⟨h1, hL, h2, h3⟩
  · obtain ⟨o, es, ep, ho, r⟩ := hm
    exact ⟨o, es, ep, k _ o (Ne.symm hL) ho, r⟩
  · refine (I.hok b u e).stay (fun c v hc q => k c v ?_ q) (fun _ q => q) fun _ _ q => q
    rcases hc with z | z
    · rw [z]; exact nit b u e
    · exact nit c _ z
theorem Inv.tok (I : Inv X pins σ H s) (t : Nat) : Inv X pins σ H { s with toks := t } := I.un (h' := s.heap) (t' := t) Un.refl I.hok
/-- all objects kept -/
theorem Inv.kept {t' : Nat} (I : Inv X pins σ H s) (k : ∀ b u, s.heap.get? b = some u → h'.get? b = some u) : Inv X pins σ H { s with heap := h', toks := t' } := I.un (Un.kept k) (I.hok.kept k)
/-- a new object laid and tracked -/
theorem Inv.laid {a : Addr} {o : HO} {t' : Nat} (I : Inv X pins σ H s) (k : ∀ b u, s.heap.get? b = some u → h'.get? b = some u) (hp : s.heap.objs.size ≤ a) (new : ObjOk X.prog X.w (upd H a o) h' a o) :
    Inv X pins σ (upd H a o) { s with heap := h', toks := t' } := I.un (Un.laid k hp (I.hok.fresh hp)) (I.hok.laid k hp new)
/-- an object written -/
theorem Inv.write {x e : Addr} {o : HO} {t' : Nat} (I : Inv X pins σ H s) (mu : Mut (H x)) (he : e = x ∨ H e = some (.own x)) (k : ∀ b u, b ≠ e → s.heap.get? b = some u → h'.get? b = some u) (heo : ∃ u, h'.get? e = some u)
    (new : ObjOk X.prog X.w (upd H x o) h' x o) : Inv X pins σ (upd H x o) { s with heap := h', toks := t' } := I.un (Un.write mu he k heo) (I.hok.write mu he k heo new)
theorem Inv.pins_of {pins' : List (Addr × Obj)} (I : Inv X pins σ H s) (h : ∀ p ∈ pins', s.heap.get? p.1 = some p.2 ∧ H p.1 = none ∧ p.1 ≠ X.env.locals ∧ p.1 ∉ X.fs ∧ ∀ v, p.2.data ≠ .cell v) : Inv X pins' σ H s :=
  ⟨I.ok, I.os, I.bare, I.base, I.loc, I.cell, I.free, I.freeC, fun p hp => (List.mem_append.mp hp).elim (fun z => I.pin p (List.mem_append_left _ z)) (h p), I.hok, I.len⟩

theorem nodup_ix {N : List Str} (hN : N.Nodup) {i j : Nat} {x : Str} (a : N[i]? = some x) (b : N[j]? = some x) : i = j := by
  obtain ⟨h1, e1⟩ := List.getElem?_eq_some_iff.mp a
  obtain ⟨h2, e2⟩ := List.getElem?_eq_some_iff.mp b
  exact (List.getElem_inj hN).mp (e1.trans e2.symm)

/-- a name is stored; what changed -/
theorem store_ok2 {M : Model} {A : Around} {E : Value → Shared → Prop} {i : Nat} {x : Str} {v : V} {u : Value} {Q : Unit → Shared → Prop} (I : Inv X pins σ H s) (hN : X.N.Nodup) (hi : X.N[i]? = some x) (hx : Loc X.env.scope x) (r : RelV v u)
    (h : ∀ s', Inv X pins (σ.set i (some v)) H s' → (∃ a, Heap.SameBut a s.heap s'.heap ∧ (a = X.env.locals ∨ X.env.cells.lookup x = some a)) → Q () s') (hf : X.fn x = true ∨ X.env.scope.names.lookup x = some .local := by first | exact .inl rfl | exact .inr rfl | assumption) : wpAny M A (storeName X.env x u) Q E s := by
  obtain ⟨m, hn, hl⟩ := id I.loc
  have hcls : (X.env.scope.kind == .class || (X.env.scope.kind == .module && X.env.locals != X.env.globals)) = false := by rw [I.ok.kind]; rfl
  have hiσ : i < σ.length := by rw [I.len]; exact (List.getElem?_eq_some_iff.mp hi).1
  have cne := I.cne
  have tracked : ∀ {a : Addr} {h' : Heap}, (∃ o, s.heap.get? a = some o ∧ H a = none) → Heap.SameBut a s.heap h' → HOk X.prog X.w H h' := fun {a h'} ha hs b ob e => by
    obtain ⟨_, _, hfree⟩ := ha
    refine (I.hok b ob e).stay (fun c w' hc q => (hs.2 c ?_).trans q) (fun _ q => q) fun _ _ q => q
    rintro rfl
    rcases hc with rfl | hc
    · rw [hfree] at e; cases e
    · rw [hfree] at hc; cases hc
  rcases hx with hk | hk
  · refine wpAny_storeName_local hk hn (fun h' hn' hs => ?_) hcls
    obtain ⟨oL, _, _, hoL, _⟩ := id hn
    refine h _ ⟨I.ok, I.os, I.bare, ⟨fun b o e n hb hx => ?_, fun b o e n hb hx => ?_, I.base.free, fun b o e hx => ?_, I.base.tups, I.base.frzs, I.base.tbls⟩, ⟨_, hn', fun j y v' e1 e2 e3 => ?_⟩, fun y c e => ?_, I.free, I.freeC, fun p hp => ?_, tracked ⟨oL, hoL, I.free⟩ hs, by simpa using I.len⟩ ⟨_, hs, .inl rfl⟩
    · exact (hs.2 b (Nat.ne_of_lt (Nat.lt_of_lt_of_le (Heap.lt_size e) I.ok.above))).trans (I.base.keep b o e n hb hx)
    · obtain ⟨sl, e1⟩ := I.base.slot b o e n hb hx
      exact ⟨sl, (hs.2 b (Nat.ne_of_lt (Nat.lt_of_lt_of_le (Heap.lt_size e) I.ok.above))).trans e1⟩
    · obtain ⟨o', e1⟩ := I.base.there b o e hx
      exact ⟨o', (hs.2 b (Nat.ne_of_lt (Nat.lt_of_lt_of_le (Heap.lt_size e) I.ok.above))).trans e1⟩
    · by_cases hj : j = i
      · subst hj
        rw [hi] at e1; cases e1
        rw [List.getElem?_set_self hiσ] at e2
        cases e2
        exact ⟨u, r, .inl ⟨hk, by simp⟩⟩
      · rw [List.getElem?_set_ne (Ne.symm hj)] at e2
        obtain ⟨u', r', q⟩ := hl j y v' e1 e2 e3
        refine ⟨u', r', ?_⟩
        rcases q with ⟨k, e⟩ | ⟨k, c, e, z⟩
        · refine .inl ⟨k, ?_⟩
          have : y ≠ x := fun e => hj (nodup_ix hN e1 (e ▸ hi))
          simp [this, e]
        · exact .inr ⟨k, c, e, z.sameBut hs (cne y c e)⟩
    · obtain ⟨w', z⟩ := I.cell y c e
      exact ⟨w', z.sameBut hs (cne y c e)⟩
    · obtain ⟨e, n, ne, nf, d⟩ := I.pin p hp
      exact ⟨(hs.2 p.1 ne).trans e, n, ne, nf, d⟩
  · have hfn : X.fn x = true := by
      rcases hf with z | z
      · exact z
      · rw [z] at hk; cases hk
    obtain ⟨c, hc⟩ := I.ok.has x (.inl hk)
    obtain ⟨w', z⟩ := I.cell x c hc
    refine wpAny_storeName_cell I.ok.kind hk hc z (fun h' hc' hs => ?_)
    obtain ⟨oc, hoc, hocd⟩ := id z
    refine h { s with heap := h' } ⟨I.ok, I.os, I.bare, ⟨fun b o e n hb hx => ?_, fun b o e n hb hx => ?_, I.base.free, fun b o e hx => ?_, I.base.tups, I.base.frzs, I.base.tbls⟩, ⟨m, hn.sameBut hs (Ne.symm (cne x c hc)), fun j y v' e1 e2 e3 => ?_⟩, fun y c' e => ?_, I.free, I.freeC, fun p hp => ?_, tracked ⟨oc, hoc, I.freeC x c hc⟩ hs, by simpa using I.len⟩ ⟨c, hs, .inr hc⟩
    · exact (hs.2 b (Nat.ne_of_lt (Nat.lt_of_lt_of_le (Heap.lt_size e) (I.ok.cab x c hfn hc)))).trans (I.base.keep b o e n hb hx)
    · obtain ⟨sl, e1⟩ := I.base.slot b o e n hb hx
      exact ⟨sl, (hs.2 b (Nat.ne_of_lt (Nat.lt_of_lt_of_le (Heap.lt_size e) (I.ok.cab x c hfn hc)))).trans e1⟩
    · obtain ⟨o', e1⟩ := I.base.there b o e hx
      exact ⟨o', (hs.2 b (Nat.ne_of_lt (Nat.lt_of_lt_of_le (Heap.lt_size e) (I.ok.cab x c hfn hc)))).trans e1⟩
    · by_cases hj : j = i
      · subst hj
        rw [hi] at e1; cases e1
        rw [List.getElem?_set_self hiσ] at e2
        cases e2
        exact ⟨u, r, .inr ⟨.inl hk, c, hc, hc'⟩⟩
      · rw [List.getElem?_set_ne (Ne.symm hj)] at e2
        obtain ⟨u', r', q⟩ := hl j y v' e1 e2 e3
        refine ⟨u', r', ?_⟩
        rcases q with q | ⟨k, c', e, z'⟩
        · exact .inl q
        · refine .inr ⟨k, c', e, z'.sameBut hs ?_⟩
          rintro rfl
          exact hj (nodup_ix hN e1 (I.ok.inj _ _ _ e hc ▸ hi))
    · by_cases hcc : c' = c
      · subst hcc; exact ⟨_, hc'⟩
      · obtain ⟨w2, z2⟩ := I.cell y c' e
        exact ⟨w2, z2.sameBut hs hcc⟩
    · obtain ⟨e, n, ne, nf, d⟩ := I.pin p hp
      refine ⟨(hs.2 p.1 ?_).trans e, n, ne, nf, d⟩
      intro q
      rw [q, hoc] at e
      have q' : oc = p.2 := Option.some.inj e
      exact d w' (by rw [← q']; exact hocd)
theorem store_ok {M : Model} {A : Around} {E : Value → Shared → Prop} {i : Nat} {x : Str} {v : V} {u : Value} {Q : Unit → Shared → Prop} (I : Inv X pins σ H s) (hN : X.N.Nodup) (hi : X.N[i]? = some x) (hx : Loc X.env.scope x) (r : RelV v u)
    (h : ∀ s', Inv X pins (σ.set i (some v)) H s' → Q () s') (hf : X.fn x = true ∨ X.env.scope.names.lookup x = some .local := by first | exact .inl rfl | exact .inr rfl | assumption) : wpAny M A (storeName X.env x u) Q E s :=
  store_ok2 I hN hi hx r (fun s' I' _ => h s' I') hf
/-- behind a call or a block, the state as it is -/
theorem Inv.call' {s' : Shared} {ch : List Addr} (I : Inv X pins σ H s) (ho : s'.os = s.os) (u : Un (frs X.stack) ch H H' s.heap s'.heap) (hok : HOk X.prog X.w H' s'.heap) (hg : AllBare s'.gens)
    (hch : ∀ b ∈ ch, (b ∈ X.ex ∨ X.s₀.heap.objs.size ≤ b) ∧ b ≠ X.env.locals ∧ (∀ x c, X.env.cells.lookup x = some c → c ≠ b) ∧ ∀ p ∈ X.pn ++ pins, p.1 ≠ b) : Inv X pins σ H' s' := by
  obtain ⟨h', g', d', t', o'⟩ := s'
  have e : o' = s.os := ho
  subst e
  exact I.call (g' := g') (t' := t') (d' := d') u hok hg hch
end

/-! ### the judgements -/
/-- an exception: its class, its own dict's address (where it has one), the abstract heap behind it -/
abbrev XK := Value → Option Addr → Hp → Prop
abbrev St := List (Option V)
abbrev VK := V → Hp → Prop
/-- an expression's reading; a test's; an argument list's -/
abbrev TE := St → Hp → VK → Prop
abbrev TT := St → Hp → (Bool → Hp → Prop) → Prop
abbrev TA := St → Hp → (List V → Hp → Prop) → Prop
/-- what is wanted behind a statement -/
structure Ends where
  nx : St → Hp → Prop
  rt : VK
  bk : St → Hp → Prop := fun _ _ => False
  ct : St → Hp → Prop := fun _ _ => False
abbrev TS := Ends → St → Hp → Prop

def EP (X : Cx) (pins : List (Addr × Obj)) (σ : St) (Q : VK) (u : Value) (s' : Shared) : Prop := ∃ v H', Inv X pins σ H' s' ∧ RelV v u ∧ Q v H'
def TP (X : Cx) (pins : List (Addr × Obj)) (σ : St) (Q : Bool → Hp → Prop) (b : Bool) (s' : Shared) : Prop := ∃ H', Inv X pins σ H' s' ∧ Q b H'
def AP (X : Cx) (pins : List (Addr × Obj)) (σ : St) (Q : List V → Hp → Prop) (us : List Value) (s' : Shared) : Prop := ∃ vs H', Inv X pins σ H' s' ∧ Vals vs us ∧ Q vs H'
def SP (X : Cx) (pins : List (Addr × Obj)) (D : Ends) (f : Flow) (s' : Shared) : Prop :=
  match f with
  | .next => ∃ σ' H', Inv X pins σ' H' s' ∧ D.nx σ' H'
  | .brk => ∃ σ' H', Inv X pins σ' H' s' ∧ D.bk σ' H'
  | .cont => ∃ σ' H', Inv X pins σ' H' s' ∧ D.ct σ' H'
  | .ret u => ∃ v σ' H', Inv X pins σ' H' s' ∧ RelV v u ∧ D.rt v H'

def PE (X : Cx) (e : Expr) (t : TE) : Prop :=
  ∀ (pins : List (Addr × Obj)) (s : Shared) (σ : St) (H : Hp) (Q : VK), Inv X pins σ H s → t σ H Q → wpAny (model X.prog X.w) X.A (eval e X.env) (EP X pins σ Q) X.xe s
def PT (X : Cx) (e : Expr) (t : TT) : Prop :=
  ∀ (pins : List (Addr × Obj)) (s : Shared) (σ : St) (H : Hp) (Q : Bool → Hp → Prop), Inv X pins σ H s → t σ H Q → wpAny (model X.prog X.w) X.A (isTrue e X.env (eval e X.env)) (TP X pins σ Q) X.xe s
/-- a test whatever its 'whole' is (and, or) -/
def PW (X : Cx) (e : Expr) (t : TT) : Prop :=
  ∀ (whole : Sem Value) (pins : List (Addr × Obj)) (s : Shared) (σ : St) (H : Hp) (Q : Bool → Hp → Prop), Inv X pins σ H s → t σ H Q → wpAny (model X.prog X.w) X.A (isTrue e X.env whole) (TP X pins σ Q) X.xe s
theorem PW.pt {X : Cx} {e : Expr} {t : TT} (h : PW X e t) : PT X e t := h _
/-- an argument list (no star), from the left -/
def PA (X : Cx) (es : List Expr) (t : TA) : Prop :=
  ∀ (pos : Pos) (pins : List (Addr × Obj)) (s : Shared) (σ : St) (H : Hp) (Q : List V → Hp → Prop), Inv X pins σ H s → t σ H Q → wpAny (model X.prog X.w) X.A (spliced (backTo pos (starEach es X.env))) (AP X pins σ Q) X.xe s
def PS (X : Cx) (st : Stmt) (t : TS) : Prop :=
  ∀ (pins : List (Addr × Obj)) (s : Shared) (σ : St) (H : Hp) (D : Ends), Inv X pins σ H s → t D σ H → wpAny (model X.prog X.w) X.A (exec st X.env) (SP X pins D) X.xe s
def PSs (X : Cx) (st : List Stmt) (t : TS) : Prop :=
  ∀ (pins : List (Addr × Obj)) (s : Shared) (σ : St) (H : Hp) (D : Ends), Inv X pins σ H s → t D σ H → wpAny (model X.prog X.w) X.A (execs st X.env) (SP X pins D) X.xe s
/-- weaken the end -/
theorem thn {α : Type} {t : Sem α} {Q Q' : α → Shared → Prop} {M : Model} {A : Around} {E : Value → Shared → Prop} {s : Shared} (h : wpAny M A t Q E s) (hQ : ∀ a s, Q a s → Q' a s) : wpAny M A t Q' E s := wpAny_mono h hQ fun _ _ x => x
end L2

namespace L2
open PySem PySem.Spec PyProof.Rows
section
variable {X : Cx}

/-- two expressions in a row -/
theorem bin {a b : Expr} {ta tb : TE} (ha : PE X a ta) (hb : PE X b tb) {pins : List (Addr × Obj)} {s : Shared} {σ : St} {H : Hp} {R : V → V → Hp → Prop} (I : Inv X pins σ H s) (h : ta σ H fun x H1 => tb σ H1 fun y H2 => R x y H2)
    {α : Type} {Q : α → Shared → Prop} {f : Value → Value → Sem α}
    (hf : ∀ v u s2 x y H2, Inv X pins σ H2 s2 → RelV x v → RelV y u → R x y H2 → wpAny (model X.prog X.w) X.A (f v u) Q X.xe s2) :
    wpAny (model X.prog X.w) X.A (eval a X.env) (fun v s₁ => wpAny (model X.prog X.w) X.A (eval b X.env) (fun u s₂ => wpAny (model X.prog X.w) X.A (f v u) Q X.xe s₂) X.xe s₁) X.xe s := by
  refine thn (ha pins s σ H _ I h) fun v s1 ⟨x, H1, I1, r1, q1⟩ => ?_
  refine thn (hb pins s1 σ H1 _ I1 q1) fun u s2 ⟨y, H2, I2, r2, q2⟩ => ?_
  exact hf v u s2 x y H2 I2 r1 r2 q2

/-! ### names and constants -/
def tVar (i : Nat) : TE := fun σ H Q => ∃ v, σ[i]? = some (some v) ∧ Q v H
def tC (v : V) : TE := fun _ H Q => Q v H
theorem pe_var {i : Nat} {x : Str} {pos : Pos} (hN : X.N[i]? = some x) (hv : Vis X.env.scope x) (hd : (x == ("__debug__" : Str)) = false := by decide) (hcd : (x == ("__classdict__" : Str)) = false := by decide) : PE X (.Name x pos) (tVar i) := by
  intro pins s σ H Q I h
  obtain ⟨v, e, h⟩ := h
  obtain ⟨m, hn, hl⟩ := I.loc
  obtain ⟨u, r, l⟩ := hl i x v hN e hv
  have fin : EP X pins σ Q u s := ⟨v, H, I, r, h⟩
  rcases l with ⟨hk, hm⟩ | ⟨hk, c, hc, hcell⟩
  · exact wpAny_Name (wpAny_loadName_local I.ok.kind hk hn hm fin) hd
  · rcases hk with hk | hk
    · exact wpAny_Name (wpAny_loadName_cell I.ok.kind hk hc hcell fin) hd
    · exact wpAny_Name (wpAny_loadName_free I.ok.kind hk hc hcell fin hcd) hd
theorem pe_int {i j pos} : PE X (.Constant (.int i) j pos) (tC (.int i)) := fun _ _ _ H _ I h => wpAny_Constant_int ⟨.int i, H, I.tok _, ⟨_, rfl⟩, h⟩
theorem pe_bl {b j pos} : PE X (.Constant (.bool b) j pos) (tC (.bl b)) := fun _ _ _ H _ I h => Constant_bool ⟨.bl b, H, I, rfl, h⟩
theorem pe_non {j pos} : PE X (.Constant .none j pos) (tC .non) := fun _ _ _ H _ I h => Constant_none ⟨.non, H, I, rfl, h⟩
/-- a global name of the def -/
def Gl (X : Cx) (x : Str) : Prop := X.env.kindOf x = some .globalImplicit
theorem ld_glob {E : Value → Shared → Prop} {pins : List (Addr × Obj)} {s : Shared} {σ : St} {H : Hp} {x : Str} {u : Value} {pos : Pos} {Q : Value → Shared → Prop} (I : Inv X pins σ H s) (hg : Gl X x) (hm : X.mg x = some u) (h : Q u s)
    (hd : (x == ("__debug__" : Str)) = false := by decide) : wpAny (model X.prog X.w) X.A (eval (.Name x pos) X.env) Q E s :=
  Calls.Name_function_global I.ok.kind hg (Calls.loadGlobal_global (by rw [I.ok.glob]; exact I.mod.glob.keeps I.bk) hm h) hd
theorem ld_blt {E : Value → Shared → Prop} {pins : List (Addr × Obj)} {s : Shared} {σ : St} {H : Hp} {x : Str} {u : Value} {pos : Pos} {Q : Value → Shared → Prop} (I : Inv X pins σ H s) (hg : Gl X x) (hm : X.mg x = none) (hv : bootBuiltins x = some u) (h : Q u s)
    (hn : x ≠ "__name__" := by decide) (hd : (x == ("__debug__" : Str)) = false := by decide) : wpAny (model X.prog X.w) X.A (eval (.Name x pos) X.env) Q E s := by
  obtain ⟨mb, h1, h2⟩ := I.mod.blt
  exact Calls.Name_function_global I.ok.kind hg (Calls.loadGlobal_builtin (by rw [I.ok.glob]; exact I.mod.glob.keeps I.bk) hm (by rw [I.ok.blt]; exact h1.keeps I.bk) ((h2 x hn).trans hv) h) hd
/-- a module's constant, a class, a function, as a value -/
theorem pe_glob {x : Str} {v : V} {u : Value} {pos : Pos} (hg : Gl X x) (hm : X.mg x = some u) (r : RelV v u) (hd : (x == ("__debug__" : Str)) = false := by decide) : PE X (.Name x pos) (tC v) :=
  fun _ _ _ H _ I h => ld_glob I hg hm ⟨v, H, I, r, h⟩ hd
theorem pe_bltn {x : Str} {v : V} {u : Value} {pos : Pos} (hg : Gl X x) (hm : X.mg x = none) (hv : bootBuiltins x = some u) (r : RelV v u) (hn : x ≠ "__name__" := by decide) (hd : (x == ("__debug__" : Str)) = false := by decide) : PE X (.Name x pos) (tC v) :=
  fun _ _ _ H _ I h => ld_blt I hg hm hv ⟨v, H, I, r, h⟩ hn hd

/-! ### arithmetic -/
/-- two ints -/
def t2I (ta tb : TE) (k : Int → Int → Hp → Prop) : St → Hp → Prop := fun σ H => ta σ H fun x H1 => tb σ H1 fun y H2 => ∃ i j, x = .int i ∧ y = .int j ∧ k i j H2
def tAdd (ta tb : TE) : TE := fun σ H Q => t2I ta tb (fun i j H2 => Q (.int (i + j)) H2) σ H
def tSub (ta tb : TE) : TE := fun σ H Q => t2I ta tb (fun i j H2 => Q (.int (i - j)) H2) σ H
/-- the left factor below 2^64 -/
def tMul (ta tb : TE) : TE := fun σ H Q => t2I ta tb (fun i j H2 => (-(2 ^ 64) < i ∧ i < 2 ^ 64) ∧ Q (.int (i * j)) H2) σ H
variable {a b : Expr} {ta tb : TE} {pos : Pos}
/-! ### comparisons -/
def PC (X : Cx) (op : CmpOp) (a b : Expr) (t : TE) : Prop :=
  ∀ (pins : List (Addr × Obj)) (s : Shared) (σ : St) (H : Hp) (Q : VK), Inv X pins σ H s → t σ H Q →
    wpAny (model X.prog X.w) X.A (eval a X.env) (fun v s₁ => wpAny (model X.prog X.w) X.A (eval b X.env) (fun u s₂ => wpAny (model X.prog X.w) X.A (compareOp op v u) (EP X pins σ Q) X.xe s₂) X.xe s₁) X.xe s
def tCmp (p : Int → Int → Bool) (ta tb : TE) : TE := fun σ H Q => t2I ta tb (fun i j H2 => Q (.bl (p i j)) H2) σ H
abbrev tLt : TE → TE → TE := tCmp fun i j => decide (i < j)
abbrev tLe : TE → TE → TE := tCmp fun i j => decide (i ≤ j)
abbrev tGt : TE → TE → TE := tCmp fun i j => decide (j < i)
abbrev tGe : TE → TE → TE := tCmp fun i j => decide (j ≤ i)
abbrev tEqI : TE → TE → TE := tCmp fun i j => decide (i = j)
abbrev tNeI : TE → TE → TE := tCmp fun i j => !decide (i = j)
/-- is None -/
def tIsN (ta : TE) : TE := fun σ H Q => ta σ H fun x H1 => Q (.bl (decide (x = .non))) H1
def tNotN (ta : TE) : TE := fun σ H Q => ta σ H fun x H1 => Q (.bl (!decide (x = .non))) H1
/-- a comparison as a value, as a test -/
def tB (t : TE) : TT := fun σ H Q => t σ H fun x H1 => ∃ c, x = .bl c ∧ Q c H1
theorem pt_cmp {op : CmpOp} {t : TE} (h : PC X op a b t) (h1 : behindInMarks op b = false := by first | exact nobehind _ (by decide) (by decide) | rfl) : PT X (.Compare a [op] [b] pos) (tB t) := by
  intro pins s σ H Q I hw
  refine wpAny_isTrue_Compare1 (thn (h pins s σ H _ I hw) fun v s1 h1 => thn h1 fun u s2 h2 => thn h2 fun c s3 ⟨x, H1, I1, r1, q1⟩ => ?_) h1
  obtain ⟨d, rfl, q⟩ := q1
  cases r1
  exact wpAny_truthy_bool ⟨H1, I1, q⟩
/-- an expression whose value is a bool, as a test -/
theorem pt_val {e : Expr} {t : TE} (h : PE X e t) (he : ∀ whole, isTrue e X.env whole = (do let v ← whole; standAt e.pos; holding [v] (truthy v)) := by intro _; rfl) : PT X e (tB t) := by
  intro pins s σ H Q I hw
  refine isTrue_plain (thn (h pins s σ H _ I hw) fun v s1 ⟨x, H1, I1, r1, q1⟩ => ?_) (he _)
  obtain ⟨d, rfl, q⟩ := q1
  cases r1
  exact wpAny_truthy_bool ⟨H1, I1, q⟩

/-! ### and, or, not -/
variable {tA tB' : TT} {rest : List Expr}
def tAnd (t u : TT) : TT := fun σ H Q => t σ H fun c H1 => if c = true then u σ H1 Q else Q false H1
def tOr (t u : TT) : TT := fun σ H Q => t σ H fun c H1 => if c = true then Q true H1 else u σ H1 Q
def tNot (t : TT) : TT := fun σ H Q => t σ H fun c H1 => Q (!c) H1
theorem pw_and1 (ha : PT X a tA) : PW X (.BoolOp .And [a] pos) tA := by
  intro wh pins s σ H Q I h
  refine isTrue_and (thn (ha pins s σ H Q I h) fun c s1 e => ?_)
  cases c with
  | true => exact isTrue_and_nil e
  | false => exact e
theorem pw_or1 (ha : PT X a tA) : PW X (.BoolOp .Or [a] pos) tA := by
  intro wh pins s σ H Q I h
  refine isTrue_or (thn (ha pins s σ H Q I h) fun c s1 e => ?_)
  cases c with
  | false => exact isTrue_or_nil e
  | true => exact e
theorem pw_and (ha : PT X a tA) (hb : PW X (.BoolOp .And (b :: rest) pos) tB') : PW X (.BoolOp .And (a :: b :: rest) pos) (tAnd tA tB') := by
  intro wh pins s σ H Q I h
  refine isTrue_and (thn (ha pins s σ H _ I h) fun c s1 ⟨H1, I1, q1⟩ => ?_)
  cases c with
  | true => exact hb wh pins s1 σ H1 Q I1 q1
  | false => exact ⟨H1, I1, q1⟩
theorem pw_or (ha : PT X a tA) (hb : PW X (.BoolOp .Or (b :: rest) pos) tB') : PW X (.BoolOp .Or (a :: b :: rest) pos) (tOr tA tB') := by
  intro wh pins s σ H Q I h
  refine isTrue_or (thn (ha pins s σ H _ I h) fun c s1 ⟨H1, I1, q1⟩ => ?_)
  cases c with
  | true => exact ⟨H1, I1, q1⟩
  | false => exact hb wh pins s1 σ H1 Q I1 q1
theorem pt_not (ha : PT X a tA) : PT X (.UnaryOp .Not a pos) (tNot tA) := by
  intro pins s σ H Q I h
  exact isTrue_not (ha pins s σ H (fun c H1 => Q (!c) H1) I h)
/-- .. as values (bools) -/
def tAndV (ta tb : TE) : TE := fun σ H Q => ta σ H fun x H1 => ∃ c, x = .bl c ∧ if c = true then tb σ H1 Q else Q (.bl false) H1
def tOrV (ta tb : TE) : TE := fun σ H Q => ta σ H fun x H1 => ∃ c, x = .bl c ∧ if c = true then Q (.bl true) H1 else tb σ H1 Q
def tNotV (ta : TE) : TE := fun σ H Q => ta σ H fun x H1 => ∃ c, x = .bl c ∧ Q (.bl (!c)) H1
theorem pe_one {op} {t : TE} (h : PE X a t) : PE X (.BoolOp op [a] pos) t := fun pins s σ H Q I hw => BoolOp_one (h pins s σ H Q I hw)
theorem pe_and (ha : PE X a ta) (hb : PE X (.BoolOp .And (b :: rest) pos) tb) : PE X (.BoolOp .And (a :: b :: rest) pos) (tAndV ta tb) := by
  intro pins s σ H Q I h
  refine BoolOp_and (thn (ha pins s σ H _ I h) fun v s1 ⟨x, H1, I1, r1, q1⟩ => ?_)
  obtain ⟨c, rfl, q1⟩ := q1
  cases r1
  refine wpAny_truthy_bool ?_
  cases c with
  | true => exact hb pins s1 σ H1 Q I1 q1
  | false => exact ⟨.bl false, H1, I1, rfl, q1⟩
theorem pe_not (ha : PE X a ta) : PE X (.UnaryOp .Not a pos) (tNotV ta) := by
  intro pins s σ H Q I h
  refine UnaryOp_ (thn (ha pins s σ H _ I h) fun v s1 ⟨x, H1, I1, r1, q1⟩ => ?_)
  obtain ⟨c, rfl, q1⟩ := q1
  cases r1
  exact not_of (wpAny_truthy_bool ⟨.bl (!c), H1, I1, rfl, q1⟩)
/-- a if t else b -/
def tIf (t : TT) (ta tb : TE) : TE := fun σ H Q => t σ H fun c H1 => if c = true then ta σ H1 Q else tb σ H1 Q
end
end L2

namespace L2
open PySem PySem.Spec PyProof.Rows

/-! ### a list, a tuple that is read: tracked, frozen, or an object of the module -/
def SqL (K : PySem.W.Frag) (H : Hp) (a : Addr) (xs : List V) : Prop :=
  Rd H a (.lst xs) ∨
    ∃ (o : Obj) (its : Array Value) (n : Nat), K.lookup a = some o ∧ o.cls = .type "list" ∧ o.dict = none ∧ o.data = .seq its n ∧ its.size ≤ sizeLine ∧ Vals xs its.toList
def SqT (K : PySem.W.Frag) (H : Hp) (a : Addr) (xs : List V) : Prop :=
  Rd H a (.tup xs) ∨
    ∃ (o : Obj) (its : Array Value) (n : Nat), K.lookup a = some o ∧ o.cls = .type "tuple" ∧ o.data = .seq its n ∧ its.size ≤ sizeLine ∧ Vals xs its.toList
def absV : Value → Option V
  | .none => some .non
  | .bool b => some (.bl b)
  | .int i _ => some (.int i)
  | .str x _ => some (.str x)
  | .bytes b _ => some (.byt b)
  | .float b _ => some (.flt b)
  | .ref a => some (.ref a)
  | .type n => some (.ty n)
  | _ => none
theorem RelV.abs {x : V} {u : Value} (r : RelV x u) : absV u = some x := by
  cases x with
  | non => cases r; rfl
  | bl _ => cases r; rfl
  | int _ => obtain ⟨t, rfl⟩ := r; rfl
  | str _ => obtain ⟨t, rfl⟩ := r; rfl
  | byt _ => obtain ⟨t, rfl⟩ := r; rfl
  | flt _ => obtain ⟨t, rfl⟩ := r; rfl
  | ref _ => cases r; rfl
  | ty _ => cases r; rfl
theorem RelV.inj {x y : V} {u : Value} (r : RelV x u) (q : RelV y u) : x = y := Option.some.inj (r.abs.symm.trans q.abs)
theorem Vals.inj : ∀ {xs ys : List V} {us : List Value}, Vals xs us → Vals ys us → xs = ys
  | _, _, _, .nil, .nil => rfl
  | _, _, _, .cons r t, .cons r' t' => by rw [r.inj r', Vals.inj t t']
section
variable {X : Cx} {pins : List (Addr × Obj)} {σ : St} {H : Hp} {s : Shared} {a : Addr} {xs ys : List V}
theorem SqL.of {K : PySem.W.Frag} (h : H a = some (.lst xs)) : SqL K H a xs := .inl (.inl h)
theorem SqT.of {K : PySem.W.Frag} (h : H a = some (.tup xs)) : SqT K H a xs := .inl (.inl h)
theorem Inv.list (I : Inv X pins σ H s) (h : SqL X.K H a xs) : ∃ its : List Value, Vals xs its ∧ PlainL s.heap a its.toArray ∧ xs.length ≤ sizeLine := by
  rcases h with h | ⟨o, its, n, hk, hc, hd, hs, hz, r⟩
  · obtain ⟨z, its, n, r, e⟩ := h.ok I.hok
    exact ⟨its, r, ⟨_, n, e, rfl, rfl, rfl⟩, z⟩
  · refine ⟨its.toList, r, ⟨o, n, I.kIn a o hk, hc, hd, by simpa using hs⟩, ?_⟩
    have e := r.length
    simp only [Array.length_toList] at e
    (first | lia | omega)
theorem Inv.tuple (I : Inv X pins σ H s) (h : SqT X.K H a xs) : ∃ its : List Value, Vals xs its ∧ IsTup s.heap a its.toArray ∧ xs.length ≤ sizeLine := by
  rcases h with h | ⟨o, its, n, hk, hc, hs, hz, r⟩
  · obtain ⟨z, its, r, p⟩ := h.ok I.hok
    exact ⟨its, r, p, z⟩
  · refine ⟨its.toList, r, ⟨o, I.kIn a o hk, hc, n, by simpa using hs⟩, ?_⟩
    have e := r.length
    simp only [Array.length_toList] at e
    (first | lia | omega)
theorem Inv.list_inj (I : Inv X pins σ H s) (h : SqL X.K H a xs) (h' : SqL X.K H a ys) : xs = ys := by
  obtain ⟨its, r, ⟨o, n, e, _, _, d⟩, _⟩ := I.list h
  obtain ⟨its', r', ⟨o', n', e', _, _, d'⟩, _⟩ := I.list h'
  rw [e] at e'; cases e'
  rw [d] at d'
  injection d' with d1 _
  have : its = its' := by simpa using congrArg Array.toList d1
  subst this
  exact r.inj r'
theorem Inv.tuple_inj (I : Inv X pins σ H s) (h : SqT X.K H a xs) (h' : SqT X.K H a ys) : xs = ys := by
  obtain ⟨its, r, ⟨o, e, _, n, d⟩, _⟩ := I.tuple h
  obtain ⟨its', r', ⟨o', e', _, n', d'⟩, _⟩ := I.tuple h'
  rw [e] at e'; cases e'
  rw [d] at d'
  injection d' with d1 _
  have : its = its' := by simpa using congrArg Array.toList d1
  subst this
  exact r.inj r'
end

/-! ### another wish about exceptions -/
abbrev Cx.wish (X : Cx) (E : Value → Shared → Prop) : Cx := { X with xe := E }
/-- no exception leaves -/
abbrev Cx.nox (X : Cx) : Cx := X.wish fun _ _ => False
theorem Cx.Ok.wish {X : Cx} (ok : X.Ok) (E : Value → Shared → Prop) : (X.wish E).Ok :=
  ⟨ok.mod, ok.kind, ok.glob, ok.blt, ok.above, ok.inj, ok.has, ok.cab, ok.hd, ok.frames, ok.stk, ok.exf, ok.bs, ok.bsz, ok.noex, ok.exfs, ok.funs, ok.frf⟩
theorem Cx.Ok.unwish {X : Cx} {E : Value → Shared → Prop} (ok : (X.wish E).Ok) : X.Ok :=
  ⟨ok.mod, ok.kind, ok.glob, ok.blt, ok.above, ok.inj, ok.has, ok.cab, ok.hd, ok.frames, ok.stk, ok.exf, ok.bs, ok.bsz, ok.noex, ok.exfs, ok.funs, ok.frf⟩
section
variable {X : Cx} {pins : List (Addr × Obj)} {σ : St} {H : Hp} {s : Shared} {E : Value → Shared → Prop}
theorem Inv.wish (I : Inv X pins σ H s) (E : Value → Shared → Prop) : Inv (X.wish E) pins σ H s := ⟨I.ok.wish E, I.os, I.bare, I.base, I.loc, I.cell, I.free, I.freeC, I.pin, I.hok, I.len⟩
theorem Inv.unwish (I : Inv (X.wish E) pins σ H s) : Inv X pins σ H s := ⟨I.ok.unwish, I.os, I.bare, I.base, I.loc, I.cell, I.free, I.freeC, I.pin, I.hok, I.len⟩
theorem SP.unwish {D : Ends} {f : Flow} {s' : Shared} (h : SP (X.wish E) pins D f s') : SP X pins D f s' := by
  cases f with
  | next => obtain ⟨σ', H', I, q⟩ := h; exact ⟨σ', H', I.unwish, q⟩
  | brk => obtain ⟨σ', H', I, q⟩ := h; exact ⟨σ', H', I.unwish, q⟩
  | cont => obtain ⟨σ', H', I, q⟩ := h; exact ⟨σ', H', I.unwish, q⟩
  | ret u => obtain ⟨v, σ', H', I, r, q⟩ := h; exact ⟨v, σ', H', I.unwish, r, q⟩
theorem PSs.nox {st : List Stmt} {t : TS} (h : PSs X.nox st t) : PSs X st t := fun pins s σ H D I hw =>
  wpAny_mono (h pins s σ H D (I.wish _) hw) (fun _ _ q => q.unwish) fun _ _ z => False.elim z
end

/-! ### blocks and small statements -/
section
variable {X : Cx} {st : Stmt} {rest : List Stmt} {t u : TS} {e : Expr} {te : TE} {pos : Pos}
def tNext : TS := fun D σ H => D.nx σ H
def tSeq (t u : TS) : TS := fun D σ H => t { D with nx := u D } σ H
theorem pss_nil : PSs X [] tNext := fun _ _ σ H _ I h => wpAny_execs_nil ⟨σ, H, I, h⟩
theorem pss_cons (h1 : PS X st t) (h2 : PSs X rest u) : PSs X (st :: rest) (tSeq t u) := by
  intro pins s σ H D I h
  refine wpAny_execs_cons (thn (h1 pins s σ H { D with nx := u D } I h) fun f s1 q => ?_)
  cases f with
  | next =>
    obtain ⟨σ', H', I', q⟩ := q
    exact h2 pins s1 σ' H' D I' q
  | ret v => exact q
  | brk => exact q
  | cont => exact q
theorem pss_one (h1 : PS X st t) : PSs X [st] t := by
  intro pins s σ H D I h
  refine wpAny_execs_cons (thn (h1 pins s σ H D I h) fun f s1 q => ?_)
  cases f with
  | next => exact wpAny_execs_nil q
  | ret v => exact q
  | brk => exact q
  | cont => exact q
def tBreak : TS := fun D σ H => D.bk σ H
def tCont : TS := fun D σ H => D.ct σ H
/-- in a def's body nothing is shown -/
theorem Inv.quiet {pins : List (Addr × Obj)} {σ : St} {H : Hp} {s : Shared} (I : Inv X pins σ H s) : interactive X.env = false := by simp [interactive, I.ok.kind]
/-- an expression whose value is dropped -/
def tDrop (te : TE) : TS := fun D σ H => te σ H fun _ H1 => D.nx σ H1
theorem ps_expr (he : PE X e te) (hs : swapsWith e none pos.line X.env = pure false := by rfl) : PS X (.Expr e pos) (tDrop te) := by
  intro pins s σ H D I h
  exact wpAny_Expr_any (thn (he pins s σ H _ I h) fun v s1 ⟨x, H1, I1, r1, q1⟩ => ⟨σ, H1, I1, q1⟩) I.quiet hs
def tRet (te : TE) : TS := fun D σ H => te σ H D.rt
theorem ps_ret (he : PE X e te) : PS X (.Return (some e) pos) (tRet te) := by
  intro pins s σ H D I h
  exact wpAny_Return_some (thn (he pins s σ H _ I h) fun v s1 ⟨x, H1, I1, r1, q1⟩ => ⟨x, σ, H1, I1, r1, q1⟩)
def tRetN : TS := fun D _ H => D.rt .non H
def tIfS (c : TT) (t u : TS) : TS := fun D σ H => c σ H fun b H1 => if b = true then t D σ H1 else u D σ H1
theorem ps_if {c : Expr} {a b : List Stmt} {tc : TT} (hc : PT X c tc) (ha : PSs X a t) (hb : PSs X b u) : PS X (.If c a b pos) (tIfS tc t u) := by
  intro pins s σ H D I h
  refine wpAny_If (thn (hc pins s σ H _ I h) fun d s1 ⟨H1, I1, q1⟩ => ?_)
  cases d with
  | true => exact ha pins s1 σ H1 D I1 q1
  | false => exact hb pins s1 σ H1 D I1 q1
/-- code that the proof never comes to -/
def tNever : TS := fun _ _ _ => False
theorem ps_never : PS X st tNever := fun _ _ _ _ _ _ h => h.elim
end

/-! ### targets -/
abbrev TG := V → St → Hp → (St → Hp → Prop) → Prop
abbrev TGs := List V → St → Hp → (St → Hp → Prop) → Prop
def PG (X : Cx) (target : Expr) (t : TG) : Prop :=
  ∀ (pins : List (Addr × Obj)) (s : Shared) (σ : St) (H : Hp) (v : V) (u : Value) (Q : St → Hp → Prop), Inv X pins σ H s → RelV v u → t v σ H Q →
    wpAny (model X.prog X.w) X.A (assign target X.env u) (fun _ s' => ∃ σ' H', Inv X pins σ' H' s' ∧ Q σ' H') X.xe s
/-- several targets, one after another -/
def PGs (X : Cx) (ts : List Expr) (t : TGs) : Prop :=
  ∀ (pins : List (Addr × Obj)) (s : Shared) (σ : St) (H : Hp) (vs : List V) (us : List Value) (Q : St → Hp → Prop), Inv X pins σ H s → Vals vs us → t vs σ H Q →
    wpAny (model X.prog X.w) X.A (assignInOrder ((assignEach ts X.env).map (·.2)) us) (fun _ s' => ∃ σ' H', Inv X pins σ' H' s' ∧ Q σ' H') X.xe s
/-- o[i] = v, by values -/
abbrev TSet := V → V → V → Hp → (Hp → Prop) → Prop
def PSet (X : Cx) (t : TSet) : Prop :=
  ∀ (pins : List (Addr × Obj)) (s : Shared) (σ : St) (H : Hp) (o i v : V) (ov iv u : Value) (Q : Hp → Prop), Inv X pins σ H s → RelV o ov → RelV i iv → RelV v u → t o i v H Q →
    wpAny (model X.prog X.w) X.A (setItem ov iv u) (fun _ s' => ∃ H', Inv X pins σ H' s' ∧ Q H') X.xe s
/-- a op= b, by values -/
abbrev TIp := V → V → Hp → VK → Prop
def PIp (X : Cx) (op : Operator) (t : TIp) : Prop :=
  ∀ (pins : List (Addr × Obj)) (s : Shared) (σ : St) (H : Hp) (x y : V) (v u : Value) (Q : VK), Inv X pins σ H s → RelV x v → RelV y u → t x y H Q →
    wpAny (model X.prog X.w) X.A (inplaceOp op v u) (EP X pins σ Q) X.xe s
section
variable {X : Cx} {pos : Pos}
def gName (i : Nat) : TG := fun v σ H Q => Q (σ.set i (some v)) H
theorem pg_name {i : Nat} {x : Str} (hN : X.N.Nodup) (hi : X.N[i]? = some x) (hx : Loc X.env.scope x) (hf : X.fn x = true ∨ X.env.scope.names.lookup x = some .local := by first | exact .inl rfl | exact .inr rfl | assumption) : PG X (.Name x pos) (gName i) := by
  intro pins s σ H v u Q I r h
  exact wpAny_assign_Name (store_ok I hN hi hx r (fun s' I' => ⟨_, H, I', h⟩) hf)
def gNil : TGs := fun vs σ H Q => vs = [] ∧ Q σ H
def gCons (t : TG) (u : TGs) : TGs := fun vs σ H Q => ∃ v r, vs = v :: r ∧ t v σ H fun σ' H' => u r σ' H' Q
theorem pgs_nil : PGs X [] gNil := by
  intro pins s σ H vs us Q I r h
  obtain ⟨e, h⟩ := h
  subst e
  cases r
  exact assignInOrder_nil ⟨σ, H, I, h⟩
theorem pgs_cons {e : Expr} {es : List Expr} {t : TG} {u : TGs} (h1 : PG X e t) (h2 : PGs X es u)
    (hs : (assignEach (e :: es) X.env).map (·.2) = assign e X.env :: (assignEach es X.env).map (·.2) := by rfl) : PGs X (e :: es) (gCons t u) := by
  intro pins s σ H vs us Q I r h
  obtain ⟨v, vr, e1, h⟩ := h
  subst e1
  cases r with
  | cons r rr =>
    rw [hs]
    refine assignInOrder_cons (thn (h1 pins s σ H _ _ _ I r h) fun _ s1 ⟨σ1, H1, I1, q1⟩ => ?_)
    exact h2 pins s1 σ1 H1 _ _ Q I1 rr q1
/-- (a, b, ..) = a tuple of that length -/
def gTup (K : PySem.W.Frag) (n : Nat) (t : TGs) : TG := fun v σ H Q => ∃ a xs, v = .ref a ∧ SqT K H a xs ∧ xs.length = n ∧ t xs σ H Q
theorem pg_tup {es : List Expr} {k : Nat} {t : TGs} {n : Nat} (hc : X.calm = true) (h : PGs X es t)
    (hn : (assignEach es X.env).length = n := by rfl) (hst : (assignEach es X.env).findIdx? (·.1) = none := by rfl) : PG X (.Tuple es k pos) (gTup X.K n t) := by
  intro pins s σ H v u Q I r hw
  obtain ⟨a, xs, e1, hq, hl, hw⟩ := hw
  subst e1
  cases r
  obtain ⟨its, rv, ht, hz⟩ := I.tuple hq
  refine assign_Tuple_tuple (I.ok.hd hc) ht (by simp [hn, ← hl, rv.length]) hst fun h' hx => ?_
  have I1 : Inv X pins σ H { s with heap := h' } := I.kept (t' := s.toks) fun b o e => hx b o (Nat.ne_of_lt (Heap.lt_size e)) e
  exact h pins _ σ H xs _ Q I1 (by simpa using rv) hw
/-- o[i] = .. -/
def gSub (to ti : TE) (t : TSet) : TG := fun v σ H Q => to σ H fun o H1 => ti σ H1 fun i H2 => t o i v H2 fun H3 => Q σ H3
theorem pg_sub {o i : Expr} {to ti : TE} {t : TSet} (ho : PE X o to) (hi : PE X i ti) (hs : PSet X t)
    (ha : ∀ v, assign (.Subscript o i pos) X.env v = (do
      let ov ← holding [v] (eval o X.env)
      let iv ← holding [v, ov] (eval i X.env)
      standAt pos
      holding [v, ov, iv] (setItem ov iv v)
      release [v, ov, iv] []) := by intro _; rfl) : PG X (.Subscript o i pos) (gSub to ti t) := by
  intro pins s σ H v u Q I r h
  rw [ha]
  refine wpAny_bind (wpAny_holding (thn (ho pins s σ H _ I h) fun ov s1 ⟨x, H1, I1, r1, q1⟩ => ?_))
  refine wpAny_bind (wpAny_holding (thn (hi pins s1 σ H1 _ I1 q1) fun iv s2 ⟨y, H2, I2, r2, q2⟩ => ?_))
  refine wpAny_bind (wpAny_standAt (wpAny_bind (wpAny_holding (thn (hs pins s2 σ H2 x y v ov iv u _ I2 r1 r2 r q2) fun _ s3 ⟨H3, I3, q3⟩ => ?_))))
  exact wpAny_release ⟨σ, H3, I3, q3⟩
/-- target = value -/
def tAsg (te : TE) (g : TG) : TS := fun D σ H => te σ H fun x H1 => g x σ H1 D.nx
theorem ps_asg {tg e : Expr} {te : TE} {g : TG} (he : PE X e te) (hg : PG X tg g) (hs : swapsWithSole [tg] e pos.line X.env = pure false := by rfl) (hw : swappedStores [tg] e X.env = pure none := by rfl)
    (h1 : (assignEach [tg] X.env).map (·.2) = [assign tg X.env] := by rfl) : PS X (.Assign [tg] e pos) (tAsg te g) := by
  intro pins s σ H D I h
  refine wpAny_Assign_stores (thn (he pins s σ H _ I h) fun v s1 ⟨x, H1, I1, r1, q1⟩ => ?_) hs hw
  rw [h1]
  exact thn (hg pins s1 σ H1 x v _ I1 r1 q1) fun _ s2 q => q
/-- name = value -/
theorem ps_set {i : Nat} {x : Str} {e : Expr} {te : TE} {pos' : Pos} (hN : X.N.Nodup) (hi : X.N[i]? = some x) (hx : Loc X.env.scope x) (he : PE X e te) (hs : swapsWith e (some (.Name x pos')) pos.line X.env = pure false := by rfl) (hf : X.fn x = true ∨ X.env.scope.names.lookup x = some .local := by first | exact .inl rfl | exact .inr rfl | assumption) :
    PS X (.Assign [.Name x pos'] e pos) (tAsg te (gName i)) := by
  intro pins s σ H D I h
  refine wpAny_Assign_Name (thn (he pins s σ H _ I h) fun v s1 ⟨y, H1, I1, r1, q1⟩ => ?_) hs
  exact store_ok I1 hN hi hx r1 (fun s2 I2 => ⟨_, H1, I2, q1⟩) hf
/-- a, b = x, y with plain local names: stored from the right; the pair itself is not tracked (the opening rows as in PyProof/Rows/TupAssign.lean:23) -/
def tPar (i j : Nat) (ta : TA) : TS := fun D σ H => ta σ H fun vs H1 => ∃ v w, vs = [v, w] ∧ D.nx ((σ.set i (some v)).set j (some w)) H1
/-- name op= e -/
def tAug (i : Nat) (te : TE) (ti : TIp) : TS := fun D σ H => ∃ x, σ[i]? = some (some x) ∧ te σ H fun y H1 => ti x y H1 fun z H2 => D.nx (σ.set i (some z)) H2
theorem ps_aug {i : Nat} {x : Str} {e : Expr} {te : TE} {op : Operator} {ti : TIp} {pos' : Pos} (hN : X.N.Nodup) (hi : X.N[i]? = some x) (hx : Loc X.env.scope x) (he : PE X e te) (ho : PIp X op ti) (hf : X.fn x = true ∨ X.env.scope.names.lookup x = some .local := by first | exact .inl rfl | exact .inr rfl | assumption) :
    PS X (.AugAssign (.Name x pos') op e pos) (tAug i te ti) := by
  intro pins s σ H D I h
  obtain ⟨v, e1, h⟩ := h
  obtain ⟨m, hn, hl⟩ := I.loc
  have vis : Vis X.env.scope x := by rcases hx with k | k; exact .inl k; exact .inr (.inl k)
  obtain ⟨u, r, l⟩ := hl i x v hi e1 vis
  refine wpAny_AugAssign_Name ?_
  have go : wpAny (model X.prog X.w) X.A (eval e X.env) (fun w s₂ => wpAny (model X.prog X.w) X.A (inplaceOp op u w) (fun r s₃ => wpAny (model X.prog X.w) X.A (storeName X.env x r) (fun _ => SP X pins D .next) X.xe s₃) X.xe s₂) X.xe s := by
    refine thn (he pins s σ H _ I h) fun w s1 ⟨y, H1, I1, r1, q1⟩ => ?_
    refine thn (ho pins s1 σ H1 v y u w _ I1 r r1 q1) fun z s2 ⟨zv, H2, I2, r2, q2⟩ => ?_
    exact store_ok I2 hN hi hx r2 (fun s3 I3 => ⟨_, H2, I3, q2⟩) hf
  rcases l with ⟨hk, hm⟩ | ⟨hk, c, hc, hcell⟩
  · exact wpAny_loadName_local I.ok.kind hk hn hm go
  · rcases hk with hk | hk
    · exact wpAny_loadName_cell I.ok.kind hk hc hcell go
    · rcases hx with k | k
      · have : X.env.scope.names.lookup x = some .free := hk
        rw [k] at this; cases this
      · have : X.env.scope.names.lookup x = some .free := hk
        rw [k] at this; cases this
/-- o[i] op= e -/
def tAugS (to ti te : TE) (tget : V → V → Hp → VK → Prop) (tip : TIp) (tset : TSet) : TS := fun D σ H => to σ H fun o H1 => ti σ H1 fun i H2 => tget o i H2 fun x H3 => te σ H3 fun y H4 => tip x y H4 fun z H5 => tset o i z H5 fun H6 => D.nx σ H6
/-- o[i], by values -/
def PGet (X : Cx) (t : V → V → Hp → VK → Prop) : Prop :=
  ∀ (pins : List (Addr × Obj)) (s : Shared) (σ : St) (H : Hp) (o i : V) (ov iv : Value) (Q : VK), Inv X pins σ H s → RelV o ov → RelV i iv → t o i H Q →
    wpAny (model X.prog X.w) X.A (getItem ov iv) (EP X pins σ Q) X.xe s
/-- ints -/
def ipI (f : Int → Int → Int) : TIp := fun x y H Q => ∃ i j, x = .int i ∧ y = .int j ∧ Q (.int (f i j)) H
theorem ip_add : PIp X .Add (ipI fun i j => i + j) := by
  intro pins s σ H x y v u Q I r1 r2 h
  obtain ⟨i, j, e1, e2, q⟩ := h
  subst e1; subst e2
  obtain ⟨t, rfl⟩ := r1
  obtain ⟨t', rfl⟩ := r2
  exact iadd_int ⟨.int _, H, I.tok _, ⟨_, rfl⟩, q⟩
end

/-! ### while -/
section
variable {X : Cx} {pos : Pos}
/-- the invariant W with its measure -/
def tWhile (c : TT) (tb : TS) : TS := fun D σ H => ∃ W : Nat → St → Hp → Prop, (∃ m, W m σ H) ∧ ∀ m σ H, W m σ H →
  c σ H fun b H1 => if b = true then ∃ N : St → Hp → Prop, (∀ σ' H', N σ' H' → ∃ m', m' < m ∧ W m' σ' H') ∧ tb { D with nx := N, ct := N, bk := D.nx } σ H1 else D.nx σ H1
end

/-! ### what a loop or a comprehension walks -/
/-- at turn i: it yields x (the heap may grow), or it stops -/
structure It where
  go : Nat → Hp → Prop
  yld : Nat → Hp → V → Hp → Prop
  stop : Nat → Hp → Prop
/-- the iterator's own objects may turn: they are not the frame's, not pinned, younger than the entry (or a comprehension's own) -/
def FpOk (X : Cx) (pins : List (Addr × Obj)) (H : Hp) (b : Addr) : Prop :=
  H b = none ∧ b ≠ X.env.locals ∧ b ∉ X.fs ∧ (b ∈ X.ex ∨ X.s₀.heap.objs.size ≤ b) ∧ (∀ x c, X.env.cells.lookup x = some c → c ≠ b) ∧ ∀ p ∈ X.pn ++ pins, p.1 ≠ b
theorem Inv.fpOk {X : Cx} {pins : List (Addr × Obj)} {σ : St} {H H' : Hp} {s : Shared} {b : Addr} (I : Inv X pins σ H s) (hb : s.heap.objs.size ≤ b) (hn : H' b = none) : FpOk X pins H' b := by
  refine ⟨hn, Nat.ne_of_gt (Nat.lt_of_lt_of_le I.lt hb), I.nofs hb, .inr (Nat.le_trans I.sz hb), fun x c e z => ?_, fun p hp z => ?_⟩
  · obtain ⟨v, q⟩ := I.cell x c e
    exact absurd (Nat.lt_of_lt_of_le q.lt (by rw [z]; exact hb)) (Nat.lt_irrefl _)
  · exact absurd (Nat.lt_of_lt_of_le (Heap.lt_size (I.pin p hp).1) (by rw [z]; exact hb)) (Nat.lt_irrefl _)
structure Turn (P : Program) (w : World) (K : PySem.W.Frag) (tg : Expr) (J : It) (fp : List Addr) (it : Addr) (tn : Nat → Heap → Prop) : Prop where
  mem : it ∈ fp
  obj : ∀ i h, tn i h → ∀ b ∈ fp, ∃ o, h.get? b = some o ∧ ∀ v, o.data ≠ .cell v
  keep : ∀ i h h', tn i h → (∀ b ∈ fp, ∀ o, h.get? b = some o → h'.get? b = some o) → tn i h'
  item : ∀ (X : Cx), X.prog = P → X.w = w → X.K = K → X.calm = true → ∀ (i : Nat) (pins : List (Addr × Obj)) (s : Shared) (σ : St) (H : Hp) (E : Value → Shared → Prop), Inv X pins σ H s → (∀ b ∈ fp, FpOk X pins H b) → tn i s.heap → J.go i H →
    wpAny (model P w) X.A (pyNext (.ref it)) (fun r s1 => ∃ u, r = some u ∧
      wpAny (model P w) X.A (letOwnedTupleGo tg (.ref it) u) (fun _ s2 => ∃ x H', Inv X pins σ H' s2 ∧ RelV x u ∧ J.yld i H x H' ∧ tn (i + 1) s2.heap ∧ ∀ b ∈ fp, H' b = none) E s1) E s
  done : ∀ (X : Cx), X.prog = P → X.w = w → X.K = K → X.calm = true → ∀ (i : Nat) (pins : List (Addr × Obj)) (s : Shared) (σ : St) (H : Hp) (E : Value → Shared → Prop), Inv X pins σ H s → (∀ b ∈ fp, FpOk X pins H b) → tn i s.heap → J.stop i H →
    wpAny (model P w) X.A (pyNext (.ref it)) (fun r s1 => r = none ∧ Inv X pins σ H s1) E s
  self : ∀ (A : Around) (i : Nat) (s : Shared) (Q : Value → Shared → Prop) (E : Value → Shared → Prop), tn i s.heap → Q (.ref it) s → wpAny (model P w) A (pyIter (.ref it)) Q E s
abbrev TI := St → Hp → (It → Hp → Prop) → Prop
/-- an iterator has come -/
def PIE (X : Cx) (pins : List (Addr × Obj)) (σ : St) (tg : Expr) (R : It → Hp → Prop) (itv : Value) (s2 : Shared) : Prop :=
  ∃ (it : Addr) (fp : List Addr) (tn : Nat → Heap → Prop) (J : It) (H' : Hp), itv = .ref it ∧ Inv X pins σ H' s2 ∧ Turn X.prog X.w X.K tg J fp it tn ∧ tn 0 s2.heap ∧ (∀ b ∈ fp, FpOk X pins H' b) ∧ R J H'
def PI (X : Cx) (tg iter : Expr) (wi : TI) : Prop :=
  ∀ (pins : List (Addr × Obj)) (s : Shared) (σ : St) (H : Hp) (R : It → Hp → Prop), Inv X pins σ H s → wi σ H R →
    wpAny (model X.prog X.w) X.A (eval iter X.env) (fun v s1 => wpAny (model X.prog X.w) X.A (pyIter v) (PIE X pins σ tg R) X.xe s1) X.xe s

/-- the step ahead of the store is nothing for an iterator that keeps no tuple -/
theorem go_of {M : Model} {A : Around} {E : Value → Shared → Prop} {s : Shared} {tg : Expr} {it : Addr} {u : Value} {o : Obj} {n : String} {vs : Array Value} {Q : Unit → Shared → Prop} (ho : s.heap.get? it = some o) (hc : o.cls = .type n) (hd : o.data = .fields vs)
    (hn : ["enumerate", "zip", "dict_itemiterator", "dict_reverseitemiterator", "odict_iterator", "itertools.zip_longest", "itertools.pairwise"].contains n = false) (hQ : Q () s) : wpAny M A (letOwnedTupleGo tg (.ref it) u) Q E s := by
  unfold letOwnedTupleGo
  cases tg <;> first
    | exact wpAny_pure hQ
    | (cases u <;> first
        | exact wpAny_pure hQ
        | (refine wpAny_bind (wpAny_load ho ?_)
           rw [hc, hd]
           show wpAny M A (if (["enumerate", "zip", "dict_itemiterator", "dict_reverseitemiterator", "odict_iterator", "itertools.zip_longest", "itertools.pairwise"].contains n && vs[0]? == some (rawInt _)) = true then _ else _) Q E s
           rw [if_neg (by intro h; rw [hn, Bool.false_and] at h; cases h)]
           exact wpAny_pure hQ))

/-- the list at a, as it stands at each turn (a loop may append to it) -/
def Itl (K : PySem.W.Frag) (a : Addr) : It :=
  ⟨fun i H => ∃ xs x, SqL K H a xs ∧ xs[i]? = some x, fun i H x H' => H' = H ∧ ∀ xs, SqL K H a xs → xs[i]? = some x, fun i H => ∃ xs, SqL K H a xs ∧ xs.length ≤ i⟩
def Itt (K : PySem.W.Frag) (a : Addr) : It :=
  ⟨fun i H => ∃ xs x, SqT K H a xs ∧ xs[i]? = some x, fun i H x H' => H' = H ∧ ∀ xs, SqT K H a xs → xs[i]? = some x, fun i H => ∃ xs, SqT K H a xs ∧ xs.length ≤ i⟩
/-- lo, lo + 1, .. (n of them) -/
def Itr (lo : Int) (n : Nat) : It := ⟨fun i _ => i < n, fun i H x H' => H' = H ∧ x = .int (lo + i), fun i _ => n ≤ i⟩
theorem turn_list {P : Program} {w : World} {K : PySem.W.Frag} {tg : Expr} (a it : Addr) : Turn P w K tg (Itl K a) [it] it (fun i h => h.IsListIter it a i) where
  mem := by simp
  obj := fun i h st b hb => by
    have e : b = it := by simpa using hb
    subst e
    obtain ⟨o, e, c, d⟩ := st
    exact ⟨o, e, fun v z => by rw [d] at z; cases z⟩
  keep := fun i h h' st k => st.at fun o e => k it (by simp) o e
  item := by
    intro X hP hw hK hc i pins s σ H E I hf st hg
    subst hP hw hK
    obtain ⟨xs, x, hq, hx⟩ := hg
    obtain ⟨its, rv, p, hz⟩ := I.list hq
    obtain ⟨u, hu, ru⟩ := rv.get hx
    obtain ⟨f0, f1, f2, f3, f4, f5⟩ := hf it (by simp)
    refine wpAny_pyNext_list_item st p.isList (x := u) (by simpa using hu) fun h' st' sb => ?_
    have I1 : Inv X pins σ H { s with heap := h' } := I.turned (t' := s.toks) (fun b o hb e => (sb.2 b hb).trans e) f0 f1 f3 f4 f5
    obtain ⟨o, e, c, d⟩ := id st'
    exact ⟨u, rfl, go_of (s := { s with heap := h' }) e c d (by decide) ⟨x, H, I1, ru, ⟨rfl, fun ys hy => by rw [I.list_inj hy hq]; exact hx⟩, st', fun b hb => (hf b hb).1⟩⟩
  done := by
    intro X hP hw hK hc i pins s σ H E I hf st hg
    subst hP hw hK
    obtain ⟨xs, hq, hx⟩ := hg
    obtain ⟨its, rv, p, hz⟩ := I.list hq
    obtain ⟨f0, f1, f2, f3, f4, f5⟩ := hf it (by simp)
    have hl := rv.length
    exact wpAny_pyNext_list_end (I.ok.hd hc) st p.isList (by simp; (first | lia | omega)) fun h' eb => ⟨rfl, I.turned (t' := s.toks) (fun b o hb e => eb b o hb e) f0 f1 f3 f4 f5⟩
  self := fun _ _ _ _ _ st h => wpAny_pyIter_listiter st h
theorem turn_range {P : Program} {w : World} {K : PySem.W.Frag} {tg : Expr} (it : Addr) (lo : Int) (n : Nat) : Turn P w K tg (Itr lo n) [it] it (fun i h => IsRangeIter h it (lo + (i : Nat) * 1) ((n : Int) - (i : Nat)) 1) where
  mem := by simp
  obj := fun i h st b hb => by
    have e : b = it := by simpa using hb
    subst e
    exact ⟨_, st, fun v z => by
      have z' : Data.fields _ = Data.cell v := z
      cases z'⟩
  keep := fun i h h' st k => k it (by simp) _ st
  item := by
    intro X hP hw hK hc i pins s σ H E I hf st hg
    subst hP hw hK
    obtain ⟨f0, f1, f2, f3, f4, f5⟩ := hf it (by simp)
    have W := Walks.range (prog := X.prog) (w := X.w) (I.ok.hd hc) it lo 1 n
    refine W.item i s _ _ hg st fun v h' tk hv st' kk => ?_
    obtain ⟨t, rfl⟩ := hv
    have I1 : Inv X pins σ H { s with heap := h', toks := tk } := I.turned (fun b o hb e => kk b o (by simpa using hb) e) f0 f1 f3 f4 f5
    refine ⟨_, rfl, go_of (s := { s with heap := h', toks := tk }) (n := "range_iterator") st' rfl rfl (by decide) ⟨.int (lo + i), H, I1, ⟨t, ?_⟩, ⟨rfl, rfl⟩, st', fun b hb => (hf b hb).1⟩⟩
    rw [Int.mul_one]
  done := by
    intro X hP hw hK hc i pins s σ H E I hf st hg
    subst hP hw hK
    obtain ⟨f0, f1, f2, f3, f4, f5⟩ := hf it (by simp)
    exact wpAny_pyNext_range_end (I.ok.hd hc) st (by have : n ≤ i := hg; (first | lia | omega)) fun h' eb => ⟨rfl, I.turned (t' := s.toks) (fun b o hb e => eb b o hb e) f0 f1 f3 f4 f5⟩
  self := fun _ _ _ _ _ st h => wpAny_pyIter_rangeiter st h
end L2

namespace L2
open PySem PySem.Spec PyProof.Rows
section
variable {X : Cx} {tg : Expr}
def iList (K : PySem.W.Frag) (tl : TE) : TI := fun σ H R => tl σ H fun x H1 => ∃ a, x = .ref a ∧ (∃ xs, SqL K H1 a xs) ∧ R (Itl K a) H1
def iTup (K : PySem.W.Frag) (tl : TE) : TI := fun σ H R => tl σ H fun x H1 => ∃ a, x = .ref a ∧ (∃ xs, SqT K H1 a xs) ∧ R (Itt K a) H1
theorem pi_list {l : Expr} {tl : TE} (hl : PE X l tl) : PI X tg l (iList X.K tl) := by
  intro pins s σ H R I h
  refine thn (hl pins s σ H _ I h) fun v s1 ⟨x, H1, I1, r1, q1⟩ => ?_
  obtain ⟨a, e, ⟨xs, hq⟩, q⟩ := q1
  subst e
  cases r1
  obtain ⟨its, rv, p, hz⟩ := I1.list hq
  refine wpAny_pyIter_list p.isList ?_
  refine ⟨s1.heap.objs.size, [s1.heap.objs.size], _, _, H1, rfl, I1.kept (t' := s1.toks) fun b o e => Heap.get?_push_of_some _ e, turn_list a _, ⟨_, Heap.get?_push_size _ rfl, rfl, rfl⟩, fun b hb => ?_, q⟩
  have e : b = s1.heap.objs.size := by simpa using hb
  subst e
  exact I1.fpOk (Nat.le_refl _) (I1.hok.fresh (Nat.le_refl _))
/-- a range object just made, walked -/
theorem range_it {pins : List (Addr × Obj)} {σ : St} {H : Hp} {s : Shared} {R : It → Hp → Prop} {E : Value → Shared → Prop} {lo hi : Int} {t u v : Tok} {tk : Nat} (I : Inv X pins σ H s) (h1 : -(2 ^ 62) ≤ lo) (h2 : lo < 2 ^ 62) (h3 : -(2 ^ 62) ≤ hi) (h4 : hi < 2 ^ 62)
    (q : R (Itr lo (hi - lo).toNat) H) : wpAny (model X.prog X.w) X.A (pyIter (.ref s.heap.objs.size)) (PIE X pins σ tg R) E { s with heap := s.heap.push { cls := .type "range", data := .fields #[.int lo t, .int hi u, .int 1 v] }, toks := tk } := by
  refine wpAny_pyIter_range (IsRange.new ..) (small_one h1 h2 h3 h4) ?_
  have I1 : Inv X pins σ H { s with heap := s.heap.push { cls := .type "range", data := .fields #[.int lo t, .int hi u, .int 1 v] }, toks := tk } := I.kept fun b o e => Heap.get?_push_of_some _ e
  refine ⟨(s.heap.push { cls := .type "range", data := .fields #[.int lo t, .int hi u, .int 1 v] }).objs.size, [(s.heap.push { cls := .type "range", data := .fields #[.int lo t, .int hi u, .int 1 v] }).objs.size], _, _, H, rfl,
    I1.kept (t' := tk) fun b o e => Heap.get?_push_of_some _ e, turn_range _ lo (hi - lo).toNat, ?_, fun b hb => ?_, q⟩
  · have e1 : lo + ((0 : Nat) : Int) * 1 = lo := by simp
    have e2 : (((hi - lo).toNat : Nat) : Int) - ((0 : Nat) : Int) = Builtin.Range.rangeSize lo hi 1 := by rw [rangeSize_one]; split <;> (first | lia | omega)
    show IsRangeIter _ _ (lo + ((0 : Nat) : Int) * 1) ((((hi - lo).toNat : Nat) : Int) - ((0 : Nat) : Int)) 1
    rw [e1, e2]
    exact Heap.get?_push_size _ rfl
  · have e : b = (s.heap.push { cls := .type "range", data := .fields #[.int lo t, .int hi u, .int 1 v] }).objs.size := by simpa using hb
    subst e
    exact I1.fpOk (Nat.le_refl _) (I1.hok.fresh (Nat.le_refl _))
def iRng1 (ta : TA) : TI := fun σ H R => ta σ H fun vs H1 => ∃ j : Int, vs = [.int j] ∧ -(2 ^ 62) ≤ j ∧ j < 2 ^ 62 ∧ R (Itr 0 j.toNat) H1
def iRng2 (ta : TA) : TI := fun σ H R => ta σ H fun vs H1 => ∃ i j : Int, vs = [.int i, .int j] ∧ (-(2 ^ 62) ≤ i ∧ i < 2 ^ 62 ∧ -(2 ^ 62) ≤ j ∧ j < 2 ^ 62) ∧ R (Itr i (j - i).toNat) H1
theorem pi_range1 {a : Expr} {ta : TA} {p pos : Pos} (hg : Gl X "range") (hm : X.mg "range" = none) (ha : PA X [a] ta) (hs : starEach [a] X.env = [(false, eval a X.env)] := by rfl) : PI X tg (.Call (.Name "range" p) [a] [] pos) (iRng1 ta) := by
  intro pins s σ H R I h
  refine Call_ (ld_blt I hg hm boot_range (PyProof.Rows.callWith_type1 (thn (ha pos pins s σ H _ I h) fun us s1 ⟨vs, H1, I1, r1, q1⟩ => ?_) hs rfl))
  obtain ⟨j, e, q1, q2, q⟩ := q1
  subst e
  cases r1 with
  | cons r rr =>
    cases rr
    obtain ⟨t, rfl⟩ := r
    exact call_range_1 (range_it I1 (by (first | lia | omega)) (by (first | lia | omega)) q1 q2 (by simpa using q))
theorem pi_range2 {a b : Expr} {ta : TA} {p pos : Pos} (hg : Gl X "range") (hm : X.mg "range" = none) (ha : PA X [a, b] ta) (hs : starEach [a, b] X.env = [(false, eval a X.env), (false, eval b X.env)] := by rfl) (hs2 : starEach [b] X.env = [(false, eval b X.env)] := by rfl) :
    PI X tg (.Call (.Name "range" p) [a, b] [] pos) (iRng2 ta) := by
  intro pins s σ H R I h
  refine Call_ (ld_blt I hg hm boot_range (PyProof.Rows.callWith_type1 (thn (ha pos pins s σ H _ I h) fun us s1 ⟨vs, H1, I1, r1, q1⟩ => ?_) (by rw [hs, hs2]) (by rw [hs2]; rfl)))
  obtain ⟨i, j, e, ⟨q1, q2, q3, q4⟩, q⟩ := q1
  subst e
  cases r1 with
  | cons r rr =>
    cases rr with
    | cons r' rr =>
      cases rr
      obtain ⟨t, rfl⟩ := r
      obtain ⟨t', rfl⟩ := r'
      exact call_range_2 (range_it I1 q1 q2 q3 q4 q)

/-! ### for -/
/-- W: the invariant by the turn and a measure; N: what the body is to reach -/
def tFor (wi : TI) (g : TG) (tb : TS) : TS := fun D σ H => wi σ H fun J H1 => ∃ W : Nat → Nat → St → Hp → Prop, (∃ m, W 0 m σ H1) ∧ ∀ i m σ H, W i m σ H →
  (J.stop i H ∧ D.nx σ H) ∨ (J.go i H ∧ ∃ N : St → Hp → Prop, (∀ σ' H', N σ' H' → ∃ m', m' < m ∧ W (i + 1) m' σ' H') ∧ ∀ x H', J.yld i H x H' → g x σ H' fun σ2 H2 => tb { D with nx := N, ct := N, bk := D.nx } σ2 H2)
/-- the records at fp as they stand -/
def pinsAt (fp : List Addr) (h : Heap) : List (Addr × Obj) := fp.filterMap fun b => (h.get? b).map fun o => (b, o)
theorem mem_pinsAt {fp : List Addr} {h : Heap} {b : Addr} {o : Obj} (hb : b ∈ fp) (e : h.get? b = some o) : (b, o) ∈ pinsAt fp h := List.mem_filterMap.mpr ⟨b, hb, by rw [e]; rfl⟩
theorem of_pinsAt {fp : List Addr} {h : Heap} {p : Addr × Obj} (hp : p ∈ pinsAt fp h) : p.1 ∈ fp ∧ h.get? p.1 = some p.2 := by
  obtain ⟨b, hb, e⟩ := List.mem_filterMap.mp hp
  cases q : h.get? b with
  | none => rw [q] at e; cases e
  | some o =>
    rw [q] at e
    have e' : (b, o) = p := Option.some.inj e
    subst e'
    exact ⟨hb, q⟩
theorem Inv.pinned {pins : List (Addr × Obj)} {σ : St} {H : Hp} {s : Shared} {fp : List Addr} (I : Inv X pins σ H s) (hf : ∀ b ∈ fp, FpOk X pins H b) (ho : ∀ b ∈ fp, ∃ o, s.heap.get? b = some o ∧ ∀ v, o.data ≠ .cell v) : Inv X (pins ++ pinsAt fp s.heap) σ H s :=
  I.pins_of fun p hp => (List.mem_append.mp hp).elim (fun z => I.pin p (List.mem_append_right _ z)) fun z => by
    obtain ⟨hb, e⟩ := of_pinsAt z
    obtain ⟨f0, f1, f2, _⟩ := hf p.1 hb
    obtain ⟨o, e', d⟩ := ho p.1 hb
    rw [e] at e'; cases e'
    exact ⟨e, f0, f1, f2, d⟩
theorem Inv.unpinned {pins pl : List (Addr × Obj)} {σ : St} {H : Hp} {s : Shared} (I : Inv X (pins ++ pl) σ H s) : Inv X pins σ H s := I.pins_of fun p hp => I.pin p (List.mem_append_right _ (List.mem_append_left _ hp))
theorem ps_for {iter : Expr} {body : List Stmt} {wi : TI} {g : TG} {tb : TS} {pos : Pos} (hp : PassesOwn (model X.prog X.w) X.A X.env X.xe) (hc : X.calm = true) (hi : PI X tg iter wi) (hg : PG X tg g) (hb : PSs X body tb)
    (hs : ∀ x, foldedSetIterable iter X.env x = pure x := by intro _; rfl) : PS X (.For tg iter body [] pos) (tFor wi g tb) := by
  intro pins s σ H D I h
  refine wpAny_For (thn (hi pins s σ H _ I h) fun v s1 h1 => thn h1 fun itv s2 h2 => ?_) hs
  obtain ⟨it, fp, tn, J, H2, e, I2, T, st2, f2, W, ⟨m0, w0⟩, turn⟩ := h2
  subst e
  -- what stays true of the iterator's objects through the loop
  have stat : ∀ {H' : Hp}, (∀ b ∈ fp, H' b = none) → ∀ b ∈ fp, FpOk X pins H' b := fun hn b hb => ⟨hn b hb, (f2 b hb).2⟩
  refine codeAny_forLoop_any (fun n s' => ∃ i σ' H', Inv X pins σ' H' s' ∧ tn i s'.heap ∧ (∀ b ∈ fp, H' b = none) ∧ W i n σ' H') ?_ m0 ⟨0, σ, H2, I2, st2, fun b hb => (f2 b hb).1, w0⟩
  rintro n s3 ⟨i, σ3, H3, I3, st3, fr3, w3⟩
  rcases turn i n σ3 H3 w3 with ⟨stop, qn⟩ | ⟨go, N, hN, step⟩
  · refine wpAny_passesOwn hp (thn (T.done X rfl rfl rfl hc i pins s3 σ3 H3 X.xe I3 (stat fr3) st3 stop) fun r s4 ⟨hr, I4⟩ => ?_)
    subst hr
    exact wpAny_execs_nil ⟨σ3, H3, I4, qn⟩
  · refine wpAny_passesOwn hp (thn (T.item X rfl rfl rfl hc i pins s3 σ3 H3 X.xe I3 (stat fr3) st3 go) fun r s4 ⟨u, hr, h4⟩ => ?_)
    subst hr
    refine wpAny_passesOwn hp (thn h4 fun _ s5 ⟨x, H5, I5, r5, y5, st5, fr5⟩ => ?_)
    have I5' := I5.pinned (stat fr5) (T.obj _ _ st5)
    refine wpAny_passesOwn hp (thn (hg _ s5 σ3 H5 x u _ I5' r5 (step x H5 y5)) fun _ s6 ⟨σ6, H6, I6, q6⟩ => ?_)
    refine wpAny_passesOwn hp (thn (hb _ s6 σ6 H6 _ I6 q6) fun f s7 q7 => ?_)
    have again : ∀ {σ7 : St} {H7 : Hp}, Inv X (pins ++ pinsAt fp s5.heap) σ7 H7 s7 → N σ7 H7 → ∃ m, m < n ∧ ∃ i σ' H', Inv X pins σ' H' s7 ∧ tn i s7.heap ∧ (∀ b ∈ fp, H' b = none) ∧ W i m σ' H' := fun {σ7 H7} I7 n7 => by
      obtain ⟨m', hm, w7⟩ := hN σ7 H7 n7
      refine ⟨m', hm, i + 1, σ7, H7, I7.unpinned, T.keep _ _ _ st5 fun b hb o e => (I7.pin (b, o) (List.mem_append_right _ (List.mem_append_right _ (mem_pinsAt hb e)))).1, fun b hb => ?_, w7⟩
      obtain ⟨o, e, d⟩ := T.obj _ _ st5 b hb
      exact (I7.pin (b, o) (List.mem_append_right _ (List.mem_append_right _ (mem_pinsAt hb e)))).2.1
    cases f with
    | next => obtain ⟨σ7, H7, I7, n7⟩ := q7; exact again I7 n7
    | cont => obtain ⟨σ7, H7, I7, n7⟩ := q7; exact again I7 n7
    | brk => obtain ⟨σ7, H7, I7, q7⟩ := q7; exact ⟨σ7, H7, I7.unpinned, q7⟩
    | ret v => obtain ⟨x7, σ7, H7, I7, r7, q7⟩ := q7; exact ⟨x7, σ7, H7, I7.unpinned, r7, q7⟩
end

/-! ### the forms one uses -/
/-- over a list that the body leaves as it is -/
theorem for_list {K : PySem.W.Frag} {a : Addr} {xs : List V} {g : TG} {tb : TS} {D : Ends} {σ : St} {H : Hp} (Pv : Nat → St → Hp → Prop) (h0 : Pv 0 σ H) (hl : ∀ i σ H, i ≤ xs.length → Pv i σ H → SqL K H a xs)
    (hs : ∀ i x σ H, xs[i]? = some x → Pv i σ H → g x σ H fun σ2 H2 => tb { D with nx := Pv (i + 1), ct := Pv (i + 1), bk := D.nx } σ2 H2) (hd : ∀ σ H, Pv xs.length σ H → D.nx σ H) :
    ∃ W : Nat → Nat → St → Hp → Prop, (∃ m, W 0 m σ H) ∧ ∀ i m σ H, W i m σ H →
      ((Itl K a).stop i H ∧ D.nx σ H) ∨ ((Itl K a).go i H ∧ ∃ N : St → Hp → Prop, (∀ σ' H', N σ' H' → ∃ m', m' < m ∧ W (i + 1) m' σ' H') ∧ ∀ x H', (Itl K a).yld i H x H' → g x σ H' fun σ2 H2 => tb { D with nx := N, ct := N, bk := D.nx } σ2 H2) := by
  refine ⟨fun i m σ H => m = xs.length - i ∧ i ≤ xs.length ∧ Pv i σ H, ⟨xs.length, by simp, Nat.zero_le _, h0⟩, ?_⟩
  rintro i m σ H ⟨rfl, hi, p⟩
  have q := hl i σ H hi p
  by_cases hlt : i < xs.length
  · refine .inr ⟨⟨xs, xs[i], q, by simp [hlt]⟩, Pv (i + 1), fun σ' H' p' => ⟨xs.length - (i + 1), by (first | lia | omega), rfl, hlt, p'⟩, fun x H' y => ?_⟩
    obtain ⟨e, y⟩ := y
    subst e
    exact hs i x σ _ (y xs q) p
  · have e : i = xs.length := by (first | lia | omega)
    subst e
    exact .inl ⟨⟨xs, q, Nat.le_refl _⟩, hd σ H p⟩
theorem for_range {lo : Int} {n : Nat} {g : TG} {tb : TS} {D : Ends} {σ : St} {H : Hp} (Pv : Nat → St → Hp → Prop) (h0 : Pv 0 σ H)
    (hs : ∀ i σ H, i < n → Pv i σ H → g (.int (lo + i)) σ H fun σ2 H2 => tb { D with nx := Pv (i + 1), ct := Pv (i + 1), bk := D.nx } σ2 H2) (hd : ∀ σ H, Pv n σ H → D.nx σ H) :
    ∃ W : Nat → Nat → St → Hp → Prop, (∃ m, W 0 m σ H) ∧ ∀ i m σ H, W i m σ H →
      ((Itr lo n).stop i H ∧ D.nx σ H) ∨ ((Itr lo n).go i H ∧ ∃ N : St → Hp → Prop, (∀ σ' H', N σ' H' → ∃ m', m' < m ∧ W (i + 1) m' σ' H') ∧ ∀ x H', (Itr lo n).yld i H x H' → g x σ H' fun σ2 H2 => tb { D with nx := N, ct := N, bk := D.nx } σ2 H2) := by
  refine ⟨fun i m σ H => m = n - i ∧ i ≤ n ∧ Pv i σ H, ⟨n, by simp, Nat.zero_le _, h0⟩, ?_⟩
  rintro i m σ H ⟨rfl, hi, p⟩
  by_cases hlt : i < n
  · refine .inr ⟨hlt, Pv (i + 1), fun σ' H' p' => ⟨n - (i + 1), by (first | lia | omega), rfl, hlt, p'⟩, fun x H' y => ?_⟩
    obtain ⟨e, y⟩ := y
    subst e y
    exact hs i σ _ hlt p
  · have e : i = n := by (first | lia | omega)
    subst e
    exact .inl ⟨Nat.le_refl _, hd σ H p⟩
end L2

namespace L2
open PySem PySem.Spec PyProof.Rows

abbrev R2 := V → V → Hp → VK → Prop
/-- a two-place operation on values: f is binaryOp op, inplaceOp op or compareOp op -/
def OpR (X : Cx) (f : Value → Value → Sem Value) (r : R2) : Prop :=
  ∀ (pins : List (Addr × Obj)) (s : Shared) (σ : St) (H : Hp) (x y : V) (v u : Value) (Q : VK), Inv X pins σ H s → RelV x v → RelV y u → r x y H Q →
    wpAny (model X.prog X.w) X.A (f v u) (EP X pins σ Q) X.xe s
/-- a one-place operation -/
def UnR (X : Cx) (f : Value → Sem Value) (r : V → Hp → VK → Prop) : Prop :=
  ∀ (pins : List (Addr × Obj)) (s : Shared) (σ : St) (H : Hp) (x : V) (v : Value) (Q : VK), Inv X pins σ H s → RelV x v → r x H Q →
    wpAny (model X.prog X.w) X.A (f v) (EP X pins σ Q) X.xe s
/-- a call of a value that is known (a builtin, a type) with values -/
def CallR (X : Cx) (f : Value) (r : List V → Hp → VK → Prop) : Prop :=
  ∀ (pins : List (Addr × Obj)) (s : Shared) (σ : St) (H : Hp) (xs : List V) (us : List Value) (Q : VK), Inv X pins σ H s → Vals xs us → r xs H Q →
    wpAny (model X.prog X.w) X.A (call f us) (EP X pins σ Q) X.xe s
/-- a value's truth -/
def TruR (X : Cx) (r : V → Hp → (Bool → Hp → Prop) → Prop) : Prop :=
  ∀ (pins : List (Addr × Obj)) (s : Shared) (σ : St) (H : Hp) (x : V) (v : Value) (Q : Bool → Hp → Prop), Inv X pins σ H s → RelV x v → r x H Q →
    wpAny (model X.prog X.w) X.A (truthy v) (TP X pins σ Q) X.xe s

def tOp (r : R2) (ta tb : TE) : TE := fun σ H Q => ta σ H fun x H1 => tb σ H1 fun y H2 => r x y H2 Q
def tUn (r : V → Hp → VK → Prop) (ta : TE) : TE := fun σ H Q => ta σ H fun x H1 => r x H1 Q
/-- ints in, under C, and a value out -/
def rI (C : Int → Int → Prop) (g : Int → Int → V) : R2 := fun x y H Q => ∃ i j, x = .int i ∧ y = .int j ∧ C i j ∧ Q (g i j) H
def rI0 (g : Int → Int → V) : R2 := fun x y H Q => ∃ i j, x = .int i ∧ y = .int j ∧ Q (g i j) H
def rU (g : Int → V) : V → Hp → VK → Prop := fun x H Q => ∃ i, x = .int i ∧ Q (g i) H

section
variable {X : Cx} {a b c : Expr} {ta tb tc : TE} {pos : Pos}

theorem binT (ha : PE X a ta) (hb : PE X b tb) {pins : List (Addr × Obj)} {s : Shared} {σ : St} {H : Hp} {R : V → V → Hp → Prop} (I : Inv X pins σ H s)
    (h : ta σ H fun x H1 => tb σ H1 fun y H2 => R x y H2) {Q : Value → Shared → Prop} {f : Value → Value → Sem Value}
    (hf : ∀ v u s2 x y H2, Inv X pins σ H2 s2 → RelV x v → RelV y u → R x y H2 → wpAny (model X.prog X.w) X.A (f v u) Q X.xe s2) :
    wpAny (model X.prog X.w) X.A (eval a X.env) (fun v s₁ => wpAny (model X.prog X.w) X.A (eval b X.env) (fun u s₂ => wpAny (model X.prog X.w) X.A (f v u) Q X.xe s₂) X.xe s₁) X.xe s := by
  refine thn (ha pins s σ H _ I h) fun v s1 ⟨x, H1, I1, r1, q1⟩ => ?_
  refine thn (hb pins s1 σ H1 _ I1 q1) fun u s2 ⟨y, H2, I2, r2, q2⟩ => ?_
  exact hf v u s2 x y H2 I2 r1 r2 q2

theorem pe_op {op : Operator} {r : R2} (ho : OpR X (binaryOp op) r) (ha : PE X a ta) (hb : PE X b tb) : PE X (.BinOp a op b pos) (tOp r ta tb) := by
  intro pins s σ H Q I h
  exact wpAny_BinOp (binT ha hb I h fun v u s2 x y H2 I2 rx ry q => ho pins s2 σ H2 x y v u Q I2 rx ry q)
theorem pe_un {op : UnaryOp} {r : V → Hp → VK → Prop} (ho : UnR X (unaryOp op) r) (ha : PE X a ta) : PE X (.UnaryOp op a pos) (tUn r ta) := by
  intro pins s σ H Q I h
  exact UnaryOp_ (thn (ha pins s σ H _ I h) fun v s1 ⟨x, H1, I1, r1, q1⟩ => ho pins s1 σ H1 x v Q I1 r1 q1)
/-! ### ints -/
theorem opI {f : Value → Value → Sem Value} {C : Int → Int → Prop} {g : Int → Int → Int}
    (rule : ∀ (i j : Int) (t u : Tok) (s : Shared) (Q : Value → Shared → Prop) (E : Value → Shared → Prop), C i j → Q (.int (g i j) s.toks) { s with toks := s.toks + 1 } → wpAny (model X.prog X.w) X.A (f (.int i t) (.int j u)) Q E s) :
    OpR X f (rI C fun i j => .int (g i j)) := by
  intro pins s σ H x y v u Q I rx ry h
  obtain ⟨i, j, rfl, rfl, hc, q⟩ := h
  obtain ⟨t, rfl⟩ := rx
  obtain ⟨t', rfl⟩ := ry
  exact rule i j t t' s _ _ hc ⟨.int (g i j), H, I.tok _, ⟨_, rfl⟩, q⟩
theorem opI0 {f : Value → Value → Sem Value} {g : Int → Int → Int}
    (rule : ∀ (i j : Int) (t u : Tok) (s : Shared) (Q : Value → Shared → Prop) (E : Value → Shared → Prop), Q (.int (g i j) s.toks) { s with toks := s.toks + 1 } → wpAny (model X.prog X.w) X.A (f (.int i t) (.int j u)) Q E s) :
    OpR X f (rI0 fun i j => .int (g i j)) := by
  intro pins s σ H x y v u Q I rx ry h
  obtain ⟨i, j, rfl, rfl, q⟩ := h
  obtain ⟨t, rfl⟩ := rx
  obtain ⟨t', rfl⟩ := ry
  exact rule i j t t' s _ _ ⟨.int (g i j), H, I.tok _, ⟨_, rfl⟩, q⟩
theorem opB0 {f : Value → Value → Sem Value} {g : Int → Int → Bool}
    (rule : ∀ (i j : Int) (t u : Tok) (s : Shared) (Q : Value → Shared → Prop) (E : Value → Shared → Prop), Q (.bool (g i j)) s → wpAny (model X.prog X.w) X.A (f (.int i t) (.int j u)) Q E s) :
    OpR X f (rI0 fun i j => .bl (g i j)) := by
  intro pins s σ H x y v u Q I rx ry h
  obtain ⟨i, j, rfl, rfl, q⟩ := h
  obtain ⟨t, rfl⟩ := rx
  obtain ⟨t', rfl⟩ := ry
  exact rule i j t t' s _ _ ⟨.bl (g i j), H, I, rfl, q⟩

def CDiv (i j : Int) : Prop := 0 < j ∧ j < 1073741824
def CDivN (i j : Int) : Prop := j ≠ 0 ∧ j.natAbs < 1073741824
def CPow (i j : Int) : Prop := 0 ≤ j ∧ j ≤ 1000000 ∧ i.natAbs < 2 ^ 64
def CMul (i j : Int) : Prop := (-(2 ^ 64) < i ∧ i < 2 ^ 64) ∨ (-(2 ^ 64) < j ∧ j < 2 ^ 64)
theorem CMul.ok {i j : Int} (h : CMul i j) : IntMulOk i j := by
  rcases h with ⟨h1, h2⟩ | ⟨h1, h2⟩
  · exact .of_left (intBits_le_64 h1 h2)
  · exact .of_right (intBits_le_64 h1 h2)
theorem op_add : OpR X (binaryOp .Add) (rI0 fun i j => .int (i + j)) := opI0 fun _ _ _ _ _ _ _ q => add_int q
theorem op_sub : OpR X (binaryOp .Sub) (rI0 fun i j => .int (i - j)) := opI0 fun _ _ _ _ _ _ _ q => sub_int q
theorem op_mul : OpR X (binaryOp .Mult) (rI CMul fun i j => .int (i * j)) := opI fun _ _ _ _ _ _ _ hc q => mul_int q hc.ok
/-- // by a positive divisor -/
theorem op_fdiv : OpR X (binaryOp .FloorDiv) (rI CDiv fun i j => .int (i / j)) := opI fun i j _ _ _ _ _ hc q => by
  have h1 : (0 : Int) < j := hc.1
  have h2 : j < 1073741824 := hc.2
  exact floordiv_int (by (first | lia | omega)) (by rw [Int.fdiv_eq_ediv_of_nonneg i (by (first | lia | omega))]; exact q) (.inl (PyProof.noPylong_small (by (first | lia | omega))))
/-- % by a positive divisor of any size -/
theorem op_mod : OpR X (binaryOp .Mod) (rI (fun _ j => 0 < j) fun i j => .int (i % j)) := opI fun i j _ _ _ _ _ hc q => by
  have h1 : (0 : Int) < j := hc
  exact mod_int' (by (first | lia | omega)) (by rw [Int.fmod_eq_emod_of_nonneg i (by (first | lia | omega))]; exact q)
theorem op_pow : OpR X (binaryOp .Pow) (rI CPow fun i j => .int (i ^ j.toNat)) := opI fun _ _ _ _ _ _ _ hc q => pow_int_small hc.1 hc.2.1 hc.2.2 q
theorem unI {f : Value → Sem Value} {g : Int → Int}
    (rule : ∀ (i : Int) (t : Tok) (s : Shared) (Q : Value → Shared → Prop) (E : Value → Shared → Prop), Q (.int (g i) s.toks) { s with toks := s.toks + 1 } → wpAny (model X.prog X.w) X.A (f (.int i t)) Q E s) :
    UnR X f (rU fun i => .int (g i)) := by
  intro pins s σ H x v Q I rx h
  obtain ⟨i, rfl, q⟩ := h
  obtain ⟨t, rfl⟩ := rx
  exact rule i t s _ _ ⟨.int (g i), H, I.tok _, ⟨_, rfl⟩, q⟩
theorem un_neg : UnR X (unaryOp .USub) (rU fun i => .int (-i)) := unI fun _ _ _ _ _ q => neg_int q
/-! ### bools among ints: n += (a < b) -/
end

/-! ### comparisons -/
/-- the scalars that == tells apart as data does -/
def scal : V → V → Bool
  | .non, .non => true | .non, .int _ => true | .int _, .non => true | .non, .bl _ => true | .bl _, .non => true | .non, .str _ => true | .str _, .non => true
  | .int _, .int _ => true | .bl _, .bl _ => true | .str _, .str _ => true | .byt _, .byt _ => true
  | .int _, .str _ => true | .str _, .int _ => true | .bl _, .str _ => true | .str _, .bl _ => true
  | _, _ => false
def rEq : R2 := fun x y H Q => scal x y = true ∧ Q (.bl (decide (x = y))) H
def rNe : R2 := fun x y H Q => scal x y = true ∧ Q (.bl (!decide (x = y))) H

theorem dec_int {i j : Int} : decide (V.int i = V.int j) = (i == j) := by
  rw [Bool.eq_iff_iff]
  simp
theorem dec_bl {i j : Bool} : decide (V.bl i = V.bl j) = (i == j) := by
  rw [Bool.eq_iff_iff]
  simp
theorem dec_str {i j : Str} : decide (V.str i = V.str j) = (i == j) := by
  rw [Bool.eq_iff_iff]
  simp
theorem dec_byt {i j : Array UInt8} : decide (V.byt i = V.byt j) = (i.toList == j.toList) := by
  rw [Bool.eq_iff_iff]
  cases i
  cases j
  simp

section
variable {X : Cx} {a b c : Expr} {ta tb tc : TE} {pos : Pos}
theorem fin_bl {pins : List (Addr × Obj)} {σ : St} {H : Hp} {s : Shared} {Q : VK} {k k' : Bool} (I : Inv X pins σ H s) (q : Q (.bl k) H) (e : k = k') : EP X pins σ Q (.bool k') s := by
  subst e
  exact ⟨.bl k, H, I, rfl, q⟩
theorem op_eq : OpR X (compareOp .Eq) rEq := by
  intro pins s σ H x y v u Q I rx ry h
  obtain ⟨hs, q⟩ := h
  cases x with
  | non =>
    cases rx
    cases y with
    | non => cases ry; exact PySem.EqNone.eq_none_none (fin_bl I q (by simp))
    | bl j => cases ry; exact PySem.EqNone.eq_none_bool (fin_bl I q (by simp))
    | int j => obtain ⟨t', rfl⟩ := ry; exact PySem.EqNone.eq_none_int (fin_bl I q (by simp))
    | str j => obtain ⟨t', rfl⟩ := ry; exact PySem.EqNone.eq_none_str (fin_bl I q (by simp))
    | _ => exact absurd (show false = true from hs) Bool.false_ne_true
  | bl i =>
    cases rx
    cases y with
    | non => cases ry; exact PySem.EqNone.eq_bool_none (fin_bl I q (by simp))
    | bl j => cases ry; exact eq_bool (fin_bl I q dec_bl)
    | str j => obtain ⟨t', rfl⟩ := ry; exact PySem.EqMixed.eq_bool_str (fin_bl I q (by simp))
    | _ => exact absurd (show false = true from hs) Bool.false_ne_true
  | int i =>
    obtain ⟨t, rfl⟩ := rx
    cases y with
    | non => cases ry; exact PySem.EqNone.eq_int_none (fin_bl I q (by simp))
    | int j => obtain ⟨t', rfl⟩ := ry; exact eq_int (fin_bl I q dec_int)
    | str j => obtain ⟨t', rfl⟩ := ry; exact PySem.EqMixed.eq_int_str (fin_bl I q (by simp))
    | _ => exact absurd (show false = true from hs) Bool.false_ne_true
  | str i =>
    obtain ⟨t, rfl⟩ := rx
    cases y with
    | non => cases ry; exact PySem.EqNone.eq_str_none (fin_bl I q (by simp))
    | bl j => cases ry; exact PySem.EqMixed.eq_str_bool (fin_bl I q (by simp))
    | int j => obtain ⟨t', rfl⟩ := ry; exact PySem.EqMixed.eq_str_int (fin_bl I q (by simp))
    | str j => obtain ⟨t', rfl⟩ := ry; exact eq_str (fin_bl I q dec_str)
    | _ => exact absurd (show false = true from hs) Bool.false_ne_true
  | byt i =>
    obtain ⟨t, rfl⟩ := rx
    cases y with
    | byt j => obtain ⟨t', rfl⟩ := ry; exact PySem.W.eq_bytes (fin_bl I q dec_byt)
    | _ => exact absurd (show false = true from hs) Bool.false_ne_true
  | _ => cases y <;> exact absurd (show false = true from hs) Bool.false_ne_true
theorem op_ne : OpR X (compareOp .NotEq) rNe := by
  intro pins s σ H x y v u Q I rx ry h
  obtain ⟨hs, q⟩ := h
  cases x with
  | non =>
    cases rx
    cases y with
    | non => cases ry; exact PySem.EqNone.ne_none_none (fin_bl I q (by simp))
    | bl j => cases ry; exact PySem.EqNone.ne_none_bool (fin_bl I q (by simp))
    | int j => obtain ⟨t', rfl⟩ := ry; exact PySem.EqNone.ne_none_int (fin_bl I q (by simp))
    | str j => obtain ⟨t', rfl⟩ := ry; exact PySem.EqNone.ne_none_str (fin_bl I q (by simp))
    | _ => exact absurd (show false = true from hs) Bool.false_ne_true
  | bl i =>
    cases rx
    cases y with
    | non => cases ry; exact PySem.EqNone.ne_bool_none (fin_bl I q (by simp))
    | bl j => cases ry; exact ne_bool (fin_bl I q (congrArg not dec_bl))
    | str j => obtain ⟨t', rfl⟩ := ry; exact PySem.EqMixed.ne_bool_str (fin_bl I q (by simp))
    | _ => exact absurd (show false = true from hs) Bool.false_ne_true
  | int i =>
    obtain ⟨t, rfl⟩ := rx
    cases y with
    | non => cases ry; exact PySem.EqNone.ne_int_none (fin_bl I q (by simp))
    | int j => obtain ⟨t', rfl⟩ := ry; exact ne_int (fin_bl I q (congrArg not dec_int))
    | str j => obtain ⟨t', rfl⟩ := ry; exact PySem.EqMixed.ne_int_str (fin_bl I q (by simp))
    | _ => exact absurd (show false = true from hs) Bool.false_ne_true
  | str i =>
    obtain ⟨t, rfl⟩ := rx
    cases y with
    | non => cases ry; exact PySem.EqNone.ne_str_none (fin_bl I q (by simp))
    | bl j => cases ry; exact PySem.EqMixed.ne_str_bool (fin_bl I q (by simp))
    | int j => obtain ⟨t', rfl⟩ := ry; exact PySem.EqMixed.ne_str_int (fin_bl I q (by simp))
    | str j => obtain ⟨t', rfl⟩ := ry; exact ne_str (fin_bl I q (congrArg not dec_str))
    | _ => exact absurd (show false = true from hs) Bool.false_ne_true
  | byt i =>
    obtain ⟨t, rfl⟩ := rx
    cases y with
    | byt j => obtain ⟨t', rfl⟩ := ry; exact PySem.W.ne_bytes (fin_bl I q (congrArg not dec_byt))
    | _ => exact absurd (show false = true from hs) Bool.false_ne_true
  | _ => cases y <;> exact absurd (show false = true from hs) Bool.false_ne_true

theorem op_lt : OpR X (compareOp .Lt) (rI0 fun i j => .bl (decide (i < j))) := opB0 fun _ _ _ _ _ _ _ q => lt_int q
theorem op_le : OpR X (compareOp .LtE) (rI0 fun i j => .bl (decide (i ≤ j))) := opB0 fun _ _ _ _ _ _ _ q => le_int q
theorem op_gt : OpR X (compareOp .Gt) (rI0 fun i j => .bl (decide (j < i))) := opB0 fun _ _ _ _ _ _ _ q => gt_int q
theorem op_ge : OpR X (compareOp .GtE) (rI0 fun i j => .bl (decide (j ≤ i))) := opB0 fun _ _ _ _ _ _ _ q => ge_int q
/-- is None, is not None: the right side a value none -/
theorem op_isN : OpR X (compareOp .Is) (fun x y H Q => y = .non ∧ Q (.bl (decide (x = .non))) H) := by
  intro pins s σ H x y v u Q I rx ry h
  obtain ⟨rfl, q⟩ := h
  cases ry
  refine is_none_gen (fin_bl I q ?_)
  cases x <;> first
    | (cases rx; rfl)
    | (obtain ⟨t, rfl⟩ := rx; rfl)
theorem op_notN : OpR X (compareOp .IsNot) (fun x y H Q => y = .non ∧ Q (.bl (!decide (x = .non))) H) := by
  intro pins s σ H x y v u Q I rx ry h
  obtain ⟨rfl, q⟩ := h
  cases ry
  refine isnot_none_gen (fin_bl I q ?_)
  cases x <;> first
    | (cases rx; rfl)
    | (obtain ⟨t, rfl⟩ := rx; rfl)

/-- is, is not of two objects that are tracked lists or instances -/
def isObj : HO → Bool
  | .lst _ => true
  | .ins _ _ _ => true
  | _ => false
theorem nomark (b : Expr) {op : CmpOp} (h : op ≠ .In := by decide) (h2 : op ≠ .NotIn := by decide) : behindInMarks op b = false := by
  have e1 : (op == CmpOp.In) = false := by cases op <;> first | rfl | exact absurd rfl h
  have e2 : (op == CmpOp.NotIn) = false := by cases op <;> first | rfl | exact absurd rfl h2
  cases b <;> simp [behindInMarks, e1, e2]
/-- a comparison as a value; hm: nomark b, or (for in, not in) by with_unfolding_all rfl -/
theorem pe_cmpR {op : CmpOp} {r : R2} (ho : OpR X (compareOp op) r) (ha : PE X a ta) (hb : PE X b tb) (hm : behindInMarks op b = false) : PE X (.Compare a [op] [b] pos) (tOp r ta tb) := by
  intro pins s σ H Q I h
  exact wpAny_Compare1 (binT ha hb I h fun v u s2 x y H2 I2 rx ry q => ho pins s2 σ H2 x y v u Q I2 rx ry q) hm
/-- a reading of a value as a test -/
def tTest (t : TE) : TT := fun σ H Q => t σ H fun x H' => ∃ k, x = .bl k ∧ Q k H'
theorem pt_cmpR {op : CmpOp} {r : R2} (ho : OpR X (compareOp op) r) (ha : PE X a ta) (hb : PE X b tb) (hm : behindInMarks op b = false) : PT X (.Compare a [op] [b] pos) (tTest (tOp r ta tb)) := by
  intro pins s σ H Q I h
  refine wpAny_isTrue_Compare1 (thn (ha pins s σ H _ I h) fun v s1 ⟨x, H1, I1, r1, q1⟩ => thn (hb pins s1 σ H1 _ I1 q1) fun u s2 ⟨y, H2, I2, r2, q2⟩ =>
    thn (ho pins s2 σ H2 x y v u _ I2 r1 r2 q2) fun c s3 ⟨z, H3, I3, r3, k, e, q3⟩ => ?_) hm
  subst e
  cases r3
  exact wpAny_truthy_bool ⟨H3, I3, q3⟩
/-- a op1 b op2 c -/
def tChain (r r' : R2) (ta tb tc : TE) : TE := fun σ H Q => ta σ H fun x H1 => tb σ H1 fun y H2 => r x y H2 fun z H3 => ∃ k, z = .bl k ∧
  (if k = true then tc σ H3 fun w' H4 => r' y w' H4 Q else Q (.bl false) H3)
theorem pt_chain {op op' : CmpOp} {r r' : R2} (ho : OpR X (compareOp op) r) (ho' : OpR X (compareOp op') r') (ha : PE X a ta) (hb : PE X b tb) (hc : PE X c tc)
    (hm : lastMarks [op, op'] [b, c] = false := by with_unfolding_all rfl) : PT X (.Compare a [op, op'] [b, c] pos) (tTest (tChain r r' ta tb tc)) := by
  intro pins s σ H Q I h
  refine isTrue_chain (thn (ha pins s σ H _ I h) fun v s1 ⟨x, H1, I1, r1, q1⟩ => test_link (thn (hb pins s1 σ H1 _ I1 q1) fun u s2 ⟨y, H2, I2, r2, q2⟩ =>
    thn (ho pins s2 σ H2 x y v u _ I2 r1 r2 q2) fun d s3 ⟨z, H3, I3, r3, k, e, q3⟩ => ?_)) hm
  subst e
  cases r3
  refine wpAny_truthy_bool ?_
  cases k with
  | false =>
    obtain ⟨k', e', q'⟩ := q3
    cases e'
    exact ite_ff ⟨H3, I3, q'⟩
  | true =>
    refine ite_tt (test_last (thn (hc pins s3 σ H3 _ I3 q3) fun w' s4 ⟨z', H4, I4, r4, q4⟩ => thn (ho' pins s4 σ H4 y z' u w' _ I4 r2 r4 q4) fun d' s5 ⟨z2, H5, I5, r5, k2, e2, q5⟩ => ?_))
    subst e2
    cases r5
    exact wpAny_truthy_bool ⟨H5, I5, q5⟩

/-! ### truth -/
/-- a value's truth by the abstract heap -/
def TruV (K : PySem.W.Frag) (x : V) (H : Hp) (k : Bool) : Prop :=
  match x with
  | .non => k = false
  | .bl b => k = b
  | .int i => k = (i != 0)
  | .str y => y.length ≤ sizeLine ∧ k = ((y.length : Int) != 0)
  | .byt y => y.size ≤ sizeLine ∧ k = ((y.size : Int) != 0)
  | .ref p => (∃ xs, SqL K H p xs ∧ k = !xs.isEmpty) ∨ (∃ xs, SqT K H p xs ∧ k = !xs.isEmpty) ∨ ∃ kvs, H p = some (.dK kvs) ∧ k = !kvs.isEmpty
  | _ => False
theorem isEmpty_kv {κ : Type} {kvs : List (κ × V)} {vs : List (κ × Value)} (r : KV kvs vs) : (!vs.isEmpty) = !kvs.isEmpty := by
  cases r <;> rfl
theorem isEmpty_of {xs : List V} {its : List Value} (r : Vals xs its) : (!its.toArray.isEmpty) = !xs.isEmpty := by
  cases r <;> simp
theorem line63 : (sizeLine : Nat) < 2 ^ 63 := by rw [sizeLine_eq]; decide
theorem tru_ok : TruR X (fun x H Q => ∃ k, TruV X.K x H k ∧ Q k H) := by
  intro pins s σ H x v Q I rx h
  obtain ⟨k, e, q⟩ := h
  have hl := line63
  have hs : sizeLine = 16777216 := sizeLine_eq
  cases x with
  | non =>
    cases rx
    have e' : k = false := e
    subst e'
    exact truthy_none ⟨H, I, q⟩
  | bl b =>
    cases rx
    have e' : k = b := e
    subst e'
    exact wpAny_truthy_bool ⟨H, I, q⟩
  | int i =>
    obtain ⟨t, rfl⟩ := rx
    have e' : k = (i != 0) := e
    subst e'
    exact PySem.P.truthy_int ⟨H, I, q⟩
  | str y =>
    obtain ⟨t, rfl⟩ := rx
    obtain ⟨hy, e'⟩ : y.length ≤ sizeLine ∧ k = ((y.length : Int) != 0) := e
    subst e'
    exact PySem.P.truthy_str (by (first | lia | omega)) ⟨H, I.tok _, q⟩
  | byt y =>
    obtain ⟨t, rfl⟩ := rx
    obtain ⟨hy, e'⟩ : y.size ≤ sizeLine ∧ k = ((y.size : Int) != 0) := e
    subst e'
    exact PySem.W.truthy_bytes (by (first | lia | omega)) ⟨H, I.tok _, q⟩
  | ref p =>
    cases rx
    have e' : (∃ xs, SqL X.K H p xs ∧ k = !xs.isEmpty) ∨ (∃ xs, SqT X.K H p xs ∧ k = !xs.isEmpty) ∨ ∃ kvs, H p = some (.dK kvs) ∧ k = !kvs.isEmpty := e
    rcases e' with ⟨xs, hx, e'⟩ | ⟨xs, hx, e'⟩ | ⟨kvs, hx, e'⟩
    · subst e'
      obtain ⟨its, r, pl, hz⟩ := I.list hx
      have hlen := r.length
      exact wpAny_truthy_list pl.isList (by simp only [List.size_toArray]; (first | lia | omega)) ⟨H, I.tok _, by rw [isEmpty_of r]; exact q⟩
    · subst e'
      obtain ⟨its, r, pl, hz⟩ := I.tuple hx
      have hlen := r.length
      exact truthy_tuple pl (by simp only [List.size_toArray]; (first | lia | omega)) ⟨H, I.tok _, by rw [isEmpty_of r]; exact q⟩
    · subst e'
      obtain ⟨hz, hS, vs, r, m⟩ : kvs.length ≤ sizeLine ∧ (p == sysModules) = false ∧ ∃ vs, KV kvs vs ∧ s.heap.DictOf (mixKind X.prog X.w) p vs := I.hok p _ hx
      have hlen : kvs.length = vs.length := Paired.length r
      exact wpAny_truthy_dict hS m (by (first | lia | omega)) ⟨H, I.tok _, by rw [isEmpty_kv r]; exact q⟩
  | _ => exact (show False from e).elim
/-- any expression whose test is its value's truth (a name, a call, a subscript, a field ..: he by fun _ => rfl) -/
theorem pt_truth (ha : PE X a ta) (he : ∀ whole, isTrue a X.env whole = (do let v ← whole; standAt a.pos; holding [v] (truthy v))) :
    PT X a (fun σ H Q => ta σ H fun x H' => ∃ k, TruV X.K x H' k ∧ Q k H') := by
  intro pins s σ H Q I h
  exact isTrue_plain (thn (ha pins s σ H _ I h) fun v s1 ⟨x, H1, I1, r1, q1⟩ => tru_ok pins s1 σ H1 x v Q I1 r1 q1) (he _)

/-! ### strs and bytes -/
def PlainIxT (b : Expr) : Prop := ∀ o i, subscripted b false o i = operate [o, i] (getItem o i)
/-! ### scalar builtins, by CallR -/
theorem vals1 {x : V} {us : List Value} (r : Vals [x] us) : ∃ u, us = [u] ∧ RelV x u := by
  cases r with
  | cons r1 r2 => cases r2; exact ⟨_, rfl, r1⟩
theorem vals2 {x y : V} {us : List Value} (r : Vals [x, y] us) : ∃ u w', us = [u, w'] ∧ RelV x u ∧ RelV y w' := by
  cases r with
  | cons r1 r2 =>
    cases r2 with
    | cons r3 r4 => cases r4; exact ⟨_, _, rfl, r1, r3⟩
theorem call_max2 (hc : X.calm = true) : CallR X (.builtin "max") (fun xs H Q => ∃ i j, xs = [.int i, .int j] ∧ Q (.int (if j > i then j else i)) H) := by
  intro pins s σ H xs us Q I r h
  obtain ⟨i, j, rfl, q⟩ := h
  obtain ⟨u, w', rfl, ⟨t, rfl⟩, ⟨t', rfl⟩⟩ := vals2 r
  refine max_two_ints (I.ok.hd hc) fun h' tk k => ⟨_, H, I.kept k, ?_, q⟩
  by_cases hj : j > i
  · rw [if_pos hj, if_pos hj]; exact ⟨_, rfl⟩
  · rw [if_neg hj, if_neg hj]; exact ⟨_, rfl⟩
theorem call_min2 (hc : X.calm = true) : CallR X (.builtin "min") (fun xs H Q => ∃ i j, xs = [.int i, .int j] ∧ Q (.int (if j < i then j else i)) H) := by
  intro pins s σ H xs us Q I r h
  obtain ⟨i, j, rfl, q⟩ := h
  obtain ⟨u, w', rfl, ⟨t, rfl⟩, ⟨t', rfl⟩⟩ := vals2 r
  refine min_two_ints (I.ok.hd hc) fun h' tk k => ⟨_, H, I.kept k, ?_, q⟩
  by_cases hj : j < i
  · rw [if_pos hj, if_pos hj]; exact ⟨_, rfl⟩
  · rw [if_neg hj, if_neg hj]; exact ⟨_, rfl⟩
theorem call_int1 : CallR X (.type "int") (fun xs H Q => (∃ i, xs = [.int i] ∧ Q (.int i) H) ∨ ∃ k, xs = [.bl k] ∧ Q (.int (if k then 1 else 0)) H) := by
  intro pins s σ H xs us Q I r h
  rcases h with ⟨i, rfl, q⟩ | ⟨k, rfl, q⟩
  · obtain ⟨u, rfl, t, rfl⟩ := vals1 r
    exact call_int_int ⟨.int i, H, I, ⟨_, rfl⟩, q⟩
  · obtain ⟨u, rfl, r1⟩ := vals1 r
    cases r1
    exact call_int_bool ⟨.int (if k then 1 else 0), H, I.tok _, ⟨_, rfl⟩, q⟩
/-- len of a str, a bytes, a list, a tuple -/
def LenV (K : PySem.W.Frag) (x : V) (H : Hp) (n : Nat) : Prop :=
  match x with
  | .str y => y.length ≤ sizeLine ∧ n = y.length
  | .byt y => y.size ≤ sizeLine ∧ n = y.size
  | .ref p => (∃ xs, SqL K H p xs ∧ n = xs.length) ∨ ∃ xs, SqT K H p xs ∧ n = xs.length
  | _ => False
end
end L2

namespace L2
open PySem PySem.Spec PyProof.Rows

/-! ### an instance, its attributes a map -/
structure ObjM (h : Heap) (x dx C : Addr) (mA : Str → Option Value) : Prop where
  obj : h.get? x = some (PySem.W.instObj C dx)
  ns : h.Ns1 dx mA
  ne : dx ≠ x

theorem lookIn_ns {h : Heap} {dx : Addr} {mA : Str → Option Value} (n : h.Ns1 dx mA) : ∃ od, h.get? dx = some od ∧ ∀ name, PySem.W.lookIn name od = some (mA name) := by
  obtain ⟨o, es, ep, ho, hd, hk, _, hm⟩ := n
  refine ⟨o, ho, fun name => ?_⟩
  have e := hm name
  unfold nsFind findBy at e
  rw [← Array.find?_toList] at e
  unfold PySem.W.lookIn
  rw [hd]
  dsimp only
  split
  · rename_i y q
    rw [q] at e
    exact congrArg some e
  · rename_i q
    rw [q] at e
    have a : es.toList.any (·.refKey) = false := by
      rw [List.any_eq_false]
      intro y hy
      obtain ⟨z, t, hkey⟩ := hk y (Array.mem_toList_iff.mp hy)
      simp [DictEntry.refKey, hkey]
    have a' : ¬ es.toList.any (·.refKey) = true := by rw [a]; exact Bool.false_ne_true
    rw [if_neg a']
    exact congrArg some e

theorem ObjM.look {h : Heap} {x dx C : Addr} {mA : Str → Option Value} (I : ObjM h x dx C mA) : ∃ od, PySem.W.InstAt h x (PySem.W.instObj C dx) C (some od) ∧ ∀ name, PySem.W.lookIn name od = some (mA name) :=
  let ⟨od, ho, hl⟩ := lookIn_ns I.ns
  ⟨od, ⟨I.obj, rfl, rfl, ho⟩, hl⟩

section
variable {prog : Program} {w : World} {A : Around} {E : Value → Shared → Prop} {s : Shared} {K : PySem.W.Frag} {x dx C f : Addr} {mA : Str → Option Value} {name : Str} {v : Value}

end

/-! ### the attributes as a list of pairs -/
def putF (f : Str) (v : V) : List (Str × V) → List (Str × V)
  | [] => [(f, v)]
  | (g, x) :: r => if g = f then (g, v) :: r else (g, x) :: putF f v r
section
variable {P : Program} {w : World} {H H' : Hp} {h h' : Heap} {a C dx : Addr} {fs fs' : List (Str × V)}
theorem ins_get (hok : HOk P w H h) (e : H a = some (.ins C dx fs)) : ∃ mA, ObjM h a dx C mA ∧ (∀ f, RelO (fs.lookup f) (mA f)) ∧ PySem.Within mA (fs.map (·.1)) ∧ fs.length ≤ 1000 ∧ H dx = some (.own a) := by
  obtain ⟨d, z, ne, ob, mA, n, r, q⟩ := (show ObjOk P w H h a (.ins C dx fs) from hok a _ e)
  exact ⟨mA, ⟨ob, n, ne⟩, r, q, z, d⟩
end

/-! ### what of the text a class must have -/
structure Cls (K : PySem.W.Frag) (C : Addr) : Prop where
  pg : PySem.W.plainGet K C Str.empty = true
  hd : PySem.W.hasDictIn K C = true
  po : PySem.W.plainOver K C = true
  sa : PySem.W.findIn K (.ref C) "__setattr__" = some (some (.builtin "object.__setattr__"))
theorem Cls.get {K : PySem.W.Frag} {C : Addr} (c : Cls K C) (f : Str) : PySem.W.plainGet K C f = true := c.pg
/-- no class of it has the name -/
def NoAttr (K : PySem.W.Frag) (C : Addr) (f : Str) : Prop := PySem.W.findIn K (.ref C) f = some none
/-- a constant of the class -/
structure Con (K : PySem.W.Frag) (C : Addr) (f : Str) (v : V) (u : Value) : Prop where
  at_ : PySem.W.findIn K (.ref C) f = some (some u)
  rel : RelV v u
  get : PySem.W.specialIn K u "__get__" = some none
  cp : PySem.W.copiedNames.contains f = false
/-- a method: a plain def of the class or of one above it -/
structure Meth (K : PySem.W.Frag) (C : Addr) (m : Str) (f : Addr) : Prop where
  at_ : PySem.W.findIn K (.ref C) m = some (some (.ref f))
  fn : PySem.W.isFn K (.ref f) = true
  kp : PySem.W.keepIn K (.ref f) = true

section
variable {X : Cx} {pins : List (Addr × Obj)} {σ : St} {H : Hp} {s : Shared} {a C dx : Addr} {fs : List (Str × V)} {f : Str} {v : V} {A : Around} {E : Value → Shared → Prop}

end

/-! ### readings and rules -/
/-- e.f, an attribute of the instance -/
def tFld (K : PySem.W.Frag) (ta : TE) (f : Str) : TE := fun σ H Q => ta σ H fun x H1 => ∃ a C dx fs v, x = .ref a ∧ H1 a = some (.ins C dx fs) ∧ Cls K C ∧ NoAttr K C f ∧ fs.lookup f = some v ∧ Q v H1
/-- e.f, a constant of the class -/
def tCon (K : PySem.W.Frag) (ta : TE) (f : Str) : TE := fun σ H Q => ta σ H fun x H1 => ∃ a C dx fs v u, x = .ref a ∧ H1 a = some (.ins C dx fs) ∧ Cls K C ∧ Con K C f v u ∧ fs.lookup f = none ∧ Q v H1
/-- e.f = value -/
def sFld (K : PySem.W.Frag) (ta tv : TE) (f : Str) : TS := fun D σ H => tv σ H fun y H1 => ta σ H1 fun x H2 => ∃ a C dx fs, x = .ref a ∧ H2 a = some (.ins C dx fs) ∧ Cls K C ∧ NoAttr K C f ∧ fs.length < 1000 ∧
  D.nx σ (upd H2 a (.ins C dx (putF f y fs)))
/-- an augmented operator on two values -/
def InOp (X : Cx) (op : Operator) (rd : V → V → Hp → VK → Prop) : Prop :=
  ∀ (pins : List (Addr × Obj)) (s : Shared) (σ : St) (H : Hp) (x y : V) (u v : Value) (Q : VK), Inv X pins σ H s → RelV x u → RelV y v → rd x y H Q → wpAny (model X.prog X.w) X.A (inplaceOp op u v) (EP X pins σ Q) X.xe s
/-- e.f op= value -/
def sFldAug (K : PySem.W.Frag) (ta tv : TE) (rd : V → V → Hp → VK → Prop) (f : Str) : TS := fun D σ H => ta σ H fun x H1 => ∃ a C dx fs v, x = .ref a ∧ H1 a = some (.ins C dx fs) ∧ Cls K C ∧ NoAttr K C f ∧ fs.lookup f = some v ∧
  tv σ H1 fun y H2 => rd v y H2 fun z H3 => ∃ dx' fs', H3 a = some (.ins C dx' fs') ∧ fs'.length < 1000 ∧ D.nx σ (upd H3 a (.ins C dx' (putF f z fs')))

section
variable {X : Cx} {o e value : Expr} {f : Str} {pos pos' tpos : Pos} {ta tv : TE}
def rAdd : V → V → Hp → VK → Prop := fun x y H Q => ∃ i j, x = .int i ∧ y = .int j ∧ Q (.int (i + j)) H
def rSub : V → V → Hp → VK → Prop := fun x y H Q => ∃ i j, x = .int i ∧ y = .int j ∧ Q (.int (i - j)) H
end

/-! ### isinstance -/
section
variable {X : Cx} {pins : List (Addr × Obj)} {σ : St} {H : Hp} {s : Shared} {A : Around} {E : Value → Shared → Prop} {Q : Value → Shared → Prop} {c : Value} {b : Bool}
/-- the type of a value, as the fragment's deciders take it; for an instance its class -/
inductive TyOf (K : PySem.W.Frag) (H : Hp) : V → Value → Prop where
  | non : TyOf K H .non (.type "NoneType")
  | bl (x : Bool) : TyOf K H (.bl x) (.type "bool")
  | int (i : Int) : TyOf K H (.int i) (.type "int")
  | str (x : Str) : TyOf K H (.str x) (.type "str")
  | flt (x : UInt64) : TyOf K H (.flt x) (.type "float")
  | lst {a : Addr} {xs : List V} (e : H a = some (.lst xs)) : TyOf K H (.ref a) (.type "list")
  | frz {a : Addr} {o : Obj} {xs : List V} (e : H a = some (.frz o (.lst xs))) : TyOf K H (.ref a) (.type "list")
  | tup {a : Addr} {xs : List V} (e : H a = some (.tup xs)) : TyOf K H (.ref a) (.type "tuple")
  | dK {a : Addr} {kvs : List (Key × V)} (e : H a = some (.dK kvs)) : TyOf K H (.ref a) (.type "dict")
  | dT {a : Addr} {kvs : List (List Key × V)} (e : H a = some (.dT kvs)) : TyOf K H (.ref a) (.type "dict")
  | ins {a C dx : Addr} {fs : List (Str × V)} (e : H a = some (.ins C dx fs)) (cl : Cls K C) (ha : PySem.W.findIn K (.ref C) "__class__" = some (some (.builtin "object.__class__")))
      (hn : PySem.W.specialIn K (.builtin "object.__class__") "__get__" = some (some (.builtin "getset_descriptor.__get__"))) (htk : PySem.W.takesIn K (.builtin "object.__class__") = some true)
      (hm : PySem.W.mroIn K C (.type "object") = some true) : TyOf K H (.ref a) (.ref C)
/-- isinstance(x, c) for one class c, a built-in or an own one: kitOne's answer -/
theorem isinst_ok {x : V} {u t : Value} (I : Inv X pins σ H s) (rx : RelV x u) (ty : TyOf X.K H x t) (e : PySem.W.kitOne X.K t c = some b) (h : ∀ tk, Q (.bool b) { s with toks := tk }) :
    wpAny (model X.prog X.w) A (call (.builtin "isinstance") [u, c]) Q E s := by
  cases ty with
  | non => cases (show u = Value.none from rx); exact PySem.W.kia_one PySem.W.kitx_none I.kIn True.intro e (fun z => nomatch z) h
  | bl y => cases (show u = Value.bool y from rx); exact PySem.W.kia_one PySem.W.kitx_bool I.kIn True.intro e (fun z => nomatch z) h
  | int i => obtain ⟨t, q⟩ := (show ∃ t, u = Value.int i t from rx); cases q; exact PySem.W.kia_one PySem.W.kitx_int I.kIn True.intro e (fun z => nomatch z) h
  | str y => obtain ⟨t, q⟩ := (show ∃ t, u = Value.str y t from rx); cases q; exact PySem.W.kia_one PySem.W.kitx_str I.kIn True.intro e (fun z => nomatch z) h
  | flt y => obtain ⟨t, q⟩ := (show ∃ t, u = Value.float y t from rx); cases q; exact PySem.W.kia_one PySem.W.kitx_float I.kIn True.intro e (fun z => nomatch z) h
  | @lst a xs ea =>
    cases (show u = Value.ref a from rx)
    obtain ⟨_, _, n, _, h1⟩ := (show ObjOk X.prog X.w H s.heap a (.lst xs) from I.hok a _ ea)
    exact PySem.W.kia_one PySem.W.kitx_list I.kIn ⟨_, h1, rfl⟩ e (fun z => nomatch z) h
  | @frz a ob xs ea =>
    cases (show u = Value.ref a from rx)
    obtain ⟨_, _, _, n, _, h1⟩ := (show ObjOk X.prog X.w H s.heap a (.frz ob (.lst xs)) from I.hok a _ ea)
    exact PySem.W.kia_one PySem.W.kitx_list I.kIn ⟨_, h1, rfl⟩ e (fun z => nomatch z) h
  | @tup a xs ea =>
    cases (show u = Value.ref a from rx)
    obtain ⟨_, _, _, p⟩ := (show ObjOk X.prog X.w H s.heap a (.tup xs) from I.hok a _ ea)
    obtain ⟨o, h1, h2, _⟩ := p
    exact PySem.W.kia_one PySem.W.kitx_tuple I.kIn ⟨o, h1, h2⟩ e (fun z => nomatch z) h
  | @dK a kvs ea =>
    cases (show u = Value.ref a from rx)
    obtain ⟨_, _, vs, _, p⟩ := (show ObjOk X.prog X.w H s.heap a (.dK kvs) from I.hok a _ ea)
    obtain ⟨o, es, ep, h1, h2, _⟩ := p
    exact PySem.W.kia_one PySem.W.kitx_dict I.kIn ⟨o, h1, h2.1⟩ e (fun z => nomatch z) h
  | @dT a kvs ea =>
    cases (show u = Value.ref a from rx)
    obtain ⟨_, _, xs, _, o, es, ep, h1, h2, _⟩ := (show ObjOk X.prog X.w H s.heap a (.dT kvs) from I.hok a _ ea)
    exact PySem.W.kia_one PySem.W.kitx_dict I.kIn ⟨o, h1, h2.1⟩ e (fun z => nomatch z) h
  | @ins a C dx fs ea cl ha hn htk hm =>
    cases (show u = Value.ref a from rx)
    obtain ⟨mA, O, _⟩ := ins_get I.hok ea
    obtain ⟨od, J, _⟩ := O.look
    exact PySem.W.kia_one (PySem.W.kitx_own (cl.get _) cl.hd ha hn htk hm) I.kIn J e (fun z => nomatch z) h
end
end L2

namespace L2
open PySem PySem.Spec PyProof.Rows

/-! ### room -/
structure Room (k : Nat) (A : Around) : Prop where
  hd : A.handled = none
  dp : A.depth + 3 * k + 5 < recursionLimit
  un : A.units + 16 * k + 200 < cLine
theorem Room.mono {j k : Nat} {A : Around} (r : Room k A) (h : j ≤ k) : Room j A := ⟨r.hd, by have := r.dp; (first | lia | omega), by have := r.un; (first | lia | omega)⟩
theorem Room.deeper {k : Nat} {A : Around} (r : Room (k + 1) A) (env : Env) : Room k (A.deeper env) :=
  ⟨r.hd, by have := r.dp; show A.depth + 1 + 3 * k + 5 < _; (first | lia | omega), by have := r.un; show A.units + 3 + 16 * k + 200 < _; (first | lia | omega)⟩
theorem Room.in1 {k : Nat} {A : Around} (r : Room (k + 1) A) : Room k A.in1 :=
  ⟨r.hd, by have := r.dp; show A.depth + 3 * k + 5 < _; (first | lia | omega), by have := r.un; show A.units + 1 + 16 * k + 200 < _; (first | lia | omega)⟩
theorem Room.depth {k : Nat} {A : Around} (r : Room k A) : A.depth < recursionLimit := by have := r.dp; (first | lia | omega)
theorem Room.units {k : Nat} {A : Around} (r : Room k A) : A.units + 64 < cLine := by have := r.un; (first | lia | omega)
/-! ### argument lists and displays -/
def tNil : TA := fun _ H Q => Q [] H
def tCons (ta : TE) (tr : TA) : TA := fun σ H Q => ta σ H fun x H1 => tr σ H1 fun xs H2 => Q (x :: xs) H2
section
variable {X : Cx} {e : Expr} {es : List Expr} {te : TE} {t : TA} {pos : Pos}
theorem pa_nil : PA X [] tNil := fun _ _ _ _ H Q I h => Calls.spliced_nil ⟨[], H, I, .nil, h⟩
theorem pa_cons (ha : PE X e te) (hr : PA X es t) (hs : starEach (e :: es) X.env = (false, eval e X.env) :: starEach es X.env := by rfl) : PA X (e :: es) (tCons te t) := by
  intro pos pins s σ H Q I h
  rw [hs]
  show wpAny _ _ (spliced ((false, eval e X.env) :: backTo pos (starEach es X.env))) _ _ s
  refine Calls.spliced_cons (thn (ha pins s σ H _ I h) fun u s1 ⟨x, H1, I1, r1, q1⟩ => ?_)
  exact thn (hr pos pins s1 σ H1 _ I1 q1) fun us s2 ⟨xs, H2, I2, r2, q2⟩ => ⟨x :: xs, H2, I2, .cons r1 r2, q2⟩

/-- a tuple, a list of written items -/
def tTup (t : TA) : TE := fun σ H Q => t σ H fun xs H1 => xs.length ≤ sizeLine ∧ ∀ p, H1 p = none → Q (.ref p) (upd H1 p (.tup xs))
def tLst (t : TA) : TE := fun σ H Q => t σ H fun xs H1 => xs.length ≤ sizeLine ∧ ∀ p, H1 p = none → Q (.ref p) (upd H1 p (.lst xs))
theorem pe_tup {x1} (h : PA X es t) : PE X (.Tuple es x1 pos) (tTup t) := by
  intro pins s σ H Q I hq
  refine wpAny_Tuple_spliced (thn (h pos pins s σ H _ I hq) fun us s1 ⟨xs, H1, I1, r, z, q⟩ => ⟨by rw [← r.length]; exact z, ?_⟩)
  have hf : H1 s1.heap.objs.size = none := I1.hok.fresh (Nat.le_refl _)
  refine ⟨.ref s1.heap.objs.size, upd H1 s1.heap.objs.size (.tup xs), I1.laid (t' := s1.toks) (fun b u e => Heap.get?_push_of_some _ e) (Nat.le_refl _) ?_, rfl, q _ hf⟩
  exact ⟨z, us, r, ⟨_, Heap.get?_push_size _ rfl, rfl, _, rfl⟩⟩
theorem pe_lst (h : PA X es t) : PE X (.List es pos) (tLst t) := by
  intro pins s σ H Q I hq
  refine wpAny_List_spliced (thn (h pos pins s σ H _ I hq) fun us s1 ⟨xs, H1, I1, r, z, q⟩ => ⟨by rw [← r.length]; exact z, ?_⟩)
  have hf : H1 s1.heap.objs.size = none := I1.hok.fresh (Nat.le_refl _)
  refine ⟨.ref s1.heap.objs.size, upd H1 s1.heap.objs.size (.lst xs), I1.laid (t' := s1.toks) (fun b u e => Heap.get?_push_of_some _ e) (Nat.le_refl _) ?_, rfl, q _ hf⟩
  exact ⟨z, us, 0, r, Heap.get?_push_size _ rfl⟩
end

/-! ### what a def promises -/
/-- a def's promise: the bound arguments in the parameters' order, the heap, the wanted end, the wanted exception -/
abbrev Sp := List V → Hp → VK → XK → Prop
/-- how an exception lies behind a call (file 08 gives it): the callers' frames, abstract heap and state ahead of the call, the wish, the exception, the state -/
abbrev CXT := List Env → Hp → Shared → XK → Value → Shared → Prop

/-- the state at a call -/
structure Env0 (P : Program) (w : World) (K : PySem.W.Frag) (mg : Str → Option Value) (base : Heap) (A : Around) (outer : List Env) (s : Shared) (H : Hp) : Prop where
  frames : A.frames = some outer
  mod : Mod K mg base
  bs : ∀ b o, base.get? b = some o → s.heap.get? b = some o ∧ H b = none
  bsz : base.objs.size ≤ s.heap.objs.size
  funs : s.heap.FunFrames base outer
  frf : ∀ b ∈ frs outer, H b = none
  hok : HOk P w H s.heap
  bare : AllBare s.gens
/-- a call's end -/
def CE (outer : List Env) (P : Program) (w : World) (H : Hp) (s : Shared) (Q : VK) (u : Value) (s' : Shared) : Prop :=
  ∃ v H', s'.os = s.os ∧ AllBare s'.gens ∧ Un (frs outer) [] H H' s.heap s'.heap ∧ HOk P w H' s'.heap ∧ RelV v u ∧ Q v H'
def CR (CX : CXT) (outer : List Env) (P : Program) (w : World) (H : Hp) (s : Shared) (Q : VK) (E : XK) (r : Result) (s' : Shared) : Prop :=
  match r with
  | .ok (.ret u) => CE outer P w H s Q u s'
  | .ok _ => False
  | .error e => CX outer H s E e s'
structure FnOk (P : Program) (w : World) (K : PySem.W.Frag) (mg : Str → Option Value) (base : Heap) (CX : CXT) (k : Nat) (f : Addr) (fd : FuncData) (ps : List Str) (sp : Sp) : Prop where
  len : ∀ vs H Q E, sp vs H Q E → vs.length = ps.length
  run : ∀ (A : Around) (outer : List Env) (s : Shared) (H : Hp) (args : Args) (us : List Value) (vs : List V) (Q : VK) (E : XK), Room k A → Env0 P w K mg base A outer s H → BindsTo s fd args (ps.zip us) → Vals vs us → sp vs H Q E →
    codeAny (model P w) A (.call (.ref f) args) (CR CX outer P w H s Q E) s
theorem FnOk.mono {P : Program} {w : World} {K : PySem.W.Frag} {mg : Str → Option Value} {base : Heap} {CX : CXT} {j k : Nat} {f : Addr} {fd : FuncData} {ps : List Str} {sp : Sp} (F : FnOk P w K mg base CX j f fd ps sp) (h : j ≤ k) :
    FnOk P w K mg base CX k f fd ps sp := ⟨F.len, fun A outer s H args us vs Q E hr => F.run A outer s H args us vs Q E (hr.mono h)⟩
theorem Env0.in1 {P : Program} {w : World} {K : PySem.W.Frag} {mg : Str → Option Value} {base : Heap} {A : Around} {outer : List Env} {s : Shared} {H : Hp} (e : Env0 P w K mg base A outer s H) :
    Env0 P w K mg base A.in1 outer s H := ⟨e.frames, e.mod, e.bs, e.bsz, e.funs, e.frf, e.hok, e.bare⟩

section
variable {X : Cx} {pins : List (Addr × Obj)} {σ : St} {H : Hp} {s s' : Shared}
/-- from a body: what a callee wants -/
theorem Inv.env0 (I : Inv X pins σ H s) : Env0 X.prog X.w X.K X.mg X.base X.A X.stack s H :=
  ⟨I.ok.frames, I.ok.mod, I.bs, Nat.le_trans I.ok.bsz I.sz, I.stack, I.stkFree, I.hok, I.bare⟩
/-- behind a call -/
theorem Inv.after {Q : VK} {u : Value} (I : Inv X pins σ H s) (h : CE X.stack X.prog X.w H s Q u s') : EP X pins σ Q u s' := by
  obtain ⟨v, H', os, bare, un, hok, r, q⟩ := h
  obtain ⟨hh, g, d, t, os'⟩ := s'
  obtain rfl : os' = s.os := os
  exact ⟨v, H', I.call (h' := hh) (g' := g) (d' := d) (t' := t) (ch := []) un hok bare (fun b z => absurd z (by simp)), r, q⟩
end

/-! ### calls -/
/-- f(..): the written arguments, then the defaults dvs; E: what is wanted of an exception -/
def tCall (sp : Sp) (dvs : List V) (E : XK) (t : TA) : TE := fun σ H Q => t σ H fun vs H1 => sp (vs ++ dvs) H1 Q E
/-- o.m(..) of an instance of the class at C -/
def tMeth (C : Addr) (m : Str) (sp : Sp) (dvs : List V) (E : XK) (ta : TE) (t : TA) : TE := fun σ H Q => ta σ H fun x H1 => ∃ a dx fs, x = .ref a ∧ H1 a = some (.ins C dx fs) ∧ fs.lookup m = none ∧
  t σ H1 fun vs H2 => sp (x :: (vs ++ dvs)) H2 Q E
/-- C(..): a new instance and its dict, then __init__ -/
def tMake (C : Addr) (sp : Sp) (dvs : List V) (E : XK) (t : TA) : TE := fun σ H Q => t σ H fun vs H1 => ∀ x dx, H1 x = none → H1 dx = none → dx ≠ x →
  sp (.ref x :: (vs ++ dvs)) (upd (upd H1 dx (.own x)) x (.ins C dx [])) (fun v H2 => v = .non ∧ Q (.ref x) H2) E

/-- how the parameters are bound: us the positional arguments, kw the keywords' values by name, ds the defaults that fill up -/
def Binds (K : PySem.W.Frag) (fd : FuncData) (ps : List Str) (ds : List Value) : Prop :=
  ∀ (s : Shared) (us : List Value), K.In s.heap → (us ++ ds).length = ps.length → BindsTo s fd ⟨us, []⟩ (ps.zip (us ++ ds))
/-- every parameter is given -/
theorem Binds.all {K : PySem.W.Frag} {fd : FuncData} {ps : List Str} (h : ∀ us : List Value, us.length = ps.length → bindArgs fd ⟨us, []⟩ = pure (ps.zip us)) : Binds K fd ps [] := fun s us _ hl => by
  rw [List.append_nil] at hl ⊢
  exact .of_eq (h us hl)

/-- an exception of a callee reaches what this body wants of exceptions -/
def Passes (CX : CXT) (X : Cx) (E : XK) : Prop := ∀ (pins : List (Addr × Obj)) (σ : St) (H : Hp) (s : Shared) (e : Value) (s' : Shared), Inv X pins σ H s → CX X.stack H s E e s' → X.xe e s'

section
variable {X : Cx} {CX : CXT} {k : Nat} {f C : Addr} {fd : FuncData} {ps : List Str} {sp : Sp} {dvs : List V} {ds : List Value} {E : XK} {x m : Str} {p pos apos : Pos} {e o : Expr} {es : List Expr} {ta : TE} {t : TA}

/-- the callee runs -/
theorem run_fn {pins : List (Addr × Obj)} {σ : St} {H : Hp} {s : Shared} {Q : VK} {us : List Value} {vs : List V} (F : FnOk X.prog X.w X.K X.mg X.base CX k f fd ps sp) (hr : Room k X.A) (hb : Binds X.K fd ps ds) (hd : Vals dvs ds) (hx : Passes CX X E)
    (I : Inv X pins σ H s) (r : Vals vs us) (h : sp (vs ++ dvs) H Q E) : wpAny (model X.prog X.w) X.A (call (.ref f) us) (EP X pins σ Q) X.xe s := by
  have r2 : Vals (vs ++ dvs) (us ++ ds) := r.append hd
  have hl : (us ++ ds).length = ps.length := by rw [← r2.length]; exact F.len _ _ _ _ h
  refine wpAny_call (codeAny_mono (F.run X.A X.stack s H ⟨us, []⟩ (us ++ ds) (vs ++ dvs) Q E hr I.env0 (hb s us I.kIn hl) r2 h) fun r s' hq => ?_)
  cases r with
  | error e => exact hx pins σ H s e s' I hq
  | ok fl =>
    cases fl with
    | ret u => exact I.after hq
    | next => exact False.elim hq
    | brk => exact False.elim hq
    | cont => exact False.elim hq

theorem pe_call (F : FnOk X.prog X.w X.K X.mg X.base CX k f fd ps sp) (hr : Room k X.A) (hg : Gl X x) (hm : X.mg x = some (.ref f)) (hk : PySem.W.keepIn X.K (.ref f) = true) (hb : Binds X.K fd ps ds) (hd : Vals dvs ds) (hx : Passes CX X E)
    (ha : PA X (e :: es) t) (hdb : (x == ("__debug__" : Str)) = false := by decide) (he : starEach (e :: es) X.env = (false, eval e X.env) :: starEach es X.env := by rfl) (hpl : (backTo pos (starEach es X.env)).any (·.1) = false := by rfl) :
    PE X (.Call (.Name x p) (e :: es) [] pos) (tCall sp dvs E t) := by
  intro pins s σ H Q I h
  refine wpAny_Call_Name_kw (ld_glob I hg hm ?_ hdb)
  refine PySem.W.callWith_K (h₀ := X.base) I.ok.mod.kin hk (thn (ha pos pins s σ H _ I h) fun us s1 ⟨vs, H1, I1, r, q⟩ => ⟨I1.kIn, ?_⟩) he hpl
  exact run_fn F hr hb hd hx I1 r q
/-- what a class must have to be made -/
structure Mk (K : PySem.W.Frag) (C f : Addr) : Prop where
  makes : PySem.W.makesIn K C = true
  init : PySem.W.findIn K (.ref C) "__init__" = some (some (.ref f))
  fn : PySem.W.isFn K (.ref f) = true
  kp : PySem.W.keepIn K (.ref C) = true

end

/-! ### keywords -/
/-- the values of the keywords, from the left -/
def PK (X : Cx) (kws : List Keyword) (t : TA) : Prop :=
  ∀ (pos : Pos) (pins : List (Addr × Obj)) (s : Shared) (σ : St) (H : Hp) (Q : List V → Hp → Prop), Inv X pins σ H s → t σ H Q → wpAny (model X.prog X.w) X.A (evalAll ((backToKw pos (keywordEach kws X.env)).map (·.2))) (AP X pins σ Q) X.xe s
section
variable {X : Cx} {CX : CXT} {k : Nat} {f C : Addr} {fd : FuncData} {ps ks : List Str} {sp : Sp} {E : XK} {x m : Str} {p pos apos kpos : Pos} {e o : Expr} {es : List Expr} {kws : List Keyword} {te ta : TE} {t tk : TA} {nm : Option Str}
theorem pk_nil : PK X [] tNil := fun _ _ _ _ H Q I h => wpAny_evalAll_nil ⟨[], H, I, .nil, h⟩
theorem pk_cons (ha : PE X e te) (hr : PK X kws t) : PK X (⟨nm, e, kpos⟩ :: kws) (tCons te t) := by
  intro pos pins s σ H Q I h
  show wpAny _ _ (evalAll ((do let v ← eval e X.env; standAt pos; pure v) :: (backToKw pos (keywordEach kws X.env)).map (·.2))) _ _ s
  refine wpAny_evalAll_cons (wpAny_bind (thn (ha pins s σ H _ I h) fun u s1 ⟨x, H1, I1, r1, q1⟩ => wpAny_bind (wpAny_standAt (wpAny_pure ?_))))
  exact thn (hr pos pins s1 σ H1 _ I1 q1) fun us s2 ⟨xs, H2, I2, r2, q2⟩ => ⟨x :: xs, H2, I2, .cons r1 r2, q2⟩

/-- how a call with keywords binds: g puts the positional values us and the keywords' values ws (names ks) in the parameters' order, defaults among them -/
structure KBinds (K : PySem.W.Frag) (fd : FuncData) (ps ks : List Str) (g : List Value → List Value → List Value) (gV : List V → List V → List V) : Prop where
  to : ∀ (s : Shared) (us ws : List Value), K.In s.heap → (g us ws).length = ps.length → BindsTo s fd ⟨us, ks.zip ws⟩ (ps.zip (g us ws))
  rel : ∀ {vs : List V} {us : List Value} {zs : List V} {ws : List Value}, Vals vs us → Vals zs ws → Vals (gV vs zs) (g us ws)
def tCallK (sp : Sp) (gV : List V → List V → List V) (E : XK) (t tk : TA) : TE := fun σ H Q => t σ H fun vs H1 => tk σ H1 fun zs H2 => sp (gV vs zs) H2 Q E
variable {g : List Value → List Value → List Value} {gV : List V → List V → List V}
end

/-! ### a def's body keeps its promise -/
/-- names: the parameters first -/
structure FnScope (N P : List Str) (sc : Scope) : Prop where
  kind : sc.kind = .function
  co : sc.isCoroutine = false
  gen : sc.isGenerator = false
  nd : N.Nodup
  pre : N.take P.length = P
  par : ∀ x ∈ P, sc.names.lookup x = some .local ∨ sc.names.lookup x = some .cell
  nofree : ∀ y ∈ sc.names, y.2 ≠ .free

theorem bindL_out {kindOf : Str → Option NameKind} {x : Str} : ∀ {binds : List (Str × Value)} {m : Str → Option Value}, (∀ v, (x, v) ∉ binds) → bindL kindOf binds m x = m x
  | [], _, _ => rfl
  | (n, v) :: r, m, h => by
    unfold bindL
    rw [bindL_out fun w hw => h w (List.mem_cons_of_mem _ hw)]
    split
    · have : x ≠ n := by rintro rfl; exact h v List.mem_cons_self
      simp [this]
    · rfl
theorem bindC_out {kindOf : Str → Option NameKind} {x : Str} : ∀ {binds : List (Str × Value)} {m : Str → Option Value}, (∀ v, (x, v) ∉ binds) → bindC kindOf binds m x = m x
  | [], _, _ => rfl
  | (n, v) :: r, m, h => by
    unfold bindC
    rw [bindC_out fun w hw => h w (List.mem_cons_of_mem _ hw)]
    split
    · rfl
    · have : x ≠ n := by rintro rfl; exact h v List.mem_cons_self
      simp [this]
theorem bindL_get {kindOf : Str → Option NameKind} {x : Str} {v : Value} : ∀ {P : List Str} {vs : List Value} {i : Nat} {m : Str → Option Value}, P.Nodup → P[i]? = some x → vs[i]? = some v → kindOf x = some .local →
    bindL kindOf (P.zip vs) m x = some v
  | [], _, _, _, _, h, _, _ => by simp at h
  | _ :: _, [], _, _, _, _, h, _ => by simp at h
  | p :: P, w :: vs, 0, m, nd, h1, h2, hk => by
    simp at h1 h2; subst h1; subst h2
    show bindL kindOf ((p, w) :: P.zip vs) m p = _
    unfold bindL
    rw [bindL_out fun v hv => (List.nodup_cons.mp nd).1 (List.of_mem_zip hv).1, if_pos hk]
    simp
  | p :: P, w :: vs, i + 1, m, nd, h1, h2, hk => by
    show bindL kindOf ((p, w) :: P.zip vs) m x = _
    unfold bindL
    exact bindL_get (i := i) (List.nodup_cons.mp nd).2 (by simpa using h1) (by simpa using h2) hk
theorem bindC_get {kindOf : Str → Option NameKind} {x : Str} {v : Value} : ∀ {P : List Str} {vs : List Value} {i : Nat} {m : Str → Option Value}, P.Nodup → P[i]? = some x → vs[i]? = some v → kindOf x ≠ some .local →
    bindC kindOf (P.zip vs) m x = some v
  | [], _, _, _, _, h, _, _ => by simp at h
  | _ :: _, [], _, _, _, _, h, _ => by simp at h
  | p :: P, w :: vs, 0, m, nd, h1, h2, hk => by
    simp at h1 h2; subst h1; subst h2
    show bindC kindOf ((p, w) :: P.zip vs) m p = _
    unfold bindC
    rw [bindC_out fun v hv => (List.nodup_cons.mp nd).1 (List.of_mem_zip hv).1, if_neg hk]
    simp
  | p :: P, w :: vs, i + 1, m, nd, h1, h2, hk => by
    show bindC kindOf ((p, w) :: P.zip vs) m x = _
    unfold bindC
    exact bindC_get (i := i) (List.nodup_cons.mp nd).2 (by simpa using h1) (by simpa using h2) hk

/-- the names' values at the entry -/
def start (N : List Str) (vs : List V) : St := vs.map some ++ List.replicate (N.length - vs.length) none

/-- the context of a def's body, at its entry; an exception leaves the frame, then lies as CX says -/
def cxOf (CX : CXT) (P : Program) (w : World) (K : PySem.W.Frag) (mg : Str → Option Value) (base : Heap) (N : List Str) (qual : Str) (scope : Scope) (f : Addr) (cd : Value) (A : Around) (outer : List Env) (s : Shared) (H : Hp) (E : XK) : Cx where
  prog := P
  w := w
  K := K
  mg := mg
  base := base
  A := A.deeper (envOfC qual scope s.heap.objs.size f cd)
  N := N
  s₀ := s
  H₀ := H
  env := envOfC qual scope s.heap.objs.size f cd
  outer := outer
  stack := envOfC qual scope s.heap.objs.size f cd :: outer
  ex := []
  calm := true
  fn := fun _ => true
  pn := []
  xe := fun e s' => wpAny (model P w) (A.deeper (envOfC qual scope s.heap.objs.size f cd)) (leaving (envOfC qual scope s.heap.objs.size f cd) e) (fun _ s'' => CX outer H s E e s'') (fun e' s'' => CX outer H s E e' s'') s'

theorem cell_has {sc : Scope} {n : Nat} {x : Str} (h : sc.names.lookup x = some .cell) : ∃ c, (cellsFrom n sc.names []).lookup x = some c := by
  have q := PySem.W.cellsFrom_some sc.names n [] (.inl h)
  exact Option.isSome_iff_exists.mp q

theorem inv_start {CX : CXT} {P : Program} {w : World} {K : PySem.W.Frag} {mg : Str → Option Value} {base : Heap} {N ps : List Str} {qual : Str} {scope : Scope} {f : Addr} {cd : Value} {A : Around} {outer : List Env} {s s1 : Shared} {H : Hp} {E : XK} {us : List Value} {vs : List V}
    (S : FnScope N ps scope) (hd : A.handled = none) (e0 : Env0 P w K mg base A outer s H) (hl : vs.length = ps.length) (r : Vals vs us)
    (x : InCallC s s.heap.objs.size (bindL (envOfC qual scope s.heap.objs.size f cd).kindOf (ps.zip us) fun _ => none) (cellsFrom (s.heap.objs.size + 1) scope.names []) (bindC (envOfC qual scope s.heap.objs.size f cd).kindOf (ps.zip us) fun _ => none) s1) :
    Inv (cxOf CX P w K mg base N qual scope f cd A outer s H E) [] (start N vs) H s1 := by
  have hpl : ps.length ≤ N.length := by have := congrArg List.length S.pre; rw [List.length_take] at this; (first | lia | omega)
  obtain ⟨h1, tk, rfl, hk⟩ := x.done
  have noA : ∀ b : Addr, b ∉ (cxOf CX P w K mg base N qual scope f cd A outer s H E).ex := fun b z => absurd (show b ∈ ([] : List Addr) from z) (by simp)
  refine ⟨⟨e0.mod, S.kind, rfl, rfl, Nat.le_refl _, fun y z c h1 h2 => ?_, fun y hy => ?_, fun y c _ h => ?_, fun _ => hd, Around.frames_deeper e0.frames, .inr ⟨rfl, rfl⟩, fun b z => absurd z (noA b), e0.bs, e0.bsz, fun b _ _ => noA b, fun b z => absurd z (noA b), e0.funs, e0.frf⟩,
    rfl, e0.bare, Un.kept hk, ⟨_, x.toInCall.ns, fun i y v h1 h2 h3 => ?_⟩, fun y c h => ⟨_, x.cell y c h⟩, e0.hok.fresh (Nat.le_refl _), fun y c h => ?_, fun p hp => absurd (show p ∈ ([] : List (Addr × Obj)) from hp) (by simp), e0.hok.kept hk, ?_⟩
  · exact name_of_addr x.apart (PySem.mem_of_lookup h1) (PySem.mem_of_lookup h2)
  · have hy : scope.names.lookup y = some .cell ∨ scope.names.lookup y = some .free := hy
    rcases hy with hy | hy
    · exact cell_has hy
    · exact absurd rfl (S.nofree _ (PySem.mem_of_lookup hy))
  · exact Nat.le_of_lt (x.above y c (PySem.mem_of_lookup h))
  · have hi : i < vs.length := by
      unfold start at h2
      by_cases hi : i < vs.length
      · exact hi
      · rw [List.getElem?_append_right (by simpa using hi)] at h2
        rw [List.getElem?_replicate] at h2
        split at h2 <;> cases h2
    have ha : vs[i]? = some v := by
      unfold start at h2
      rw [List.getElem?_append_left (by simpa using hi), List.getElem?_map] at h2
      cases e : vs[i]? with
      | none => rw [e] at h2; cases h2
      | some a => rw [e] at h2; cases h2; rfl
    obtain ⟨u, hu, rv⟩ := r.get ha
    have hp : ps[i]? = some y := by
      rw [← S.pre, List.getElem?_take_of_lt (by (first | lia | omega))]; exact h1
    have ndP : ps.Nodup := by rw [← S.pre]; exact S.nd.sublist (List.take_sublist _ _)
    refine ⟨u, rv, ?_⟩
    rcases S.par y (List.mem_of_getElem? hp) with k | k
    · exact .inl ⟨k, bindL_get ndP hp hu k⟩
    · obtain ⟨c, e⟩ := cell_has (n := s.heap.objs.size + 1) k
      refine .inr ⟨.inl k, c, e, ?_⟩
      have q := x.cell y c e
      rw [bindC_get ndP hp hu (by show scope.names.lookup y ≠ _; rw [k]; decide)] at q
      exact q
  · exact e0.hok.fresh (Nat.le_of_lt (x.above y c (PySem.mem_of_lookup h)))
  · unfold start
    show _ = N.length
    rw [List.length_append, List.length_map, List.length_replicate]
    (first | lia | omega)

/-- THE RULE: a def (or a method) of the text, by its body. The body's reading t is chosen for each entry; it is run at the parameters' values -/
theorem fn_of {CX : CXT} {P : Program} {w : World} {K : PySem.W.Frag} {mg : Str → Option Value} {base : Heap} {k : Nat} {f : Addr} {name qual : Str} {params : Arguments} {body : List Stmt} {scope : Scope} {dV kV doc pm cdv ct oc : Value} {an od : Option Addr}
    {osl : Array (Option Value)} {N ps : List Str} {sp : Sp} (lk : K.lookup f = some ⟨oc, od, .func (PySem.W.fnOf name qual params body scope dV kV doc pm an cdv ct), osl⟩) (hcd : PySem.W.codeIn K cdv qual = true) (S : FnScope N ps scope)
    (len : ∀ vs H Q E, sp vs H Q E → vs.length = ps.length)
    (hbody : ∀ (A : Around) (outer : List Env) (s : Shared) (H : Hp) (vs : List V) (Q : VK) (E : XK), Room k (A.deeper (envOfC qual scope s.heap.objs.size f cdv)) → sp vs H Q E →
      ∃ t, PSs (cxOf CX P w K mg base N qual scope f cdv A outer s H E) body t ∧ t { nx := fun _ H' => Q .non H', rt := Q } (start N vs) H) :
    FnOk P w K mg base CX (k + 1) f (PySem.W.fnOf name qual params body scope dV kV doc pm an cdv ct) ps sp := by
  refine ⟨len, fun A outer s H args us vs Q E hr e0 hb r hsp => ?_⟩
  have hl := len _ _ _ _ hsp
  have KX : K.In s.heap := e0.mod.kin.keeps fun b o e => (e0.bs b o e).1
  have lim : s.heap.NoLimit := e0.mod.nolimit.keeps fun b o e => (e0.bs b o e).1
  have hkind : ∀ y ∈ ps.zip us, scope.names.lookup y.1 = some .local ∨ (scope.names.lookup y.1 = some .cell ∧ ((cellsFrom (s.heap.objs.size + 1) scope.names []).lookup y.1).isSome = true) := fun ⟨n, v⟩ hy => by
    rcases S.par n (List.of_mem_zip hy).1 with q | q
    · exact .inl q
    · exact .inr ⟨q, PySem.W.cellsFrom_some _ _ _ (.inl q)⟩
  refine codeAny_call_function hr.depth (KX _ _ lk) rfl S.co S.gen rfl (PySem.W.codeRec_of KX hcd) (hb _ _ _ _ ?_)
  refine wpAny_newFunctionEnv_cells S.kind hkind fun env he s1 x => ?_
  subst he
  refine ⟨lim.keeps x.toInCall.keep, codeAny_func ?_⟩
  obtain ⟨t, ht, hq⟩ := hbody A outer s H vs Q E (hr.deeper _) hsp
  have I : Inv (cxOf CX P w K mg base N qual scope f cdv A outer s H E) [] (start N vs) H s1 := inv_start S hr.hd e0 hl r x
  refine wpAny_mono (ht [] s1 (start N vs) H _ I hq) (fun fl s' hs => ?_) fun e s' hs => hs
  have fin : ∀ {σ' : St} {H' : Hp} {v : V} {u : Value}, Inv (cxOf CX P w K mg base N qual scope f cdv A outer s H E) [] σ' H' s' → RelV v u → Q v H' → CE outer P w H s Q u s' :=
    fun {σ' H' v u} J rv q => ⟨v, H', J.os, J.bare, J.base, J.hok, rv, q⟩
  cases fl with
  | ret u =>
    obtain ⟨v, σ', H', J, rv, q⟩ := hs
    exact fin J rv q
  | next =>
    obtain ⟨σ', H', J, q⟩ := hs
    exact fin (v := V.non) (u := Value.none) J rfl q
  | brk =>
    obtain ⟨_, _, _, q⟩ := hs
    exact False.elim q
  | cont =>
    obtain ⟨_, _, _, q⟩ := hs
    exact False.elim q
end L2

namespace L2
open PySem PySem.Spec PyProof.Rows
section
variable {X : Cx} {x : Str} {p pos : Pos} {e : Expr} {es : List Expr} {t : TA} {id T : String} {r : List V → Hp → VK → Prop}

def tCB (r : List V → Hp → VK → Prop) (t : TA) : TE := fun σ H Q => t σ H fun vs H1 => r vs H1 Q
/-- f(e, ..), f a built-in function -/
theorem pe_callB (hc : CallR X (.builtin id) r) (hg : Gl X x) (hm : X.mg x = none) (hv : bootBuiltins x = some (.builtin id)) (ha : PA X (e :: es) t) (hn : x ≠ "__name__" := by decide) (hdb : (x == ("__debug__" : Str)) = false := by decide)
    (he : starEach (e :: es) X.env = (false, eval e X.env) :: starEach es X.env := by rfl) (hpl : (backTo pos (starEach es X.env)).any (·.1) = false := by rfl) : PE X (.Call (.Name x p) (e :: es) [] pos) (tCB r t) := by
  intro pins s σ H Q I h
  refine wpAny_Call_Name_kw (ld_blt I hg hm hv ?_ hn hdb)
  exact PyProof.Rows.callWith_builtin1 (thn (ha pos pins s σ H _ I h) fun us s1 ⟨vs, H1, I1, r1, q1⟩ => hc pins s1 σ H1 vs us Q I1 r1 q1) he hpl
/-- T(e, ..), T a built-in type -/
theorem pe_callTy (hc : CallR X (.type T) r) (hg : Gl X x) (hm : X.mg x = none) (hv : bootBuiltins x = some (.type T)) (ha : PA X (e :: es) t) (hn : x ≠ "__name__" := by decide) (hdb : (x == ("__debug__" : Str)) = false := by decide)
    (he : starEach (e :: es) X.env = (false, eval e X.env) :: starEach es X.env := by rfl) (hpl : (backTo pos (starEach es X.env)).any (·.1) = false := by rfl) : PE X (.Call (.Name x p) (e :: es) [] pos) (tCB r t) := by
  intro pins s σ H Q I h
  refine wpAny_Call_Name_kw (ld_blt I hg hm hv ?_ hn hdb)
  exact PyProof.Rows.callWith_type1 (thn (ha pos pins s σ H _ I h) fun us s1 ⟨vs, H1, I1, r1, q1⟩ => hc pins s1 σ H1 vs us Q I1 r1 q1) he hpl
end
end L2

namespace HT
open PySem PyProof.Rows

/-- t < u of tuples of ints -/
def lexLt : List Int → List Int → Bool
  | [], [] => false
  | [], _ :: _ => true
  | _ :: _, [] => false
  | x :: xs, y :: ys => if x = y then lexLt xs ys else decide (x < y)
theorem lexLt_cons (x y : Int) (xs ys : List Int) : lexLt (x :: xs) (y :: ys) = if x = y then lexLt xs ys else decide (x < y) := rfl
theorem lexLt_nil_nil : lexLt [] [] = false := rfl
theorem lexLt_nil_cons (y : Int) (ys : List Int) : lexLt [] (y :: ys) = true := rfl
theorem lexLt_cons_nil (x : Int) (xs : List Int) : lexLt (x :: xs) [] = false := rfl

theorem eqAt_int (A : Around) (s : Shared) (a : Int) (t : Tok) (c : Int) (u : Tok) : ∃ e, SeqAt.EqAt A s (.int a t) (.int c u) e ∧ (e = true ↔ a = c) :=
  ⟨(a == c), SeqAt.EqAt.int_int a t c u, by simp⟩
theorem rcLt_int (A : Around) (s : Shared) (a : Int) (t : Tok) (c : Int) (u : Tok) (prog : Program) (w : World) (E : Value → Shared → Prop) (Q : Value → Shared → Prop) (h : Q (.bool (decide (a < c))) s) :
    wpAny (model prog w) A (richCompare .Lt (.int a t) (.int c u)) Q E s :=
  (PyProof.Rows.lt_int h : wpAny (model prog w) A (compareOp .Lt (.int a t) (.int c u)) Q E s)

section
open PySem.SeqAt
open PySem.AutoSeq1 (wpAny_loadPart')
open PySem.MeetsSeq PySem.MeetsSeq2 PySem.MeetsSeq3

theorem tuple_lt_ints (l b : Addr) (items items2 : Array Value) (n n2 : Nat) (dd dd2 : Option Addr) (sl sl2 : Array (Option Value)) (ns ms : List Int) (hi : IntsAre items.toList ns) (hj : IntsAre items2.toList ms) :
    Meets (Builtin.«tuple.__lt__» ⟨[.ref l, .ref b], []⟩)
      (fun _ R s => s.heap.get? l = some { cls := .type "tuple", dict := dd, data := .seq items n, slots := sl } ∧ s.heap.get? b = some { cls := .type "tuple", dict := dd2, data := .seq items2 n2, slots := sl2 } ∧
        R (.ok (.ret (.bool (lexLt ns ms)))) s) :=
  .of_wp fun prog w A R s h => by
    obtain ⟨hp, g, d, tk, os⟩ := s; obtain ⟨hl, hb, h⟩ := h
    have f2 := AutoSeq1.sub_tuple_tuple
    have z1 : items.size = ns.length := by rw [← hi.length]; simp
    have z2 : items2.size = ms.length := by rw [← hj.length]; simp
    wp_walk using wpAny_loadPart' hl, wpAny_loadPart' hb, wpAny_forIn_list _ (fun rest b s' => b.1 = none ∧ s' = ⟨hp, g, d, tk, os⟩ ∧ ∃ (vs ws : List Value) (ns' ms' : List Int), rest = vs.zip ws ∧
      IntsAre vs ns' ∧ IntsAre ws ms' ∧ ns'.length + items2.size = ms'.length + items.size ∧ R (.ok (.ret (.bool (lexLt ns' ms')))) ⟨hp, g, d, tk, os⟩) _
    case turn =>
      rintro ⟨y, x⟩ rest b s' ⟨hb', rfl, vs, ws, ns', ms', hz, hvi, hwi, hlen, hR⟩
      cases hvi with
      | nil => rw [List.zip_nil_left] at hz; cases hz
      | cons a t hvi' =>
        cases hwi with
        | nil => rw [List.zip_nil_right] at hz; cases hz
        | cons c u hwi' =>
          rw [List.zip_cons_cons] at hz
          injection hz with hyx hrest
          injection hyx with hy hx
          subst hy hx
          rw [lexLt_cons] at hR
          simp only [List.length_cons] at hlen
          obtain ⟨e, he, hiff⟩ := eqAt_int A.in1 ⟨hp, g, d, tk, os⟩ a t c u
          refine wpAny_bind (he prog w _ _ ?_)
          cases e with
          | true =>
            rw [if_pos (hiff.mp rfl)] at hR
            wp_walk
            exact ⟨rfl, rfl, _, _, _, _, hrest, hvi', hwi', by (first | lia | omega), hR⟩
          | false =>
            rw [if_neg (fun q => absurd (hiff.mpr q) Bool.false_ne_true)] at hR
            have hri := rcLt_int A.in1 ⟨hp, g, d, tk, os⟩ a t c u prog w
            wp_walk using hri
            exact ⟨_, rfl, by simpa using hR⟩
    case fin =>
      rintro ⟨b1, b2⟩ s' ⟨hb', rfl, vs, ws, ns', ms', hz, hvi, hwi, hlen, hR⟩
      simp only at hb'
      subst hb'
      have hv : lexLt ns' ms' = decide (items.size < items2.size) := by
        cases hvi with
        | nil =>
          cases hwi with
          | nil =>
            simp only [List.length_nil] at hlen
            rw [lexLt_nil_nil]
            exact (decide_eq_false (by (first | lia | omega))).symm
          | cons c u hw =>
            simp only [List.length_nil, List.length_cons] at hlen
            rw [lexLt_nil_cons]
            exact (decide_eq_true (by (first | lia | omega))).symm
        | cons a t hv =>
          cases hwi with
          | nil =>
            simp only [List.length_nil, List.length_cons] at hlen
            rw [lexLt_cons_nil]
            exact (decide_eq_false (by (first | lia | omega))).symm
          | cons c u hw =>
            rw [List.zip_cons_cons] at hz
            cases hz
      rw [hv] at hR
      wp_walk
      exact ⟨_, rfl, by simpa [Builtin.Tuple.tupleCompareSizes] using hR⟩
    case h =>
      exact ⟨rfl, rfl, items.toList, items2.toList, ns, ms, rfl, hi, hj, by (first | lia | omega), h⟩
end

section
variable {prog : Program} {w : World} {A : Around} {E : Value → Shared → Prop} {s : Shared}

theorem lt_tupInts {l b : Addr} {items items2 : Array Value} {ns ms : List Int} {Q : Value → Shared → Prop} (hl : IsTup s.heap l items) (hb : IsTup s.heap b items2) (hi : IntsAre items.toList ns) (hj : IntsAre items2.toList ms)
    (hu : A.units < cLine) (h : Q (.bool (lexLt ns ms)) s) : wpAny (model prog w) A (compareOp .Lt (.ref l) (.ref b)) Q E s := by
  obtain ⟨⟨cls, dd, data, sl⟩, ho, hc, n, hd⟩ := id hl
  obtain ⟨⟨cls2, dd2, data2, sl2⟩, ho2, hc2, n2, hd2⟩ := id hb
  simp only at hc hd hc2 hd2
  subst hc hd hc2 hd2
  exact richCompare_meets_room (op := .Lt) ⟨_, ho, rfl⟩ ⟨_, ho2, rfl⟩ PySem.F.slot_tuple_lt PySem.F.entry_tuple_lt (PySem.F.args_tuple_lt_2 _ _) (tuple_lt_ints l b items items2 n n2 dd dd2 sl sl2 ns ms hi hj)
    ⟨ho, ho2, show Value.bool (lexLt ns ms) ≠ Value.notImplemented ∧ Q (.bool (lexLt ns ms)) s from ⟨(fun x => nomatch x), h⟩⟩ hu

/-! ### t[a:b], not the whole -/
/-- a slice's bound as a place among n (d where it is left out) -/
def sIx (n d : Nat) : Option Int → Nat
  | none => d
  | some v => if v < 0 then (v + (n : Int)).toNat else min v.toNat n
theorem sIx_none (n d : Nat) : sIx n d none = d := rfl
theorem sIx_nat (n d k : Nat) : sIx n d (some (k : Int)) = min k n := by
  show (if (k : Int) < 0 then ((k : Int) + (n : Int)).toNat else min (k : Int).toNat n) = min k n
  rw [if_neg (by (first | lia | omega)), Int.toNat_natCast]
end
end HT

namespace L2
open PySem PySem.Spec PyProof.Rows

/-! ### the parts of a slice -/
abbrev TO := St → Hp → (Option Int → Hp → Prop) → Prop
/-- a slice's part (left out, or an int) -/
def PO (X : Cx) (e : Option Expr) (t : TO) : Prop :=
  ∀ (pins : List (Addr × Obj)) (s : Shared) (σ : St) (H : Hp) (Q : Option Int → Hp → Prop), Inv X pins σ H s → t σ H Q →
    wpAny (model X.prog X.w) X.A (evalPart e X.env) (fun u s' => ∃ o H', Inv X pins σ H' s' ∧ IsPart u o ∧ Q o H') X.xe s
def tNoPart : TO := fun _ H Q => Q none H
def tPart (t : TE) : TO := fun σ H Q => t σ H fun x H1 => ∃ i, x = .int i ∧ Q (some i) H1

theorem intsAre_of {ns : List Int} : ∀ {us : List Value}, Vals (ns.map V.int) us → IntsAre us ns := by
  induction ns with
  | nil => intro us r; rw [List.map_nil] at r; cases r; exact .nil
  | cons n ns ih =>
    intro us r
    rw [List.map_cons] at r
    cases r with
    | cons r1 r2 =>
      obtain ⟨t, e⟩ := r1
      subst e
      exact .cons n t (ih r2)

section
variable {X : Cx} {e : Expr} {te : TE} {lo hi : Option Expr} {tl th : TO} {pos p2 : Pos}

theorem po_none : PO X none tNoPart := by
  intro pins s σ H Q I h
  rw [evalPart_none]
  exact wpAny_pure ⟨none, H, I, .none, h⟩
theorem po_some (h : PE X e te) : PO X (some e) (tPart te) := by
  intro pins s σ H Q I hw
  rw [evalPart_some]
  refine thn (h pins s σ H _ I hw) fun u s1 ⟨x, H1, I1, r1, q1⟩ => ?_
  obtain ⟨i, rfl, q⟩ := q1
  obtain ⟨t, rfl⟩ := r1
  exact ⟨some i, H1, I1, .int i t, q⟩

/-- what a slice of a value is, by values: the slice object stands at sl -/
def SlR (X : Cx) (r : V → Option Int → Option Int → Hp → VK → Prop) : Prop :=
  ∀ (pins : List (Addr × Obj)) (s : Shared) (σ : St) (H : Hp) (x : V) (v vl vu : Value) (lo hi : Option Int) (sl : Addr) (Q : VK), Inv X pins σ H s → RelV x v → s.heap.IsSliceOf sl vl vu .none → IsPart vl lo → IsPart vu hi → r x lo hi H Q →
    ∃ T id, typeLookup (.type T) "__getitem__" = pure (some (.builtin id)) ∧ s.TypeIs v T ∧ wpAny (model X.prog X.w) X.A (getItem v (.ref sl)) (EP X pins σ Q) X.xe s
def tSl (r : V → Option Int → Option Int → Hp → VK → Prop) (te : TE) (tl th : TO) : TE := fun σ H Q => te σ H fun x H1 => tl σ H1 fun l H2 => th σ H2 fun u H3 => r x l u H3 Q
/-- a[lo:hi], any a -/
theorem pe_slice {r : V → Option Int → Option Int → Hp → VK → Prop} (hr : SlR X r) (he : PE X e te) (hl : PO X lo tl) (hu : PO X hi th) : PE X (.Subscript e (.Slice lo hi none p2) pos) (tSl r te tl th) := by
  intro pins s σ H Q I h
  refine Subscript_ (thn (he pins s σ H _ I h) fun v s1 ⟨x, H1, I1, r1, q1⟩ => ?_)
  refine wpAny_Slice (thn (hl pins s1 σ H1 _ I1 q1) fun vl s2 ⟨l, H2, I2, pl, q2⟩ => thn (hu pins s2 σ H2 _ I2 q2) fun vu s3 ⟨u, H3, I3, pu, q3⟩ => ?_)
  rw [evalPart_none]
  refine wpAny_pure ?_
  have I4 : Inv X pins σ H3 { s3 with heap := s3.heap.push { cls := .type "slice", data := .fields #[vl, vu, .none] } } := I3.kept (t' := s3.toks) fun b ob q => Heap.get?_push_of_some _ q
  obtain ⟨T, id, hT, ht, hg⟩ := hr pins { s3 with heap := s3.heap.push { cls := .type "slice", data := .fields #[vl, vu, .none] } } σ H3 x v vl vu l u s3.heap.objs.size Q I4 r1 (Heap.IsSliceOf.new ..) pl pu q3
  show wpAny (model X.prog X.w) X.A (subscriptTail e (.Slice lo hi none p2) v (.ref s3.heap.objs.size)) (EP X pins σ Q) X.xe { s3 with heap := s3.heap.push { cls := .type "slice", data := .fields #[vl, vu, .none] } }
  exact tail_any (ops := [.ref s3.heap.objs.size, v]) ht hT hg (by with_unfolding_all rfl)

/-- the items of xs[lo:hi] -/
def cutV (xs : List V) (lo hi : Option Int) : List V := (xs.drop (HT.sIx xs.length 0 lo)).take (HT.sIx xs.length xs.length hi - HT.sIx xs.length 0 lo)
theorem cutV_length (xs : List V) (lo hi : Option Int) : (cutV xs lo hi).length ≤ xs.length := by
  unfold cutV
  rw [List.length_take, List.length_drop]
  (first | lia | omega)
/-- t[lo:hi], not the whole of it (the whole would be t itself) -/
def rSlT (K : PySem.W.Frag) : V → Option Int → Option Int → Hp → VK → Prop := fun x lo hi H Q => ∃ a xs, x = .ref a ∧ SqT K H a xs ∧
  ¬ (HT.sIx xs.length 0 lo = 0 ∧ HT.sIx xs.length xs.length hi = xs.length) ∧ ∀ p, H p = none → Q (.ref p) (upd H p (.tup (cutV xs lo hi)))
/-! ### t < u, t + u -/
def rLtT (K : PySem.W.Frag) : R2 := fun x y H Q => ∃ a b ns ms, x = .ref a ∧ y = .ref b ∧ SqT K H a (ns.map V.int) ∧ SqT K H b (ms.map V.int) ∧ Q (.bl (HT.lexLt ns ms)) H
/-- t + u, t not empty: u empty gives t itself -/
def rCatT (K : PySem.W.Frag) : R2 := fun x y H Q => ∃ a b xs ys, x = .ref a ∧ y = .ref b ∧ SqT K H a xs ∧ SqT K H b ys ∧ xs ≠ [] ∧ xs.length + ys.length ≤ sizeLine ∧
  (ys = [] → Q (.ref a) H) ∧ (ys ≠ [] → ∀ p, H p = none → Q (.ref p) (upd H p (.tup (xs ++ ys))))
end
end L2

namespace L2
open PySem PySem.Spec PyProof.Rows

/-! ### places -/
/-- the place that an index of any sign means -/
def ixN (n : Nat) (i : Int) : Option Nat := if 0 ≤ i then (if i < n then some i.toNat else none) else if -(n : Int) ≤ i then some (i + n).toNat else none
def atI {α : Type} (xs : List α) (i : Int) : Option α := (ixN xs.length i).bind fun j => xs[j]?
theorem ixN_seq {n : Nat} {i : Int} {j : Nat} (h : ixN n i = some j) : seqIndex? i n = some j ∧ j < n ∧ -(n : Int) ≤ i ∧ i < n := by
  unfold ixN at h
  by_cases h0 : 0 ≤ i
  · rw [if_pos h0] at h
    by_cases h1 : i < n
    · rw [if_pos h1] at h
      have e : i.toNat = j := Option.some.inj h
      exact ⟨by rw [seqIndex_of h0 h1, e], by (first | lia | omega), by (first | lia | omega), h1⟩
    · rw [if_neg h1] at h; cases h
  · rw [if_neg h0] at h
    by_cases h1 : -(n : Int) ≤ i
    · rw [if_pos h1] at h
      have e : (i + n).toNat = j := Option.some.inj h
      exact ⟨by rw [seqIndex_neg (by (first | lia | omega)) h1, e], by (first | lia | omega), h1, by (first | lia | omega)⟩
    · rw [if_neg h1] at h; cases h
theorem atI_get {α : Type} {xs : List α} {i : Int} {v : α} (h : atI xs i = some v) : ∃ j, seqIndex? i xs.length = some j ∧ xs[j]? = some v ∧ j < xs.length ∧ -(xs.length : Int) ≤ i ∧ i < xs.length := by
  unfold atI at h
  cases e : ixN xs.length i with
  | none => rw [e] at h; cases h
  | some j =>
    rw [e] at h
    obtain ⟨h1, h2, h3, h4⟩ := ixN_seq e
    exact ⟨j, h1, h, h2, h3, h4⟩
theorem atI_nat {α : Type} {xs : List α} {j : Nat} {v : α} (h : xs[j]? = some v) : atI xs (j : Int) = some v := by
  have hj : j < xs.length := (List.getElem?_eq_some_iff.mp h).1
  have e : ixN xs.length (j : Int) = some j := by
    unfold ixN
    rw [if_pos (by (first | lia | omega)), if_pos (by (first | lia | omega))]; simp
  unfold atI; rw [e]; exact h
/-! ### what may be subscripted -/
/-- what stands as an index of a plain subscript -/
def PlainIx (b : Expr) : Prop := ∀ o i, subscripted b false o i = operate [o, i] (getItem o i)
/-- a subscript by values -/
def IxR (X : Cx) (r : R2) : Prop :=
  ∀ (value slice : Expr) (pins : List (Addr × Obj)) (s : Shared) (σ : St) (H : Hp) (x y : V) (v u : Value) (Q : VK), Inv X pins σ H s → RelV x v → RelV y u → r x y H Q →
    subscripted slice false v u = operate [v, u] (getItem v u) → wpAny (model X.prog X.w) X.A (subscriptTail value slice v u) (EP X pins σ Q) X.xe s
/-- a call of a builtin's method by values: the receiver, the arguments -/
def MtR (X : Cx) (id : String) (r : V → List V → Hp → VK → Prop) : Prop :=
  ∀ (pins : List (Addr × Obj)) (s : Shared) (σ : St) (H : Hp) (x : V) (xs : List V) (v : Value) (us : List Value) (Q : VK), Inv X pins σ H s → RelV x v → Vals xs us → r x xs H Q →
    wpAny (model X.prog X.w) X.A (call (.builtin id) (v :: us)) (EP X pins σ Q) X.xe s
section
variable {X : Cx} {a b : Expr} {ta tb : TE} {pos : Pos}
/-- a[b] -/
theorem pe_ix {r : R2} (hr : IxR X r) (ha : PE X a ta) (hb : PE X b tb) (hs : PlainIx b) : PE X (.Subscript a b pos) (tOp r ta tb) := by
  intro pins s σ H Q I h
  exact Subscript_ (binT ha hb I h fun v u s2 x y H2 I2 rx ry q => hr a b pins s2 σ H2 x y v u Q I2 rx ry q (hs _ _))

def rIxL (K : PySem.W.Frag) : R2 := fun x y H Q => ∃ p xs i v, x = .ref p ∧ y = .int i ∧ SqL K H p xs ∧ atI xs i = some v ∧ Q v H
def rIxT (K : PySem.W.Frag) : R2 := fun x y H Q => ∃ p xs i v, x = .ref p ∧ y = .int i ∧ SqT K H p xs ∧ atI xs i = some v ∧ Q v H
def rIxS : R2 := fun x y H Q => ∃ z i c, x = .str z ∧ y = .int i ∧ z.length ≤ sizeLine ∧ atI z.cps.toList i = some c ∧ Q (.str ⟨#[c]⟩) H
theorem ix_list : IxR X (rIxL X.K) := by
  intro value slice pins s σ H x y v u Q I rx ry h hs
  obtain ⟨p, xs, i, z, rfl, rfl, hq, he, q⟩ := h
  cases rx
  obtain ⟨t, rfl⟩ := ry
  obtain ⟨its, r, pl, hz⟩ := I.list hq
  obtain ⟨j, h1, h2, h3, h4, h5⟩ := atI_get he
  obtain ⟨w, ew, rw'⟩ := r.get h2
  have hl := r.length
  have hn := line63
  have fin : EP X pins σ Q w s := ⟨z, H, I, rw', q⟩
  by_cases h0 : 0 ≤ i
  · have hj : i.toNat = j := by
      rw [seqIndex_of h0 h5] at h1
      exact Option.some.inj h1
    exact item_listR pl.isList h0 (by (first | lia | omega)) (by rw [hj]; simpa using ew) fin hs
  · have hj : (i + (its.toArray.size : Int)).toNat = j := by
      rw [seqIndex_neg (by (first | lia | omega)) h4] at h1
      rw [List.size_toArray, ← hl]
      exact Option.some.inj h1
    exact subscriptTail_builtinR (x := w) pl.isList.typeIs slot_list_getitem.lookup
      (wpAny_getItem_list_neg (Q := fun r s' => r = w ∧ EP X pins σ Q r s') pl.isList (by (first | lia | omega)) (by rw [List.size_toArray] <;> (first | lia | omega)) (by (first | lia | omega)) (by rw [hj]; simpa using ew) ⟨rfl, fin⟩) hs
theorem ix_tup : IxR X (rIxT X.K) := by
  intro value slice pins s σ H x y v u Q I rx ry h hs
  obtain ⟨p, xs, i, z, rfl, rfl, hq, he, q⟩ := h
  cases rx
  obtain ⟨t, rfl⟩ := ry
  obtain ⟨its, r, pl, hz⟩ := I.tuple hq
  obtain ⟨j, h1, h2, h3, h4, h5⟩ := atI_get he
  obtain ⟨w, ew, rw'⟩ := r.get h2
  have hl := r.length
  have hn := line63
  have fin : EP X pins σ Q w s := ⟨z, H, I, rw', q⟩
  exact subscriptTail_builtinR (x := w) pl.typeIs slot_tuple_getitem.lookup
    (getItem_tuple (j := j) (Q := fun r s' => r = w ∧ EP X pins σ Q r s') pl (by (first | lia | omega)) (by (first | lia | omega)) (by rw [List.size_toArray, ← hl]; exact h1) (by simpa using ew) ⟨rfl, fin⟩) hs
/-- list, tuple or str -/
def rIx (K : PySem.W.Frag) : R2 := fun x y H Q => rIxL K x y H Q ∨ rIxT K x y H Q ∨ rIxS x y H Q
/-! ### xs[i] = v, any sign -/
/-- the list's object behind a store -/
theorem mapSeq_set (its : List Value) (n j : Nat) (u : Value) : Obj.mapSeq (·.setIfInBounds j u) { cls := .type "list", data := .seq its.toArray n } = { cls := .type "list", data := .seq (its.set j u).toArray n } := by
  simp [Obj.mapSeq]
theorem Inv.lst {pins : List (Addr × Obj)} {σ : St} {H : Hp} {s : Shared} {p : Addr} {xs : List V} (I : Inv X pins σ H s) (h : H p = some (.lst xs)) :
    ∃ (its : List Value) (n : Nat), Vals xs its ∧ s.heap.get? p = some { cls := .type "list", data := .seq its.toArray n } ∧ xs.length ≤ sizeLine := by
  obtain ⟨z, its, n, r, e⟩ := I.hok p _ h
  exact ⟨its, n, r, e, z⟩
/-- the list at p is written by an update of its object -/
theorem Inv.lstUpd {pins : List (Addr × Obj)} {σ : St} {H : Hp} {s : Shared} {p : Addr} {xs ys : List V} {its its' : List Value} {n n' : Nat} {f : Obj → Obj} (I : Inv X pins σ H s) (h : H p = some (.lst xs))
    (ho : s.heap.get? p = some { cls := .type "list", data := .seq its.toArray n }) (hf : f { cls := .type "list", data := .seq its.toArray n } = { cls := .type "list", data := .seq its'.toArray n' }) (r : Vals ys its') (hz : ys.length ≤ sizeLine) (t : Nat) :
    Inv X pins σ (upd H p (.lst ys)) { s with heap := s.heap.update p f, toks := t } := by
  have e : (s.heap.update p f).get? p = some { cls := .type "list", data := .seq its'.toArray n' } := by
    rw [Heap.get?_update_self f ho (by rw [hf] <;> rfl), hf]
  refine I.write (x := p) (e := p) (by rw [h]; trivial) (.inl rfl) (fun b u hb q => (Heap.get?_update_other _ _ (Ne.symm hb)).trans q) ⟨_, e⟩ ?_
  exact ⟨hz, its', n', r, e⟩
def rSetL : V → V → V → Hp → (Hp → Prop) → Prop := fun o i v H Q => ∃ p xs k j, o = .ref p ∧ i = .int k ∧ H p = some (.lst xs) ∧ ixN xs.length k = some j ∧ Q (upd H p (.lst (xs.set j v)))
theorem set_list : PSet X rSetL := by
  intro pins s σ H o i v ov iv u Q I ro ri rv h
  obtain ⟨p, xs, k, j, rfl, rfl, hp, hj, q⟩ := h
  cases ro
  obtain ⟨t, rfl⟩ := ri
  obtain ⟨its, n, r, ho, hz⟩ := I.lst hp
  obtain ⟨h1, h2, h3, h4⟩ := ixN_seq hj
  have hl := r.length
  have hn := line63
  have I' : Inv X pins σ (upd H p (.lst (xs.set j v))) { s with heap := s.heap.update p (Obj.mapSeq (·.setIfInBounds j u)) } :=
    I.lstUpd hp ho (mapSeq_set its n j u) (r.set rv j) (by rw [List.length_set]; exact hz) s.toks
  by_cases h0 : 0 ≤ k
  · have hk : k.toNat = j := by
      rw [seqIndex_of h0 h4] at h1
      exact Option.some.inj h1
    exact PySem.W.ki_setAt ho h0 (by (first | lia | omega)) (by rw [List.size_toArray, ← hl]; exact h4) (by rw [hk]; exact ⟨_, I', q⟩)
  · have hk : (k + (its.toArray.size : Int)).toNat = j := by
      rw [seqIndex_neg (by (first | lia | omega)) h3] at h1
      rw [List.size_toArray, ← hl]
      exact Option.some.inj h1
    exact PySem.W.ki_setBack ho (by (first | lia | omega)) (by rw [List.size_toArray, ← hl]; exact h3) (by (first | lia | omega)) (by rw [hk]; exact ⟨_, I', q⟩)

/-! ### slices -/
theorem slice_bounds (lo hi : Option Int) (n : Nat) : (sliceBounds lo hi none n).1 = ((HT.sIx n 0 lo : Nat) : Int) ∧ (sliceBounds lo hi none n).2.1 = ((HT.sIx n n hi : Nat) : Int) ∧ (sliceBounds lo hi none n).2.2 = 1 := by
  refine ⟨?_, ?_, rfl⟩
  · cases lo with
    | none => simp [sliceBounds, HT.sIx]
    | some i =>
      simp only [sliceBounds, HT.sIx, Option.getD_none, show (1 : Int) > 0 by decide, if_true]
      by_cases h : i < 0
      · simp only [h, if_true] <;> (first | lia | omega)
      · simp only [h, if_false] <;> (first | lia | omega)
  · cases hi with
    | none => simp [sliceBounds, HT.sIx]
    | some i =>
      simp only [sliceBounds, HT.sIx, Option.getD_none, show (1 : Int) > 0 by decide, if_true]
      by_cases h : i < 0
      · simp only [h, if_true] <;> (first | lia | omega)
      · simp only [h, if_false] <;> (first | lia | omega)
theorem slicePick_cut (its : List Value) (lo hi : Option Int) : slicePick its.toArray lo hi none = ((its.drop (HT.sIx its.length 0 lo)).take (HT.sIx its.length its.length hi - HT.sIx its.length 0 lo)).toArray := by
  obtain ⟨h1, h2, h3⟩ := slice_bounds lo hi its.toArray.size
  unfold slicePick
  rw [h1, h2, h3]
  simp only [sliceRange_one, pick_run, List.size_toArray] <;> rfl
/-- xs[lo:hi] of a list: a new list -/
def rSlL (K : PySem.W.Frag) : V → Option Int → Option Int → Hp → VK → Prop := fun x lo hi H Q => ∃ a xs, x = .ref a ∧ SqL K H a xs ∧ ∀ p, H p = none → Q (.ref p) (upd H p (.lst (cutV xs lo hi)))
theorem sl_list : SlR X (rSlL X.K) := by
  intro pins s σ H x v vl vu lo hi sl Q I rx hs pl pu h
  obtain ⟨a, xs, rfl, hx, q⟩ := h
  cases rx
  obtain ⟨its, r, ht, hz⟩ := I.list hx
  have hlen := r.length
  refine ⟨"list", _, slot_list_getitem.lookup, ht.isList.typeIs, ?_⟩
  refine wpAny_getItem_list_slice ht.isList hs pl pu .none (by simp) ?_ (by rw [List.size_toArray] <;> (first | lia | omega))
  rw [slicePick_cut, ← hlen]
  refine ⟨.ref s.heap.objs.size, _, I.laid (t' := s.toks) (o := .lst (cutV xs lo hi)) (fun b ob q => Heap.get?_push_of_some _ q) (Nat.le_refl _) ?_, rfl, q _ (I.hok.fresh (Nat.le_refl _))⟩
  exact ⟨Nat.le_trans (cutV_length xs lo hi) hz, _, 0, (r.drop (HT.sIx xs.length 0 lo)).take (HT.sIx xs.length xs.length hi - HT.sIx xs.length 0 lo), Heap.get?_push_size _ rfl⟩

/-! ### in, not in: flat items -/
def flatV : V → Bool
  | .non => true
  | .bl _ => true
  | .int _ => true
  | .str _ => true
  | _ => false
/-- == of flat values -/
def eqV : V → V → Bool
  | .non, .non => true
  | .bl a, .bl b => a == b
  | .bl a, .int b => (if a then 1 else 0) == b
  | .int a, .bl b => a == (if b then 1 else 0)
  | .int a, .int b => a == b
  | .str a, .str b => a == b
  | _, _ => false
theorem eqAt_V {A : Around} {s : Shared} {y x : V} {u v : Value} (ry : RelV y u) (rx : RelV x v) (fy : flatV y = true) (fx : flatV x = true) : SeqAt.EqAt A s u v (eqV y x) := by
  cases y with
  | non =>
    cases ry
    cases x with
    | non => cases rx; exact SeqAt.EqAt.same _
    | bl b => cases rx; exact SeqAt.EqAt.none_bool b
    | int b => obtain ⟨t, rfl⟩ := rx; exact SeqAt.EqAt.none_int b t
    | str b => obtain ⟨t, rfl⟩ := rx; exact SeqAt.EqAt.none_str b t
    | _ => exact absurd (show false = true from fx) Bool.false_ne_true
  | bl a =>
    cases ry
    cases x with
    | non => cases rx; exact SeqAt.EqAt.bool_none a
    | bl b => cases rx; exact SeqAt.EqAt.bool_bool a b
    | int b => obtain ⟨t, rfl⟩ := rx; exact SeqAt.EqAt.bool_int a b t
    | str b => obtain ⟨t, rfl⟩ := rx; exact SeqAt.EqAt.bool_str a b t
    | _ => exact absurd (show false = true from fx) Bool.false_ne_true
  | int a =>
    obtain ⟨t', rfl⟩ := ry
    cases x with
    | non => cases rx; exact SeqAt.EqAt.int_none a t'
    | bl b => cases rx; exact SeqAt.EqAt.int_bool a t' b
    | int b => obtain ⟨t, rfl⟩ := rx; exact SeqAt.EqAt.int_int a t' b t
    | str b => obtain ⟨t, rfl⟩ := rx; exact SeqAt.EqAt.int_str a t' b t
    | _ => exact absurd (show false = true from fx) Bool.false_ne_true
  | str a =>
    obtain ⟨t', rfl⟩ := ry
    cases x with
    | non => cases rx; exact SeqAt.EqAt.str_none a t'
    | bl b => cases rx; exact SeqAt.EqAt.str_bool a t' b
    | int b => obtain ⟨t, rfl⟩ := rx; exact SeqAt.EqAt.str_int a t' b t
    | str b => obtain ⟨t, rfl⟩ := rx; exact SeqAt.EqAt.str_str a t' b t
    | _ => exact absurd (show false = true from fx) Bool.false_ne_true
  | _ => exact absurd (show false = true from fy) Bool.false_ne_true
/-- the items' answers, read off the values (a value's own answer does not lean on its token) -/
def eqU (x : V) (u : Value) : Bool := match u with
  | .none => eqV .non x
  | .bool b => eqV (.bl b) x
  | .int i _ => eqV (.int i) x
  | .str z _ => eqV (.str z) x
  | _ => false
def inV (x : V) (xs : List V) : Bool := xs.any fun y => eqV y x
/-- x in a list or tuple of flat items -/
def rIn (K : PySem.W.Frag) (neg : Bool) : R2 := fun x y H Q => ∃ p xs, y = .ref p ∧ (SqL K H p xs ∨ SqT K H p xs) ∧ flatV x = true ∧ xs.all flatV = true ∧ Q (.bl (if neg then !inV x xs else inV x xs)) H
/-! ### len, list(x), tuple(x) of any list or tuple that is read -/
theorem call_len_seq : CallR X (.builtin "len") (fun xs H Q => ∃ p ys, xs = [.ref p] ∧ (SqL X.K H p ys ∨ SqT X.K H p ys) ∧ Q (.int ys.length) H) := by
  intro pins s σ H xs us Q I r h
  obtain ⟨p, ys, rfl, hq, q⟩ := h
  obtain ⟨u, rfl, rx⟩ := vals1 r
  cases rx
  have hn := line63
  rcases hq with hq | hq
  · obtain ⟨its, r', pl, hz⟩ := I.list hq
    have hlen := r'.length
    exact Calls.call_len_list pl.isList (by simp only [List.size_toArray] <;> (first | lia | omega)) ⟨.int ys.length, H, I.tok _, ⟨s.toks + 1, by rw [List.size_toArray, hlen]⟩, q⟩
  · obtain ⟨its, r', pl, hz⟩ := I.tuple hq
    have hlen := r'.length
    exact len_tuple pl (by simp only [List.size_toArray] <;> (first | lia | omega)) ⟨.int ys.length, H, I.tok _, ⟨s.toks + 1, by rw [List.size_toArray, hlen]⟩, q⟩
theorem call_list_of : CallR X (.type "list") (fun xs H Q => ∃ p ys, xs = [.ref p] ∧ (SqL X.K H p ys ∨ SqT X.K H p ys) ∧ ∀ l, H l = none → Q (.ref l) (upd H l (.lst ys))) := by
  intro pins s σ H xs us Q I r h
  obtain ⟨p, ys, rfl, hq, q⟩ := h
  obtain ⟨u, rfl, rx⟩ := vals1 r
  cases rx
  have fin : ∀ (its : List Value), Vals ys its → ys.length ≤ sizeLine → ∀ (h' : Heap) (c' : Nat), (∀ b o', s.heap.get? b = some o' → h'.get? b = some o') →
      h'.get? s.heap.objs.size = some { cls := .type "list", dict := none, data := .seq its.toArray c', slots := #[] } → EP X pins σ Q (.ref s.heap.objs.size) { s with heap := h' } := fun its r' hz h' c' kp e =>
    ⟨.ref s.heap.objs.size, _, I.laid (t' := s.toks) kp (Nat.le_refl _) (show ObjOk X.prog X.w _ h' _ (.lst ys) from ⟨hz, its, c', r', e⟩), rfl, q _ (I.hok.fresh (Nat.le_refl _))⟩
  rcases hq with hq | hq
  · obtain ⟨its, r', pl, hz⟩ := I.list hq
    have hlen := r'.length
    obtain ⟨o, ho, hc, n, hd⟩ := pl.isList
    exact call_list_seq p (.inl rfl) ho hc hd (fun h' c' kp e => fin its r' hz h' c' kp e) (by simp only [List.size_toArray] <;> (first | lia | omega))
  · obtain ⟨its, r', pl, hz⟩ := I.tuple hq
    have hlen := r'.length
    obtain ⟨o, ho, hc, n, hd⟩ := pl
    exact call_list_seq p (.inr rfl) ho hc hd (fun h' c' kp e => fin its r' hz h' c' kp e) (by simp only [List.size_toArray] <;> (first | lia | omega))
/-! ### the call of a builtin's method: o.m(..) -/
/-- the value is of that builtin type -/
def tyV (K : PySem.W.Frag) (T : String) (x : V) (H : Hp) : Prop := match x with
  | .str _ => T = "str"
  | .int _ => T = "int"
  | .ref p => (T = "list" ∧ ∃ xs, SqL K H p xs) ∨ (T = "tuple" ∧ ∃ o, K.lookup p = some o ∧ o.cls = .type "tuple" ∧ o.dict = none) ∨
      (T = "dict" ∧ ((∃ kvs, H p = some (.dK kvs)) ∨ ∃ kvs, H p = some (.dT kvs))) ∨ (T = "set" ∧ ∃ S n, H p = some (.set S n))
  | _ => False
theorem tyV_is {pins : List (Addr × Obj)} {σ : St} {H : Hp} {s : Shared} {T : String} {x : V} {v : Value} (I : Inv X pins σ H s) (r : RelV x v) (ty : tyV X.K T x H) :
    s.TypeIs v T ∧ ∀ a, v = .ref a → ∃ ob, s.heap.get? a = some ob ∧ ob.dict = none := by
  cases x with
  | str z =>
    obtain ⟨t, rfl⟩ := r
    cases (show T = "str" from ty)
    exact ⟨typeIs_str s z t, fun _ e => nomatch e⟩
  | int i =>
    obtain ⟨t, rfl⟩ := r
    cases (show T = "int" from ty)
    exact ⟨typeIs_int s i t, fun _ e => nomatch e⟩
  | ref p =>
    cases r
    rcases ty with ⟨rfl, xs, hq⟩ | ⟨rfl, o, hk, hc, hd⟩ | ⟨rfl, hk⟩ | ⟨rfl, S, n, hk⟩
    · obtain ⟨its, _, pl, _⟩ := I.list hq
      refine ⟨pl.isList.typeIs, fun a e => ?_⟩
      cases e
      obtain ⟨o, n, e, c, hd, _⟩ := pl
      exact ⟨o, e, hd⟩
    · refine ⟨⟨o, I.kIn p o hk, hc⟩, fun a e => ?_⟩
      cases e
      exact ⟨o, I.kIn _ o hk, hd⟩
    · have z : ∃ o, s.heap.get? p = some o ∧ o.ExactDict := by
        rcases hk with ⟨kvs, hk⟩ | ⟨kvs, hk⟩
        · obtain ⟨_, _, _, _, o, _, _, e, ex, _⟩ := I.hok p _ hk
          exact ⟨o, e, ex⟩
        · obtain ⟨_, _, _, _, o, _, _, e, ex, _⟩ := I.hok p _ hk
          exact ⟨o, e, ex⟩
      obtain ⟨o, e, ex⟩ := z
      refine ⟨⟨o, e, ex.1⟩, fun a e2 => ?_⟩
      cases e2
      exact ⟨o, e, ex.2.1⟩
    · obtain ⟨o, _, _, _, e, ex, _⟩ := I.hok p _ hk
      refine ⟨⟨o, e, ex.1⟩, fun a e2 => ?_⟩
      cases e2
      exact ⟨o, e, ex.2.1⟩
  | _ => exact False.elim ty
def tBM0 (K : PySem.W.Frag) (T : String) (r : V → List V → Hp → VK → Prop) (to : TE) : TE := fun σ H Q => to σ H fun x H1 => tyV K T x H1 ∧ r x [] H1 Q
def tBM (K : PySem.W.Frag) (T : String) (r : V → List V → Hp → VK → Prop) (to : TE) (t : TA) : TE := fun σ H Q => to σ H fun x H1 => tyV K T x H1 ∧ t σ H1 fun xs H2 => r x xs H2 Q
variable {o e : Expr} {es : List Expr} {to : TE} {t : TA} {name : Str} {apos cpos : Pos} {T id : String} {r : V → List V → Hp → VK → Prop}
theorem pe_bm (pa : PlainAttrs T) (slot : Slot T name id) (hty : typeOf (.builtin id) = pure (.type "method_descriptor")) (hm : MtR X id r) (ho : PE X o to) (ha : PA X (e :: es) t)
    (hbase : attributeBase o name X.env (eval o X.env) = eval o X.env := by rfl)
    (hfew : ((backTo cpos (starEach (e :: es) X.env)).all (fun x => !x.1) && (backToKw cpos (keywordEach [] X.env)).all (fun x => x.1.isSome)
      && decide ((e :: es).length + ([] : List Keyword).length + (if ([] : List Keyword).isEmpty then 0 else 1) < 30)) = true := by rfl)
    (hline : (apos.endLine == cpos.line) = true := by rfl) (hs : starEach (e :: es) X.env = (false, eval e X.env) :: starEach es X.env := by rfl) (hplain : (backTo cpos (starEach es X.env)).any (·.1) = false := by rfl) :
    PE X (.Call (.Attribute o name apos) (e :: es) [] cpos) (tBM X.K T r to t) := by
  intro pins s σ H Q I h
  refine wpAny_Call_method_late hbase hfew hline rfl (thn (ho pins s σ H _ I h) fun v s1 ⟨x, H1, I1, r1, ty, q1⟩ => ?_)
  obtain ⟨h1, h2⟩ := tyV_is I1 r1 ty
  refine ⟨T, id, pa, slot, hty, h1, h2, ?_⟩
  have hA := ha cpos pins s1 σ H1 _ I1 q1
  rw [hs] at hA ⊢
  refine Calls.callWith_builtin (by show (false || (backTo cpos (starEach es X.env)).any (·.1)) = false; rw [hplain] <;> rfl) (Calls.evalArgs_plain ?_)
  exact thn hA fun us s2 ⟨vs, H2, I2, r2, q2⟩ => hm pins s2 σ H2 x vs v us Q I2 r1 r2 q2
/- xs.append(e), list.index on a module's tuple .. are MtR facts of 06m -/
end
end L2

namespace L2
open PySem PySem.Spec PyProof.Rows

def MtM (X : Cx) (id : String) (r : V → List V → Hp → VK → Prop) : Prop :=
  ∀ (pins : List (Addr × Obj)) (s : Shared) (σ : St) (H : Hp) (x : V) (xs : List V) (v : Value) (us : List Value) (Q : VK), Inv X pins σ H s → RelV x v → Vals xs us → r x xs H Q →
    wpAny (model X.prog X.w) X.A (call (.builtin id) (v :: us)) (EP X pins σ Q) X.xe s

/-! ### lists of values -/
theorem Vals.one : ∀ {x : V} {us : List Value}, Vals [x] us → ∃ u, us = [u] ∧ RelV x u
  | _, _, .cons r .nil => ⟨_, rfl, r⟩
theorem Vals.reverse {xs : List V} {us : List Value} (h : Vals xs us) : Vals xs.reverse us.reverse := by
  induction h with
  | nil => exact .nil
  | cons r t ih => rw [List.reverse_cons, List.reverse_cons]; exact Vals.append ih (.cons r .nil)
theorem Vals.rep {xs : List V} {us : List Value} (h : Vals xs us) : ∀ k : Nat, Vals (List.replicate k xs).flatten (List.replicate k us).flatten
  | 0 => .nil
  | k + 1 => by
    rw [List.replicate_succ, List.replicate_succ, List.flatten_cons, List.flatten_cons]
    exact Vals.append h (Vals.rep h k)
theorem foldl_rep (its : List Value) : ∀ (k : Nat) (acc : List Value),
    List.foldl (fun x1 x2 => x1 ++ x2) acc.toArray (List.replicate k its.toArray) = (acc ++ (List.replicate k its).flatten).toArray
  | 0, acc => by simp
  | k + 1, acc => by
    have e : acc.toArray ++ its.toArray = (acc ++ its).toArray := by simp
    have e2 : (acc ++ its) ++ (List.replicate k its).flatten = acc ++ (List.replicate (k + 1) its).flatten := by
      rw [List.replicate_succ, List.flatten_cons, List.append_assoc]
    rw [← e2, ← foldl_rep its k (acc ++ its), ← e, List.replicate_succ, List.foldl_cons]

section
variable {X : Cx} {pins : List (Addr × Obj)} {σ : St} {H : Hp} {s : Shared} {l b : Addr} {xs ys zs : List V}

/-! ### the two steps: a tracked list is rewritten, a new list is laid -/
theorem Inv.lset {its its' : List Value} {n : Nat} {f : Array Value → Array Value} {t' : Nat} (I : Inv X pins σ H s) (hH : H l = some (.lst xs))
    (e : s.heap.get? l = some { cls := .type "list", data := .seq its.toArray n }) (hf : f its.toArray = its'.toArray) (hv : Vals ys its') (hz : ys.length ≤ sizeLine) :
    Inv X pins σ (upd H l (.lst ys)) { s with heap := s.heap.update l (Obj.mapSeq f), toks := t' } := by
  have q := PySem.IsL.update e f
  rw [hf] at q
  refine I.write (x := l) (e := l) (by rw [hH]; exact trivial) (.inl rfl) (fun b' u hb hu => (Heap.get?_update_other s.heap (Obj.mapSeq f) (Ne.symm hb)).trans hu) ⟨_, q⟩ ?_
  exact ⟨hz, its', _, hv, q⟩
theorem Inv.lnew {its : List Value} {t' : Nat} (I : Inv X pins σ H s) (hv : Vals ys its) (hz : ys.length ≤ sizeLine) :
    Inv X pins σ (upd H s.heap.objs.size (.lst ys)) { s with heap := s.heap.push { cls := .type "list", data := .seq its.toArray }, toks := t' } :=
  I.laid (fun _ _ q => Heap.get?_push_of_some _ q) (Nat.le_refl _) ⟨hz, its, 0, hv, Heap.get?_push_size _ rfl⟩
theorem Inv.fresh (I : Inv X pins σ H s) : H s.heap.objs.size = none := I.hok.fresh (Nat.le_refl _)
theorem Inv.lstM (I : Inv X pins σ H s) (hH : H l = some (.lst xs)) : xs.length ≤ sizeLine ∧ ∃ (its : List Value) (n : Nat), Vals xs its ∧ xs.length = its.length ∧ s.heap.get? l = some { cls := .type "list", data := .seq its.toArray n } := by
  obtain ⟨z, its, n, r, e⟩ := I.hok l _ hH
  exact ⟨z, its, n, r, r.length, e⟩

theorem notLongL {n : Nat} (h : n ≤ sizeLine) : Builtin.List.listTooLong n = false := by
  unfold Builtin.List.listTooLong
  exact decide_eq_false (by (first | lia | omega))
end

section
variable {X : Cx}

/-! ### methods -/
def rAppend : V → List V → Hp → VK → Prop := fun x vs H Q => ∃ l xs y, x = .ref l ∧ vs = [y] ∧ H l = some (.lst xs) ∧ xs.length < sizeLine ∧ Q .non (upd H l (.lst (xs ++ [y])))
theorem mt_append : MtM X "list.append" rAppend := by
  intro pins s σ H x vs v us Q I rx rv h
  obtain ⟨l, xs, y, rfl, rfl, hH, hz, q⟩ := h
  cases rx
  obtain ⟨u, rfl, ru⟩ := rv.one
  obtain ⟨z, its, n, r, hl, e⟩ := I.lstM hH
  refine call_meets F.slot_list_append ⟨_, e, rfl⟩ F.entry_list_append (F.args_list_append_2 _ _) (PySem.list_append l its.toArray n u (by rw [List.size_toArray]; (first | lia | omega))) ⟨e, ?_⟩
  refine ⟨.non, _, I.lset (its' := its ++ [u]) hH e (by simp) (r.append (.cons ru .nil)) ?_, rfl, q⟩
  rw [List.length_append, List.length_singleton]
  (first | lia | omega)

def rExtend : V → List V → Hp → VK → Prop := fun x vs H Q => ∃ l b xs zs, x = .ref l ∧ vs = [.ref b] ∧ H l = some (.lst xs) ∧ H b = some (.lst zs) ∧ xs.length + zs.length ≤ sizeLine ∧ Q .non (upd H l (.lst (xs ++ zs)))
theorem mt_extend : MtM X "list.extend" rExtend := by
  intro pins s σ H x vs v us Q I rx rv h
  obtain ⟨l, b, xs, zs, rfl, rfl, hH, hB, hz, q⟩ := h
  cases rx
  obtain ⟨u, rfl, ru⟩ := rv.one
  cases ru
  obtain ⟨z, its, n, r, hl, e⟩ := I.lstM hH
  obtain ⟨z2, its2, n2, r2, hl2, e2⟩ := I.lstM hB
  have hsz : its.toArray.size + its2.toArray.size ≤ sizeLine := by rw [List.size_toArray, List.size_toArray]; (first | lia | omega)
  have hlong : ¬ (!its.toArray.isEmpty && Builtin.List.listTooLong (its.toArray.size + its2.toArray.size)) = true := by
    rw [notLongL hsz, Bool.and_false]
    exact Bool.false_ne_true
  refine call_meets F.slot_list_extend ⟨_, e, rfl⟩ F.entry_list_extend (F.args_list_extend_2 _ _)
    (AutoSeq1.list_extend_list_list_0 l its.toArray n b its2.toArray n2 hlong (by rw [List.size_toArray]; (first | lia | omega)) (by (first | lia | omega))) ⟨e, e2, ?_⟩
  refine ⟨.non, _, I.lset (its' := its ++ its2) hH e (by simp) (r.append r2) ?_, rfl, q⟩
  rw [List.length_append]
  (first | lia | omega)

def rPop : V → List V → Hp → VK → Prop := fun x vs H Q => ∃ l xs y, x = .ref l ∧ vs = [] ∧ H l = some (.lst xs) ∧ xs[xs.length - 1]? = some y ∧ Q y (upd H l (.lst xs.dropLast))
def rPopAt : V → List V → Hp → VK → Prop := fun x vs H Q => ∃ l xs i k y, x = .ref l ∧ vs = [.int i] ∧ H l = some (.lst xs) ∧ -(2 ^ 63) ≤ i ∧ i < 2 ^ 63 ∧ seqIndex? i xs.length = some k ∧ xs[k]? = some y ∧ Q y (upd H l (.lst (xs.eraseIdx k)))
def rReverse : V → List V → Hp → VK → Prop := fun x vs H Q => ∃ l xs, x = .ref l ∧ vs = [] ∧ H l = some (.lst xs) ∧ Q .non (upd H l (.lst xs.reverse))
def rClear : V → List V → Hp → VK → Prop := fun x vs H Q => ∃ l xs, x = .ref l ∧ vs = [] ∧ H l = some (.lst xs) ∧ Q .non (upd H l (.lst []))
/-! ### list + list, list += list, list * int -/
def rCat : R2 := fun x y H Q => ∃ l b xs zs, x = .ref l ∧ y = .ref b ∧ H l = some (.lst xs) ∧ H b = some (.lst zs) ∧ xs.length + zs.length ≤ sizeLine ∧ ∀ p, H p = none → Q (.ref p) (upd H p (.lst (xs ++ zs)))
theorem op_cat : OpR X (binaryOp .Add) rCat := by
  intro pins s σ H x y v u Q I rx ry h
  obtain ⟨l, b, xs, zs, rfl, rfl, hH, hB, hz, q⟩ := h
  cases rx
  cases ry
  obtain ⟨z, its, n, r, hl, e⟩ := I.lstM hH
  obtain ⟨z2, its2, n2, r2, hl2, e2⟩ := I.lstM hB
  refine PySem.P.add_list e e2 ?_ (by rw [List.size_toArray, List.size_toArray]; (first | lia | omega))
  have ea : its.toArray ++ its2.toArray = (its ++ its2).toArray := by simp
  rw [ea]
  exact ⟨.ref _, _, I.lnew (t' := s.toks) (r.append r2) (by rw [List.length_append]; (first | lia | omega)), rfl, q _ I.fresh⟩
/-- a list times an int (a negative one is nothing) -/
def rRep : R2 := fun x y H Q => ∃ l k xs, x = .ref l ∧ y = .int k ∧ H l = some (.lst xs) ∧ -(2 ^ 63) ≤ k ∧ k < 2 ^ 63 ∧ xs.length * k.toNat ≤ sizeLine ∧
  ∀ p, H p = none → Q (.ref p) (upd H p (.lst (List.replicate k.toNat xs).flatten))
theorem len_rep {α : Type} (xs : List α) (k : Nat) : (List.replicate k xs).flatten.length = k * xs.length := by
  induction k with
  | zero => simp
  | succ k ih => rw [List.replicate_succ, List.flatten_cons, List.length_append, ih, Nat.succ_mul, Nat.add_comm]
theorem op_rep : OpR X (binaryOp .Mult) rRep := by
  intro pins s σ H x y v u Q I rx ry h
  obtain ⟨l, k, xs, rfl, rfl, hH, h1, h2, hz, q⟩ := h
  cases rx
  obtain ⟨t, rfl⟩ := ry
  obtain ⟨z, its, n, r, hl, e⟩ := I.lstM hH
  have hlen : its.toArray.size * k.toNat ≤ sizeLine := by rw [List.size_toArray, ← hl]; exact hz
  have hcap : ¬ its.toArray.size * k.toNat > (2 ^ 63 - 1) / 8 := by
    have : (sizeLine : Nat) ≤ (2 ^ 63 - 1) / 8 := by decide
    (first | lia | omega)
  have hfit : ¬ (!Builtin.List.listFitsIndex k) = true := by
    rw [fitsIndex_both h1 h2]
    exact Bool.false_ne_true
  have hlong : ¬ Builtin.List.listTooLong (its.toArray.size * k.toNat) = true := by
    rw [notLongL hlen]
    exact Bool.false_ne_true
  have hnew : List.foldl (fun x1 x2 => x1 ++ x2) #[] (List.replicate (if its.toArray.isEmpty = true then 0 else k.toNat) its.toArray) = (List.replicate k.toNat its).flatten.toArray := by
    have f0 : ∀ m : Nat, List.foldl (fun x1 x2 => x1 ++ x2) #[] (List.replicate m its.toArray) = (List.replicate m its).flatten.toArray := fun m => by
      have := foldl_rep its m []
      rw [List.nil_append] at this
      exact this
    rw [f0]
    cases its with
    | nil => simp
    | cons a r' => rw [if_neg (by simp)]
  refine wpAny_binaryOp_repeat_ref (T := "list") (U := "int") (by decide) ⟨_, e, rfl⟩ (fun s' => typeIs_int s' k t) noFill_list_mul F.fills_int_mul F.slot_int_rmul repeat_list F.slot_int_index.lookup
    (call_meets F.slot_int_rmul (typeIs_int s k t) F.entry_int_rmul (F.args_int_rmul_2 _ _) (int___rmul___int_list k t l its.toArray n)
      ⟨e, rfl, ⟨_, e, rfl⟩, call_meets F.slot_list_mul ⟨_, e, rfl⟩ F.entry_list_mul (F.args_list_mul_2 _ _) (AutoListH.list___mul___list_int_3 l its.toArray n k t hfit hcap hlong) ⟨e, ?_⟩⟩)
  rw [hnew]
  exact ⟨.ref _, _, I.lnew (t' := s.toks) (r.rep k.toNat) (by rw [len_rep, Nat.mul_comm]; exact hz), rfl, q _ I.fresh⟩

/-! ### del xs[i] -/
end

/-! ### xs[a:b] = ys -/
section
variable {prog : Program} {w : World} {A : Around} {E : Value → Shared → Prop} {s : Shared}
end

section
variable {X : Cx}
end
end L2

namespace Att
open PySem PySem.W PySem.Calls PyProof.Rows

/-! ### the script -/
theorem ints_of_wellAll {P : Params} {h : Heap} : ∀ (ns : List Int) (vs : List Value), WellAll P h vs (ns.map WData.int) → IntsAre vs ns := by
  intro ns
  induction ns with
  | nil =>
    intro vs w
    rw [List.map_nil] at w
    cases w
    exact .nil
  | cons n ns ih =>
    intro vs w
    rw [List.map_cons] at w
    cases w with
    | cons a b =>
      cases a
      exact .cons _ _ (ih _ b)

theorem script_of {l : OpenLaw} {n : Nat} (hn : l.most = some n) {P : Params} {h : Heap} {args : List WData} {vals : List Value}
    (hpre : l.row.toRowW.claim.pre args = true) (hwl : WellAll P h vals args) :
    ∃ a vs ns, vals = [Value.ref a] ∧ args = [WData.list (ns.map WData.int)] ∧ h.get? a = some { cls := .type "list", data := .seq vs.toArray } ∧ IntsAre vs ns ∧ ns.length ≤ n := by
  have hsh : WShape.hasAll [] args [.list .int] = true := (pre_splitW hpre).1
  have hc : l.pre.holds [] { args := args } = true := (pre_splitW hpre).2
  obtain ⟨d, r, rfl, h1, h2⟩ := hasAllW_cons hsh
  obtain rfl := hasAllW_nil h2
  obtain ⟨xs, rfl, h3⟩ := hasW_list h1
  obtain ⟨ns, rfl⟩ := items_int h3
  have hlen : ns.length ≤ n := by
    unfold OpenLaw.pre at hc
    have h4 : (WTm.not (.lt (.lit (.int (n : Int))) (.len (.arg 0)))).holds [] { args := [.list (ns.map .int)] } = true := by
      have h4 := (holds_andW hc).1
      rw [hn] at h4
      exact h4
    have h5 := condW_of h4 (w_not (w_lt w_lit (w_len_list (w_arg rfl))))
    rw [List.length_map] at h5
    refine Nat.le_of_not_lt fun q => ?_
    have q' : (n : Int) < ((ns.length : Nat) : Int) := by (first | lia | omega)
    first
      | (rw [decide_eq_true q'] at h5; exact absurd h5 (by decide))
      | (simp at h5; (first | lia | omega))
  cases hwl with
  | cons w1 w2 =>
    cases w2
    cases w1 with
    | list ho hall => exact ⟨_, _, ns, rfl, rfl, ho, ints_of_wellAll ns _ hall, hlen⟩

theorem post_true (l : OpenLaw) (args : List WData) : l.row.toRowW.claim.post args (.bool true) args = true :=
  postW_of (r := l.row.toRowW) (X := (true == true))
    (show WShape.has [] (.bool true) .bool = true by first | rfl | decide | simp [WShape.has, WShape.arms, WShape.armsAll])
    (show (WTm.eq .res (.lit (.bool true))).value [] { args := args, res := some (.bool true), after := args } = some (.bool (true == true)) from w_eq_bool (w_res rfl) w_lit) rfl

/-! ### the attachment: holds_open's last premise (the goal 'hc' behind k_head) from a wpAny of the law's body -/
/-- the same from a codeAny of the CALL (for a layer whose function contracts speak of calls) -/
theorem attach_call {l : OpenLaw} {n : Nat} {q : Program} {loose : List Str} {XP : (Str → Option Value) → Heap → Prop} {YP : World → Heap → Prop} {d : DefRec}
    (hn : l.most = some n) (hdf : d.params.defaults = [])
    (call : ∀ (w : World) (s₀ s₁ : Shared) (mg mb : Str → Option Value) (fa : Addr) (o : Obj) (pm cd doc : Value) (a : Addr) (vs : List Value) (ns : List Int),
      Ground q loose [] XP w s₀ mg mb s₁.heap → YP w s₁.heap →
      s₁.heap.get? fa = some o → o.data = .func (docDef d.name d.params d.body d.scope pm cd doc) → s₁.heap.CodeRec cd d.name → mg d.name = some (.ref fa) →
      s₁.heap.get? a = some { cls := .type "list", data := .seq vs.toArray } → IntsAre vs ns → ns.length ≤ n → s₁.gens = #[] →
      codeAny (model l.prog w) callerA (.call (.ref fa) ⟨[.ref a], []⟩) (fun r s' => r = .ok (.ret (.bool true)) ∧ OldK s₁.heap s'.heap ∧ s'.os = s₁.os ∧ AllBare s'.gens) s₁) :
    WalkO q loose XP YP l.row.toRowW d [] (fun f vs => PySem.call f vs) := by
  intro w s₀ s₁ mg mb G Y fa o pm cd doc dV kV ho hd hcd hD hmg hg args vals as hpre hlay hrd hwl hlo
  obtain rfl : dV = .none := Dflts.none hD hdf
  obtain rfl : kV = .none := Dflts.noKw hD
  obtain ⟨a, vs, ns, rfl, rfl, hobj, hints, hlen⟩ := script_of hn hpre hwl
  refine enter_call (codeAny_mono (call w s₀ s₁ mg mb fa o pm cd doc a vs ns G Y ho (fd_plain hd) hcd hmg hobj hints hlen hg) fun r s' hq => ?_)
  obtain ⟨rfl, h2, h3, h4⟩ := hq
  exact ⟨.inl ⟨.bool true, .bool true, [], rfl, fun _ => rfl, .bool true, post_true l _, fun _ => ⟨List.Pairwise.nil, fun _ hm => (nomatch hm)⟩⟩, h2, h3, h4⟩

/-! ### rules over ANY heap (no ledger) from facts about the written part K: the library's own take a ledger (News) for what they write -/
section
variable {prog : Program} {w : World} {A : Around} {E : Value → Shared → Prop} {s : Shared} {K : Frag}

/-! the whole heap as the ledger: makes every rule that writes through a ledger a rule over any heap -/
def noObjs (h : Heap) : Heap := { h with objs := #[] }
def ledger (h : Heap) (L d : Addr) : List (Addr × Obj) := (List.range h.objs.size).filterMap fun a => if a = L ∨ a = d then none else (h.get? a).map fun o => (a, o)
end
end Att

namespace L2
open PySem PySem.Spec PyProof.Rows

theorem vals_ints : ∀ {vs : List Value} {ns : List Int}, IntsAre vs ns → Vals (ns.map V.int) vs
  | _, _, .nil => .nil
  | _, _, .cons n t h => .cons ⟨t, rfl⟩ (vals_ints h)

/-- nothing is tracked but the script, known to the object (or it is an object of the module) -/
def Only (H : Hp) : Prop := ∀ b, H b = none ∨ ∃ o xs, H b = some (.frz o (.lst xs))

/-- THE HEAD: the law's promise, at the heap behind the top. F, the promise of the law's def, may use that base is part of the heap (so K.In base, base.Ns mainGlobals mg stand in Mod) -/
theorem law_call {P : Program} {w : World} {K : PySem.W.Frag} {mg mb : Str → Option Value} {CX : CXT} {k : Nat} {fa a : Addr} {fd : FuncData} {x : Str} {sp : Sp} {s₁ : Shared} {vs : List Value} {ns : List Int}
    (KX : K.In s₁.heap) (hns : s₁.heap.Ns mainGlobals mg) (hb : s₁.heap.Ns builtinsNs mb) (hbb : ∀ x : Str, x ≠ "__name__" → mb x = bootBuiltins x) (hlim : s₁.heap.NoLimit) (hg : s₁.gens = #[])
    (ha : s₁.heap.get? a = some { cls := .type "list", data := .seq vs.toArray }) (hi : IntsAre vs ns) (hl : ns.length ≤ sizeLine) (hr : Room k callerA)
    (F : ∀ base : Heap, K.In base → base.Ns mainGlobals mg → FnOk P w K mg base CX k fa fd [x] sp) (hbind : ∀ (s : Shared) (u : Value), BindsTo s fd ⟨[u], []⟩ [(x, u)])
    (hsp : ∀ H : Hp, Only H → SqL K H a (ns.map V.int) → sp [.ref a] H (fun v _ => v = .bl true) fun _ _ _ => False)
    (hCX : ∀ H e s', CX [] H s₁ (fun _ _ _ => False) e s' → False) :
    codeAny (model P w) callerA (.call (.ref fa) ⟨[.ref a], []⟩) (fun r s' => r = .ok (.ret (.bool true)) ∧ OldK s₁.heap s'.heap ∧ s'.os = s₁.os ∧ AllBare s'.gens) s₁ := by
  have rv := vals_ints hi
  have lenV := hi.length
  -- from an abstract heap in which nothing but the script may be tracked
  have core : ∀ H : Hp, Only H → SqL K H a (ns.map V.int) → HOk P w H s₁.heap → (∀ b, H b ≠ none → b = a) → (H a ≠ none → K.lookup a = none) →
      codeAny (model P w) callerA (.call (.ref fa) ⟨[.ref a], []⟩) (fun r s' => r = .ok (.ret (.bool true)) ∧ OldK s₁.heap s'.heap ∧ s'.os = s₁.os ∧ AllBare s'.gens) s₁ := by
    intro H hO hS hok hA hK
    have base_of : ∀ {b : Addr} {o : Obj}, s₁.heap.get? b = some o → H b = none → (hidT s₁.heap H).get? b = some o := fun e n => hidT_get e n
    have noA : ∀ {b : Addr} {o : Obj} {es : Array DictEntry} {ep : Nat}, s₁.heap.get? b = some o → o.data = .dict es ep → H b = none := fun {b o es ep} e d => by
      cases q : H b with
      | none => rfl
      | some u =>
        have e' : b = a := hA b (by rw [q]; simp)
        subst e'
        rw [ha] at e; cases e
        have d' : Data.seq vs.toArray _ = Data.dict es ep := d
        cases d'
    have nsK : ∀ {b : Addr} {m : Str → Option Value}, s₁.heap.Ns b m → (hidT s₁.heap H).Ns b m := fun {b m} ⟨o, es, ep, e, d, r⟩ => ⟨o, es, ep, base_of e (noA e d), d, r⟩
    have hKb : K.In (hidT s₁.heap H) := fun b o e => base_of (KX b o e) (by
      cases q : H b with
      | none => rfl
      | some u =>
        have e' : b = a := hA b (by rw [q]; simp)
        subst e'
        rw [hK (by rw [q]; simp)] at e; cases e)
    have hM : Mod K mg (hidT s₁.heap H) := ⟨hKb, nsK hns, ⟨mb, nsK hb, hbb⟩, let ⟨mc, h1, h2⟩ := hlim; ⟨mc, nsK h1, h2⟩⟩
    have e0 : Env0 P w K mg (hidT s₁.heap H) callerA [] s₁ H := ⟨rfl, hM, fun b o e => of_hidT e, Nat.le_of_eq (hidT_size _ _), trivial, fun b hb => absurd (show b ∈ ([] : List Addr) from hb) (by simp), hok, .of_eq hg⟩
    refine codeAny_mono ((F _ hKb (nsK hns)).run callerA [] s₁ H ⟨[.ref a], []⟩ [.ref a] [.ref a] _ _ hr e0 (hbind s₁ (.ref a)) (.cons rfl .nil) (hsp H hO hS)) fun r s' h => ?_
    cases r with
    | error e => exact (hCX H e s' h).elim
    | ok fl =>
      cases fl with
      | next => exact False.elim h
      | brk => exact False.elim h
      | cont => exact False.elim h
      | ret u =>
        obtain ⟨v, H', os, bare, un, hok', r', q⟩ := h
        have q' : v = .bl true := q
        subst q'
        obtain rfl : u = Value.bool true := r'
        refine ⟨rfl, OldK.of_keep fun b o e => ?_, os, bare⟩
        cases q : H b with
        | none => exact un.keep b o e q (by intro z; exact absurd (show b ∈ ([] : List Addr) from z) (by simp)) (by simp)
        | some u =>
          rcases hO b with z | ⟨ob, xs, z⟩
          · rw [q] at z; cases z
          · have z2 := un.frzs b ob _ z
            obtain ⟨e1, _⟩ := hok b _ z
            obtain ⟨e2, _⟩ := hok' b _ z2
            rw [e] at e1; cases e1
            exact e2
  cases hk : K.lookup a with
  | some o =>
    -- the script is one of the module's own objects
    have e := KX a o hk
    rw [ha] at e
    cases e
    refine core (fun _ => none) (fun _ => .inl rfl) (.inr ⟨_, vs.toArray, _, hk, rfl, rfl, rfl, by rw [List.size_toArray, lenV]; exact hl, by simpa using rv⟩) (fun b u z => by have z' : (none : Option HO) = some u := z; cases z') (fun b z => absurd rfl z) fun z => absurd rfl z
  | none =>
    refine core (fun b => if b = a then some (.frz { cls := .type "list", data := .seq vs.toArray } (.lst (ns.map V.int))) else none) (fun b => ?_) (.inl (.inr ⟨{ cls := .type "list", data := .seq vs.toArray }, if_pos rfl⟩)) (fun b u z => ?_) (fun b z => ?_) fun _ => hk
    · by_cases hb : b = a
      · exact .inr ⟨_, _, if_pos hb⟩
      · exact .inl (if_neg hb)
    · by_cases hb : b = a
      · have z' := (if_pos hb).symm.trans z
        cases z'
        subst hb
        exact ⟨ha, by rw [List.length_map]; exact hl, vs, _, rv, ha⟩
      · have z' := (if_neg hb).symm.trans z
        cases z'
    · by_cases hb : b = a
      · exact hb
      · exact absurd (if_neg hb) z
end L2

namespace L2
open PySem PySem.Spec PyProof.Rows

abbrev KOf {K : PySem.W.Frag} {h : Heap} (_ : K.In h) : PySem.W.Frag := K

/-- the goal that k_head leaves (case hc), from the law's promise. F gives the function object fd (K's own) once, then the promise over every base -/
theorem walk_of {l : PySem.W.OpenLaw} {n k : Nat} {q : Program} {loose : List Str} {XP : (Str → Option Value) → Heap → Prop} {YP : World → Heap → Prop} {d : DefRec} {K : Params → PySem.W.Frag} {CX : World → CXT} {sp : World → Sp} {x : Str}
    (hn : l.most = some n) (hn2 : n ≤ sizeLine) (hdf : d.params.defaults = []) (hr : Room k callerA)
    (hY : ∀ (w : World) (h : Heap), YP w h → (K w.params).In h)
    (F : ∀ (w : World) (mg : Str → Option Value) (fa : Addr) (h : Heap), (K w.params).In h → h.Ns mainGlobals mg → mg d.name = some (.ref fa) →
      ∃ fd : FuncData, (∀ (s : Shared) (u : Value), BindsTo s fd ⟨[u], []⟩ [(x, u)]) ∧
        ∀ base : Heap, (K w.params).In base → base.Ns mainGlobals mg → FnOk l.prog w (K w.params) mg base (CX w) k fa fd [x] (sp w))
    (hsp : ∀ (w : World) (H : Hp) (a : Addr) (ns : List Int), ns.length ≤ n → Only H → SqL (K w.params) H a (ns.map V.int) → sp w [.ref a] H (fun v _ => v = .bl true) fun _ _ _ => False)
    (hCX : ∀ (w : World) (H : Hp) (s : Shared) (e : Value) (s' : Shared), CX w [] H s (fun _ _ _ => False) e s' → False) :
    PySem.W.WalkO q loose XP YP l.row.toRowW d [] (fun f vs => PySem.call f vs) := by
  refine Att.attach_call hn hdf fun w s₀ s₁ mg mb fa o pm cd doc a vs ns G Y ho hd hcd hmg hobj hints hlen hg => ?_
  have KX := hY w _ Y
  obtain ⟨fd, hb, hF⟩ := F w mg fa _ KX G.T.g hmg
  exact law_call KX G.T.g G.T.b G.T.builtins G.T.nolimit hg hobj hints (Nat.le_trans hlen hn2) hr hF hb (fun H hO hS => hsp w H a ns hlen hO hS) fun H e s' => hCX w H s₁ e s'
end L2

/- THE LAST THEOREM (shape; LID, My.* are yours):
   My.Adr: a structure of the addresses that your layer names (classes, functions); My.Txt K t: a structure (Prop) of the equations over K;
   My.txt_mk : {K} {implicit addresses ..} (e1 : nsIn K mainGlobals "law" = some (some (.ref f))) (e2 : K.lookup f = some ⟨oc, od, .func (fnOf "law" "law" params body scope dV kV doc pm an cdv ct), sl⟩) (e3 : codeIn K cdv "law" = true) .. : ∃ t, My.Txt K t

set_option maxRecDepth 100000 in
set_option maxHeartbeats 0 in
theorem PySem.Challenge.cw_LID_holds : PySem.Challenge.rw_LID.Holds := by
  w_on; o_law; k_head; (case hw => w_witness2)
  k_fill
  refine L2.walk_of (l := PySem.Challenge.rw_LID) (n := 63) (k := 40) (x := "script") (CX := fun w => ..) (sp := fun _ => My.sp_law) rfl (by decide) rfl ⟨rfl, by decide, by decide⟩ (fun w h Y => PySem.W.kIn_of Y) ?F ?S ?C
  case F =>
    intro w mg fa h KX G hmg
    have T : ∃ t, My.Txt (L2.KOf KX) t := by
      dsimp only [L2.KOf]                          -- K must stand as «<heap const> w.params» for k_is
      refine' My.txt_mk ?e1 ?e2 ?e3 ..
      (case e1 => PySem.W.k_is)                    -- in the order: a name -> its address -> its object -> its parts
      (case e2 => PySem.W.k_is)
      ..
    obtain ⟨t, T⟩ := T
    have e0 := hmg.symm.trans (PySem.W.mg_of KX G T.law)
    cases e0                                       -- fa is the law's own address
    exact ⟨_, fun s u => .of_eq rfl, fun base kb nb => My.law_fn T kb nb⟩     -- if «.of_eq rfl» comes too early: refine' ⟨_, ?b, fun base kb nb => My.law_fn T kb nb⟩; exact fun s u => .of_eq rfl
  case S => exact fun w H a ns hl hO hS => ..
  case C => exact ..
(the tactic k_is has no namespace: write k_is) -/

/-! SHORT WORDS over the layer: a def of the text, its body, what a loop and a test want. -/
namespace L2
open PySem PySem.Spec PyProof.Rows

/-! ### the text by places -/
/-- the j-th statement of a class's body -/
def inClass (s : Stmt) (j : Nat) : Stmt := match s with
  | .ClassDef _ _ _ body _ _ _ _ _ _ _ => body.getD j (.Pass ⟨0, 0, 0, 0⟩)
  | _ => .Pass ⟨0, 0, 0, 0⟩
def defArgs (s : Stmt) : Arguments := match s with
  | .FunctionDef _ a _ _ _ _ _ _ _ _ => a
  | _ => { posonlyargs := [], args := [], vararg := none, kwonlyargs := [], kw_defaults := [], kwarg := none, defaults := [] }
def defBody (s : Stmt) : List Stmt := match s with
  | .FunctionDef _ _ b _ _ _ _ _ _ _ => b
  | _ => []
def defScope (s : Stmt) : Scope := match s with
  | .FunctionDef _ _ _ _ _ _ sc _ _ _ => sc
  | _ => { kind := .function, names := [], isGenerator := false, isCoroutine := false }

/-! ### no exception leaves a def -/
abbrev CX0 : CXT := fun _ _ _ _ _ _ => False
abbrev E0 : XK := fun _ _ _ => False
theorem pass0 {X : Cx} : Passes CX0 X E0 := fun _ _ _ _ _ _ _ h => h.elim

/-! ### a def (or method) of the text as it stands behind the top -/
structure Fun (K : PySem.W.Frag) (x qual : Str) (st : Stmt) (f : Addr) (fd : FuncData) : Prop where
  ex : ∃ (oc : Value) (od : Option Addr) (kV doc pm : Value) (an : Option Addr) (cdv ct : Value) (osl : Array (Option Value)),
    fd = PySem.W.fnOf x qual (defArgs st) (defBody st) (defScope st) .none kV doc pm an cdv ct ∧ K.lookup f = some ⟨oc, od, .func fd, osl⟩ ∧ PySem.W.codeIn K cdv qual = true
  kp : PySem.W.keepIn K (.ref f) = true
section
variable {P : Program} {w : World} {K : PySem.W.Frag} {mg : Str → Option Value} {base : Heap}
/-- THE RULE for a def: its body as a term of rules, and the reading of that term -/
theorem Fun.ok {x qual : Str} {st : Stmt} {f : Addr} {fd : FuncData} {N ps : List Str} {k : Nat} {sp : Sp} (F : Fun K x qual st f fd) (S : FnScope N ps (defScope st)) (len : ∀ vs H Q E, sp vs H Q E → vs.length = ps.length)
    (hbody : ∀ (cdv : Value) (A : Around) (outer : List Env) (s : Shared) (H : Hp) (vs : List V) (Q : VK) (E : XK), Room k (A.deeper (envOfC qual (defScope st) s.heap.objs.size f cdv)) → sp vs H Q E →
      ∃ t, PSs (cxOf CX0 P w K mg base N qual (defScope st) f cdv A outer s H E).nox (defBody st) t ∧ t { nx := fun _ H' => Q .non H', rt := Q } (start N vs) H) : FnOk P w K mg base CX0 (k + 1) f fd ps sp := by
  obtain ⟨oc, od, kV, doc, pm, an, cdv, ct, osl, rfl, lk, hcd⟩ := F.ex
  refine fn_of lk hcd S len fun A outer s H vs Q E hr hsp => ?_
  obtain ⟨t, h, q⟩ := hbody cdv A outer s H vs Q E hr hsp
  exact ⟨t, h.nox, q⟩
/-- how its arguments bind (no defaults): h is «fun _ _ _ _ _ _ us hl => match us, hl with | [_, _], _ => rfl», one _ a parameter -/
theorem Fun.binds {x qual : Str} {st : Stmt} {f : Addr} {fd : FuncData} {ps : List Str} (F : Fun K x qual st f fd)
    (h : ∀ (kV doc pm : Value) (an : Option Addr) (cdv ct : Value) (us : List Value), us.length = ps.length → bindArgs (PySem.W.fnOf x qual (defArgs st) (defBody st) (defScope st) .none kV doc pm an cdv ct) ⟨us, []⟩ = pure (ps.zip us)) : Binds K fd ps [] := by
  obtain ⟨oc, od, kV, doc, pm, an, cdv, ct, osl, rfl, lk, hcd⟩ := F.ex
  exact .all (h kV doc pm an cdv ct)
theorem fun_mk {x qual : Str} {st : Stmt} {f : Addr} {oc : Value} {od an : Option Addr} {osl : Array (Option Value)} {kV doc pm cdv ct : Value} (l : K.lookup f = some ⟨oc, od, .func (PySem.W.fnOf x qual (defArgs st) (defBody st) (defScope st) .none kV doc pm an cdv ct), osl⟩)
    (c : PySem.W.codeIn K cdv qual = true) (k : PySem.W.keepIn K (.ref f) = true) : Fun K x qual st f (PySem.W.fnOf x qual (defArgs st) (defBody st) (defScope st) .none kV doc pm an cdv ct) := ⟨⟨oc, od, kV, doc, pm, an, cdv, ct, osl, rfl, l, c⟩, k⟩
end
/-! ### expressions in short: the name that stands in the i-th slot -/
section
variable {X : Cx}
theorem pv (i : Nat) {x : Str} {pos : Pos} (hN : X.N[i]? = some x := by rfl) (hv : Vis X.env.scope x := by first | exact Or.inl rfl | exact Or.inr (Or.inl rfl) | exact Or.inr (Or.inr rfl)) (hd : (x == ("__debug__" : Str)) = false := by decide)
    (hcd : (x == ("__classdict__" : Str)) = false := by decide) : PE X (.Name x pos) (tVar i) := pe_var hN hv hd hcd
end

/-! ### tests -/
theorem iteF {A B : Prop} (h : B) : if false = true then A else B := by
  rw [if_neg Bool.false_ne_true]
  exact h
theorem iteT {A B : Prop} (h : A) : if true = true then A else B := by
  rw [if_pos rfl]
  exact h
/-! ### heaps -/
/-- all that was tracked is as it was -/
def Same (H H' : Hp) : Prop := ∀ b o, H b = some o → H' b = some o
theorem Same.refl (H : Hp) : Same H H := fun _ _ h => h
theorem Same.trans {H H1 H2 : Hp} (a : Same H H1) (b : Same H1 H2) : Same H H2 := fun c o h => b c o (a c o h)
theorem Same.free {H H' : Hp} (e : Same H H') {l : Addr} (h : H' l = Option.none) : H l = Option.none := by
  cases q : H l with
  | none => rfl
  | some o =>
    rw [e l o q] at h
    cases h
end L2
section
namespace L2
open PySem PySem.Spec PyProof.Rows

/-! ### lists of pairs as tables -/
section
variable {κ : Type} [DecidableEq κ]
def valV (kvs : List (κ × V)) (k : κ) : Option V := (kvs.find? fun kv => decide (kv.1 = k)).map (·.2)
/-- in its place, or at the end -/
def putK (kvs : List (κ × V)) (k : κ) (v : V) : List (κ × V) :=
  if (kvs.any fun kv => decide (kv.1 = k)) = true then kvs.map (fun kv => if kv.1 = k then (kv.1, v) else kv) else kvs ++ [(k, v)]
def dropK (kvs : List (κ × V)) (k : κ) : List (κ × V) := kvs.filter fun kv => decide (kv.1 ≠ k)

end


/-! ### a tracked dict, its keys ints and texts or tuples of these -/
/-- raw entries of a dict with tuple keys -/
abbrev KT (H : Hp) : List (List Key × V) → List (List Key × Addr × Value) → Prop := Paired fun p q => p.1 = q.1 ∧ H q.2.1 = some (.tup (p.1.map kV)) ∧ RelV p.2 q.2.2
section
variable {P : Program} {w : World} {H : Hp} {h : Heap} {a : Addr}
end

/-- what the dict at a holds at the key y -/
def DGet (H : Hp) (a : Addr) (y : V) (r : Option V) : Prop :=
  (∃ kvs k, Rd H a (.dK kvs) ∧ y = kV k ∧ r = valV kvs k) ∨ ∃ kvs k b, Rd H a (.dT kvs) ∧ y = .ref b ∧ H b = some (.tup (k.map kV)) ∧ r = valV kvs k
/-- the heap behind a[y] = v -/
def DPut (H : Hp) (a : Addr) (y v : V) (H' : Hp) : Prop :=
  (∃ kvs k, H a = some (.dK kvs) ∧ y = kV k ∧ kvs.length < sizeLine ∧ H' = upd H a (.dK (putK kvs k v))) ∨
  ∃ kvs k b, H a = some (.dT kvs) ∧ y = .ref b ∧ H b = some (.tup (k.map kV)) ∧ kvs.length < sizeLine ∧ H' = upd H a (.dT (putK kvs k v))
section
variable {X : Cx} {pins : List (Addr × Obj)} {σ : St} {H : Hp} {s : Shared} {a : Addr} {y v : V} {u r : Value} {o : Option V} {A : Around} {E : Value → Shared → Prop}

end

section
variable {X : Cx} {pins : List (Addr × Obj)} {σ : St} {H : Hp} {s : Shared} {a : Addr} {kvs : List (Key × V)} {k : Key} {u : Value} {A : Around} {E : Value → Shared → Prop}
end


/-! ### readings and rules -/
/-- the element of a subscription, not a slice -/
def NoSl (i : Expr) : Prop := ∀ ov iv, subscripted i false ov iv = operate [ov, iv] (getItem ov iv)
/-- d[y] -/
def tDGet (td ty : TE) : TE := fun σ H Q => td σ H fun x H1 => ty σ H1 fun y H2 => ∃ a v, x = .ref a ∧ DGet H2 a y (some v) ∧ Q v H2
/-- y in d, y not in d -/
def tDIn (ty td : TE) : TE := fun σ H Q => ty σ H fun y H1 => td σ H1 fun x H2 => ∃ a o, x = .ref a ∧ DGet H2 a y o ∧ Q (.bl o.isSome) H2
def tDNotIn (ty td : TE) : TE := fun σ H Q => ty σ H fun y H1 => td σ H1 fun x H2 => ∃ a o, x = .ref a ∧ DGet H2 a y o ∧ Q (.bl (!o.isSome)) H2
/-- d[y] = v -/
def sDPut (td ty tv : TE) : TS := fun D σ H => tv σ H fun v H1 => td σ H1 fun x H2 => ty σ H2 fun y H3 => ∃ a H4, x = .ref a ∧ DPut H3 a y v H4 ∧ D.nx σ H4
/-- d[y] op= v -/
def sDAug (td ty tv : TE) (rd : V → V → Hp → VK → Prop) : TS := fun D σ H => td σ H fun x H1 => ty σ H1 fun y H2 => ∃ a v, x = .ref a ∧ DGet H2 a y (some v) ∧
  tv σ H2 fun y2 H3 => rd v y2 H3 fun z H4 => ∃ H5, DPut H4 a y z H5 ∧ D.nx σ H5
/-- del d[y] -/
def sDDel (td ty : TE) : TS := fun D σ H => td σ H fun x H1 => ty σ H1 fun y H2 => ∃ a kvs k, x = .ref a ∧ H2 a = some (.dK kvs) ∧ y = kV k ∧ (valV kvs k).isSome = true ∧ D.nx σ (upd H2 a (.dK (dropK kvs k)))

section
variable {X : Cx} {o i e value : Expr} {pos pos' tpos : Pos} {td ty tv : TE}
end


/-! ### displays -/
/-- {}, to be a dict of the kind that is wanted -/
def tDNewK : TE := fun _ H Q => ∀ p, H p = none → Q (.ref p) (upd H p (.dK []))
def tDNewT : TE := fun _ H Q => ∀ p, H p = none → Q (.ref p) (upd H p (.dT []))
section
variable {X : Cx} {pos : Pos}
end

/-- the pairs of a display, from the left -/
def tPairs : List (TE × TE) → St → Hp → (List (V × V) → Hp → Prop) → Prop
  | [], _, H, Q => Q [] H
  | (tk, tv) :: r, σ, H, Q => tk σ H fun x H1 => tv σ H1 fun y H2 => tPairs r σ H2 fun ps H3 => Q ((x, y) :: ps) H3
abbrev VV : List (V × V) → List (Value × Value) → Prop := Paired fun p q => RelV p.1 q.1 ∧ RelV p.2 q.2
def PPs (X : Cx) (pos : Pos) (keys : List (Option Expr)) (values : List Expr) (trs : List (TE × TE)) : Prop :=
  ∀ (pins : List (Addr × Obj)) (s : Shared) (σ : St) (H : Hp) (Q : List (V × V) → Hp → Prop), Inv X pins σ H s → tPairs trs σ H Q →
    wpAny (model X.prog X.w) X.A (evalPairs (pairTrees keys values X.env pos)) (fun vs s' => ∃ ps H', Inv X pins σ H' s' ∧ VV ps vs ∧ Q ps H') X.xe s
def mergeK (kvs more : List (Key × V)) : List (Key × V) := more.foldl (fun acc kv => putK acc kv.1 kv.2) kvs
/-- {k: v, ..} with keys ints and texts; the new dict stands empty while the pairs are made -/
def tDisp (trs : List (TE × TE)) : TE := fun σ H Q => ∀ p, H p = none → tPairs trs σ (upd H p (.dK [])) fun ps H2 => H2 p = some (.dK []) ∧ ∃ kvs : List (Key × V), ps = kvs.map (fun kv => (kV kv.1, kv.2)) ∧ kvs.length ≤ 15 ∧ Q (.ref p) (upd H2 p (.dK (mergeK [] kvs)))
/-! ### methods -/
/-- a method call o.m(e) of a built-in, with one argument: what must be seen of the text -/
structure M1 (X : Cx) (o : Expr) (m : Str) (apos : Pos) (e : Expr) (cpos : Pos) : Prop where
  base : attributeBase o m X.env (eval o X.env) = eval o X.env
  few : ((backTo cpos (starEach [e] X.env)).all (fun x => !x.1) && (backToKw cpos (keywordEach [] X.env)).all (fun x => x.1.isSome)
    && decide (([e] : List Expr).length + ([] : List Keyword).length + (if ([] : List Keyword).isEmpty then 0 else 1) < 30)) = true
  line : (apos.endLine == cpos.line) = true
  trees : backTo cpos (starEach [e] X.env) = [(false, eval e X.env)]
structure M2 (X : Cx) (o : Expr) (m : Str) (apos : Pos) (e f : Expr) (cpos : Pos) : Prop where
  base : attributeBase o m X.env (eval o X.env) = eval o X.env
  few : ((backTo cpos (starEach [e, f] X.env)).all (fun x => !x.1) && (backToKw cpos (keywordEach [] X.env)).all (fun x => x.1.isSome)
    && decide (([e, f] : List Expr).length + ([] : List Keyword).length + (if ([] : List Keyword).isEmpty then 0 else 1) < 30)) = true
  line : (apos.endLine == cpos.line) = true
  trees : backTo cpos (starEach [e, f] X.env) = [(false, eval e X.env), (false, eval f X.env)]

/-- a is a dict, whatever its keys -/
def IsD (H : Hp) (a : Addr) : Prop := (∃ kvs, Rd H a (.dK kvs)) ∨ ∃ kvs, Rd H a (.dT kvs)
section
variable {X : Cx} {pins : List (Addr × Obj)} {σ : St} {H : Hp} {s : Shared} {a : Addr} {y d : V} {u r : Value} {o : Option V} {A : Around} {E : Value → Shared → Prop}
end

def tDGet1 (td ty : TE) : TE := fun σ H Q => td σ H fun x H1 => ∃ a, x = .ref a ∧ IsD H1 a ∧ ty σ H1 fun y H2 => ∃ o, DGet H2 a y o ∧ Q (o.getD .non) H2
def tDGet2 (td ty tx : TE) : TE := fun σ H Q => td σ H fun x H1 => ∃ a, x = .ref a ∧ IsD H1 a ∧ ty σ H1 fun y H2 => tx σ H2 fun z H3 => ∃ o, DGet H3 a y o ∧ Q (o.getD z) H3
/-- d.pop(k): there; d.pop(k, x): there or not -/
def tDPop1 (td ty : TE) : TE := fun σ H Q => td σ H fun x H1 => ∃ a, x = .ref a ∧ IsD H1 a ∧ ty σ H1 fun y H2 => ∃ kvs k v, H2 a = some (.dK kvs) ∧ y = kV k ∧ valV kvs k = some v ∧ Q v (upd H2 a (.dK (dropK kvs k)))
def tDPop2 (td ty tx : TE) : TE := fun σ H Q => td σ H fun x H1 => ∃ a, x = .ref a ∧ IsD H1 a ∧ ty σ H1 fun y H2 => tx σ H2 fun z H3 => ∃ kvs k, H3 a = some (.dK kvs) ∧ y = kV k ∧
  (∀ v, valV kvs k = some v → Q v (upd H3 a (.dK (dropK kvs k)))) ∧ (valV kvs k = none → Q z H3)
section
variable {X : Cx} {o e f : Expr} {apos cpos : Pos} {td ty tx : TE}
end

/-! ### dict(d): a copy -/
section
variable {X : Cx} {pins : List (Addr × Obj)} {σ : St} {H : Hp} {s : Shared} {a : Addr} {kvs : List (Key × V)} {A : Around} {E : Value → Shared → Prop}
end


section
variable {X : Cx} {pins : List (Addr × Obj)} {σ : St} {H : Hp} {s : Shared} {a : Addr} {y : V} {u : Value} {A : Around} {E : Value → Shared → Prop}
end
end L2
namespace L2
open PySem PySem.Spec PyProof.Rows
/-! ### a dict's pairs: keys that differ -/
section
variable {κ : Type} [DecidableEq κ]
end
end L2
end
section
set_option Elab.async false
set_option linter.all false
set_option maxRecDepth 100000
set_option maxHeartbeats 4000000
namespace L2
open PySem PySem.Spec PyProof.Rows

/-! ### a list comprehension of one clause -/
def clOf (env : Env) : List (Str × NameKind) → List (Str × Addr) → List (Str × Addr)
  | [], acc => acc
  | (n, k) :: r, acc => clOf env r (if k == .free then (match env.cells.lookup n with | some c => (n, c) :: acc | none => acc) else acc)
theorem clOf_sub {env : Env} {x : Str} {c : Addr} : ∀ (ns : List (Str × NameKind)) (acc : List (Str × Addr)), (∀ x c, acc.lookup x = some c → env.cells.lookup x = some c) → (clOf env ns acc).lookup x = some c → env.cells.lookup x = some c
  | [], acc, h, e => h x c e
  | (n, k) :: r, acc, h, e => by
    refine clOf_sub r _ (fun y d => ?_) e
    split
    · cases q : env.cells.lookup n with
      | none => exact h y d
      | some d' =>
        intro z
        rw [List.lookup_cons] at z
        cases b : y == n with
        | true =>
          rw [b] at z
          have b' : y = n := eq_of_beq b
          rw [b', q]; exact z
        | false => rw [b] at z; exact h y d z
    · exact h y d
theorem clOf_mono {env : Env} {x : Str} : ∀ (ns : List (Str × NameKind)) (acc : List (Str × Addr)), (∃ c, acc.lookup x = some c) → ∃ c, (clOf env ns acc).lookup x = some c
  | [], acc, h => h
  | (n, k) :: r, acc, h => by
    refine clOf_mono r _ ?_
    obtain ⟨c, h⟩ := h
    split
    · cases q : env.cells.lookup n with
      | none => exact ⟨c, h⟩
      | some d' =>
        show ∃ c, List.lookup x ((n, d') :: acc) = some c
        rw [List.lookup_cons]
        cases b : x == n with
        | true => exact ⟨d', rfl⟩
        | false => exact ⟨c, h⟩
    · exact ⟨c, h⟩
theorem clOf_has {env : Env} {x : Str} {c : Addr} (hc : env.cells.lookup x = some c) : ∀ (ns : List (Str × NameKind)) (acc : List (Str × Addr)), (x, NameKind.free) ∈ ns → ∃ c, (clOf env ns acc).lookup x = some c
  | [], acc, h => by cases h
  | (n, k) :: r, acc, h => by
    rcases List.mem_cons.mp h with h | h
    · cases h
      refine clOf_mono r _ ?_
      rw [if_pos (by rfl), hc]
      exact ⟨c, by simp⟩
    · exact clOf_has hc r _ h
theorem lookup_relabel {env : Env} {x : Str} : ∀ (names : List (Str × NameKind)),
    (names.map fun (n, k) => if (k == NameKind.free && env.scope.kind == .function && env.kindOf n == some .cell) then (n, NameKind.cell) else (n, k)).lookup x
      = (names.lookup x).map fun k => if (k == NameKind.free && env.scope.kind == .function && env.kindOf x == some .cell) then NameKind.cell else k
  | [] => rfl
  | (n, k) :: r => by
    have ih := lookup_relabel (env := env) (x := x) r
    show List.lookup x ((if (k == NameKind.free && env.scope.kind == .function && env.kindOf n == some .cell) = true then (n, NameKind.cell) else (n, k)) :: _) = _
    rw [List.lookup_cons (k := n)]
    cases hx : x == n with
    | true =>
      have e : x = n := eq_of_beq hx
      subst e
      split <;> simp_all [List.lookup_cons]
    | false =>
      split <;> simp only [List.lookup_cons, hx] <;> exact ih

/-- the block's context -/
def blk (X : Cx) (N' : List Str) (scope : Scope) (C : Addr) (s : Shared) (H : Hp) (fp : List Addr) : Cx where
  prog := X.prog
  w := X.w
  K := X.K
  mg := X.mg
  base := X.base
  A := X.A
  N := N'
  s₀ := s
  H₀ := H
  env := compEnvC scope (clOf X.env scope.names []) C X.env
  outer := X.stack
  stack := X.stack
  ex := fp
  calm := X.calm
  fn := fun _ => false
  pn := []
  xe := fun _ _ => False

/-- the tests of a clause -/
def PTs (X : Cx) (ifs : List Expr) (t : TT) : Prop :=
  ∀ (pins : List (Addr × Obj)) (s : Shared) (σ : St) (H : Hp) (Q : Bool → Hp → Prop), Inv X pins σ H s → t σ H Q →
    wpAny (model X.prog X.w) X.A (forIn ifs true fun c r => if r = true then do let ok ← isTrue c X.env (eval c X.env); pure (ForInStep.yield ok) else pure (ForInStep.yield r)) (TP X pins σ Q) X.xe s
def tTrue : TT := fun _ H Q => Q true H
theorem pts_nil {X : Cx} : PTs X [] tTrue := fun _ _ _ H _ I h => wpAny_tests_nil ⟨H, I, h⟩
theorem pts_one {X : Cx} {c : Expr} {t : TT} (h : PT X c t) : PTs X [c] t := fun pins s σ H Q I hw => wpAny_tests_one (h pins s σ H Q I hw)

def subSt (σ : St) (ix : List (Option Nat)) : St := ix.map fun o => o.bind fun j => (σ[j]?).join
def CompW (J : It) (g : TG) (tc : TT) (te : TE) (τ0 : St) (H1 : Hp) (acc : Addr) (Q : VK) : Prop :=
  ∃ W : Nat → Nat → St → List V → Hp → Prop, (∃ m, W 0 m τ0 [] (upd H1 acc (.lst []))) ∧ ∀ i m τ ys H, W i m τ ys H → H acc = some (.lst ys) ∧
    ((J.stop i H ∧ Q (.ref acc) H) ∨ (J.go i H ∧ ys.length < sizeLine ∧ ∀ x H', J.yld i H x H' → g x τ H' fun τ2 H2 => tc τ2 H2 fun b H3 =>
      if b = true then te τ2 H3 fun y H4 => H4 acc = some (.lst ys) ∧ ∃ m', m' < m ∧ W (i + 1) m' τ2 (ys ++ [y]) (upd H4 acc (.lst (ys ++ [y]))) else ∃ m', m' < m ∧ W (i + 1) m' τ2 ys H3))
def tComp (wi : TI) (g : TG) (tc : TT) (te : TE) (ix : List (Option Nat)) : TE := fun σ H Q => wi σ H fun J H1 => ∀ acc, H1 acc = none → CompW J g tc te (subSt σ ix) H1 acc Q

theorem comp_loop {prog : Program} {w : World} {A : Around} {R : Result → Shared → Prop} {s : Shared} {elt target iter : Expr} {ifs : List Expr} {scope : Scope} {pos : Pos} {it acc : Value} {env : Env} (I : Nat → Shared → Prop)
    (turn : ∀ n s, I n s → wpAny (model prog w) A (pyNext it) (fun r s₁ => match r with
      | none => R (.ok .next) s₁
      | some v => wpAny (model prog w) A (letOwnedTupleGo target it v) (fun _ s₀ => wpAny (model prog w) A (assign target env v) (fun _ s₂ =>
          wpAny (model prog w) A (forIn ifs true fun c r => if r = true then do let ok ← isTrue c env (eval c env); pure (ForInStep.yield ok) else pure (ForInStep.yield r)) (fun ok s₃ =>
            if ok = true then wpAny (model prog w) A (eval elt env) (fun x s₄ =>
              wpAny (model prog w) A (call (.builtin "list.append") [acc, x]) (fun _ s₅ => ∃ m, m < n ∧ I m s₅) (fun _ _ => False) s₄) (fun _ _ => False) s₃
            else ∃ m, m < n ∧ I m s₃) (fun _ _ => False) s₂) (fun _ _ => False) s₀) (fun _ _ => False) s₁) (fun _ _ => False) s)
    (n : Nat) (h : I n s) :
    codeAny (model prog w) A (.compLoop (.ListComp elt [⟨target, iter, ifs, 0⟩] scope pos) 0 it acc env) R s := by
  refine codeAny_loop rfl I (fun n s hI => ?_) n h
  show wpAny _ A ((compTurn (.ListComp elt [⟨target, iter, ifs, 0⟩] scope pos) 0 it acc env).onRaise (fun x => do noteFrame x env; theTreesLotGoes x)) _ _ s
  refine wpAny_noted ?_
  rw [compTurn_list]
  refine wpAny_bind (wpAny_standAt (wpAny_bind (wpAny_mono (turn n s hI) (fun r s₁ h₁ => ?_) fun _ _ z => z.elim)))
  cases r with
  | none => exact wpAny_pure h₁
  | some v =>
    refine wpAny_bind (wpAny_mono h₁ (fun _ s₀ h₀' => ?_) fun _ _ z => z.elim)
    refine wpAny_bind (wpAny_mono h₀' (fun _ s₂ h₂ => wpAny_bind (wpAny_mono h₂ (fun ok s₃ h₃ => ?_) fun _ _ z => z.elim)) fun _ _ z => z.elim)
    cases ok with
    | false => exact wpAny_pure ⟨rfl, h₃⟩
    | true =>
      exact wpAny_bind (wpAny_bind (wpAny_mono h₃ (fun x s₄ h₄ => wpAny_bind (wpAny_mono h₄ (fun _ s₅ h₅ => wpAny_pure (wpAny_pure ⟨rfl, h₅⟩)) fun _ _ z => z.elim)) fun _ _ z => z.elim))

section
variable {X : Cx} {elt tg iter : Expr} {ifs : List Expr} {scope : Scope} {pos : Pos} {wi : TI} {g : TG} {tc : TT} {te : TE} {N' : List Str} {ix : List (Option Nat)}

/-- the block's entry -/
theorem blk_start {pins : List (Addr × Obj)} {σ : St} {H : Hp} {s : Shared} {h₁ : Heap} {t' : Nat} {fp : List Addr} {m : Str → Option Value}
    (hkind : scope.kind = .function) (hcell : ∀ y ∈ scope.names, y.2 ≠ .cell)
    (hfr : ∀ y ∈ scope.names, y.2 = .free → X.env.kindOf y.1 = some .cell ∨ X.env.kindOf y.1 = some .free)
    (hlen : ix.length = N'.length)
    (hix : ∀ (i j : Nat) (x : Str), ix[i]? = some (some j) → N'[i]? = some x → X.N[j]? = some x ∧ scope.names.lookup x = some .free)
    (I : Inv X pins σ H s) (hf : ∀ b ∈ fp, FpOk X pins H b) (hob : ∀ b ∈ fp, ∃ o, s.heap.get? b = some o)
    (hn : h₁.Ns s.heap.objs.size m) (hk : ∀ b o, s.heap.get? b = some o → h₁.get? b = some o) :
    Inv (blk X N' scope s.heap.objs.size s H fp) [] (subSt σ ix) H { s with heap := h₁, toks := t' } := by
  have kinds : ∀ x, scope.names.lookup x = some .free → (relabel scope X.env).names.lookup x = some .cell ∨ (relabel scope X.env).names.lookup x = some .free := fun x e => by
    have q := lookup_relabel (env := X.env) (x := x) scope.names
    rw [e] at q
    show List.lookup x (scope.names.map _) = _ ∨ List.lookup x (scope.names.map _) = _
    rw [q]
    simp only [Option.map_some]
    split
    · exact .inl rfl
    · exact .inr rfl
  have kinds' : ∀ x, ((relabel scope X.env).names.lookup x = some .cell ∨ (relabel scope X.env).names.lookup x = some .free) → scope.names.lookup x = some .free := fun x e => by
    have q := lookup_relabel (env := X.env) (x := x) scope.names
    have e' : List.lookup x (scope.names.map fun (n, k) => if (k == NameKind.free && X.env.scope.kind == .function && X.env.kindOf n == some .cell) then (n, NameKind.cell) else (n, k)) = some .cell ∨
      List.lookup x (scope.names.map fun (n, k) => if (k == NameKind.free && X.env.scope.kind == .function && X.env.kindOf n == some .cell) then (n, NameKind.cell) else (n, k)) = some .free := e
    rw [q] at e'
    cases z : scope.names.lookup x with
    | none => rw [z] at e'; rcases e' with e' | e' <;> simp at e'
    | some k =>
      rw [z] at e'
      simp only [Option.map_some, Option.some.injEq] at e'
      cases k with
      | free => rfl
      | cell => exact absurd rfl (hcell _ (PySem.mem_of_lookup z))
      | _ =>
        rcases e' with e' | e'
        · simp at e'
        · simp at e'
  have sub : ∀ x c, (clOf X.env scope.names []).lookup x = some c → X.env.cells.lookup x = some c := fun x c e => clOf_sub scope.names [] (fun _ _ z => by simp at z) e
  have has : ∀ x, scope.names.lookup x = some .free → ∃ c, (clOf X.env scope.names []).lookup x = some c := fun x e => by
    obtain ⟨c, hc⟩ := I.ok.has x (hfr (x, .free) (PySem.mem_of_lookup e) rfl)
    exact clOf_has hc scope.names [] (PySem.mem_of_lookup e)
  have cellK : ∀ c v, s.heap.IsCell c v → h₁.IsCell c v := fun c v ⟨o, ho, hd⟩ => ⟨o, hk c o ho, hd⟩
  refine ⟨⟨I.ok.mod, hkind, I.ok.glob, I.ok.blt, Nat.le_refl _, fun x y c h1 h2 => I.ok.inj x y c (sub x c h1) (sub y c h2), fun x hx => has x (kinds' x hx), fun x c z _ => Bool.noConfusion z, I.ok.hd, I.ok.frames, .inl rfl, fun b hb => ?_, fun b o e => ⟨(I.bs b o e).1, (I.bs b o e).2⟩,
    Nat.le_trans I.ok.bsz I.sz, fun b o e hb => ?_, fun b hb hz => ?_, I.stack, I.stkFree⟩, rfl, I.bare, Un.kept hk, ⟨m, hn, fun i x v h1 h2 h3 => ?_⟩, fun x c e => ?_, ?_, fun x c e => I.freeC x c (sub x c e), fun p hp => absurd (show p ∈ ([] : List (Addr × Obj)) from hp) (by simp), I.hok.kept hk, ?_⟩
  · obtain ⟨o, ho⟩ := hob b hb
    exact ⟨Nat.ne_of_lt (Heap.lt_size ho), fun x c e => (hf b hb).2.2.2.2.1 x c (sub x c e)⟩
  · obtain ⟨_, _, _, f3, _⟩ := hf b hb
    rcases f3 with z | z
    · exact I.ok.noex b o e z
    · exact absurd (Nat.lt_of_lt_of_le (Heap.lt_size (I.ok.bs b o e).1) z) (Nat.lt_irrefl _)
  · obtain ⟨_, f1, f2, _⟩ := hf b hb
    rcases List.mem_cons.mp (I.stkSub b hz) with z | z
    · exact f1 z
    · exact f2 z
  · -- a name of the block: a free one
    have h2' : (ix[i]?.map fun o : Option Nat => o.bind fun j => (σ[j]?).join) = some (some v) := by rw [← List.getElem?_map]; exact h2
    cases q : ix[i]? with
    | none => rw [q] at h2'; cases h2'
    | some o =>
      rw [q] at h2'
      cases o with
      | none => cases h2'
      | some j =>
        have h2'' : (σ[j]?).join = some v := by simpa using h2'
        have hj : σ[j]? = some (some v) := by
          cases z : σ[j]? with
          | none => rw [z] at h2''; cases h2''
          | some y => rw [z] at h2''; simp at h2''; rw [h2'']
        obtain ⟨e1, e2⟩ := hix i j x q h1
        obtain ⟨m', hn', hl⟩ := I.loc
        have kk := hfr (x, .free) (PySem.mem_of_lookup e2) rfl
        have vis : Vis X.env.scope x := by
          rcases kk with z | z
          · exact .inr (.inl z)
          · exact .inr (.inr z)
        obtain ⟨u, r, lk⟩ := hl j x v e1 hj vis
        refine ⟨u, r, .inr ⟨kinds x e2, ?_⟩⟩
        rcases lk with ⟨z, _⟩ | ⟨_, c, hc, hv⟩
        · rcases kk with z' | z' <;> (rw [z] at z'; cases z')
        · obtain ⟨c', hc'⟩ := has x e2
          have : c' = c := by
            have := sub x c' hc'
            rw [hc] at this
            exact (Option.some.inj this).symm
          subst this
          exact ⟨c', hc', cellK _ _ hv⟩
  · obtain ⟨v, z⟩ := I.cell x c (sub x c e)
    exact ⟨v, cellK c v z⟩
  · exact I.hok.fresh (Nat.le_refl _)
  · show (ix.map _).length = N'.length
    rw [List.length_map, hlen]

theorem Inv.letgo {pins : List (Addr × Obj)} {σ : St} {H : Hp} {s : Shared} {C : Addr} {h' : Heap} (I : Inv X pins σ H s) (f : FpOk X pins H C) (sb : Heap.SameBut C s.heap h') : Inv X pins σ H { s with heap := h' } := by
  have ne : ∀ b, b ∉ [C] → b ≠ C := fun b hb z => hb (by rw [z]; exact List.mem_singleton.mpr rfl)
  have U : Un (frs X.stack) [C] H H s.heap h' := ⟨fun b o e _ _ hx => (sb.2 b (ne b hx)).trans e, fun b o e _ _ hx => ⟨o.slots, (sb.2 b (ne b hx)).trans e⟩, fun _ _ _ n _ => n, fun b o e hx => ⟨o, (sb.2 b (ne b hx)).trans e⟩, fun _ _ z => z, fun _ _ _ z => z, fun _ ps z => ⟨#[], by rw [Array.append_empty]; exact z⟩⟩
  have hok : HOk X.prog X.w H h' := fun b ob e => by
    refine (I.hok b ob e).stay (fun c w' hc z => (sb.2 c ?_).trans z) (fun _ z => z) fun _ _ z => z
    rintro rfl
    rcases hc with rfl | hc
    · rw [f.1] at e; cases e
    · rw [f.1] at hc; cases hc
  exact I.call' (s' := { s with heap := h' }) (ch := [C]) rfl U hok I.bare (fun b hb => by
    obtain rfl := List.mem_singleton.mp hb
    exact ⟨f.2.2.2.1, f.2.1, f.2.2.2.2.1, f.2.2.2.2.2⟩)

theorem comp_core {ipos : Pos} {use : Option (Value → Sem Unit)} {QQ : Value → Shared → Prop} {pins : List (Addr × Obj)} {s : Shared} {σ : St} {H : Hp} {Q : VK} (hc : X.calm = true) (hkind : scope.kind = .function) (hcell : ∀ y ∈ scope.names, y.2 ≠ .cell) (hnames : ∀ y ∈ scope.names, y.2 = .local → scope.names.lookup y.1 = some .local)
    (hfr : ∀ y ∈ scope.names, y.2 = .free → X.env.kindOf y.1 = some .cell ∨ X.env.kindOf y.1 = some .free)
    (hclos : closureFor scope X.env = pure (clOf X.env scope.names []))
    (hlen : ix.length = N'.length)
    (hix : ∀ (i j : Nat) (x : Str), ix[i]? = some (some j) → N'[i]? = some x → X.N[j]? = some x ∧ scope.names.lookup x = some .free)
    (hi : PI X tg iter wi) (hg : ∀ C s H fp, PG (blk X N' scope C s H fp) tg g) (ht : ∀ C s H fp, PTs (blk X N' scope C s H fp) ifs tc) (he : ∀ C s H fp, PE (blk X N' scope C s H fp) elt te)
    (hs : ∀ x, foldedSetIterable iter X.env x = pure x) (I : Inv X pins σ H s) (h : tComp wi g tc te ix σ H Q)
    (post : ∀ (a C : Addr) (H' : Hp) (s6 : Shared) (m' : Str → Option Value), Inv X pins σ H' s6 → FpOk X pins H' C → s6.heap.Ns C m' → Q (.ref a) H' → compPost (model X.prog X.w) X.A X.xe use QQ (.ref a) C (.ok .next) s6) :
    wpAny (model X.prog X.w) X.A (comprehension (.ListComp elt [⟨tg, iter, ifs, 0⟩] scope pos) scope X.env ipos (newList []) false (eval iter X.env) use) QQ X.xe s := by
  refine wpAny_comprehension_free (use := use) rfl hs hclos hkind hnames ?_
  refine thn (hi pins s σ H _ I h) fun v s1 h1 => thn h1 fun itv s2 h2 => ?_
  obtain ⟨it, fp, tn, J, H2, e, I2, T, st2, f2, q2⟩ := h2
  subst e
  have hfresh : H2 s2.heap.objs.size = none := I2.hok.fresh (Nat.le_refl _)
  obtain ⟨W, ⟨m0, w0⟩, turn⟩ := q2 s2.heap.objs.size hfresh
  refine wpAny_newObj_type (wpAny_newFunctionEnv hcell (by intro y hy; simp at hy) (fun h₁ hns₁ hsb₁ => ?_) hkind)
  dsimp only at hns₁ hsb₁ ⊢
  generalize hP : s2.heap.push { cls := .type "list", dict := none, data := .seq ([] : List Value).toArray } = P3 at hns₁ hsb₁ ⊢
  have hPs : P3.objs.size = s2.heap.objs.size + 1 := by rw [← hP, Heap.size_push]
  have up3 : ∀ b o, s2.heap.get? b = some o → P3.get? b = some o := fun b o e => by rw [← hP]; exact Heap.get?_push_of_some _ e
  have I3 : Inv X pins σ (upd H2 s2.heap.objs.size (.lst [])) { s2 with heap := P3 } := by
    refine I2.laid (t' := s2.toks) up3 (Nat.le_refl _) ?_
    refine ⟨by show 0 ≤ sizeLine; exact Nat.zero_le _, [], 0, .nil, ?_⟩
    rw [← hP]
    exact Heap.get?_push_size _ rfl
  have old : ∀ b o, P3.get? b = some o → h₁.get? b = some o := fun b o e => hsb₁.extBut b o (Nat.ne_of_lt (Heap.lt_size e)) (Heap.get?_push_of_some _ e)
  have hob : ∀ b ∈ fp, ∃ o, P3.get? b = some o := fun b hb => by
    obtain ⟨o, ho, _⟩ := T.obj _ _ st2 b hb
    exact ⟨o, up3 b o ho⟩
  have f3 : ∀ b ∈ fp, FpOk X pins (upd H2 s2.heap.objs.size (.lst [])) b := fun b hb => by
    obtain ⟨o, ho, _⟩ := T.obj _ _ st2 b hb
    refine ⟨?_, (f2 b hb).2⟩
    rw [upd_ne (Nat.ne_of_lt (Heap.lt_size ho))]
    exact (f2 b hb).1
  have I4 := blk_start (t' := s2.toks + ([] : List (Str × Value)).length) (ix := ix) (N' := N') hkind hcell hfr hlen hix I3 f3 hob hns₁ old
  have st4 : tn 0 h₁ := T.keep _ _ _ st2 fun b hb o e => old b o (up3 b o e)
  -- the loop
  have fpok : ∀ {H' : Hp}, (∀ b ∈ fp, H' b = none) → ∀ b ∈ fp, FpOk (blk X N' scope P3.objs.size { s2 with heap := P3 } (upd H2 s2.heap.objs.size (.lst [])) fp) [] H' b := fun hn b hb => by
    obtain ⟨o, ho⟩ := hob b hb
    obtain ⟨_, f1, f2', f3', f4, f5⟩ := f3 b hb
    refine ⟨hn b hb, Nat.ne_of_lt (Heap.lt_size ho), fun hz => ?_, .inl hb, fun x c e => f4 x c (clOf_sub scope.names [] (fun _ _ z => by simp at z) e), fun p hp => absurd (show p ∈ ([] : List (Addr × Obj)) from hp) (by simp)⟩
    rcases List.mem_cons.mp (I3.stkSub b hz) with z | z
    · exact f1 z
    · exact f2' z
  have fin : ∀ {τ : St} {H' : Hp} {s6 : Shared}, Inv (blk X N' scope P3.objs.size { s2 with heap := P3 } (upd H2 s2.heap.objs.size (.lst [])) fp) [] τ H' s6 → Q (.ref s2.heap.objs.size) H' →
      compPost (model X.prog X.w) X.A X.xe use QQ (.ref s2.heap.objs.size) P3.objs.size (.ok .next) s6 := fun {τ H' s6} J q => by
    obtain ⟨m', hn', _⟩ := id J.loc
    have U0 : Un (frs X.stack) fp H2 (upd H2 s2.heap.objs.size (.lst [])) s2.heap P3 := Un.laid up3 (Nat.le_refl _) hfresh
    have U1 : Un (frs X.stack) fp H2 H' s2.heap s6.heap := U0.trans J.base
    exact post _ _ H' s6 m' (I2.call' (s' := s6) (ch := fp) J.os U1 J.hok J.bare (fun b hb => ⟨(f2 b hb).2.2.2.1, (f2 b hb).2.1, (f2 b hb).2.2.2.2.1, (f2 b hb).2.2.2.2.2⟩)) (I2.fpOk (by rw [hPs]; exact Nat.le_succ _) J.free) hn' q
  have loop : codeAny (model X.prog X.w) X.A (.compLoop (.ListComp elt [⟨tg, iter, ifs, 0⟩] scope pos) 0 (.ref it) (.ref s2.heap.objs.size) (compEnvC scope (clOf X.env scope.names []) P3.objs.size X.env))
      (compPost (model X.prog X.w) X.A X.xe use QQ (.ref s2.heap.objs.size) P3.objs.size) { s2 with heap := h₁, toks := s2.toks + ([] : List (Str × Value)).length } := by
    refine comp_loop (fun n s' => ∃ i τ ys H', Inv (blk X N' scope P3.objs.size { s2 with heap := P3 } (upd H2 s2.heap.objs.size (.lst [])) fp) [] τ H' s' ∧ tn i s'.heap ∧ (∀ b ∈ fp, H' b = none) ∧ W i n τ ys H') ?_ m0
      ⟨0, _, [], _, I4, st4, fun b hb => (f3 b hb).1, w0⟩
    rintro n s5 ⟨i, τ, ys, H5, I5, st5, fr5, w5⟩
    obtain ⟨hacc, alt⟩ := turn i n τ ys H5 w5
    rcases alt with ⟨stop, qn⟩ | ⟨go, hsz, step⟩
    · refine thn (T.done (blk X N' scope P3.objs.size { s2 with heap := P3 } (upd H2 s2.heap.objs.size (.lst [])) fp) rfl rfl rfl hc i [] s5 τ H5 (fun _ _ => False) I5 (fpok fr5) st5 stop) fun r s6 ⟨hr, I6⟩ => ?_
      subst hr
      exact fin I6 qn
    · refine thn (T.item (blk X N' scope P3.objs.size { s2 with heap := P3 } (upd H2 s2.heap.objs.size (.lst [])) fp) rfl rfl rfl hc i [] s5 τ H5 (fun _ _ => False) I5 (fpok fr5) st5 go) fun r s6 ⟨u, hr, h6⟩ => ?_
      subst hr
      refine thn h6 fun _ s7 ⟨x, H7, I7, r7, y7, st7, fr7⟩ => ?_
      have I7' := I7.pinned (fpok fr7) (T.obj _ _ st7)
      have again : ∀ {τ9 : St} {H9 : Hp} {s9 : Shared} {ys9 : List V} {m9 : Nat}, Inv (blk X N' scope P3.objs.size { s2 with heap := P3 } (upd H2 s2.heap.objs.size (.lst [])) fp) ([] ++ pinsAt fp s7.heap) τ9 H9 s9 → m9 < n → W (i + 1) m9 τ9 ys9 H9 →
          ∃ m, m < n ∧ ∃ i τ ys H', Inv (blk X N' scope P3.objs.size { s2 with heap := P3 } (upd H2 s2.heap.objs.size (.lst [])) fp) [] τ H' s9 ∧ tn i s9.heap ∧ (∀ b ∈ fp, H' b = none) ∧ W i m τ ys H' := fun {τ9 H9 s9 ys9 m9} I9 hm w9 => by
        refine ⟨m9, hm, i + 1, τ9, ys9, H9, I9.unpinned, T.keep _ _ _ st7 fun b hb o e => (I9.pin (b, o) (List.mem_append_right _ (List.mem_append_right _ (mem_pinsAt hb e)))).1, fun b hb => ?_, w9⟩
        obtain ⟨o, e, d⟩ := T.obj _ _ st7 b hb
        exact (I9.pin (b, o) (List.mem_append_right _ (List.mem_append_right _ (mem_pinsAt hb e)))).2.1
      refine thn (hg P3.objs.size _ _ fp _ s7 τ H7 x u _ I7' r7 (step x H7 y7)) fun _ s8 ⟨τ8, H8, I8, q8⟩ => ?_
      refine thn (ht P3.objs.size _ _ fp _ s8 τ8 H8 _ I8 q8) fun b s9 ⟨H9, I9, q9⟩ => ?_
      cases b with
      | false =>
        simp only [Bool.false_eq_true, if_false] at q9 ⊢
        obtain ⟨m9, hm, w9⟩ := q9
        exact again I9 hm w9
      | true =>
        simp only [if_true] at q9 ⊢
        refine thn (he P3.objs.size _ _ fp _ s9 τ8 H9 _ I9 q9) fun y s10 ⟨yv, H10, I10, r10, ha10, m10, hm, w10⟩ => ?_
        refine thn (mt_append (X := blk X N' scope P3.objs.size { s2 with heap := P3 } (upd H2 s2.heap.objs.size (.lst [])) fp) _ s10 τ8 H10 (.ref s2.heap.objs.size) [yv] (.ref s2.heap.objs.size) [y] (fun _ H11 => H11 = upd H10 s2.heap.objs.size (.lst (ys ++ [yv]))) I10 rfl (.cons r10 .nil)
          ⟨s2.heap.objs.size, ys, yv, rfl, rfl, ha10, hsz, rfl⟩) fun _ s11 ⟨_, H11, I11, _, e11⟩ => ?_
        subst e11
        exact again I11 hm w10
  exact codeAny_compStart_list loop (T.self _ 0 _ _ _ st4 loop)

theorem pe_comp (hc : X.calm = true) (hkind : scope.kind = .function) (hcell : ∀ y ∈ scope.names, y.2 ≠ .cell) (hnames : ∀ y ∈ scope.names, y.2 = .local → scope.names.lookup y.1 = some .local)
    (hfr : ∀ y ∈ scope.names, y.2 = .free → X.env.kindOf y.1 = some .cell ∨ X.env.kindOf y.1 = some .free)
    (hclos : closureFor scope X.env = pure (clOf X.env scope.names []))
    (hlen : ix.length = N'.length)
    (hix : ∀ (i j : Nat) (x : Str), ix[i]? = some (some j) → N'[i]? = some x → X.N[j]? = some x ∧ scope.names.lookup x = some .free)
    (hi : PI X tg iter wi) (hg : ∀ C s H fp, PG (blk X N' scope C s H fp) tg g) (ht : ∀ C s H fp, PTs (blk X N' scope C s H fp) ifs tc) (he : ∀ C s H fp, PE (blk X N' scope C s H fp) elt te)
    (hs : ∀ x, foldedSetIterable iter X.env x = pure x := by intro _; rfl) : PE X (.ListComp elt [⟨tg, iter, ifs, 0⟩] scope pos) (tComp wi g tc te ix) := by
  intro pins s σ H Q I h
  rw [eval_ListComp]
  show wpAny _ X.A (comprehension (.ListComp elt [⟨tg, iter, ifs, 0⟩] scope pos) scope X.env (firstIterPos [⟨tg, iter, ifs, 0⟩] pos) (newList []) false (eval iter X.env) none) _ _ s
  exact comp_core (ipos := firstIterPos [⟨tg, iter, ifs, 0⟩] pos) (use := none) (QQ := EP X pins σ Q) hc hkind hcell hnames hfr hclos hlen hix hi hg ht he hs I h fun a C H' s6 m' I6 f hn q => ⟨m', hn, fun h' sb => ⟨.ref a, H', I6.letgo f sb, rfl, q⟩⟩
/-- name = [..] -/
theorem ps_comp0 {i : Nat} {y : Str} {py spos : Pos} (hN : X.N.Nodup) (hiN : X.N[i]? = some y) (hy : Loc X.env.scope y) (hc : X.calm = true) (hkind : scope.kind = .function) (hcell : ∀ y ∈ scope.names, y.2 ≠ .cell) (hnames : ∀ y ∈ scope.names, y.2 = .local → scope.names.lookup y.1 = some .local)
    (hfr : ∀ y ∈ scope.names, y.2 = .free → X.env.kindOf y.1 = some .cell ∨ X.env.kindOf y.1 = some .free)
    (hclos : closureFor scope X.env = pure (clOf X.env scope.names []))
    (hlen : ix.length = N'.length)
    (hix : ∀ (i j : Nat) (x : Str), ix[i]? = some (some j) → N'[i]? = some x → X.N[j]? = some x ∧ scope.names.lookup x = some .free)
    (hi : PI X tg iter wi) (hg : ∀ C s H fp, PG (blk X N' scope C s H fp) tg g) (ht : ∀ C s H fp, PTs (blk X N' scope C s H fp) ifs tc) (he : ∀ C s H fp, PE (blk X N' scope C s H fp) elt te)
    (hsw : swapsWith (.ListComp elt [⟨tg, iter, ifs, 0⟩] scope pos) (some (.Name y py)) spos.line X.env = pure true := by rfl)
    (hs : ∀ x, foldedSetIterable iter X.env x = pure x := by intro _; rfl) (hf : X.fn y = true ∨ X.env.scope.names.lookup y = some .local := by first | exact .inl rfl | exact .inr rfl | assumption) :
    PS X (.Assign [.Name y py] (.ListComp elt [⟨tg, iter, ifs, 0⟩] scope pos) spos) (tAsg (tComp wi g tc te ix) (gName i)) := by
  intro pins s σ H D I h
  rw [exec_Assign_Name_used _ _ _ _ hsw]
  refine wpAny_bind (wpAny_standAt (wpAny_bind ?_))
  show wpAny _ X.A (do let _ ← comprehension (.ListComp elt [⟨tg, iter, ifs, 0⟩] scope pos) scope X.env (firstIterPos [⟨tg, iter, ifs, 0⟩] pos) (newList []) false (eval iter X.env) (some (assign (.Name y py) X.env))) _ _ s
  refine wpAny_bind (wpAny_mono (comp_core (ipos := firstIterPos [⟨tg, iter, ifs, 0⟩] pos) (use := some (assign (.Name y py) X.env)) (QQ := fun _ s' => SP X pins D .next s') hc hkind hcell hnames hfr hclos hlen hix hi hg ht he hs I h ?_) (fun _ s' hq => wpAny_pure (wpAny_pure hq)) fun _ _ e => e)
  intro a C H' s6 m' I6 f hn q
  refine wpAny_assign_Name (store_ok2 I6 hN hiN hy (v := .ref a) rfl (fun s7 I7 sb7 => ?_) hf)
  obtain ⟨b, sb, hb⟩ := sb7
  have hne : C ≠ b := by
    rcases hb with hb | hb
    · rw [hb]; exact f.2.1
    · exact (f.2.2.2.2.1 y b hb).symm
  exact ⟨m', hn.sameBut sb hne, fun h' sb' => ⟨_, H', I7.letgo f sb', q⟩⟩
end
end L2
end
section
set_option Elab.async false
set_option linter.all false
set_option maxRecDepth 100000
set_option maxHeartbeats 4000000
namespace L2
open PySem PySem.Spec PyProof.Rows

/-! ### the next item of a list's or a tuple's iterator (k: a list) -/
def ItAt (k : Bool) (h : Heap) (it a : Addr) (i : Nat) : Prop := match k with
  | true => h.IsListIter it a i
  | false => h.IsTupleIter it a i
def SeAt (k : Bool) (h : Heap) (a : Addr) (its : Array Value) : Prop := match k with
  | true => h.IsList a its
  | false => h.IsTuple a its
section
variable {prog : Program} {w : World} {A : Around} {E : Value → Shared → Prop} {s : Shared}
/-! ### zip of two -/
end
/-- zip(a, b), both tuples (of lists the library has it) -/
abbrev zH1 (h : Heap) (a : Addr) : Heap := h.push { cls := .type "tuple_iterator", data := .fields #[.ref a, .int 0 0] }
abbrev zH2 (h : Heap) (a b : Addr) : Heap := (zH1 h a).push { cls := .type "tuple_iterator", data := .fields #[.ref b, .int 0 0] }
abbrev zH3 (h : Heap) (a b : Addr) : Heap := (zH2 h a b).push { cls := .type "tuple", data := .seq #[.ref h.objs.size, .ref (zH1 h a).objs.size] }
abbrev zH4 (h : Heap) (a b : Addr) : Heap := (zH3 h a b).push { cls := .type "tuple", data := .seq #[.none, .none] }
abbrev zH5 (h : Heap) (a b : Addr) : Heap := (zH4 h a b).push { cls := .type "zip", data := .fields #[.none, .bool false, .bool false, .ref (zH2 h a b).objs.size, .ref (zH3 h a b).objs.size] }
/-! ### as things that a loop walks -/
def Sq (k : Bool) (K : PySem.W.Frag) (H : Hp) (a : Addr) (xs : List V) : Prop := match k with
  | true => SqL K H a xs
  | false => SqT K H a xs
/-- the pairs -/
def Itz (K : PySem.W.Frag) (k1 k2 : Bool) (a b : Addr) : It :=
  ⟨fun i H => ∃ xs ys x y, Sq k1 K H a xs ∧ Sq k2 K H b ys ∧ xs[i]? = some x ∧ ys[i]? = some y,
   fun i H v H' => ∃ p, H p = none ∧ v = .ref p ∧ ∀ xs ys, Sq k1 K H a xs → Sq k2 K H b ys → ∃ x y, xs[i]? = some x ∧ ys[i]? = some y ∧ H' = upd H p (.tup [x, y]),
   fun i H => ∃ xs ys, Sq k1 K H a xs ∧ Sq k2 K H b ys ∧ (xs.length ≤ i ∨ ys.length ≤ i)⟩
end L2
end
section
set_option Elab.async false
set_option linter.all false
set_option maxRecDepth 100000
set_option maxHeartbeats 4000000
namespace L2
open PySem PySem.Spec PyProof.Rows

section
variable {X : Cx}
/-! ### zip(a, b), enumerate(a) in a loop's head -/
def iZip (K : PySem.W.Frag) (ta : TA) : TI := fun σ H R => ta σ H fun vs H1 => ∃ k a b xs ys, vs = [.ref a, .ref b] ∧ Sq k K H1 a xs ∧ Sq k K H1 b ys ∧ R (Itz K k k a b) H1
/-! ### isinstance -/
/-- isinstance(x, T), T a built-in type -/
def rIsi (K : PySem.W.Frag) : List V → Hp → VK → Prop := fun xs H Q => ∃ x T t b, xs = [x, .ty T] ∧ TyOf K H x t ∧ PySem.W.kitOne K t (.type T) = some b ∧ Q (.bl b) H
theorem call_isi : CallR X (.builtin "isinstance") (rIsi X.K) := by
  intro pins s σ H xs us Q I r h
  obtain ⟨x, T, t, b, rfl, ty, e, q⟩ := h
  obtain ⟨u, w', rfl, rx, rT⟩ := vals2 r
  cases rT
  exact isinst_ok I rx ty e fun tk => ⟨.bl b, H, I.tok tk, rfl, q⟩
/-- isinstance(x, (T, ..)) -/
def rIsiT (K : PySem.W.Frag) : List V → Hp → VK → Prop := fun xs H Q => ∃ (x : V) (p : Addr) (Ts : List String) (t : Value) (b : Bool), xs = [x, .ref p] ∧ SqT K H p (Ts.map V.ty) ∧ TyOf K H x t ∧ PySem.W.kitAny K t (Ts.map Value.type) = some b ∧ Q (.bl b) H
/-! ### sum, max, min of a list of ints -/
theorem max_of_list (hc : X.calm = true) : CallR X (.builtin "max") (fun xs H Q => ∃ (p : Addr) (ns : List Int), xs = [.ref p] ∧ SqL X.K H p (ns.map V.int) ∧ 0 < ns.length ∧ ∀ M, M ∈ ns → (∀ a, a ∈ ns → a ≤ M) → Q (.int M) H) := by
  intro pins s σ H xs us Q I r h
  obtain ⟨p, ns, rfl, hq, hne, q⟩ := h
  obtain ⟨u, rfl, ru⟩ := vals1 r
  cases ru
  obtain ⟨its, rv, pl, _⟩ := I.list hq
  have hi := intsAre_of rv
  obtain ⟨ys, e⟩ := hi.allInts.items
  have hl := pl.isList
  rw [e] at hl
  have hns : ns = ys.toList.map (·.1) := by rw [← hi.numsOf, ← nums_intItems, ← e]
  have hsz : 0 < ys.size := by rw [hns, List.length_map, Array.length_toList] at hne; exact hne
  refine max_intList (I.ok.hd hc) hl hsz fun v h' tk hv hk => ?_
  obtain ⟨t, rfl⟩ := intItems_at hv
  obtain ⟨h1, h2⟩ := argBest_gt (numAt ys) (ys.size - 1)
  refine ⟨.int _, H, I.kept hk, ⟨t, rfl⟩, q _ ?_ fun a ha => ?_⟩
  · rw [hns, numAt_eq]; exact getD_mem (by rw [List.length_map, Array.length_toList]; (first | lia | omega))
  · rw [hns] at ha
    obtain ⟨j, hj, rfl⟩ := mem_getD ha
    rw [List.length_map, Array.length_toList] at hj
    rw [← numAt_eq]; exact h2 j (by (first | lia | omega))
/-! ### == and != of lists and tuples -/
/-- how two things compare (n deep) -/
inductive EqD (K : PySem.W.Frag) (H : Hp) : Nat → V → V → Bool → Prop
  | flat {x y : V} (fx : flatV x = true) (fy : flatV y = true) : EqD K H 0 x y (eqV x y)
  | tup {n : Nat} {a b : Addr} {xs ys : List V} {e : Nat → Bool} (ha : SqT K H a xs) (hb : SqT K H b ys) (h : ∀ (j : Nat) x y, xs[j]? = some x → ys[j]? = some y → EqD K H n x y (e j)) :
      EqD K H (n + 1) (.ref a) (.ref b) ((List.range (min xs.length ys.length)).all e && xs.length == ys.length)
  | lst {n : Nat} {a b : Addr} {xs ys : List V} {e : Nat → Bool} (ha : SqL K H a xs) (hb : SqL K H b ys) (hl : xs.length = ys.length) (h : ∀ (j : Nat) x y, xs[j]? = some x → ys[j]? = some y → EqD K H n x y (e j)) :
      EqD K H (n + 1) (.ref a) (.ref b) ((List.range xs.length).all e)
  | len {n : Nat} {a b : Addr} {xs ys : List V} (ha : SqL K H a xs) (hb : SqL K H b ys) (hl : xs.length ≠ ys.length) : EqD K H (n + 1) (.ref a) (.ref b) false
theorem all_range {n : Nat} {e : Nat → Bool} (h : ∀ j, j < n → e j = true) : (List.range n).all e = true := List.all_eq_true.mpr fun j hj => h j (List.mem_range.mp hj)
theorem EqD.same {pins : List (Addr × Obj)} {σ : St} {H : Hp} {s : Shared} (I : Inv X pins σ H s) {n : Nat} {x y : V} {b : Bool} (h : EqD X.K H n x y b) : x = y → b = true := by
  induction h with
  | @flat x y fx fy =>
    rintro rfl
    cases x <;> first | rfl | exact beq_self_eq_true _ | exact absurd (show false = true from fx) Bool.false_ne_true
  | @tup n a b xs ys e ha hb h ih =>
    intro z
    cases z
    have q := I.tuple_inj ha hb
    subst q
    rw [Bool.and_eq_true]
    refine ⟨all_range fun j hj => ?_, beq_self_eq_true _⟩
    have hj' : j < xs.length := by (first | lia | omega)
    exact ih j xs[j] xs[j] (List.getElem?_eq_getElem hj') (List.getElem?_eq_getElem hj') rfl
  | @lst n a b xs ys e ha hb hl h ih =>
    intro z
    cases z
    have q := I.list_inj ha hb
    subst q
    refine all_range fun j hj => ?_
    exact ih j xs[j] xs[j] (List.getElem?_eq_getElem hj) (List.getElem?_eq_getElem hj) rfl
  | @len n a b xs ys ha hb hl =>
    intro z
    cases z
    exact absurd (congrArg List.length (I.list_inj ha hb)) hl
theorem Vals.at {xs : List V} {us : List Value} (r : Vals xs us) {j : Nat} (h : j < us.length) : ∃ x, xs[j]? = some x ∧ RelV x us[j] := by
  have h' : j < xs.length := by rw [r.length]; exact h
  obtain ⟨u, e, q⟩ := r.get (List.getElem?_eq_getElem h')
  rw [List.getElem?_eq_getElem h] at e
  cases e
  exact ⟨_, List.getElem?_eq_getElem h', q⟩
theorem EqD.at {pins : List (Addr × Obj)} {σ : St} {H : Hp} {s : Shared} (I : Inv X pins σ H s) {n : Nat} {x y : V} {b : Bool} (h : EqD X.K H n x y b) :
    ∀ {A : Around} {u v : Value}, RelV x u → RelV y v → A.units + n < cLine → SeqAt.EqAt A s u v b := by
  induction h with
  | @flat x y fx fy => intro A u v rx ry _; exact eqAt_V rx ry fx fy
  | @tup n a b xs ys e ha hb h ih =>
    intro A u v rx ry hu
    cases rx
    cases ry
    by_cases hab : a = b
    · have z := (EqD.tup (n := n) ha hb h).same I (by rw [hab])
      rw [z, hab]
      exact SeqAt.EqAt.same _
    · obtain ⟨ia, ra, pa, _⟩ := I.tuple ha
      obtain ⟨ib, rb, pb, _⟩ := I.tuple hb
      have q := SeqAt.RcAt.tuples (A := A) (e := e) (show s.heap.IsTuple a ia.toArray from pa) (show s.heap.IsTuple b ib.toArray from pb) (by (first | lia | omega)) fun j h1 h2 => by
        have h1' : j < ia.length := by simpa using h1
        have h2' : j < ib.length := by simpa using h2
        obtain ⟨x, ex, rx⟩ := ra.at h1'
        obtain ⟨y, ey, ry⟩ := rb.at h2'
        have := ih j x y ex ey (A := A.in1) (u := ia[j]) (v := ib[j]) rx ry (by show A.units + 1 + n < cLine; (first | lia | omega))
        simpa using this
      have la := ra.length
      have lb := rb.length
      have q' := SeqAt.EqAt.of_refs hab q
      simpa [la, lb] using q'
  | @lst n a b xs ys e ha hb hl h ih =>
    intro A u v rx ry hu
    cases rx
    cases ry
    by_cases hab : a = b
    · have z := (EqD.lst (n := n) ha hb hl h).same I (by rw [hab])
      rw [z, hab]
      exact SeqAt.EqAt.same _
    · obtain ⟨ia, ra, pa, _⟩ := I.list ha
      obtain ⟨ib, rb, pb, _⟩ := I.list hb
      have la := ra.length
      have lb := rb.length
      have q := SeqAt.RcAt.lists (A := A) (e := e) pa.isList pb.isList (by simp; (first | lia | omega)) (by (first | lia | omega)) fun j h1 h2 => by
        have h1' : j < ia.length := by simpa using h1
        have h2' : j < ib.length := by simpa using h2
        obtain ⟨x, ex, rx⟩ := ra.at h1'
        obtain ⟨y, ey, ry⟩ := rb.at h2'
        have := ih j x y ex ey (A := A.in1) (u := ia[j]) (v := ib[j]) rx ry (by show A.units + 1 + n < cLine; (first | lia | omega))
        simpa using this
      have q' := SeqAt.EqAt.of_refs hab q
      simpa [la, lb] using q'
  | @len n a b xs ys ha hb hl =>
    intro A u v rx ry hu
    cases rx
    cases ry
    have hab : a ≠ b := fun z => by subst z; exact hl (congrArg List.length (I.list_inj ha hb))
    obtain ⟨ia, ra, pa, _⟩ := I.list ha
    obtain ⟨ib, rb, pb, _⟩ := I.list hb
    have la := ra.length
    have lb := rb.length
    exact SeqAt.EqAt.of_refs hab (SeqAt.RcAt.lists_lengths pa.isList pb.isList (by simp; (first | lia | omega)) (by (first | lia | omega)))
def rEqD (K : PySem.W.Frag) (neg : Bool) : R2 := fun x y H Q => ∃ n b, EqD K H (n + 1) x y b ∧ n ≤ 50 ∧ Q (.bl (if neg then !b else b)) H
theorem op_eqD {k : Nat} (hr : Room k X.A) : OpR X (compareOp .Eq) (rEqD X.K false) := by
  intro pins s σ H x y v u Q I rx ry h
  obtain ⟨n, b, h, hn, q⟩ := h
  have hu := hr.units
  have fin : ∀ {b : Bool} {u v : Value}, SeqAt.RcAt X.A s u v b → Q (.bl b) H → wpAny (model X.prog X.w) X.A (compareOp .Eq u v) (EP X pins σ Q) X.xe s := fun {b _ _} z q => z _ _ _ _ ⟨.bl b, H, I, rfl, q⟩
  cases h with
  | @tup n a b xs ys e ha hb h =>
    cases rx
    cases ry
    obtain ⟨ia, ra, pa, _⟩ := I.tuple ha
    obtain ⟨ib, rb, pb, _⟩ := I.tuple hb
    have la := ra.length
    have lb := rb.length
    refine fin (SeqAt.RcAt.tuples (A := X.A) (e := e) (show s.heap.IsTuple a ia.toArray from pa) (show s.heap.IsTuple b ib.toArray from pb) (by (first | lia | omega)) fun j h1 h2 => ?_) (by simpa [la, lb] using q)
    have h1' : j < ia.length := by simpa using h1
    have h2' : j < ib.length := by simpa using h2
    obtain ⟨x, ex, rx⟩ := ra.at h1'
    obtain ⟨y, ey, ry⟩ := rb.at h2'
    have := (h j x y ex ey).at I (A := X.A.in1) (u := ia[j]) (v := ib[j]) rx ry (by show X.A.units + 1 + n < cLine; (first | lia | omega))
    simpa using this
  | @lst n a b xs ys e ha hb hl h =>
    cases rx
    cases ry
    obtain ⟨ia, ra, pa, _⟩ := I.list ha
    obtain ⟨ib, rb, pb, _⟩ := I.list hb
    have la := ra.length
    have lb := rb.length
    refine fin (SeqAt.RcAt.lists (A := X.A) (e := e) pa.isList pb.isList (by simp; (first | lia | omega)) (by (first | lia | omega)) fun j h1 h2 => ?_) (by simpa [la, lb] using q)
    have h1' : j < ia.length := by simpa using h1
    have h2' : j < ib.length := by simpa using h2
    obtain ⟨x, ex, rx⟩ := ra.at h1'
    obtain ⟨y, ey, ry⟩ := rb.at h2'
    have := (h j x y ex ey).at I (A := X.A.in1) (u := ia[j]) (v := ib[j]) rx ry (by show X.A.units + 1 + n < cLine; (first | lia | omega))
    simpa using this
  | @len n a b xs ys ha hb hl =>
    cases rx
    cases ry
    obtain ⟨ia, ra, pa, _⟩ := I.list ha
    obtain ⟨ib, rb, pb, _⟩ := I.list hb
    have la := ra.length
    have lb := rb.length
    exact fin (SeqAt.RcAt.lists_lengths pa.isList pb.isList (by simp; (first | lia | omega)) (by (first | lia | omega))) (by simpa using q)
theorem op_neD {k : Nat} (hr : Room k X.A) : OpR X (compareOp .NotEq) (rEqD X.K true) := by
  intro pins s σ H x y v u Q I rx ry h
  obtain ⟨n, b, h, hn, q⟩ := h
  have hu := hr.units
  have fin : ∀ {b : Bool} {u v : Value}, SeqAt.RcNeAt X.A s u v b → Q (.bl b) H → wpAny (model X.prog X.w) X.A (compareOp .NotEq u v) (EP X pins σ Q) X.xe s := fun {b _ _} z q => z _ _ _ _ ⟨.bl b, H, I, rfl, q⟩
  cases h with
  | @tup n a b xs ys e ha hb h =>
    cases rx
    cases ry
    obtain ⟨ia, ra, pa, _⟩ := I.tuple ha
    obtain ⟨ib, rb, pb, _⟩ := I.tuple hb
    have la := ra.length
    have lb := rb.length
    refine fin (SeqAt.RcNeAt.tuples (A := X.A) (e := e) (show s.heap.IsTuple a ia.toArray from pa) (show s.heap.IsTuple b ib.toArray from pb) (by (first | lia | omega)) fun j h1 h2 => ?_) (by simpa [la, lb] using q)
    have h1' : j < ia.length := by simpa using h1
    have h2' : j < ib.length := by simpa using h2
    obtain ⟨x, ex, rx⟩ := ra.at h1'
    obtain ⟨y, ey, ry⟩ := rb.at h2'
    have := (h j x y ex ey).at I (A := X.A.in1) (u := ia[j]) (v := ib[j]) rx ry (by show X.A.units + 1 + n < cLine; (first | lia | omega))
    simpa using this
  | @lst n a b xs ys e ha hb hl h =>
    cases rx
    cases ry
    obtain ⟨ia, ra, pa, _⟩ := I.list ha
    obtain ⟨ib, rb, pb, _⟩ := I.list hb
    have la := ra.length
    have lb := rb.length
    refine fin (SeqAt.RcNeAt.lists (A := X.A) (e := e) pa.isList pb.isList (by simp; (first | lia | omega)) (by (first | lia | omega)) fun j h1 h2 => ?_) (by simpa [la, lb] using q)
    have h1' : j < ia.length := by simpa using h1
    have h2' : j < ib.length := by simpa using h2
    obtain ⟨x, ex, rx⟩ := ra.at h1'
    obtain ⟨y, ey, ry⟩ := rb.at h2'
    have := (h j x y ex ey).at I (A := X.A.in1) (u := ia[j]) (v := ib[j]) rx ry (by show X.A.units + 1 + n < cLine; (first | lia | omega))
    simpa using this
  | @len n a b xs ys ha hb hl =>
    cases rx
    cases ry
    obtain ⟨ia, ra, pa, _⟩ := I.list ha
    obtain ⟨ib, rb, pb, _⟩ := I.list hb
    have la := ra.length
    have lb := rb.length
    exact fin (SeqAt.RcNeAt.lists_lengths pa.isList pb.isList (by simp; (first | lia | omega)) (by (first | lia | omega))) (by simpa using q)
end
/-- lists of ints -/
theorem EqD.ints {K : PySem.W.Frag} {H : Hp} {a b : Addr} {ns ms : List Int} (ha : SqL K H a (ns.map V.int)) (hb : SqL K H b (ms.map V.int)) : EqD K H 1 (.ref a) (.ref b) (decide (ns = ms)) := by
  by_cases hl : ns.length = ms.length
  · have q := EqD.lst (n := 0) (e := fun j => ns.getD j 0 == ms.getD j 0) ha hb (by simpa using hl) fun j x y ex ey => by
      rw [List.getElem?_map] at ex ey
      cases e1 : ns[j]? with
      | none => rw [e1] at ex; cases ex
      | some i =>
        cases e2 : ms[j]? with
        | none => rw [e2] at ey; cases ey
        | some i' =>
          rw [e1] at ex; rw [e2] at ey
          cases ex; cases ey
          have z := EqD.flat (K := K) (H := H) (x := V.int i) (y := V.int i') rfl rfl
          have z2 : (ns.getD j 0 == ms.getD j 0) = eqV (V.int i) (V.int i') := by rw [List.getD_eq_getElem?_getD, List.getD_eq_getElem?_getD, e1, e2]; rfl
          rw [z2]
          exact z
    have e : (List.range (ns.map V.int).length).all (fun j => ns.getD j 0 == ms.getD j 0) = decide (ns = ms) := by
      rw [List.length_map, Bool.eq_iff_iff, decide_eq_true_iff, List.all_eq_true]
      constructor
      · intro h
        refine List.ext_getElem hl fun j h1 h2 => ?_
        have := h j (List.mem_range.mpr h1)
        rw [List.getD_eq_getElem?_getD, List.getD_eq_getElem?_getD, List.getElem?_eq_getElem h1, List.getElem?_eq_getElem h2] at this
        simpa using this
      · rintro rfl j _
        exact beq_self_eq_true _
    rw [← e]
    exact q
  · have q := EqD.len (n := 0) ha hb (by simpa using hl)
    rw [decide_eq_false (fun z => hl (congrArg List.length z))]
    exact q
section
variable {X : Cx} {a b c d : Expr} {ta tb tc td : TE} {pos : Pos}
/-! ### a op b op c op d -/
def tChain3 (r r' r'' : R2) (ta tb tc td : TE) : TE := fun σ H Q => ta σ H fun x H1 => tb σ H1 fun y H2 => r x y H2 fun z H3 => ∃ k, z = .bl k ∧
  (if k = true then tc σ H3 fun w' H4 => r' y w' H4 fun z' H5 => ∃ k', z' = .bl k' ∧ (if k' = true then td σ H5 fun w'' H6 => r'' w' w'' H6 Q else Q (.bl false) H5) else Q (.bl false) H3)
theorem pe_chain3 {op op' op'' : CmpOp} {r r' r'' : R2} (ho : OpR X (compareOp op) r) (ho' : OpR X (compareOp op') r') (ho'' : OpR X (compareOp op'') r'') (ha : PE X a ta) (hb : PE X b tb) (hc : PE X c tc) (hd : PE X d td)
    (hm : lastMarks [op, op', op''] [b, c, d] = false := by with_unfolding_all rfl) : PE X (.Compare a [op, op', op''] [b, c, d] pos) (tChain3 r r' r'' ta tb tc td) := by
  intro pins s σ H Q I h
  refine Compare_chain (thn (ha pins s σ H _ I h) fun v s1 ⟨x, H1, I1, r1, q1⟩ => chain_link (thn (hb pins s1 σ H1 _ I1 q1) fun u s2 ⟨y, H2, I2, r2, q2⟩ =>
    thn (ho pins s2 σ H2 x y v u _ I2 r1 r2 q2) fun d s3 ⟨z, H3, I3, r3, k, e, q3⟩ => ?_)) hm
  subst e
  cases r3
  refine wpAny_truthy_bool ?_
  cases k with
  | false => exact ite_ff ⟨.bl false, H3, I3, rfl, q3⟩
  | true =>
    refine ite_tt (chain_link (thn (hc pins s3 σ H3 _ I3 q3) fun w' s4 ⟨z', H4, I4, r4, q4⟩ => thn (ho' pins s4 σ H4 y z' u w' _ I4 r2 r4 q4) fun d' s5 ⟨z2, H5, I5, r5, k', e', q5⟩ => ?_))
    subst e'
    cases r5
    refine wpAny_truthy_bool ?_
    cases k' with
    | false => exact ite_ff ⟨.bl false, H5, I5, rfl, q5⟩
    | true => exact ite_tt (chain_last (thn (hd pins s5 σ H5 _ I5 q5) fun w'' s6 ⟨z3, H6, I6, r6, q6⟩ => ho'' pins s6 σ H6 z' z3 w' w'' Q I6 r4 r6 q6))
end
end L2
end
section
set_option Elab.async false
set_option linter.all false
set_option maxRecDepth 100000
set_option maxHeartbeats 4000000
namespace L2
open PySem PySem.Spec PyProof.Rows

/-! ### a def as its callers know it -/
structure Def (P : Program) (w : World) (K : PySem.W.Frag) (mg : Str → Option Value) (base : Heap) (k : Nat) (x : Str) (ps : List Str) (sp : Sp) : Prop where
  ex : ∃ (f : Addr) (fd : FuncData), FnOk P w K mg base CX0 k f fd ps sp ∧ Binds K fd ps [] ∧ PySem.W.keepIn K (.ref f) = true ∧ mg x = some (.ref f)
theorem Def.mono {P : Program} {w : World} {K : PySem.W.Frag} {mg : Str → Option Value} {base : Heap} {j k : Nat} {x : Str} {ps : List Str} {sp : Sp} (D : Def P w K mg base j x ps sp) (h : j ≤ k) : Def P w K mg base k x ps sp := by
  obtain ⟨f, fd, F, b, kp, m⟩ := D.ex
  exact ⟨f, fd, F.mono h, b, kp, m⟩
theorem pe_def {X : Cx} {k : Nat} {x : Str} {ps : List Str} {sp : Sp} {p pos : Pos} {e : Expr} {es : List Expr} {t : TA} (D : Def X.prog X.w X.K X.mg X.base k x ps sp) (hr : Room k X.A) (hg : Gl X x) (ha : PA X (e :: es) t)
    (hdb : (x == ("__debug__" : Str)) = false := by decide) (he : starEach (e :: es) X.env = (false, eval e X.env) :: starEach es X.env := by rfl) (hpl : (backTo pos (starEach es X.env)).any (·.1) = false := by rfl) : PE X (.Call (.Name x p) (e :: es) [] pos) (tCall sp [] E0 t) := by
  obtain ⟨f, fd, F, b, kp, m⟩ := D.ex
  exact pe_call F hr hg m kp b .nil pass0 ha hdb he hpl
/-- names that the text leaves to the built-ins -/
structure Blt (mg : Str → Option Value) : Prop where
  len_ : mg "len" = none
  range_ : mg "range" = none
  isinstance_ : mg "isinstance" = none
  int_ : mg "int" = none
  bool_ : mg "bool" = none
  tuple_ : mg "tuple" = none
  list_ : mg "list" = none
  sum_ : mg "sum" = none
  abs_ : mg "abs" = none
  min_ : mg "min" = none
  max_ : mg "max" = none
  zip_ : mg "zip" = none
  enumerate_ : mg "enumerate" = none
  all_ : mg "all" = none
  str_ : mg "str" = none

/-! ### a comprehension, its scope looked at by program -/
def okCell (ns : List (Str × NameKind)) : Bool := ns.all fun y => (y.2 != .cell) && (y.2 != .local || ns.lookup y.1 == some .local)
def okFree (fs ns : List (Str × NameKind)) : Bool := ns.all fun y => y.2 != .free || (fs.lookup y.1 == some .cell || fs.lookup y.1 == some .free)
def okIx (N XN : List Str) (ns : List (Str × NameKind)) (ix : List (Option Nat)) : Bool := (List.range ix.length).all fun i => match ix[i]?, N[i]? with
  | some (some j), some x => XN[j]? == some x && ns.lookup x == some .free
  | _, _ => true
theorem okIx_of {N XN : List Str} {ns : List (Str × NameKind)} {ix : List (Option Nat)} (h : okIx N XN ns ix = true) (i j : Nat) (x : Str) (h1 : ix[i]? = some (some j)) (h2 : N[i]? = some x) : XN[j]? = some x ∧ ns.lookup x = some .free := by
  have hi : i < ix.length := by
    obtain ⟨q, _⟩ := List.getElem?_eq_some_iff.mp h1
    exact q
  have q := List.all_eq_true.mp h i (List.mem_range.mpr hi)
  rw [h1, h2] at q
  simp only [Bool.and_eq_true, beq_iff_eq] at q
  exact q
section
variable {X : Cx} {elt tg iter : Expr} {ifs : List Expr} {scope : Scope} {pos : Pos} {wi : TI} {g : TG} {tc : TT} {te : TE} {N' : List Str} {ix : List (Option Nat)}
theorem pe_lc (hc : X.calm = true) (hkind : scope.kind = .function) (h1 : okCell scope.names = true) (h2 : okFree X.env.scope.names scope.names = true)
    (hclos : closureFor scope X.env = pure (clOf X.env scope.names [])) (hlen : ix.length = N'.length) (h3 : okIx N' X.N scope.names ix = true)
    (hi : PI X tg iter wi) (hg : ∀ C s H fp, PG (blk X N' scope C s H fp) tg g) (ht : ∀ C s H fp, PTs (blk X N' scope C s H fp) ifs tc) (he : ∀ C s H fp, PE (blk X N' scope C s H fp) elt te)
    (hs : ∀ x, foldedSetIterable iter X.env x = pure x := by intro _; rfl) : PE X (.ListComp elt [⟨tg, iter, ifs, 0⟩] scope pos) (tComp wi g tc te ix) := by
  refine pe_comp hc hkind (fun y hy => ?_) (fun y hy hl => ?_) (fun y hy hf => ?_) hclos hlen (okIx_of h3) hi hg ht he hs
  · have q := List.all_eq_true.mp h1 y hy
    simp only [Bool.and_eq_true, bne_iff_ne, ne_eq] at q
    exact q.1
  · have q := List.all_eq_true.mp h1 y hy
    rw [hl] at q
    simp only [Bool.and_eq_true, Bool.or_eq_true, bne_self_eq_false, Bool.false_eq_true, false_or, beq_iff_eq] at q
    exact q.2
  · have q := List.all_eq_true.mp h2 y hy
    rw [hf] at q
    simp only [Bool.or_eq_true, bne_self_eq_false, Bool.false_eq_true, false_or, beq_iff_eq] at q
    exact q
/-- name = [..], the name not used in a block -/
theorem ps_lc {i : Nat} {y : Str} {py spos : Pos} (hN : X.N.Nodup) (hiN : X.N[i]? = some y) (hy : Loc X.env.scope y) (hc : X.calm = true) (hkind : scope.kind = .function) (h1 : okCell scope.names = true) (h2 : okFree X.env.scope.names scope.names = true)
    (hclos : closureFor scope X.env = pure (clOf X.env scope.names [])) (hlen : ix.length = N'.length) (h3 : okIx N' X.N scope.names ix = true)
    (hi : PI X tg iter wi) (hg : ∀ C s H fp, PG (blk X N' scope C s H fp) tg g) (ht : ∀ C s H fp, PTs (blk X N' scope C s H fp) ifs tc) (he : ∀ C s H fp, PE (blk X N' scope C s H fp) elt te)
    (hsw : swapsWith (.ListComp elt [⟨tg, iter, ifs, 0⟩] scope pos) (some (.Name y py)) spos.line X.env = pure true := by rfl)
    (hs : ∀ x, foldedSetIterable iter X.env x = pure x := by intro _; rfl) (hf : X.fn y = true ∨ X.env.scope.names.lookup y = some .local := by first | exact .inl rfl | exact .inr rfl | assumption) :
    PS X (.Assign [.Name y py] (.ListComp elt [⟨tg, iter, ifs, 0⟩] scope pos) spos) (tAsg (tComp wi g tc te ix) (gName i)) := by
  refine ps_comp0 hN hiN hy hc hkind (fun y hy => ?_) (fun y hy hl => ?_) (fun y hy hf => ?_) hclos hlen (okIx_of h3) hi hg ht he hsw hs hf
  · have q := List.all_eq_true.mp h1 y hy
    simp only [Bool.and_eq_true, bne_iff_ne, ne_eq] at q
    exact q.1
  · have q := List.all_eq_true.mp h1 y hy
    rw [hl] at q
    simp only [Bool.and_eq_true, Bool.or_eq_true, bne_self_eq_false, Bool.false_eq_true, false_or, beq_iff_eq] at q
    exact q.2
  · have q := List.all_eq_true.mp h2 y hy
    rw [hf] at q
    simp only [Bool.or_eq_true, bne_self_eq_false, Bool.false_eq_true, false_or, beq_iff_eq] at q
    exact q
end

/-! ### short words for readings -/
theorem ifD {c A B : Prop} {_ : Decidable c} (h1 : c → A) (h2 : ¬ c → B) : if decide c = true then A else B := by
  by_cases h : c
  · rw [if_pos (decide_eq_true h)]; exact h1 h
  · rw [if_neg (by rw [decide_eq_true_iff]; exact h)]; exact h2 h
theorem ifN {c A B : Prop} {_ : Decidable c} (h1 : ¬ c → A) (h2 : c → B) : if (!decide c) = true then A else B := by
  by_cases h : c
  · rw [decide_eq_true h]; exact iteF (h2 h)
  · rw [decide_eq_false h]; exact iteT (h1 h)
theorem dec_ints {i j : Int} : decide (V.int i = V.int j) = decide (i = j) := by
  by_cases h : i = j
  · subst h; simp
  · rw [decide_eq_false h, decide_eq_false (fun z => h (V.int.inj z))]
theorem ifI {i j : Int} {A B : Prop} (h1 : i = j → A) (h2 : i ≠ j → B) : if decide (V.int i = V.int j) = true then A else B := by
  rw [dec_ints]; exact ifD h1 h2
theorem ifIN {i j : Int} {A B : Prop} (h1 : i ≠ j → A) (h2 : i = j → B) : if (!decide (V.int i = V.int j)) = true then A else B := by
  rw [dec_ints]; exact ifN h1 h2
theorem Same.new {H : Hp} {p : Addr} (h : H p = none) (o : HO) : Same H (upd H p o) := fun b u q => by rw [upd_ne (ne_of_none q h)]; exact q
/-- an own list is changed: what was there ahead of it stays -/
theorem Same.upd {H H' : Hp} {p : Addr} {o : HO} (e : Same H H') (h : H p = none) : Same H (upd H' p o) := fun b u q => by rw [upd_ne (ne_of_none q h)]; exact e b u q
theorem atI_ok {ns : List Int} {k : Int} (h0 : 0 ≤ k) (h : k < (ns.length : Int)) : atI (ns.map V.int) k = some (.int (ns.getD k.toNat 0)) := by
  have hk : k.toNat < ns.length := by (first | lia | omega)
  have ek : k = ((k.toNat : Nat) : Int) := by (first | lia | omega)
  have q : atI (ns.map V.int) ((k.toNat : Nat) : Int) = some (.int (ns.getD k.toNat 0)) := atI_nat (by rw [List.getElem?_map, List.getElem?_eq_getElem hk, List.getD_eq_getElem?_getD, List.getElem?_eq_getElem hk] <;> rfl)
  rw [← ek] at q
  exact q
theorem cPow {i j : Int} (h : (decide (0 ≤ j) && (decide (j ≤ 1000000) && decide (i.natAbs < 2 ^ 64))) = true) : CPow i j := by
  simp only [Bool.and_eq_true, decide_eq_true_eq] at h
  exact h
theorem cDiv {i j : Int} (h : (decide (0 < j) && decide (j < 1073741824)) = true) : CDiv i j := by
  simp only [Bool.and_eq_true, decide_eq_true_eq] at h
  exact h
theorem cMulL {i j : Int} (h : (decide (-(2 ^ 64) < i) && decide (i < 2 ^ 64)) = true) : CMul i j := by
  simp only [Bool.and_eq_true, decide_eq_true_eq] at h
  exact .inl h
theorem cMulR {i j : Int} (h : (decide (-(2 ^ 64) < j) && decide (j < 2 ^ 64)) = true) : CMul i j := by
  simp only [Bool.and_eq_true, decide_eq_true_eq] at h
  exact .inr h
theorem cMulL' {i j : Int} (h : -1000000000000 < i) (h' : i < 1000000000000) : CMul i j := .inl ⟨by (first | lia | omega), by (first | lia | omega)⟩
theorem cPos {j : Int} (h : decide (0 < j) = true) : 0 < j := of_decide_eq_true h
/-- a cut behind a statement: what holds there -/
theorem seqU {t u : TS} {D : Ends} {σ : St} {H : Hp} (I : St → Hp → Prop) (tail : ∀ σ' H', I σ' H' → u D σ' H') (h : ∀ R : St → Hp → Prop, (∀ σ' H', I σ' H' → R σ' H') → t { D with nx := R } σ H) : tSeq t u D σ H := h (u D) tail
/-- an if without an else: what holds behind it, both ways -/
theorem ifJ {c : Prop} {_ : Decidable c} {t : TS} {D : Ends} {σ : St} {H : Hp} (I : St → Hp → Prop) (tail : ∀ σ' H', I σ' H' → D.nx σ' H') (h0 : ¬ c → I σ H) (hA : ∀ R : St → Hp → Prop, (∀ σ' H', I σ' H' → R σ' H') → c → t { D with nx := R } σ H) :
    if decide c = true then t D σ H else tNext D σ H := by
  by_cases h : c
  · rw [if_pos (decide_eq_true h)]; exact hA D.nx tail h
  · rw [if_neg (by rw [decide_eq_true_iff]; exact h)]; exact tail _ _ (h0 h)
theorem mod_lt {a b : Int} (h : 0 < b) : 0 ≤ a % b ∧ a % b < b := ⟨Int.emod_nonneg a (by (first | lia | omega)), Int.emod_lt_of_pos a h⟩
theorem small {n : Nat} (h : n ≤ 100000) : n < sizeLine := Nat.lt_of_le_of_lt h (by decide)
/-! ### rules that name the written part, within a comprehension's block -/
section
variable {X : Cx} {N' : List Str} {scope : Scope} {C : Addr} {s : Shared} {H : Hp} {fp : List Addr} {pos : Pos}
theorem pg_tupB {es : List Expr} {k : Nat} {t : TGs} {n : Nat} (hc : X.calm = true) (h : PGs (blk X N' scope C s H fp) es t)
    (hn : (assignEach es (blk X N' scope C s H fp).env).length = n := by rfl) (hst : (assignEach es (blk X N' scope C s H fp).env).findIdx? (·.1) = none := by rfl) : PG (blk X N' scope C s H fp) (.Tuple es k pos) (gTup X.K n t) := pg_tup hc h hn hst
theorem ix_listB : IxR (blk X N' scope C s H fp) (rIxL X.K) := ix_list
theorem ix_tupB : IxR (blk X N' scope C s H fp) (rIxT X.K) := ix_tup
end
/-! ### isinstance of the built-in kinds -/
section
variable {K : PySem.W.Frag}
theorem kit_ii : PySem.W.kitOne K (.type "int") (.type "int") = some true := by kernel_rfl
theorem kit_ib : PySem.W.kitOne K (.type "int") (.type "bool") = some false := by kernel_rfl
theorem kit_tt : PySem.W.kitOne K (.type "tuple") (.type "tuple") = some true := by kernel_rfl
end
/-! ### a comprehension over a thing of n items -/
def Nx (n i : Nat) (P : Prop) : Prop := ∃ m', m' < n - i ∧ m' = n - (i + 1) ∧ i + 1 ≤ n ∧ P
theorem Nx.mk {n i : Nat} {P : Prop} (h : i < n) (p : P) : Nx n i P := ⟨n - (i + 1), by (first | lia | omega), rfl, h, p⟩
theorem comp_by {J : It} {n : Nat} {g : TG} {tc : TT} {te : TE} {τ0 : St} {H1 : Hp} {Q : VK} {acc : Addr} (Pv : Nat → St → List V → Hp → Prop) (h0 : Pv 0 τ0 [] (upd H1 acc (.lst []))) (hn : n ≤ 100000)
    (hacc : ∀ i τ zs H, Pv i τ zs H → H acc = some (.lst zs) ∧ zs.length ≤ i) (hgo : ∀ i τ zs H, i < n → Pv i τ zs H → J.go i H) (hstop : ∀ τ zs H, Pv n τ zs H → J.stop n H ∧ Q (.ref acc) H)
    (hs : ∀ i τ zs H x H', i < n → Pv i τ zs H → J.yld i H x H' → g x τ H' fun τ2 H2 => tc τ2 H2 fun b H3 => if b = true then te τ2 H3 fun y H4 => H4 acc = some (.lst zs) ∧ Nx n i (Pv (i + 1) τ2 (zs ++ [y]) (upd H4 acc (.lst (zs ++ [y])))) else Nx n i (Pv (i + 1) τ2 zs H3)) :
    CompW J g tc te τ0 H1 acc Q := by
  refine ⟨fun i m τ ys H => m = n - i ∧ i ≤ n ∧ Pv i τ ys H, ⟨n, by simp, Nat.zero_le _, h0⟩, ?_⟩
  rintro i m τ ys H ⟨rfl, hi, p⟩
  obtain ⟨ha, hl⟩ := hacc i τ ys H p
  refine ⟨ha, ?_⟩
  by_cases hlt : i < n
  · exact .inr ⟨hgo i τ ys H hlt p, small (by (first | lia | omega)), fun x H' y => hs i τ ys H x H' hlt p y⟩
  · have e : i = n := by (first | lia | omega)
    subst e
    exact .inl (hstop τ ys H p)
end L2
end
section
set_option Elab.async false
set_option linter.all false
set_option maxRecDepth 100000
set_option maxHeartbeats 4000000
namespace L2
open PySem PySem.Spec PyProof.Rows
/-! ### enumerate(a) in a loop's head -/
def Ite (K : PySem.W.Frag) (a : Addr) : It :=
  ⟨fun i H => ∃ xs x, SqL K H a xs ∧ xs[i]? = some x,
   fun i H v H' => ∃ p, H p = none ∧ v = .ref p ∧ ∀ xs, SqL K H a xs → ∃ x, xs[i]? = some x ∧ H' = upd H p (.tup [.int i, x]),
   fun i H => ∃ xs, SqL K H a xs ∧ xs.length ≤ i⟩
section
variable {X : Cx}
def iEnum (K : PySem.W.Frag) (ta : TA) : TI := fun σ H R => ta σ H fun vs H1 => ∃ a xs, vs = [.ref a] ∧ SqL K H1 a xs ∧ R (Ite K a) H1
end
end L2
end
section
set_option Elab.async false
set_option linter.all false
set_option maxRecDepth 100000
set_option maxHeartbeats 4000000
namespace L2
open PySem PySem.Spec PyProof.Rows
section
variable {X : Cx}
/-! ### xs.count(k) of a list of ints -/
def rCount (K : PySem.W.Frag) : V → List V → Hp → VK → Prop := fun x vs H Q => ∃ (p : Addr) (ns : List Int) (k : Int), x = .ref p ∧ vs = [.int k] ∧ SqL K H p (ns.map V.int) ∧ Q (.int (ns.count k : Nat)) H
/-! ### all(list of bools) -/
end
end L2
end
section
set_option Elab.async false
set_option linter.all false
set_option maxRecDepth 100000
set_option maxHeartbeats 4000000
namespace L2
open PySem PySem.Spec PyProof.Rows
/-! ### is, is not of bools -/
section
variable {X : Cx}
end
/-! ### range(a, b, -1) -/
/-- hi, hi - 1, .. (n of them) -/
def Itd (hi : Int) (n : Nat) : It := ⟨fun i _ => i < n, fun i H x H' => H' = H ∧ x = .int (hi - i), fun i _ => n ≤ i⟩
section
variable {X : Cx} {tg : Expr}
def iRng3 (ta : TA) : TI := fun σ H R => ta σ H fun vs H1 => ∃ i j : Int, vs = [.int i, .int j, .int (-1)] ∧ (-(2 ^ 62) ≤ i ∧ i < 2 ^ 62 ∧ -(2 ^ 62) ≤ j ∧ j < 2 ^ 62) ∧ R (Itd i (i - j).toNat) H1
end
end L2
end
section
set_option Elab.async false
set_option linter.all false
set_option maxRecDepth 100000
set_option maxHeartbeats 4000000
namespace L2
open PySem PySem.Spec PyProof.Rows PySem.W
section
variable {X : Cx} {e st : Expr} {te ts : TE} {pos p2 : Pos}
/-! ### xs[::-1] -/
def tRev (K : PySem.W.Frag) (te ts : TE) : TE := fun σ H Q => te σ H fun x H1 => ts σ H1 fun y H2 => ∃ a xs, x = .ref a ∧ y = .int (-1) ∧ SqL K H2 a xs ∧ ∀ p, H2 p = none → Q (.ref p) (upd H2 p (.lst xs.reverse))
theorem pe_rev (he : PE X e te) (hst : PE X st ts) : PE X (.Subscript e (.Slice none none (some st) p2) pos) (tRev X.K te ts) := by
  intro pins s σ H Q I h
  refine Subscript_ (thn (he pins s σ H _ I h) fun v s1 ⟨x, H1, I1, r1, q1⟩ => ?_)
  refine wpAny_Slice ?_
  rw [evalPart_none]
  refine wpAny_pure ?_
  refine wpAny_pure ?_
  rw [evalPart_some]
  refine thn (hst pins s1 σ H1 _ I1 q1) fun vs s3 ⟨y, H3, I3, r3, q3⟩ => ?_
  obtain ⟨a, xs, rfl, rfl, hx, q⟩ := q3
  obtain ⟨t, rfl⟩ := r3
  cases r1
  have I4 : Inv X pins σ H3 { s3 with heap := s3.heap.push { cls := .type "slice", data := .fields #[.none, .none, .int (-1) t] } } := I3.kept (t' := s3.toks) fun b ob q => Heap.get?_push_of_some _ q
  show wpAny (model X.prog X.w) X.A (subscriptTail e (.Slice none none (some st) p2) (.ref a) (.ref s3.heap.objs.size)) (EP X pins σ Q) X.xe { s3 with heap := s3.heap.push { cls := .type "slice", data := .fields #[.none, .none, .int (-1) t] } }
  obtain ⟨its, r, ht, hz⟩ := I4.list hx
  have hlen := r.length
  refine tail_any (ops := [.ref a, .ref s3.heap.objs.size]) ht.isList.typeIs slot_list_getitem.lookup ?_ (by with_unfolding_all rfl)
  refine wpAny_getItem_list_slice ht.isList (Heap.IsSliceOf.new ..) .none .none (.int (-1) t) (by simp) ?_ (by rw [List.size_toArray] <;> (first | lia | omega))
  rw [krv_pick]
  refine ⟨.ref _, _, I4.laid (t' := s3.toks) (o := .lst xs.reverse) (fun b ob q => Heap.get?_push_of_some _ q) (Nat.le_refl _) ?_, rfl, q _ (I4.hok.fresh (Nat.le_refl _))⟩
  exact ⟨by rw [List.length_reverse]; exact hz, _, 0, r.reverse, Heap.get?_push_size _ rfl⟩
end
section
variable {X : Cx}
/-! ### xs.insert(i, e) -/
def rInsert : V → List V → Hp → VK → Prop := fun x vs H Q => ∃ l xs i y, x = .ref l ∧ vs = [.int i, y] ∧ H l = some (.lst xs) ∧ 0 ≤ i ∧ i ≤ (xs.length : Int) ∧ xs.length < 100000 ∧ Q .non (upd H l (.lst (xs.take i.toNat ++ [y] ++ xs.drop i.toNat)))
end
end L2
end
section
set_option Elab.async false
set_option linter.all false
set_option maxRecDepth 100000
set_option maxHeartbeats 4000000
namespace L2
open PySem PySem.Spec PyProof.Rows PySem.W PySem.SeqAt
section
variable {X : Cx}
/-! ### xs.index(k) of a list of ints that has k -/
def rIndex (K : PySem.W.Frag) : V → List V → Hp → VK → Prop := fun x vs H Q => ∃ (p : Addr) (ns : List Int) (k : Int), x = .ref p ∧ vs = [.int k] ∧ SqL K H p (ns.map V.int) ∧ k ∈ ns ∧ ns.length ≤ 100000 ∧ Q (.int (ns.idxOf k : Nat)) H
end
/-! ### min(a, b, c) -/
section
variable {prog : Program} {w : World} {A : Around} {E : Value → Shared → Prop} {s : Shared}
end
section
variable {X : Cx}
end
end L2
end
section
set_option Elab.async false
set_option linter.all false
set_option maxRecDepth 100000
set_option maxHeartbeats 4000000
namespace L2
open PySem PySem.Spec PyProof.Rows PySem.W PySem.SeqAt

/-! ### exceptions: how one lies behind a call -/
/-- what an exception in flight leaves as it was -/
structure Aloft (P : Program) (w : World) (outer : List Env) (H : Hp) (s : Shared) (C : Value) (a : Addr) (a0 : Value) (B : Heap) (H' : Hp) (s' : Shared) : Prop where
  fl : Heap.FlyingW B outer a C a0 s'.heap
  os : s'.os = s.os
  bare : AllBare s'.gens
  hok : HOk P w H' B
  un : Un (frs outer) [] H H' s.heap s'.heap
  old : ∀ b o, s.heap.get? b = some o → H b = none → b ∉ frs outer → B.get? b = some o
  has : ∀ b o, s.heap.get? b = some o → b ∉ frs outer → ∃ o', B.get? b = some o'
  fresh : H' a = none ∧ a ∉ frs outer ∧ s.heap.get? a = none
def CXE (P : Program) (w : World) : CXT := fun outer H s E e s' => ∃ C a a0 B H', e = .ref a ∧ Aloft P w outer H s C a a0 B H' s' ∧ E C none H'

section
variable {P : Program} {w : World} {outer : List Env} {H H' : Hp} {s s' : Shared} {C a0 : Value} {a : Addr} {B : Heap}
end

section
variable {P : Program} {w : World} {K : PySem.W.Frag} {mg : Str → Option Value} {base : Heap} {N : List Str} {qual : Str} {scope : Scope} {f : Addr} {cd : Value} {A : Around} {outer : List Env} {s : Shared} {H : Hp} {E : XK}

end
end L2
end
section
set_option Elab.async false
set_option linter.all false
set_option maxRecDepth 100000
set_option maxHeartbeats 4000000
namespace L2
open PySem PySem.Spec PyProof.Rows PySem.W PySem.SeqAt PySem.Calls PySem.Builtin PySem.Builtin.ObjectAttr PySem.Builtin.Getset_descriptor

/-! ### raise C(..) -/
def Thr (X : Cx) (E : XK) : Prop := ∀ (pins : List (Addr × Obj)) (σ : St) (H1 : Hp) (s1 : Shared) (C : Value) (e : Addr) (vs : List Value) (h' : Heap), Inv X pins σ H1 s1 → Heap.MadeExcOf s1.heap h' e C vs → E C none H1 → X.xe (.ref e) { s1 with heap := h' }
def tRaise (C : Value) (E : XK) (t : TA) : TS := fun _ σ H => t σ H fun vs H1 => vs.length ≤ sizeLine ∧ E C none H1
/-! ### isinstance of a caught exception -/
structure ExK (K : PySem.W.Frag) (D : Addr) : Prop where
  get : findIn K (.ref D) "__getattribute__" = some (some (.builtin "BaseException.__getattribute__"))
  hok : findIn K (.ref D) "__getattr__" = some none
  bex : mroIn K D (.type "BaseException") = some true
  cls : (clsIn K D).isSome = true
  att : findIn K (.ref D) "__class__" = some (some (.builtin "object.__class__"))
  dsc : specialIn K (.builtin "object.__class__") "__get__" = some (some (.builtin "getset_descriptor.__get__"))
  tak : takesIn K (.builtin "object.__class__") = some true
  obj : mroIn K D (.type "object") = some true
def OfCls (x D : Addr) (h : Heap) : Prop := ∃ o, h.get? x = some o ∧ o.cls = .ref D
section
variable {prog : Program} {w : World} {A : Around} {E : Value → Shared → Prop} {s : Shared} {K : PySem.W.Frag} {x D : Addr}
end
/-- isinstance(e, C) of the caught one -/
def rIsE (K : PySem.W.Frag) (a : Addr) (t : Value) : List V → Hp → VK → Prop := fun xs H Q => ∃ (D : Addr) (c : V) (cv : Value) (b : Bool), t = .ref D ∧ ExK K D ∧ xs = [.ref a, c] ∧ ((∃ C, c = .ref C ∧ cv = .ref C) ∨ ∃ T, c = .ty T ∧ cv = .type T) ∧ PySem.W.kitOne K t cv = some b ∧ Q (.bl b) H
end L2
end
section
set_option Elab.async false
set_option linter.all false
set_option maxRecDepth 100000
set_option maxHeartbeats 4000000
namespace L2
open PySem PySem.Spec PyProof.Rows PySem.W PySem.SeqAt PySem.Calls

/-! ### try: .. except C as n: .. -/
/-- within the suite: the caught one is pinned -/
abbrev Cx.suite (X : Cx) (a : Addr) (o : Obj) (pins : List (Addr × Obj)) : Cx := { X with A := X.A.mark (some (.ref a)), calm := false, pn := (a, o) :: (X.pn ++ pins), xe := fun _ _ => False }
abbrev Cx.tried (X : Cx) (pins : List (Addr × Obj)) (E : Value → Shared → Prop) : Cx := { X with pn := X.pn ++ pins, xe := E }
section
variable {X : Cx} {pins : List (Addr × Obj)} {σ : St} {H : Hp} {s : Shared}
end

/-- behind the suite the name is gone -/
def goneD (i : Nat) (D : Ends) : Ends := { nx := fun σ H => D.nx (σ.set i none) H, rt := D.rt, bk := fun σ H => D.bk (σ.set i none) H, ct := fun σ H => D.ct (σ.set i none) H }
def tTry (K : PySem.W.Frag) (T : Value) (len i : Nat) (tb : XK → TS) (th : Addr → Value → TS) : TS := fun D σ H =>
  tb (fun C _ H' => PySem.W.exmOne K C T = some true ∧ ∀ (a : Addr) (σ' : St), H' a = none → σ'.length = len → th a C (goneD i D) (σ'.set i (some (.ref a))) H') D σ H
end L2
end
section
set_option Elab.async false
set_option linter.all false
set_option maxRecDepth 100000
set_option maxHeartbeats 4000000
namespace L2
open PySem PySem.Spec PyProof.Rows PySem.W PySem.SeqAt PySem.Calls

/-! ### defs that raise -/
structure DefE (P : Program) (w : World) (K : PySem.W.Frag) (mg : Str → Option Value) (base : Heap) (k : Nat) (x : Str) (ps : List Str) (sp : Sp) : Prop where
  ex : ∃ (f : Addr) (fd : FuncData), FnOk P w K mg base (CXE P w) k f fd ps sp ∧ Binds K fd ps [] ∧ PySem.W.keepIn K (.ref f) = true ∧ mg x = some (.ref f)
section
variable {P : Program} {w : World} {K : PySem.W.Frag} {mg : Str → Option Value} {base : Heap} {k : Nat} {f : Addr} {fd : FuncData} {ps : List Str}
end

/-! ### the classes of the text -/
def bmV : List Value := [.type "ValueError", .type "Exception", .type "BaseException", .type "object"]
/-- the nine names -/
structure Errs (mg : Str → Option Value) (T c1 c2 c3 c4 c5 c6 c7 c8 : Addr) : Prop where
  top : mg "TopError" = some (.ref T)
  n1 : mg "NoStretch" = some (.ref c1)
  n2 : mg "NoLength" = some (.ref c2)
  n3 : mg "NoCount" = some (.ref c3)
  n4 : mg "NoPlace" = some (.ref c4)
  n5 : mg "NoText" = some (.ref c5)
  n6 : mg "NoShape" = some (.ref c6)
  n7 : mg "NoneYet" = some (.ref c7)
  n8 : mg "NoRound" = some (.ref c8)
  val : mg "ValueError" = none
/-- what is known of a raised one -/
structure Fault (K : PySem.W.Frag) (T c1 c2 c3 c4 c5 c6 c7 c8 C : Addr) (b1 b2 b3 b4 b5 b6 b7 b8 : Bool) : Prop where
  exm : PySem.W.exmOne K (.ref C) (.ref T) = some true
  k1 : PySem.W.kitOne K (.ref C) (.ref c1) = some b1
  k2 : PySem.W.kitOne K (.ref C) (.ref c2) = some b2
  k3 : PySem.W.kitOne K (.ref C) (.ref c3) = some b3
  k4 : PySem.W.kitOne K (.ref C) (.ref c4) = some b4
  k5 : PySem.W.kitOne K (.ref C) (.ref c5) = some b5
  k6 : PySem.W.kitOne K (.ref C) (.ref c6) = some b6
  k7 : PySem.W.kitOne K (.ref C) (.ref c7) = some b7
  k8 : PySem.W.kitOne K (.ref C) (.ref c8) = some b8
  kv : PySem.W.kitOne K (.ref C) (.type "ValueError") = some true
  exk : ExK K C
end L2
end
section
set_option Elab.async false
set_option linter.all false
set_option maxRecDepth 100000
set_option maxHeartbeats 4000000
namespace L2
open PySem PySem.Spec PyProof.Rows PySem.W PySem.SeqAt PySem.Calls
section
variable {X : Cx}
/-- != of two lists, each pair of items compared as deep as it goes -/
def rNeL (K : PySem.W.Frag) : R2 := fun x y H Q => ∃ (a b : Addr) (xs ys : List V), x = .ref a ∧ y = .ref b ∧ SqL K H a xs ∧ SqL K H b ys ∧ xs.length = ys.length ∧
  (∀ (j : Nat) (x y : V), xs[j]? = some x → ys[j]? = some y → ∃ n, n ≤ 50 ∧ EqD K H n x y true) ∧ Q (.bl false) H
end
end L2
end
section
set_option Elab.async false
set_option linter.all false
set_option maxRecDepth 100000
set_option maxHeartbeats 4000000
namespace L2
open PySem PySem.Spec PyProof.Rows PySem.W PySem.SeqAt

/-! ### min(a, b, key=f), f a def of the text that tells tuples of ints -/
theorem args_min2K (a b c : Value) : argsOk "min" ⟨[a, b], [(Str.ofString "key", c)]⟩ := by unfold argsOk; kernel_rfl
section
variable {X : Cx} {k : Nat} {f : Addr} {fd : FuncData} {ps : List Str} {sp : Sp} {pins : List (Addr × Obj)} {σ : St}
theorem key_run {H : Hp} {s : Shared} {Q : VK} {x : V} {u : Value} {E' : Value → Shared → Prop} (F : FnOk X.prog X.w X.K X.mg X.base CX0 k f fd ps sp) (hr : Room (k + 1) X.A) (hb : Binds X.K fd ps []) (I : Inv X pins σ H s) (r : RelV x u) (h : sp [x] H Q E0) :
    wpAny (model X.prog X.w) X.A.in1 (call (.ref f) [u]) (EP X pins σ Q) E' s := by
  have r2 : Vals [x] [u] := .cons r .nil
  have hl : [u].length = ps.length := by rw [← r2.length]; exact F.len _ _ _ _ h
  refine wpAny_call (codeAny_mono (F.run X.A.in1 X.stack s H ⟨[u], []⟩ [u] [x] Q E0 hr.in1 I.env0.in1 (by have := hb s [u] I.kIn (by simpa using hl); simpa using this) r2 h) fun r s' hq => ?_)
  cases r with
  | error e => exact False.elim hq
  | ok fl =>
    cases fl with
    | ret u => exact I.after hq
    | next => exact False.elim hq
    | brk => exact False.elim hq
    | cont => exact False.elim hq
theorem key_pin {H : Hp} {s : Shared} {Q : VK} {x : V} {u : Value} {E' : Value → Shared → Prop} {fp : List Addr} (F : FnOk X.prog X.w X.K X.mg X.base CX0 k f fd ps sp) (hr : Room (k + 1) X.A) (hb : Binds X.K fd ps []) (I : Inv X pins σ H s) (r : RelV x u) (h : sp [x] H Q E0)
    (hf : ∀ b ∈ fp, FpOk X pins H b) (ho : ∀ b ∈ fp, ∃ o, s.heap.get? b = some o ∧ ∀ v, o.data ≠ .cell v) :
    wpAny (model X.prog X.w) X.A.in1 (call (.ref f) [u]) (fun u1 s2 => ∃ v H2, Inv X pins σ H2 s2 ∧ RelV v u1 ∧ Q v H2 ∧ ∀ b ∈ fp, H2 b = none ∧ ∀ o, s.heap.get? b = some o → s2.heap.get? b = some o) E' s := by
  have I2 := I.pinned hf ho
  refine thn (key_run (E' := E') F hr hb I2 r h) fun u1 s2 ⟨v, H2, J, rv, q⟩ => ⟨v, H2, J.unpinned, rv, q, fun b hb => ?_⟩
  have z : ∀ o, s.heap.get? b = some o → s2.heap.get? b = some o ∧ H2 b = none := fun o e => by
    have w := J.pin (b, o) (List.mem_append_right _ (List.mem_append_right _ (mem_pinsAt hb e)))
    exact ⟨w.1, w.2.1⟩
  obtain ⟨o, e, _⟩ := ho b hb
  exact ⟨(z o e).2, fun o e => (z o e).1⟩

theorem Inv.turned2 {H : Hp} {s : Shared} {h' : Heap} {t' : Nat} {a b : Addr} (I : Inv X pins σ H s) (k : ∀ c o, c ≠ a → c ≠ b → s.heap.get? c = some o → h'.get? c = some o) (fa : FpOk X pins H a) (fb : FpOk X pins H b) : Inv X pins σ H { s with heap := h', toks := t' } := by
  have na : ∀ c u, H c = some u → c ≠ a := fun c u e z => by rw [z, fa.1] at e; cases e
  have nb : ∀ c u, H c = some u → c ≠ b := fun c u e z => by rw [z, fb.1] at e; cases e
  have kk : ∀ c o, c ∉ [a, b] → s.heap.get? c = some o → h'.get? c = some o := fun c o hc e => k c o (fun z => hc (by simp [z])) (fun z => hc (by simp [z])) e
  refine I.step (g' := s.gens) (d' := s.drawn) (ch := [a, b]) (fun c hc => ?_) (fun c o _ _ hc e _ => kk c o hc e) (fun c o _ _ hc e _ => ⟨o.slots, kk c o hc e⟩) (fun _ _ _ _ n => n)
    (fun c o hc e => ⟨o, kk c o hc e⟩) (fun _ _ e => e) (fun _ _ _ e => e) (fun c ps e => ⟨#[], by rw [e]; simp⟩) (fun m hm => ?_) (fun c u e => ?_) I.bare
  · simp only [List.mem_cons, List.not_mem_nil, or_false] at hc
    rcases hc with rfl | rfl
    · exact ⟨fa.2.2.2.1, fa.2.1, fa.2.2.2.2.1, fa.2.2.2.2.2⟩
    · exact ⟨fb.2.2.2.1, fb.2.1, fb.2.2.2.2.1, fb.2.2.2.2.2⟩
  · obtain ⟨o, es, ep, ho, r⟩ := hm
    exact ⟨o, es, ep, k _ o (Ne.symm fa.2.1) (Ne.symm fb.2.1) ho, r⟩
  · refine (I.hok c u e).stay (fun d v hd q => ?_) (fun _ q => q) fun _ _ q => q
    rcases hd with z | z
    · exact k d v (by rw [z]; exact na c u e) (by rw [z]; exact nb c u e) q
    · exact k d v (na d _ z) (nb d _ z) q
/-- the loop's last turn -/
theorem min_end {R : Result → Shared → Prop} {h : Heap} {tk : Nat} {s : Shared} {T it S : Addr} {ux uy vb kb : Value} {q : Value} {c : Nat} (hh : X.A.handled = none) (hne : T ≠ it) (hS : S ≠ it)
    (hi : h.IsTupleIter it T 2) (hT : h.IsTuple T #[ux, uy]) (gS : h.get? S = some (seqObj "list" #[vb, kb] c))
    (hR : ∀ h' tk', (∀ b o, b ≠ it → b ≠ S → h.get? b = some o → h'.get? b = some o) → R (.ok (.ret vb)) { s with heap := h', toks := tk' }) :
    codeAny (model X.prog X.w) X.A (.builtin "min.loop" ⟨[.ref it, q, .ref S], []⟩) R { s with heap := h, toks := tk } := by
  have W := Walks.tuple (prog := X.prog) (w := X.w) (A := X.A.in1) hh it T hne #[ux, uy]
  refine codeAny_builtin PySem.F.entry_min_loop ?_
  rw [Around.under_plainId PySem.F.plain_min_loop _]
  show wpAny _ X.A.in1 (seqItems? (.ref S) >>= _) _ _ _
  refine wpAny_bind (wpAny_seqItems gS rfl ?_)
  show wpAny _ X.A.in1 (tryCatch (pyNext (.ref it)) _ >>= _) _ _ _
  refine wpAny_bind (wpAny_tryCatch (W.done _ _ _ ⟨hi, hT⟩ fun h' tk' hk' => ?_))
  have hS' := hk' S _ (by simpa using hS) gS
  have s1 := Heap.SameBut.update h' S (Obj.mapSeq fun _ => (#[] : Array Value))
  show wpAny _ X.A.in1 (updateSeq S (fun _ => #[]) >>= _) _ _ _
  refine wpAny_bind ?_
  refine wpAny_updateSeq hS' rfl (wpAny_bind (wpAny_letGo (wpAny_pure ?_)))
  exact hR _ _ fun b o h1 h2 e => (s1.2 b h2).trans (hk' b o (by simpa using h1) e)

theorem min_key {H : Hp} {s : Shared} {Q : VK} {x y : V} {ux uy : Value} (F : FnOk X.prog X.w X.K X.mg X.base CX0 k f fd ps sp) (hr : Room (k + 1) X.A) (hb : Binds X.K fd ps []) (I : Inv X pins σ H s) (rx : RelV x ux) (ry : RelV y uy)
    (h : sp [x] H (fun v1 H2 => sp [y] H2 (fun v2 H3 => ∃ a b ns ms, v1 = .ref a ∧ v2 = .ref b ∧ SqT X.K H3 a (ns.map V.int) ∧ SqT X.K H3 b (ms.map V.int) ∧ Q (if HT.lexLt ms ns = true then y else x) H3) E0) E0) :
    wpAny (model X.prog X.w) X.A (call (.builtin "min") [ux, uy] [(Str.ofString "key", .ref f)]) (EP X pins σ Q) X.xe s := by
  have hname : (toString "min" ++ toString ".loop" : String) = "min.loop" := by decide
  have hh : X.A.handled = none := hr.hd
  refine kmk_tree PySem.F.kind_min PySem.F.plain_min PySem.F.entry_min (args_min2K _ _ _) ?_
  show wpAny _ X.A.in1 (Builtin.Builtins.bindParams "min" ["key", "default"] 0 ⟨[], [(Str.ofString "key", .ref f)]⟩ >>= _) _ _ s
  refine wpAny_bind (wpAny_of_eq (show Builtin.Builtins.bindParams "min" ["key", "default"] 0 ⟨[], [(Str.ofString "key", .ref f)]⟩ = pure [some (.ref f), none] from rfl) ?_)
  show wpAny _ X.A.in1 (newTuple [ux, uy] >>= _) _ _ s
  refine wpAny_bind (wpAny_newObj_type ?_)
  obtain ⟨n, en⟩ : ∃ n, n = s.heap.objs.size := ⟨_, rfl⟩
  rw [← en]
  have sT : (s.heap.push { cls := .type "tuple", data := .seq #[ux, uy] }).objs.size = n + 1 := by rw [en]; exact Heap.size_push ..
  have hT0 : (s.heap.push { cls := .type "tuple", data := .seq #[ux, uy] }).IsTuple n #[ux, uy] := ⟨_, by rw [en]; exact Heap.get?_push_size _ rfl, rfl, 0, rfl⟩
  refine wpAny_bind (wpAny_pyIter_tuple hT0 ?_)
  refine wpAny_bind (wpAny_newList ?_ (Nat.zero_le _))
  dsimp only
  obtain ⟨hI, ehI⟩ : ∃ z, z = (s.heap.push { cls := .type "tuple", data := .seq #[ux, uy] }).push { cls := .type "tuple_iterator", data := .fields #[.ref n, .int 0 0] } := ⟨_, rfl⟩
  rw [sT, ← ehI]
  have sI : hI.objs.size = n + 2 := by rw [ehI, Heap.size_push, sT]
  obtain ⟨hA, ehA⟩ : ∃ z, z = hI.push (seqObj "list" #[] 0) := ⟨_, rfl⟩
  have eA : hI.push { cls := .type "list", data := .seq (List.toArray ([] : List Value)) } = hA := ehA.symm
  rw [eA, sI, hname]
  have kA : ∀ b o, s.heap.get? b = some o → hA.get? b = some o := fun b o e => by rw [ehA, ehI]; exact Heap.get?_push_of_some _ (Heap.get?_push_of_some _ (Heap.get?_push_of_some _ e))
  have gS : hA.get? (n + 2) = some (seqObj "list" #[] 0) := by rw [ehA, ← sI]; exact Heap.get?_push_size _ rfl
  have gI : hA.IsTupleIter (n + 1) n 0 := ⟨_, by rw [ehA, ehI, ← sT]; exact Heap.get?_push_of_some _ (Heap.get?_push_size _ rfl), rfl, rfl⟩
  have gT : hA.IsTuple n #[ux, uy] := ⟨_, by rw [ehA, ehI, en]; exact Heap.get?_push_of_some _ (Heap.get?_push_of_some _ (Heap.get?_push_size _ rfl)), rfl, 0, rfl⟩
  have fpk : ∀ (H' : Hp) b, n ≤ b → H' b = none → FpOk X pins H' b := fun H' b hb hn => I.fpOk (by rw [← en]; exact hb) hn
  have fr : ∀ b, n ≤ b → H b = none := fun b hb => I.hok.fresh (by rw [← en]; exact hb)
  have I0 : Inv X pins σ H { s with heap := hA } := I.kept (t' := s.toks) kA
  have W := Walks.tuple (prog := X.prog) (w := X.w) (A := X.A.in1) hh (n + 1) n (Nat.ne_of_lt (Nat.lt_succ_self n)) #[ux, uy]
  have tn : ∀ {H' : Hp} {s' : Shared} {h' : Heap} {t' : Nat} (b : Addr), Inv X pins σ H' s' → n ≤ b → H' b = none → (∀ c o, c ≠ b → s'.heap.get? c = some o → h'.get? c = some o) → Inv X pins σ H' { s' with heap := h', toks := t' } := fun {H' s' h' t'} b J hb hn hk => by
    obtain ⟨f0, f1, f2, f3, f4, f5⟩ := fpk H' b hb hn
    exact J.turned hk f0 f1 f3 f4 f5
  have tn2 : ∀ {H' : Hp} {s' : Shared} {h' : Heap} {t' : Nat}, Inv X pins σ H' s' → (∀ b ∈ [n, n + 1, n + 2], H' b = none) → (∀ c o, c ≠ n + 1 → c ≠ n + 2 → s'.heap.get? c = some o → h'.get? c = some o) → Inv X pins σ H' { s' with heap := h', toks := t' } := fun {H' s' h' t'} J hn hk =>
    J.turned2 (a := n + 1) (b := n + 2) hk (fpk H' _ (Nat.le_succ n) (hn _ (by simp))) (fpk H' _ (Nat.le_add_right n 2) (hn _ (by simp)))
  refine wpAny_pure ⟨plainId_quiet PySem.F.plain_min_loop _, ?_⟩
  refine codeAny_builtin PySem.F.entry_min_loop ?_
  rw [Around.under_plainId PySem.F.plain_min_loop _]
  show wpAny _ X.A.in1 (seqItems? (.ref (n + 2)) >>= _) _ _ _
  refine wpAny_bind (wpAny_seqItems gS rfl ?_)
  show wpAny _ X.A.in1 (tryCatch (pyNext (.ref (n + 1))) _ >>= _) _ _ _
  refine wpAny_bind (wpAny_tryCatch (W.item 0 _ _ _ (by simp) ⟨gI, gT⟩ fun v h1 tk1 hP hst1 hk1 => ?_))
  have hv : v = ux := by simpa using hP.symm
  subst hv
  have I1 : Inv X pins σ H { s with heap := h1, toks := tk1 } := tn (s' := { s with heap := hA }) (n + 1) I0 (by (first | lia | omega)) (fr _ (by (first | lia | omega))) fun c o hc e => hk1 c o (by simpa using hc) e
  have gS1 := hk1 (n + 2) _ (by simp) gS
  obtain ⟨oI1, goI1, coI1, doI1⟩ := id hst1.1
  obtain ⟨oT1, goT1, coT1, nT1, doT1⟩ := id hst1.2
  have ncell : ∀ {h' : Heap} {c : Nat} {its : Array Value} {i : Nat}, h'.get? (n + 2) = some (seqObj "list" its c) → h'.IsTupleIter (n + 1) n i → h'.IsTuple n #[v, uy] → ∀ b ∈ [n, n + 1, n + 2], ∃ o, h'.get? b = some o ∧ ∀ z, o.data ≠ .cell z := fun {h' c its i} a1 a2 a3 b hb => by
    simp only [List.mem_cons, List.not_mem_nil, or_false] at hb
    rcases hb with rfl | rfl | rfl
    · obtain ⟨o, e, _, _, d⟩ := a3; exact ⟨o, e, fun z w => by rw [d] at w; cases w⟩
    · obtain ⟨o, e, _, d⟩ := a2; exact ⟨o, e, fun z w => by rw [d] at w; cases w⟩
    · exact ⟨_, a1, fun z w => by cases w⟩
  have ge : ∀ b ∈ [n, n + 1, n + 2], n ≤ b := fun b hb => by
    simp only [List.mem_cons, List.not_mem_nil, or_false] at hb
    (first | lia | omega)
  show wpAny _ X.A.in1 (tryCatch (holding [v] (call (.ref f) [v])) _ >>= _) _ _ _
  refine wpAny_bind (wpAny_tryCatch (wpAny_holding (wpAny_mono (key_pin (fp := [n, n + 1, n + 2]) (E' := fun _ _ => False) F hr hb I1 rx h (fun b hb => fpk H b (ge b hb) (fr b (ge b hb))) (ncell gS1 hst1.1 hst1.2)) (fun k1 s2 he => ?_) fun _ _ hF => hF.elim)))
  obtain ⟨v1, H2, I2, r1, q1, p2⟩ := he
  have gS2 := (p2 (n + 2) (by simp)).2 _ gS1
  have gI2 : s2.heap.IsTupleIter (n + 1) n 1 := ⟨oI1, (p2 (n + 1) (by simp)).2 _ goI1, coI1, doI1⟩
  have gT2 : s2.heap.IsTuple n #[v, uy] := ⟨oT1, (p2 n (by simp)).2 _ goT1, coT1, nT1, doT1⟩
  have fr2 : ∀ b ∈ [n, n + 1, n + 2], H2 b = none := fun b hb => (p2 b hb).1
  have s1' := Heap.SameBut.update s2.heap (n + 2) (Obj.mapSeq fun _ => #[v, k1])
  obtain ⟨c2, hc2⟩ : ∃ c2, (s2.heap.update (n + 2) (Obj.mapSeq fun _ => #[v, k1])).get? (n + 2) = some (seqObj "list" #[v, k1] c2) := ⟨_, get?_update_seq gS2 fun _ => #[v, k1]⟩
  show wpAny _ X.A.in1 (updateSeq (n + 2) (fun _ => #[v, k1]) >>= _) _ _ _
  refine wpAny_bind ?_
  refine wpAny_updateSeq gS2 rfl ?_
  rw [hname]
  obtain ⟨h3, eh3⟩ : ∃ z, z = s2.heap.update (n + 2) (Obj.mapSeq fun _ => #[v, k1]) := ⟨_, rfl⟩
  rw [← eh3] at hc2 s1' ⊢
  have k3 : ∀ c o, c ≠ n + 2 → s2.heap.get? c = some o → h3.get? c = some o := fun c o hc e => (s1'.2 c hc).trans e
  have I3 : Inv X pins σ H2 { s2 with heap := h3 } := tn (t' := s2.toks) (n + 2) I2 (by (first | lia | omega)) (fr2 _ (by simp)) k3
  have gI3 : h3.IsTupleIter (n + 1) n 1 := by obtain ⟨o, e, r⟩ := gI2; exact ⟨o, k3 _ _ (by (first | lia | omega)) e, r⟩
  have gT3 : h3.IsTuple n #[v, uy] := by obtain ⟨o, e, r⟩ := gT2; exact ⟨o, k3 _ _ (by (first | lia | omega)) e, r⟩
  refine wpAny_pure ⟨plainId_quiet PySem.F.plain_min_loop _, ?_⟩
  refine codeAny_builtin PySem.F.entry_min_loop ?_
  rw [Around.under_plainId PySem.F.plain_min_loop _]
  show wpAny _ X.A.in1 (seqItems? (.ref (n + 2)) >>= _) _ _ _
  refine wpAny_bind (wpAny_seqItems hc2 rfl ?_)
  show wpAny _ X.A.in1 (tryCatch (pyNext (.ref (n + 1))) _ >>= _) _ _ _
  refine wpAny_bind (wpAny_tryCatch (W.item 1 _ _ _ (by simp) ⟨gI3, gT3⟩ fun v' h4 tk4 hP4 hst4 hk4 => ?_))
  have hv' : v' = uy := by simpa using hP4.symm
  subst hv'
  have I4 : Inv X pins σ H2 { s2 with heap := h4, toks := tk4 } := tn (s' := { s2 with heap := h3 }) (n + 1) I3 (by (first | lia | omega)) (fr2 _ (by simp)) fun c o hc e => hk4 c o (by simpa using hc) e
  have gS4 := hk4 (n + 2) _ (by simp) hc2
  obtain ⟨oI4, goI4, coI4, doI4⟩ := id hst4.1
  obtain ⟨oT4, goT4, coT4, nT4, doT4⟩ := id hst4.2
  show wpAny _ X.A.in1 (tryCatch (holding [v'] (call (.ref f) [v'])) _ >>= _) _ _ _
  refine wpAny_bind (wpAny_tryCatch (wpAny_holding (wpAny_mono (key_pin (fp := [n, n + 1, n + 2]) (E' := fun _ _ => False) F hr hb I4 ry q1 (fun b hb => fpk H2 b (ge b hb) (fr2 b hb)) (ncell gS4 hst4.1 hst4.2)) (fun k2 s5 he => ?_) fun _ _ hF => hF.elim)))
  obtain ⟨v2, H5, I5, r2, ⟨a, b, ns, ms, e1, e2, hq1, hq2, q⟩, p5⟩ := he
  subst e1 e2
  obtain rfl : k1 = .ref a := r1
  obtain rfl : k2 = .ref b := r2
  have gS5 := (p5 (n + 2) (by simp)).2 _ gS4
  have gI5 : s5.heap.IsTupleIter (n + 1) n 2 := ⟨oI4, (p5 (n + 1) (by simp)).2 _ goI4, coI4, doI4⟩
  have gT5 : s5.heap.IsTuple n #[v, v'] := ⟨oT4, (p5 n (by simp)).2 _ goT4, coT4, nT4, doT4⟩
  have fr5 : ∀ b ∈ [n, n + 1, n + 2], H5 b = none := fun b hb => (p5 b hb).1
  obtain ⟨ia, ra, pa, _⟩ := I5.tuple hq1
  obtain ⟨ib, rb, pb, _⟩ := I5.tuple hq2
  show wpAny _ X.A.in1 (tryCatch (holding [v', .ref b] (richCompare .Lt (.ref b) (.ref a) >>= _)) _ >>= _) _ _ _
  refine wpAny_bind (wpAny_tryCatch (wpAny_holding (wpAny_bind ?_)))
  refine HT.lt_tupInts (A := X.A.in1) (ns := ms) (ms := ns) (Q := _) pb pa (intsAre_of rb) (intsAre_of ra) (by have := hr.in1.un; (first | lia | omega)) ?_
  refine wpAny_bind (wpAny_holding (wpAny_truthy_bool ?_))
  refine wpAny_bind (wpAny_letGo (wpAny_pure ?_))
  cases hlt : HT.lexLt ms ns with
  | true =>
    rw [hlt, if_pos rfl] at q
    simp only [if_true]
    have s6 := Heap.SameBut.update s5.heap (n + 2) (Obj.mapSeq fun _ => #[v', .ref b])
    obtain ⟨c6, hc6⟩ : ∃ c6, (s5.heap.update (n + 2) (Obj.mapSeq fun _ => #[v', .ref b])).get? (n + 2) = some (seqObj "list" #[v', .ref b] c6) := ⟨_, get?_update_seq gS5 fun _ => #[v', .ref b]⟩
    refine wpAny_bind ?_
    refine wpAny_updateSeq gS5 rfl (wpAny_bind (wpAny_letGo ?_))
    rw [hname]
    obtain ⟨h6, eh6⟩ : ∃ z, z = s5.heap.update (n + 2) (Obj.mapSeq fun _ => #[v', .ref b]) := ⟨_, rfl⟩
    rw [← eh6] at hc6 s6 ⊢
    have k6 : ∀ c o, c ≠ n + 2 → s5.heap.get? c = some o → h6.get? c = some o := fun c o hc e => (s6.2 c hc).trans e
    have I6 : Inv X pins σ H5 { s5 with heap := h6 } := tn (t' := s5.toks) (n + 2) I5 (by (first | lia | omega)) (fr5 _ (by simp)) k6
    have gI6 : h6.IsTupleIter (n + 1) n 2 := by obtain ⟨o, e, r⟩ := gI5; exact ⟨o, k6 _ _ (by (first | lia | omega)) e, r⟩
    have gT6 : h6.IsTuple n #[v, v'] := by obtain ⟨o, e, r⟩ := gT5; exact ⟨o, k6 _ _ (by (first | lia | omega)) e, r⟩
    refine wpAny_pure ⟨plainId_quiet PySem.F.plain_min_loop _, min_end (s := s5) (tk := s5.toks) (T := n) (it := n + 1) (S := n + 2) hh (Nat.ne_of_lt (Nat.lt_succ_self n)) (Nat.ne_of_gt (Nat.lt_succ_self (n + 1))) gI6 gT6 hc6 fun h' tk' hk' => ?_⟩
    exact ⟨y, H5, tn2 (s' := { s5 with heap := h6 }) I6 fr5 hk', ry, q⟩
  | false =>
    rw [hlt, if_neg (by decide)] at q
    simp only [Bool.false_eq_true, if_false]
    refine wpAny_bind (wpAny_letGo ?_)
    rw [hname]
    refine wpAny_pure ⟨plainId_quiet PySem.F.plain_min_loop _, min_end (s := s5) (tk := s5.toks) (T := n) (it := n + 1) (S := n + 2) hh (Nat.ne_of_lt (Nat.lt_succ_self n)) (Nat.ne_of_gt (Nat.lt_succ_self (n + 1))) gI5 gT5 gS5 fun h' tk' hk' => ?_⟩
    exact ⟨x, H5, tn2 I5 fr5 hk', rx, q⟩

/-- min(a, b, key=f) -/
def tMinK (K : PySem.W.Frag) (sp : Sp) (t : TA) : TE := fun σ H Q => t σ H fun vs H1 => ∃ x y, vs = [x, y] ∧ sp [x] H1 (fun v1 H2 => sp [y] H2 (fun v2 H3 => ∃ a b ns ms, v1 = .ref a ∧ v2 = .ref b ∧ SqT K H3 a (ns.map V.int) ∧ SqT K H3 b (ms.map V.int) ∧ Q (if HT.lexLt ms ns = true then y else x) H3) E0) E0
theorem pe_minK {g : Str} {ps' : List Str} {a b : Expr} {t : TA} {p p2 pos kpos : Pos} (D : Def X.prog X.w X.K X.mg X.base k g ps' sp) (hr : Room (k + 1) X.A) (hg : Gl X "min") (hm : X.mg "min" = none) (hgg : Gl X g) (ha : PA X [a, b] t)
    (hdb : (g == ("__debug__" : Str)) = false := by decide)
    (he : backTo pos (starEach [a, b] X.env) = (false, eval a X.env) :: backTo pos (starEach [b] X.env) := by rfl)
    (hplain : (backTo pos (starEach [a, b] X.env)).any (·.1) = false := by rfl)
    (hall : (backToKw pos (keywordEach [⟨some "key", .Name g p2, kpos⟩] X.env)).all (·.1.isSome) = true := by rfl)
    (hkw : (backToKw pos (keywordEach [⟨some "key", .Name g p2, kpos⟩] X.env)).any (·.1.isNone) = false := by rfl) :
    PE X (.Call (.Name "min" p) [a, b] [⟨some "key", .Name g p2, kpos⟩] pos) (tMinK X.K sp t) := by
  obtain ⟨f, fd, F, bi, kp, m⟩ := D.ex
  intro pins s σ H Q I h
  refine wpAny_Call_Name_kw (ld_blt I hg hm PyProof.Rows.boot_min ?_)
  refine PyProof.Rows.callWith_kw (thn (ha pos pins s σ H _ I h) fun us s1 ⟨vs, H1, I1, r, q⟩ => ?_) he hplain hall hkw
  obtain ⟨x, y, rfl, q⟩ := q
  obtain ⟨ux, uy, rfl, rx, ry⟩ := vals2 r
  refine thn (pk_cons (pe_glob (v := .ref f) hgg m rfl hdb) pk_nil pos pins s1 σ H1 _ I1 (show tCons (tC (.ref f)) tNil σ H1 (fun zs H2 => zs = [.ref f] ∧ H2 = H1) from ⟨rfl, rfl⟩)) fun ws s2 ⟨zs, H2, I2, rz, ez, eh⟩ => ?_
  subst ez eh
  obtain ⟨w, rfl, rw'⟩ := vals1 rz
  obtain rfl : w = .ref f := rw'
  exact min_key F hr bi I2 rx ry q
end
end L2
end
section
set_option Elab.async false
set_option linter.all false
set_option maxRecDepth 100000
set_option maxHeartbeats 4000000
namespace L2
open PySem PySem.Spec PyProof.Rows PySem.W PySem.SeqAt PySem.Calls

/-! ### == and != of two things that are alike through and through, however deep each item goes -/
def okV : V → Bool
  | .non => true
  | .bl _ => true
  | .int _ => true
  | .str _ => true
  | .ref _ => true
  | _ => false
inductive Like (K : PySem.W.Frag) (H : Hp) : Nat → V → V → Prop
  | same {n : Nat} {x : V} (ok : okV x = true) : Like K H n x x
  | tup {n : Nat} {a b : Addr} {xs ys : List V} (ha : SqT K H a xs) (hb : SqT K H b ys) (hl : xs.length = ys.length) (h : ∀ (j : Nat) x y, xs[j]? = some x → ys[j]? = some y → Like K H n x y) : Like K H (n + 1) (.ref a) (.ref b)
  | lst {n : Nat} {a b : Addr} {xs ys : List V} (ha : SqL K H a xs) (hb : SqL K H b ys) (hl : xs.length = ys.length) (h : ∀ (j : Nat) x y, xs[j]? = some x → ys[j]? = some y → Like K H n x y) : Like K H (n + 1) (.ref a) (.ref b)
theorem Like.mono {K : PySem.W.Frag} {H : Hp} {n : Nat} {x y : V} (h : Like K H n x y) : ∀ {m : Nat}, n ≤ m → Like K H m x y := by
  induction h with
  | same ok => intro m _; exact .same ok
  | tup ha hb hl h ih =>
    intro m hm
    obtain ⟨m, rfl⟩ : ∃ m', m = m' + 1 := ⟨m - 1, by (first | lia | omega)⟩
    exact .tup ha hb hl fun j x y ex ey => ih j x y ex ey (by (first | lia | omega))
  | lst ha hb hl h ih =>
    intro m hm
    obtain ⟨m, rfl⟩ : ∃ m', m = m' + 1 := ⟨m - 1, by (first | lia | omega)⟩
    exact .lst ha hb hl fun j x y ex ey => ih j x y ex ey (by (first | lia | omega))
section
variable {X : Cx}
theorem Like.at {pins : List (Addr × Obj)} {σ : St} {H : Hp} {s : Shared} (I : Inv X pins σ H s) {n : Nat} {x y : V} (h : Like X.K H n x y) :
    ∀ {A : Around} {u v : Value}, RelV x u → RelV y v → A.units + n < cLine → SeqAt.EqAt A s u v true := by
  induction h with
  | @same n x ho =>
    intro A u v rx ry _
    have fl : flatV x = true → SeqAt.EqAt A s u v true := fun f => by
      have q := eqAt_V (A := A) (s := s) rx ry f f
      have e : eqV x x = true := by cases x <;> first | rfl | exact beq_self_eq_true _ | exact absurd (show false = true from f) Bool.false_ne_true
      rw [e] at q
      exact q
    cases x with
    | ref a =>
      obtain rfl : u = .ref a := rx
      obtain rfl : v = .ref a := ry
      exact SeqAt.EqAt.same _
    | non => exact fl rfl
    | bl => exact fl rfl
    | int => exact fl rfl
    | str => exact fl rfl
    | byt => exact absurd (show false = true from ho) Bool.false_ne_true
    | flt => exact absurd (show false = true from ho) Bool.false_ne_true
    | ty => exact absurd (show false = true from ho) Bool.false_ne_true
  | @tup n a b xs ys ha hb hl h ih =>
    intro A u v rx ry hu
    cases rx
    cases ry
    by_cases hab : a = b
    · rw [hab]; exact SeqAt.EqAt.same _
    · obtain ⟨ia, ra, pa, _⟩ := I.tuple ha
      obtain ⟨ib, rb, pb, _⟩ := I.tuple hb
      have la := ra.length
      have lb := rb.length
      have q := SeqAt.RcAt.tuples (A := A) (e := fun _ => true) (show s.heap.IsTuple a ia.toArray from pa) (show s.heap.IsTuple b ib.toArray from pb) (by (first | lia | omega)) fun j h1 h2 => by
        have h1' : j < ia.length := by simpa using h1
        have h2' : j < ib.length := by simpa using h2
        obtain ⟨x, ex, rx⟩ := ra.at h1'
        obtain ⟨y, ey, ry⟩ := rb.at h2'
        have := ih j x y ex ey (A := A.in1) (u := ia[j]) (v := ib[j]) rx ry (by show A.units + 1 + n < cLine; (first | lia | omega))
        simpa using this
      have e : ((List.range (min ia.toArray.size ib.toArray.size)).all (fun _ => true) && ia.toArray.size == ib.toArray.size) = true := by
        rw [Bool.and_eq_true]
        exact ⟨all_range fun _ _ => rfl, by simp; (first | lia | omega)⟩
      rw [e] at q
      exact SeqAt.EqAt.of_refs hab q
  | @lst n a b xs ys ha hb hl h ih =>
    intro A u v rx ry hu
    cases rx
    cases ry
    by_cases hab : a = b
    · rw [hab]; exact SeqAt.EqAt.same _
    · obtain ⟨ia, ra, pa, _⟩ := I.list ha
      obtain ⟨ib, rb, pb, _⟩ := I.list hb
      have la := ra.length
      have lb := rb.length
      have q := SeqAt.RcAt.lists (A := A) (e := fun _ => true) pa.isList pb.isList (by simp; (first | lia | omega)) (by (first | lia | omega)) fun j h1 h2 => by
        have h1' : j < ia.length := by simpa using h1
        have h2' : j < ib.length := by simpa using h2
        obtain ⟨x, ex, rx⟩ := ra.at h1'
        obtain ⟨y, ey, ry⟩ := rb.at h2'
        have := ih j x y ex ey (A := A.in1) (u := ia[j]) (v := ib[j]) rx ry (by show A.units + 1 + n < cLine; (first | lia | omega))
        simpa using this
      have e : (List.range ia.toArray.size).all (fun _ => true) = true := all_range fun _ _ => rfl
      rw [e] at q
      exact SeqAt.EqAt.of_refs hab q
/-- the two sides of ==, != : lists or tuples -/
def rLike (K : PySem.W.Frag) (neg : Bool) : R2 := fun x y H Q => ∃ n a b xs ys, x = .ref a ∧ y = .ref b ∧ ((SqT K H a xs ∧ SqT K H b ys) ∨ (SqL K H a xs ∧ SqL K H b ys)) ∧ xs.length = ys.length ∧
  (∀ (j : Nat) x y, xs[j]? = some x → ys[j]? = some y → Like K H n x y) ∧ n ≤ 50 ∧ Q (.bl (!neg)) H
theorem op_eqK {k : Nat} (hr : Room k X.A) : OpR X (compareOp .Eq) (rLike X.K false) := by
  intro pins s σ H x y v u Q I rx ry h
  obtain ⟨n, a, b, xs, ys, rfl, rfl, hs, hl, h, hn, q⟩ := h
  have hu := hr.units
  have fin : ∀ {b : Bool} {u v : Value}, SeqAt.RcAt X.A s u v b → b = true → wpAny (model X.prog X.w) X.A (compareOp .Eq u v) (EP X pins σ Q) X.xe s := fun {b _ _} z e => by subst e; exact z _ _ _ _ ⟨.bl true, H, I, rfl, q⟩
  cases rx
  cases ry
  have key : ∀ {ia ib : List Value}, Vals xs ia → Vals ys ib → ∀ j (h1 : j < ia.toArray.size) (h2 : j < ib.toArray.size), SeqAt.EqAt X.A.in1 s ia.toArray[j] ib.toArray[j] true := fun {ia ib} ra rb j h1 h2 => by
    have h1' : j < ia.length := by simpa using h1
    have h2' : j < ib.length := by simpa using h2
    obtain ⟨x, ex, rx⟩ := ra.at h1'
    obtain ⟨y, ey, ry⟩ := rb.at h2'
    have := (h j x y ex ey).at I (A := X.A.in1) (u := ia[j]) (v := ib[j]) rx ry (by show X.A.units + 1 + n < cLine; (first | lia | omega))
    simpa using this
  rcases hs with ⟨ha, hb⟩ | ⟨ha, hb⟩
  · obtain ⟨ia, ra, pa, _⟩ := I.tuple ha
    obtain ⟨ib, rb, pb, _⟩ := I.tuple hb
    have la := ra.length
    have lb := rb.length
    refine fin (SeqAt.RcAt.tuples (A := X.A) (e := fun _ => true) (show s.heap.IsTuple a ia.toArray from pa) (show s.heap.IsTuple b ib.toArray from pb) (by (first | lia | omega)) (key ra rb)) ?_
    rw [Bool.and_eq_true]
    exact ⟨all_range fun _ _ => rfl, by simp; (first | lia | omega)⟩
  · obtain ⟨ia, ra, pa, _⟩ := I.list ha
    obtain ⟨ib, rb, pb, _⟩ := I.list hb
    have la := ra.length
    have lb := rb.length
    exact fin (SeqAt.RcAt.lists (A := X.A) (e := fun _ => true) pa.isList pb.isList (by simp; (first | lia | omega)) (by (first | lia | omega)) (key ra rb)) (all_range fun _ _ => rfl)
/-! ### a number that the text names at its top -/
theorem pe_conI {x : Str} {n : Int} {pos : Pos} (hg : Gl X x) (hm : ∃ t, X.mg x = some (.int n t)) (hd : (x == ("__debug__" : Str)) = false := by decide) : PE X (.Name x pos) (tC (.int n)) := by
  obtain ⟨t, hm⟩ := hm
  exact pe_glob (v := .int n) hg hm ⟨t, rfl⟩ hd
end
section
variable {X : Cx} {N' : List Str} {scope : Scope} {C : Addr} {s : Shared} {H : Hp} {fp : List Addr}
end
/-! ### isinstance, more kinds -/
section
variable {K : PySem.W.Frag}
end
end L2
end
section
set_option Elab.async false
set_option linter.all false
set_option maxRecDepth 100000
set_option maxHeartbeats 4000000
namespace L2
open PySem PySem.Spec PyProof.Rows PySem.W PySem.SeqAt PySem.Calls

/-! ### list(range(..)) -/
section
variable {X : Cx}
theorem vals_items {lo c : Int} {n : Nat} {acc : Array Value} (h : ItemsOf (fun i v => ∃ t, v = Value.int (lo + i * c) t) acc n) : Vals ((List.range n).map fun (i : Nat) => V.int (lo + i * c)) acc.toList := by
  obtain ⟨hz, hi⟩ := h
  have key : ∀ (l : List Value) (k : Nat), (∀ j v, l[j]? = some v → ∃ t, v = Value.int (lo + ((k + j : Nat) : Int) * c) t) → Vals ((List.range' k l.length).map fun (i : Nat) => V.int (lo + i * c)) l := by
    intro l
    induction l with
    | nil => intro k _; exact .nil
    | cons v l ih =>
      intro k hv
      rw [List.length_cons, List.range'_succ, List.map_cons]
      refine .cons ?_ (ih (k + 1) fun j w e => ?_)
      · obtain ⟨t, e⟩ := hv 0 v rfl
        exact ⟨t, by rw [e]; rfl⟩
      · obtain ⟨t, e'⟩ := hv (j + 1) w (by simpa using e)
        refine ⟨t, ?_⟩
        rw [e', show k + (j + 1) = k + 1 + j by (first | lia | omega)]
  have e := key acc.toList 0 fun j v e => by
    obtain ⟨t, e'⟩ := hi j v (by simpa using e)
    exact ⟨t, by rw [e', Nat.zero_add]⟩
  rw [Array.length_toList, hz, ← List.range_eq_range'] at e
  exact e
/-- a range object just made, listed -/
theorem range_list {pins : List (Addr × Obj)} {σ : St} {H : Hp} {s : Shared} {Q : VK} {E : Value → Shared → Prop} {a b c : Int} {t u v : Tok} {tk : Nat} {n : Nat} (hc : X.calm = true) (I : Inv X pins σ H s) (hsmall : Builtin.Range.small a b c = true) (hn : Builtin.Range.rangeSize a b c = n) (hlen : n ≤ 100000)
    (q : ∀ l, H l = none → Q (.ref l) (upd H l (.lst ((List.range n).map fun (i : Nat) => V.int (a + i * c))))) :
    wpAny (model X.prog X.w) X.A (call (.type "list") [.ref s.heap.objs.size]) (EP X pins σ Q) E { s with heap := s.heap.push { cls := .type "range", data := .fields #[.int a t, .int b u, .int c v] }, toks := tk } := by
  have I1 : Inv X pins σ H { s with heap := s.heap.push { cls := .type "range", data := .fields #[.int a t, .int b u, .int c v] }, toks := tk } := I.kept fun b o e => Heap.get?_push_of_some _ e
  refine call_list_range (I.ok.hd hc) (IsRange.new ..) hsmall hn (by (first | lia | omega)) fun h' tk' acc c' kp e it => ?_
  have sl : n ≤ sizeLine := Nat.le_of_lt (small hlen)
  refine ⟨.ref _, _, I1.laid (t' := tk') kp (Nat.le_refl _) (show ObjOk X.prog X.w _ h' _ (.lst ((List.range n).map fun (i : Nat) => V.int (a + i * c))) from ⟨by rw [List.length_map, List.length_range]; exact sl, acc.toList, c', vals_items it, by simpa using e⟩), rfl, q _ (I1.hok.fresh (Nat.le_refl _))⟩
def tLR1 (ta : TA) : TE := fun σ H Q => ta σ H fun vs H1 => ∃ j : Int, vs = [.int j] ∧ 0 ≤ j ∧ j ≤ 100000 ∧ ∀ l, H1 l = none → Q (.ref l) (upd H1 l (.lst ((List.range j.toNat).map fun (i : Nat) => V.int (i : Int))))
end
end L2
end
section
set_option Elab.async false
set_option linter.all false
set_option maxRecDepth 100000
set_option maxHeartbeats 4000000
namespace L2
open PySem PySem.Spec PyProof.Rows PySem.W PySem.SeqAt PySem.Calls

/-! ### a call by a name of the def's own: the function is a value -/
/-- the defs that may be handed in, each with its promise -/
def FnV (X : Cx) (k : Nat) (Fs : Addr → Sp → Prop) : Prop := ∀ f sp, Fs f sp → ∃ fd ps, FnOk X.prog X.w X.K X.mg X.base (CXE X.prog X.w) k f fd ps sp ∧ Binds X.K fd ps [] ∧ PySem.W.keepIn X.K (.ref f) = true
def tCallV (Fs : Addr → Sp → Prop) (i : Nat) (E : XK) (t : TA) : TE := fun σ H Q => ∃ f sp, σ[i]? = some (some (.ref f)) ∧ Fs f sp ∧ t σ H fun vs H1 => sp vs H1 Q E
/-! ### what a def raises is what it raises behind some steps -/
end L2
end
section
set_option Elab.async false
set_option linter.all false
set_option maxRecDepth 100000
set_option maxHeartbeats 4000000
namespace L2
open PySem PySem.Spec PyProof.Rows PySem.W PySem.SeqAt PySem.Calls

/-! ### sorted(d), d a dict whose keys are ints -/
section
variable {X : Cx}
end
end L2
end
section
set_option Elab.async false
set_option linter.all false
set_option maxRecDepth 100000
set_option maxHeartbeats 4000000
namespace L2
open PySem PySem.Spec PyProof.Rows PySem.W PySem.SeqAt PySem.Calls

/-! ### set(xs) of a list of one int again and again, len of a set -/
section
variable {X : Cx}
end
section
variable {X : Cx} {N' : List Str} {scope : Scope} {C : Addr} {s : Shared} {H : Hp} {fp : List Addr}
end
end L2
end
section
set_option Elab.async false
set_option linter.all false
set_option maxRecDepth 100000
set_option maxHeartbeats 4000000
namespace L2
open PySem PySem.Spec PyProof.Rows PySem.W PySem.SeqAt PySem.Calls

/-! ### list(range(a, b)) -/
section
variable {X : Cx}
def tLR2 (ta : TA) : TE := fun σ H Q => ta σ H fun vs H1 => ∃ i j : Int, vs = [.int i, .int j] ∧ 0 ≤ i ∧ i ≤ j ∧ j ≤ 100000 ∧ ∀ l, H1 l = none → Q (.ref l) (upd H1 l (.lst ((List.range (j - i).toNat).map fun (m : Nat) => V.int (i + (m : Int)))))
theorem pe_listRange2 {a b : Expr} {ta : TA} {p p2 pos pos2 : Pos} (hg : Gl X "list") (hg2 : Gl X "range") (hm : X.mg "list" = none) (hm2 : X.mg "range" = none) (ha : PA X [a, b] ta) (hc : X.calm = true := by rfl)
    (hs : starEach [a, b] X.env = [(false, eval a X.env), (false, eval b X.env)] := by rfl) (hsb : starEach [b] X.env = [(false, eval b X.env)] := by rfl) (hs2 : starEach [.Call (.Name "range" p2) [a, b] [] pos2] X.env = [(false, eval (.Call (.Name "range" p2) [a, b] [] pos2) X.env)] := by rfl) :
    PE X (.Call (.Name "list" p) [.Call (.Name "range" p2) [a, b] [] pos2] [] pos) (tLR2 ta) := by
  intro pins s σ H Q I h
  refine Call_ (ld_blt I hg hm boot_list (PyProof.Rows.callWith_type1 ?_ hs2 rfl))
  rw [hs2]
  refine Calls.spliced_cons ?_
  refine Call_ (ld_blt I hg2 hm2 boot_range (PyProof.Rows.callWith_type1 (thn (ha pos2 pins s σ H _ I h) fun us s1 ⟨vs, H1, I1, r1, q1⟩ => ?_) (by rw [hs, hsb]) (by rw [hsb]; rfl)))
  obtain ⟨i, j, e, q1, q2, q3, q⟩ := q1
  subst e
  cases r1 with
  | cons r rr =>
    cases rr with
    | cons r' rr =>
      cases rr
      obtain ⟨t, rfl⟩ := r
      obtain ⟨t', rfl⟩ := r'
      refine call_range_2 (Calls.spliced_nil ?_)
      refine range_list (n := (j - i).toNat) hc I1 (small_one (by (first | lia | omega)) (by (first | lia | omega)) (by (first | lia | omega)) (by (first | lia | omega))) (by rw [rangeSize_one]; split <;> (first | lia | omega)) (by (first | lia | omega)) fun l hl => ?_
      have e : (List.range (j - i).toNat).map (fun (m : Nat) => V.int (i + m * 1)) = (List.range (j - i).toNat).map fun (m : Nat) => V.int (i + (m : Int)) := List.map_congr_left fun m _ => by congr 1; (first | lia | omega)
      rw [e]
      exact q l hl
end
end L2
end
section
set_option Elab.async false
set_option linter.all false
set_option maxRecDepth 100000
set_option maxHeartbeats 4000000
namespace L2
open PySem PySem.Spec PyProof.Rows PySem.W PySem.SeqAt PySem.Calls

/-! ### a, b = a list -/
section
variable {prog : Program} {w : World} {A : Around} {E : Value → Shared → Prop}
end
section
variable {X : Cx}
def gLstU (K : PySem.W.Frag) (n : Nat) (t : TGs) : TG := fun v σ H Q => ∃ a xs, v = .ref a ∧ SqL K H a xs ∧ xs.length = n ∧ t xs σ H Q
end
end L2
end
section
set_option Elab.async false
set_option linter.all false
set_option maxRecDepth 100000
set_option maxHeartbeats 4000000
namespace L2
open PySem PySem.Spec PyProof.Rows PySem.W PySem.SeqAt PySem.Calls

/-! ### i not in range(n) -/
section
variable {X : Cx} {a b : Expr} {pos : Pos}
def tNotR (te : TE) (ta : TA) : TE := fun σ H Q => te σ H fun x H1 => ta σ H1 fun vs H2 => ∃ i j : Int, x = .int i ∧ vs = [.int j] ∧ Q (.bl (!decide (0 ≤ i ∧ i < j))) H2
end
end L2
end
section
set_option Elab.async false
set_option linter.all false
set_option maxRecDepth 100000
set_option maxHeartbeats 4000000
namespace L2
open PySem PySem.Spec PyProof.Rows PySem.W PySem.SeqAt PySem.Calls

/-! ### text.split(sep) -/
section
variable {X : Cx}
def rSplit : V → List V → Hp → VK → Prop := fun x xs H Q => ∃ z y, x = .str z ∧ xs = [.str y] ∧ (y.length == 0) = false ∧ z.length ≤ sizeLine ∧ (Txt.split z y).length ≤ sizeLine ∧ ∀ l, H l = none → Q (.ref l) (upd H l (.lst ((Txt.split z y).map V.str)))
/-! ### sep.join(texts) -/
def rJoin (K : PySem.W.Frag) : V → List V → Hp → VK → Prop := fun x xs H Q => ∃ z a ts, x = .str z ∧ xs = [.ref a] ∧ SqL K H a (ts.map V.str) ∧ JoinOk z ts = true ∧ Q (.str (Txt.join z ts)) H
/-! ### text.startswith(text), int(text) -/
def rStarts : V → List V → Hp → VK → Prop := fun x xs H Q => ∃ z y, x = .str z ∧ xs = [.str y] ∧ Q (.bl (0 + y.length ≤ z.length && Builtin.Str.subAt z y 0)) H
/-! ### for sign in text -/
def Its (x : Str) : It := ⟨fun i _ => i < x.cps.size, fun i H v H' => H' = H ∧ ∃ c, x.cps[i]? = some c ∧ v = .str ⟨#[c]⟩, fun i _ => x.cps.size ≤ i⟩
def iStr (tl : TE) : TI := fun σ H R => tl σ H fun x H1 => ∃ z, x = .str z ∧ R (Its z) H1
/-! ### text[lo:hi] -/
def rSlS : V → Option Int → Option Int → Hp → VK → Prop := fun x lo hi H Q => ∃ z, x = .str z ∧ z.length ≤ sizeLine ∧ Q (.str (Txt.slice z lo hi)) H
/-! ### a text that the program names at its top -/
end
section
variable {X : Cx} {N' : List Str} {scope : Scope} {C : Addr} {s : Shared} {H : Hp} {fp : List Addr}
end
end L2
end
section
set_option Elab.async false
set_option linter.all false
set_option maxRecDepth 100000
set_option maxHeartbeats 4000000
namespace L2
open PySem PySem.Spec PyProof.Rows PySem.W PySem.SeqAt PySem.Calls
/-! ### text * n, text[::-1]: some text that is no longer -/
section
variable {X : Cx} {e st : Expr} {te ts : TE} {pos p2 : Pos}
def rRepS : R2 := fun x y H Q => ∃ i j, x = .str i ∧ y = .int j ∧ 1 ≤ j ∧ j ≤ 100000 ∧ i.length * j.toNat ≤ 100000 ∧ ∀ z : Str, z.length ≤ i.length * j.toNat → Q (.str z) H
def tRevS (te ts : TE) : TE := fun σ H Q => te σ H fun x H1 => ts σ H1 fun y H2 => ∃ z, x = .str z ∧ y = .int (-1) ∧ z.length ≤ 100000 ∧ ∀ z' : Str, z'.length ≤ z.length → Q (.str z') H2
end
end L2
end
section
set_option Elab.async false
set_option linter.all false
set_option maxRecDepth 100000
set_option maxHeartbeats 4000000
namespace L2
open PySem PySem.Spec PyProof.Rows PySem.W PySem.SeqAt PySem.Calls
/-! ### xs[i:j] = ys, within the list -/
section
variable {X : Cx} {pos p2 : Pos}
def gSlice (to : TE) (tl th : TO) : TG := fun v σ H Q => to σ H fun o H1 => tl σ H1 fun a H2 => th σ H2 fun b H3 => ∃ p q xs ys i j, o = .ref p ∧ v = .ref q ∧ a = some i ∧ b = some j ∧ p ≠ q ∧ H3 p = some (.lst xs) ∧ H3 q = some (.lst ys) ∧ 0 ≤ i ∧ i ≤ j ∧ j ≤ (xs.length : Int) ∧ xs.length + ys.length ≤ sizeLine ∧ Q σ (upd H3 p (.lst (xs.take i.toNat ++ ys ++ xs.drop j.toNat)))
end
end L2
end
section
set_option Elab.async false
set_option linter.all false
set_option maxRecDepth 100000
set_option maxHeartbeats 4000000
namespace L2
open PySem PySem.Spec PyProof.Rows PySem.W PySem.SeqAt PySem.Calls
/-! ### list(range(a, b, -1)) -/
section
variable {X : Cx}
def tLR3 (ta : TA) : TE := fun σ H Q => ta σ H fun vs H1 => ∃ i j : Int, vs = [.int i, .int j, .int (-1)] ∧ 0 ≤ j ∧ j ≤ i ∧ i ≤ 100000 ∧ ∀ l, H1 l = none → Q (.ref l) (upd H1 l (.lst ((List.range (i - j).toNat).map fun (m : Nat) => V.int (i - (m : Int)))))
end
end L2
end
section
set_option Elab.async false
set_option linter.all false
set_option maxRecDepth 100000
set_option maxHeartbeats 4000000
namespace L2
open PySem PySem.Spec PyProof.Rows PySem.W PySem.SeqAt
open PySem.AutoSeq1 (wpAny_loadPart')
open PySem.MeetsSeq PySem.MeetsSeq2 PySem.MeetsSeq3
/-! ### t < u of tuples that begin with unlike ints, whatever stands last -/
section
variable {prog : Program} {w : World} {A : Around} {E : Value → Shared → Prop} {s : Shared}
end
/-! ### min of a list of two tuples that begin with unlike ints -/
section
variable {X : Cx} {pins : List (Addr × Obj)} {σ : St}
def rMin2 (K : PySem.W.Frag) : List V → Hp → VK → Prop := fun vs H Q => ∃ (l p q : Addr) (ns ms : List Int) (x y : V), vs = [.ref l] ∧ SqL K H l [.ref p, .ref q] ∧ SqT K H p (ns.map V.int ++ [x]) ∧ SqT K H q (ms.map V.int ++ [y]) ∧ ns.length = ms.length ∧ ns ≠ ms ∧
  Q (if HT.lexLt ms ns = true then .ref q else .ref p) H
end
end L2
end
section
set_option Elab.async false
set_option linter.all false
set_option maxRecDepth 100000
set_option maxHeartbeats 4000000
namespace L2
open PySem PySem.Spec PyProof.Rows PySem.W PySem.SeqAt PySem.Calls
section
variable {X : Cx}
/-- // of ints by one that may be long -/
structure CDivL (i j : Int) : Prop where
  pos : 0 < j
  lt : j < 2 ^ 200
end
end L2
end
section
set_option Elab.async false
set_option linter.all false
set_option maxRecDepth 100000
set_option maxHeartbeats 4000000
namespace L2
open PySem PySem.Spec PyProof.Rows PySem.W PySem.SeqAt
section
variable {X : Cx}
/-! ### xs.index(x) of a list of flat items that has x -/
def rIndexF (K : PySem.W.Frag) : V → List V → Hp → VK → Prop := fun o vs H Q => ∃ (p : Addr) (xs : List V) (x y : V) (i : Nat), o = .ref p ∧ vs = [x] ∧ SqL K H p xs ∧ flatV x = true ∧ xs.all flatV = true ∧ xs[i]? = some y ∧ eqV y x = true ∧ (∀ j z, j < i → xs[j]? = some z → eqV z x = false) ∧ xs.length ≤ 100000 ∧ Q (.int (i : Nat)) H
end
end L2
end
section
set_option Elab.async false
set_option linter.all false
set_option maxRecDepth 100000
set_option maxHeartbeats 4000000
namespace L2
open PySem PySem.Spec PyProof.Rows PySem.W PySem.SeqAt
section
variable {X : Cx} {N' : List Str} {scope : Scope} {C : Addr} {s : Shared} {H : Hp} {fp : List Addr} {e st o i : Expr} {te ts td ty : TE} {pos p2 : Pos}
/-! ### xs[::-1] and d[k] within a comprehension's block -/
end
end L2
end
section
set_option Elab.async false
set_option linter.all false
set_option maxRecDepth 100000
set_option maxHeartbeats 4000000
namespace L2
open PySem PySem.Spec PyProof.Rows
section
variable {X : Cx} {a b c d : Expr} {ta tb tc td : TE} {pos : Pos}
/-! ### a op b op c op d as a test -/
end
end L2
end
section
set_option Elab.async false
set_option linter.all false
set_option maxRecDepth 100000
set_option maxHeartbeats 4000000
namespace L2
open PySem PySem.Spec PyProof.Rows
section
variable {X : Cx}
/-! ### != of two flat things, or of two that are alike through and through -/
end
end L2
end
section
set_option Elab.async false
set_option linter.all false
set_option maxRecDepth 100000
set_option maxHeartbeats 4000000
namespace L2
open PySem PySem.Spec PyProof.Rows
section
variable {X : Cx} {a b : Expr} {rest : List Expr} {ta tb : TE} {pos : Pos}
/-! ### x or y, of any values -/
def tOrW (K : PySem.W.Frag) (ta tb : TE) : TE := fun σ H Q => ta σ H fun x H1 => ∃ c, TruV K x H1 c ∧ if c = true then Q x H1 else tb σ H1 Q
end
end L2
end
section
set_option Elab.async false
set_option linter.all false
set_option maxRecDepth 100000
set_option maxHeartbeats 4000000
namespace L2
open PySem PySem.Spec PyProof.Rows
section
variable {X : Cx} {N' : List Str} {scope : Scope} {C : Addr} {s : Shared} {H : Hp} {fp : List Addr} {M' : List Str} {scope2 : Scope} {C2 : Addr} {s2 : Shared} {H2 : Hp} {fp2 : List Addr} {tg : Expr}
/-! ### within a block of a block -/
theorem pi_listB {l : Expr} {tl : TE} (hl : PE (blk X N' scope C s H fp) l tl) : PI (blk X N' scope C s H fp) tg l (iList X.K tl) := pi_list hl
theorem ix_tupBB : IxR (blk (blk X N' scope C s H fp) M' scope2 C2 s2 H2 fp2) (rIxT X.K) := ix_tup
theorem max_of_listB (hc : X.calm = true) : CallR (blk X N' scope C s H fp) (.builtin "max") (fun xs H Q => ∃ (p : Addr) (ns : List Int), xs = [.ref p] ∧ SqL X.K H p (ns.map V.int) ∧ 0 < ns.length ∧ ∀ M, M ∈ ns → (∀ a, a ∈ ns → a ≤ M) → Q (.int M) H) := max_of_list hc
end
end L2
end
set_option Elab.async false
set_option linter.all false
set_option maxRecDepth 100000
set_option maxHeartbeats 4000000
local macro_rules | `(tactic| walk_at "rd") => `(tactic| repeat (first | refine ⟨_, rfl, ?_⟩ | refine ⟨_, _, rfl, rfl, ?_⟩ | refine ⟨rfl, ?_⟩ | refine ⟨L2.cPow rfl, ?_⟩ | refine ⟨L2.cDiv rfl, ?_⟩ | refine ⟨L2.cPos rfl, ?_⟩ | refine ⟨L2.cMulL rfl, ?_⟩ | refine ⟨L2.cMulR rfl, ?_⟩ | refine ⟨L2.cNon rfl, ?_⟩))
namespace My
open PySem L2
def top (i : Nat) : Stmt := PySem.Challenge.pw_topstretch_k37_whole_great_rows.main.body.getD i (.Pass ⟨0, 0, 0, 0⟩)
abbrev s_is_whole : Stmt := top 5
theorem sc_is_whole : FnScope ["thing"] ["thing"] (defScope s_is_whole) := ⟨rfl, rfl, rfl, by decide +kernel, rfl, by decide +kernel, by decide +kernel⟩
abbrev s_is_stretch : Stmt := top 6
theorem sc_is_stretch : FnScope ["stretch", "many", "first", "beyond"] ["stretch", "many"] (defScope s_is_stretch) := ⟨rfl, rfl, rfl, by decide +kernel, rfl, by decide +kernel, by decide +kernel⟩
abbrev s_order_of : Stmt := top 17
theorem sc_order_of : FnScope ["stretch"] ["stretch"] (defScope s_order_of) := ⟨rfl, rfl, rfl, by decide +kernel, rfl, by decide +kernel, by decide +kernel⟩
abbrev s_better_of : Stmt := top 18
theorem sc_better_of : FnScope ["one", "other"] ["one", "other"] (defScope s_better_of) := ⟨rfl, rfl, rfl, by decide +kernel, rfl, by decide +kernel, by decide +kernel⟩
abbrev s_moved : Stmt := top 19
theorem sc_moved : FnScope ["stretch", "places"] ["stretch", "places"] (defScope s_moved) := ⟨rfl, rfl, rfl, by decide +kernel, rfl, by decide +kernel, by decide +kernel⟩
abbrev s_side_by_side : Stmt := top 20
theorem sc_side_by_side : FnScope ["one", "other"] ["one", "other"] (defScope s_side_by_side) := ⟨rfl, rfl, rfl, by decide +kernel, rfl, by decide +kernel, by decide +kernel⟩
abbrev s_joined_round : Stmt := top 21
theorem sc_joined_round : FnScope ["one", "other", "best", "inner"] ["one", "other"] (defScope s_joined_round) := ⟨rfl, rfl, rfl, by decide +kernel, rfl, by decide +kernel, by decide +kernel⟩
abbrev s_joined : Stmt := top 22
theorem sc_joined : FnScope ["one", "other", "many", "one_whole", "other_whole", "other_head", "over"] ["one", "other"] (defScope s_joined) := ⟨rfl, rfl, rfl, by decide +kernel, rfl, by decide +kernel, by decide +kernel⟩
abbrev s_single : Stmt := top 23
theorem sc_single : FnScope ["number", "stretch"] ["number"] (defScope s_single) := ⟨rfl, rfl, rfl, by decide +kernel, rfl, by decide +kernel, by decide +kernel⟩
abbrev s_paired : Stmt := top 24
theorem sc_paired : FnScope ["left", "right"] ["left", "right"] (defScope s_paired) := ⟨rfl, rfl, rfl, by decide +kernel, rfl, by decide +kernel, by decide +kernel⟩
abbrev s_halved : Stmt := top 25
theorem sc_halved : FnScope ["row", "first", "beyond", "middle"] ["row", "first", "beyond"] (defScope s_halved) := ⟨rfl, rfl, rfl, by decide +kernel, rfl, by decide +kernel, by decide +kernel⟩
abbrev s_kept : Stmt := top 26
theorem sc_kept : FnScope ["row"] ["row"] (defScope s_kept) := ⟨rfl, rfl, rfl, by decide +kernel, rfl, by decide +kernel, by decide +kernel⟩
abbrev s_many_of : Stmt := top 27
theorem sc_many_of : FnScope ["held"] ["held"] (defScope s_many_of) := ⟨rfl, rfl, rfl, by decide +kernel, rfl, by decide +kernel, by decide +kernel⟩
abbrev s_row_of : Stmt := top 28
theorem sc_row_of : FnScope ["held"] ["held"] (defScope s_row_of) := ⟨rfl, rfl, rfl, by decide +kernel, rfl, by decide +kernel, by decide +kernel⟩
abbrev s_refuse_place : Stmt := top 29
theorem sc_refuse_place : FnScope ["held", "place"] ["held", "place"] (defScope s_refuse_place) := ⟨rfl, rfl, rfl, by decide +kernel, rfl, by decide +kernel, by decide +kernel⟩
abbrev s_with_put : Stmt := top 30
theorem sc_with_put : FnScope ["held", "place", "number", "middle"] ["held", "place", "number"] (defScope s_with_put) := ⟨rfl, rfl, rfl, by decide +kernel, rfl, by decide +kernel, by decide +kernel⟩
abbrev s_changed : Stmt := top 31
theorem sc_changed : FnScope ["held", "changes", "now", "change"] ["held", "changes"] (defScope s_changed) := ⟨rfl, rfl, rfl, by decide +kernel, rfl, by decide +kernel, by decide +kernel⟩
abbrev s_known_of : Stmt := top 32
theorem sc_known_of : FnScope ["held", "first", "beyond", "middle"] ["held", "first", "beyond"] (defScope s_known_of) := ⟨rfl, rfl, rfl, by decide +kernel, rfl, by decide +kernel, by decide +kernel⟩
abbrev s_known_of_part : Stmt := top 33
theorem sc_known_of_part : FnScope ["held", "stretch"] ["held", "stretch"] (defScope s_known_of_part) := ⟨rfl, rfl, rfl, by decide +kernel, rfl, by decide +kernel, by decide +kernel⟩
abbrev s_best_in : Stmt := top 34
theorem sc_best_in : FnScope ["held", "stretch"] ["held", "stretch"] (defScope s_best_in) := ⟨rfl, rfl, rfl, by decide +kernel, rfl, by decide +kernel, by decide +kernel⟩
abbrev s_sum_in : Stmt := top 35
theorem sc_sum_in : FnScope ["held", "stretch"] ["held", "stretch"] (defScope s_sum_in) := ⟨rfl, rfl, rfl, by decide +kernel, rfl, by decide +kernel, by decide +kernel⟩
abbrev s_best_round : Stmt := top 36
theorem sc_best_round : FnScope ["held", "plain", "best", "over"] ["held"] (defScope s_best_round) := ⟨rfl, rfl, rfl, by decide +kernel, rfl, by decide +kernel, by decide +kernel⟩
abbrev s_paper_of : Stmt := top 38
theorem sc_paper_of : FnScope ["row", "paper", "place"] ["row"] (defScope s_paper_of) := ⟨rfl, rfl, rfl, by decide +kernel, rfl, by decide +kernel, by decide +kernel⟩
abbrev s_bound_of : Stmt := top 39
theorem sc_bound_of : FnScope ["paper"] ["paper"] (defScope s_bound_of) := ⟨rfl, rfl, rfl, by decide +kernel, rfl, by decide +kernel, by decide +kernel⟩
abbrev s_must_be : Stmt := top 41
theorem sc_must_be : FnScope ["held", "place", "many", "without", "beside", "left", "right"] ["held", "place"] (defScope s_must_be) := ⟨rfl, rfl, rfl, by decide +kernel, rfl, by decide +kernel, by decide +kernel⟩
abbrev s_places_in_best : Stmt := top 42
theorem sc_places_in_best : FnScope ["held", "row", "ending", "begun", "most"] ["held"] (defScope s_places_in_best) := ⟨rfl, rfl, rfl, by decide +kernel, rfl, by decide +kernel, by decide +kernel⟩
abbrev s_law_next : Stmt := top 44
theorem sc_law_next : FnScope ["pot", "many", "cell", "stir"] ["pot", "many"] (defScope s_law_next) := ⟨rfl, rfl, rfl, by decide +kernel, rfl, by decide +kernel, by decide +kernel⟩
abbrev s_law_pots : Stmt := top 45
theorem sc_law_pots : FnScope ["script"] ["script"] (defScope s_law_pots) := ⟨rfl, rfl, rfl, by decide +kernel, rfl, by decide +kernel, by decide +kernel⟩
abbrev s_law_right : Stmt := top 46
theorem sc_law_right : FnScope ["pot", "many", "first", "wide", "row", "held", "beyond", "at", "fallen", "parts", "best"] ["pot", "many", "first", "wide"] (defScope s_law_right) := ⟨rfl, rfl, rfl, by decide +kernel, rfl, by decide +kernel, by decide +kernel⟩
abbrev s_law_ends_right : Stmt := top 47
theorem sc_law_ends_right : FnScope ["pot", "many", "ahead", "behind", "gap", "held", "changes", "k", "other", "row", "put", "place", "number", "back"] ["pot", "many"] (defScope s_law_ends_right) := ⟨rfl, rfl, rfl, by decide +kernel, rfl, by decide +kernel, by decide +kernel⟩
abbrev s_law : Stmt := top 48
theorem sc_law : FnScope ["script", "pot", "many", "wide", "first"] ["script"] (defScope s_law) := ⟨rfl, rfl, rfl, by decide +kernel, rfl, by decide +kernel, by decide +kernel⟩
structure Cons (mg : Str → Option Value) : Prop where
  BEST : ∃ t, mg "BEST" = some (.int 2 t)
  HEAD : ∃ t, mg "HEAD" = some (.int 3 t)
  KNOWN : ∃ t, mg "KNOWN" = some (.int 0 t)
  LEFT : ∃ t, mg "LEFT" = some (.int 1 t)
  MANY : ∃ t, mg "MANY" = some (.int 0 t)
  RIGHT : ∃ t, mg "RIGHT" = some (.int 2 t)
  ROUND : ∃ t, mg "ROUND" = some (.int 5 t)
  TAIL : ∃ t, mg "TAIL" = some (.int 4 t)
  TOTAL : ∃ t, mg "TOTAL" = some (.int 1 t)
/-! ### sums ahead -/
def psum (ns : List Int) (i : Nat) : Int := (ns.take i).sum
def pl (ns : List Int) (i : Nat) : List Int := (List.range (i + 1)).map (psum ns)
theorem psum_succ {ns : List Int} {i : Nat} (h : i < ns.length) : psum ns (i + 1) = psum ns i + ns[i] := by
  unfold psum
  rw [List.take_succ_eq_append_getElem h, List.sum_append, List.sum_singleton]
theorem int_at {ns : List Int} {i : Nat} {x : V} (h : (ns.map V.int)[i]? = some x) : ∃ h' : i < ns.length, x = .int ns[i] := by
  rw [List.getElem?_map] at h
  cases e : ns[i]? with
  | none => rw [e] at h; cases h
  | some n =>
    rw [e] at h
    cases h
    obtain ⟨h', e'⟩ := List.getElem?_eq_some_iff.mp e
    exact ⟨h', by rw [e']⟩
/-! ### _law_same: True of the same ints, of the same lists and tuples of such -/
def SqO (k : Bool) (H : Hp) (a : Addr) (xs : List V) : Prop := match k with
  | true => H a = some (.lst xs)
  | false => H a = some (.tup xs)
inductive SameD (H : Hp) : Nat → V → V → Prop
  | non {n : Nat} : SameD H (n + 1) .non .non
  | int {n : Nat} (i : Int) : SameD H (n + 1) (.int i) (.int i)
  | seq {n : Nat} (k : Bool) {a b : Addr} {xs ys : List V} (ha : SqO k H a xs) (hb : SqO k H b ys) (hl : xs.length = ys.length) (hz : xs.length ≤ 100000) (h : ∀ (j : Nat) x y, xs[j]? = some x → ys[j]? = some y → SameD H n x y) : SameD H (n + 1) (.ref a) (.ref b)
def sp_same (n : Nat) : Sp := fun vs H Q _ => ∃ x y, vs = [x, y] ∧ SameD H n x y ∧ ∀ H', Same H H' → Q (.bl true) H'
/-! ### for the laws themselves -/
theorem cut_front {ns : List Int} {m : Nat} : cutV (ns.map V.int) none (some (m : Int)) = (ns.take m).map V.int := by
  unfold cutV
  rw [HT.sIx_nat, HT.sIx_none, List.length_map, List.drop_zero, Nat.sub_zero, List.map_take]
  rcases Nat.le_total m ns.length with h | h
  · rw [Nat.min_eq_left h]
  · rw [Nat.min_eq_right h, List.take_of_length_le (by rw [List.length_map]; exact Nat.le_refl _), List.take_of_length_le (by rw [List.length_map]; exact h)]
def sp_law (K : PySem.W.Frag) : Sp := fun vs H Q _ => ∃ (a : Addr) (ns : List Int), vs = [.ref a] ∧ SqL K H a (ns.map V.int) ∧ ns.length ≤ 63 ∧ ∀ H', Q (.bl true) H'
/-! ### a part of a list of ints -/
def cutI (ns : List Int) (a b : Int) : List Int := (ns.drop a.toNat).take (b.toNat - a.toNat)
/-! ### stretches as triples; the best of some -/
structure Sx where
  s : Int
  f : Int
  b : Int
def Sx.le (x y : Sx) : Prop := y.s < x.s ∨ (x.s = y.s ∧ (x.f < y.f ∨ (x.f = y.f ∧ x.b ≤ y.b)))
def better (x y : Sx) : Sx := if HT.lexLt [-y.s, y.f, y.b] [-x.s, x.f, x.b] = true then y else x
theorem lex3 {a b c a' b' c' : Int} : HT.lexLt [a, b, c] [a', b', c'] = true ↔ a < a' ∨ (a = a' ∧ (b < b' ∨ (b = b' ∧ c < c'))) := by
  rw [HT.lexLt_cons, HT.lexLt_cons, HT.lexLt_cons, HT.lexLt_nil_nil]
  by_cases h1 : a = a'
  · rw [if_pos h1]
    by_cases h2 : b = b'
    · rw [if_pos h2]
      by_cases h3 : c = c'
      · rw [if_pos h3]; constructor
        · intro z; cases z
        · intro z; (first | lia | omega)
      · rw [if_neg h3, decide_eq_true_iff]; (first | lia | omega)
    · rw [if_neg h2, decide_eq_true_iff]; (first | lia | omega)
  · rw [if_neg h1, decide_eq_true_iff]; (first | lia | omega)
structure Top (P : Sx → Prop) (x : Sx) : Prop where
  has : P x
  le : ∀ y, P y → x.le y
theorem Sx.ext' {x y : Sx} (h1 : x.s = y.s) (h2 : x.f = y.f) (h3 : x.b = y.b) : x = y := by
  cases x; cases y; simp only at h1 h2 h3; subst h1 h2 h3; rfl
theorem Top.uniq {P : Sx → Prop} {x y : Sx} (h : Top P x) (g : Top P y) : x = y := by
  have h1 := h.le y g.has
  have h2 := g.le x h.has
  unfold Sx.le at h1 h2
  exact Sx.ext' (by (first | lia | omega)) (by (first | lia | omega)) (by (first | lia | omega))
theorem better_or (x y : Sx) : (better x y = x ∧ x.le y) ∨ (better x y = y ∧ y.le x) := by
  unfold better
  by_cases h : HT.lexLt [-y.s, y.f, y.b] [-x.s, x.f, x.b] = true
  · rw [if_pos h]
    rw [lex3] at h
    exact .inr ⟨rfl, by unfold Sx.le; (first | lia | omega)⟩
  · rw [if_neg h]
    rw [lex3] at h
    exact .inl ⟨rfl, by unfold Sx.le; (first | lia | omega)⟩
theorem Sx.le_trans {x y z : Sx} (h : x.le y) (g : y.le z) : x.le z := by
  unfold Sx.le at h g ⊢
  (first | lia | omega)
theorem Top.or {P Q R : Sx → Prop} {x y : Sx} (hx : Top P x) (hy : Top Q y) (h : ∀ z, R z ↔ P z ∨ Q z) : Top R (better x y) := by
  rcases better_or x y with ⟨e, l⟩ | ⟨e, l⟩
  · rw [e]
    refine ⟨(h x).mpr (.inl hx.has), fun z hz => ?_⟩
    rcases (h z).mp hz with q | q
    · exact hx.le z q
    · exact Sx.le_trans l (hy.le z q)
  · rw [e]
    refine ⟨(h y).mpr (.inr hy.has), fun z hz => ?_⟩
    rcases (h z).mp hz with q | q
    · exact Sx.le_trans l (hx.le z q)
    · exact hy.le z q
def movedS (x : Sx) (m : Int) : Sx := ⟨x.s, x.f + m, x.b + m⟩
def sideS (x y : Sx) : Sx := ⟨x.s + y.s, x.f, y.b⟩
def moreS (x : Sx) (t : Int) : Sx := ⟨x.s + t, x.f, x.b⟩
theorem Top.iff {P Q : Sx → Prop} {x : Sx} (h : Top P x) (e : ∀ z, Q z ↔ P z) : Top Q x := ⟨(e x).mpr h.has, fun y q => h.le y ((e y).mp q)⟩
theorem Top.moved {P : Sx → Prop} {x : Sx} (h : Top P x) (m : Int) : Top (fun z => ∃ y, P y ∧ z = movedS y m) (movedS x m) := by
  refine ⟨⟨x, h.has, rfl⟩, ?_⟩
  rintro _ ⟨y, hy, rfl⟩
  have q := h.le y hy
  unfold Sx.le at q ⊢
  simp only [movedS]
  (first | lia | omega)
theorem Top.more {P : Sx → Prop} {x : Sx} (h : Top P x) (t : Int) : Top (fun z => ∃ y, P y ∧ z = moreS y t) (moreS x t) := by
  refine ⟨⟨x, h.has, rfl⟩, ?_⟩
  rintro _ ⟨y, hy, rfl⟩
  have q := h.le y hy
  unfold Sx.le at q ⊢
  simp only [moreS]
  (first | lia | omega)
theorem Top.side {P Q : Sx → Prop} {x y : Sx} (h : Top P x) (g : Top Q y) (hq : ∀ z, Q z → z.f = y.f) : Top (fun z => ∃ p q, P p ∧ Q q ∧ z = sideS p q) (sideS x y) := by
  refine ⟨⟨x, y, h.has, g.has, rfl⟩, ?_⟩
  rintro _ ⟨p, q, hp, hq', rfl⟩
  have a := h.le p hp
  have b := g.le q hq'
  have c := hq q hq'
  unfold Sx.le at a b ⊢
  simp only [sideS]
  (first | lia | omega)
theorem Top.one (x : Sx) : Top (fun z => z = x) x := ⟨rfl, fun y e => by rw [e]; unfold Sx.le; (first | lia | omega)⟩
/-! ### what is known of a part -/
theorem psum_left {xs ys : List Int} {i : Nat} (h : i ≤ xs.length) : psum (xs ++ ys) i = psum xs i := by
  unfold psum
  rw [List.take_append_of_le_length h]
theorem psum_right {xs ys : List Int} {j : Nat} : psum (xs ++ ys) (xs.length + j) = psum xs xs.length + psum ys j := by
  unfold psum
  rw [List.take_append, List.sum_append, List.take_of_length_le (by (first | lia | omega)), Nat.add_sub_cancel_left, List.take_length]
def PB (xs : List Int) (z : Sx) : Prop := ∃ f b : Nat, f < b ∧ b ≤ xs.length ∧ z = ⟨psum xs b - psum xs f, f, b⟩
def PH (xs : List Int) (z : Sx) : Prop := ∃ b : Nat, 0 < b ∧ b ≤ xs.length ∧ z = ⟨psum xs b, 0, b⟩
def PT (xs : List Int) (z : Sx) : Prop := ∃ f : Nat, f < xs.length ∧ z = ⟨psum xs xs.length - psum xs f, f, xs.length⟩
def PR (xs : List Int) (z : Sx) : Prop := ∃ f b : Nat, 1 ≤ b ∧ b ≤ f ∧ f < xs.length ∧ z = ⟨psum xs xs.length - psum xs f + psum xs b, f, b⟩
structure Kn where
  many : Int
  total : Int
  best : Sx
  head : Sx
  tail : Sx
  round : Option Sx
structure KnOk (k : Kn) (xs : List Int) : Prop where
  many : k.many = xs.length
  total : k.total = psum xs xs.length
  best : Top (PB xs) k.best
  head : Top (PH xs) k.head
  tail : Top (PT xs) k.tail
  round : match k.round with | none => xs.length = 1 | some r => Top (PR xs) r
theorem KnOk.uniq {k j : Kn} {xs : List Int} (h : KnOk k xs) (g : KnOk j xs) : k = j := by
  have e1 : k.many = j.many := h.many.trans g.many.symm
  have e2 : k.total = j.total := h.total.trans g.total.symm
  have e3 := h.best.uniq g.best
  have e4 := h.head.uniq g.head
  have e5 := h.tail.uniq g.tail
  have e6 : k.round = j.round := by
    have a := h.round
    have b := g.round
    cases ek : k.round with
    | none =>
      rw [ek] at a
      cases ej : j.round with
      | none => rfl
      | some r =>
        rw [ej] at b
        simp only at a b
        obtain ⟨f, b', h1, h2, h3, _⟩ := b.has
        (first | lia | omega)
    | some r =>
      rw [ek] at a
      cases ej : j.round with
      | none =>
        rw [ej] at b
        simp only at a b
        obtain ⟨f, b', h1, h2, h3, _⟩ := a.has
        (first | lia | omega)
      | some r' =>
        rw [ej] at b
        rw [Top.uniq a b]
  cases k; cases j
  simp only at e1 e2 e3 e4 e5 e6
  subst e1 e2 e3 e4 e5 e6
  rfl
def joinR (a b : Kn) : Sx :=
  let x := sideS (movedS b.tail a.many) a.head
  let y := match a.round with | none => x | some r => better x (moreS r b.total)
  match b.round with | none => y | some r => better y (moreS (movedS r a.many) a.total)
def joinK (a b : Kn) : Kn where
  many := a.many + b.many
  total := a.total + b.total
  best := better (better a.best (sideS a.tail (movedS b.head a.many))) (movedS b.best a.many)
  head := better a.head (sideS ⟨a.total, 0, a.many⟩ (movedS b.head a.many))
  tail := better (sideS a.tail ⟨b.total, a.many, a.many + b.many⟩) (movedS b.tail a.many)
  round := some (joinR a b)
def oneK (n : Int) : Kn := ⟨1, n, ⟨n, 0, 1⟩, ⟨n, 0, 1⟩, ⟨n, 0, 1⟩, none⟩
theorem one_ok (n : Int) : KnOk (oneK n) [n] := by
  have p1 : psum [n] 1 = n := by simp [psum]
  have p0 : psum [n] 0 = 0 := rfl
  have le : ∀ z : Sx, z = ⟨n, 0, 1⟩ → Sx.le ⟨n, 0, 1⟩ z := fun z e => by rw [e]; unfold Sx.le; (first | lia | omega)
  refine ⟨rfl, p1.symm, ⟨⟨0, 1, by (first | lia | omega), by simp, ?_⟩, ?_⟩, ⟨⟨1, by (first | lia | omega), by simp, ?_⟩, ?_⟩, ⟨⟨0, by simp, ?_⟩, ?_⟩, rfl⟩
  · rw [p1, p0]; exact Sx.ext' (by show n = n - 0; (first | lia | omega)) rfl rfl
  · rintro z ⟨f, b, h1, h2, e⟩
    simp only [List.length_singleton] at h2
    obtain rfl : f = 0 := by (first | lia | omega)
    obtain rfl : b = 1 := by (first | lia | omega)
    rw [p1, p0] at e
    exact le z (by rw [e]; exact Sx.ext' (by show n - 0 = n; (first | lia | omega)) rfl rfl)
  · rw [p1]; rfl
  · rintro z ⟨b, h1, h2, e⟩
    simp only [List.length_singleton] at h2
    obtain rfl : b = 1 := by (first | lia | omega)
    rw [p1] at e
    exact le z e
  · show _ = (⟨psum [n] 1 - psum [n] 0, 0, 1⟩ : Sx)
    rw [p1, p0]; exact Sx.ext' (by show n = n - 0; (first | lia | omega)) rfl rfl
  · rintro z ⟨f, h1, e⟩
    simp only [List.length_singleton] at h1
    obtain rfl : f = 0 := by (first | lia | omega)
    have e' : z = ⟨psum [n] 1 - psum [n] 0, 0, 1⟩ := e
    rw [p1, p0] at e'
    exact le z (by rw [e']; exact Sx.ext' (by show n - 0 = n; (first | lia | omega)) rfl rfl)
theorem join_ok {a b : Kn} {xs ys : List Int} (ha : KnOk a xs) (hb : KnOk b ys) : KnOk (joinK a b) (xs ++ ys) := by
  have hl : (xs ++ ys).length = xs.length + ys.length := List.length_append
  have pT : psum (xs ++ ys) (xs ++ ys).length = psum xs xs.length + psum ys ys.length := by rw [hl, psum_right]
  have am := ha.many
  have bm := hb.many
  have at' := ha.total
  have bt := hb.total
  have oh : Top (fun z => ∃ y, PH ys y ∧ z = movedS y a.many) (movedS b.head a.many) := hb.head.moved _
  have ohf : ∀ z, (∃ y, PH ys y ∧ z = movedS y a.many) → z.f = (movedS b.head a.many).f := by
    rintro _ ⟨y, ⟨c, _, _, rfl⟩, rfl⟩
    obtain ⟨c', _, _, e⟩ := hb.head.has
    rw [e]; rfl
  refine ⟨?_, ?_, ?_, ?_, ?_, ?_⟩
  · show a.many + b.many = _; rw [am, bm, hl]; (first | lia | omega)
  · show a.total + b.total = _; rw [at', bt, pT]
  · show Top _ (better (better a.best (sideS a.tail (movedS b.head a.many))) (movedS b.best a.many))
    refine Top.or (Top.or ha.best (Top.side ha.tail oh ohf) (fun z => Iff.rfl)) (hb.best.moved a.many) fun z => ?_
    constructor
    · rintro ⟨f, c, h1, h2, rfl⟩
      rw [hl] at h2
      by_cases hc : c ≤ xs.length
      · refine .inl (.inl ⟨f, c, h1, hc, ?_⟩)
        rw [psum_left hc, psum_left (by (first | lia | omega))]
      · obtain ⟨j, rfl⟩ : ∃ j, c = xs.length + j := ⟨c - xs.length, by (first | lia | omega)⟩
        by_cases hf : f < xs.length
        · refine .inl (.inr ⟨_, _, ⟨f, hf, rfl⟩, ⟨_, ⟨j, by (first | lia | omega), by (first | lia | omega), rfl⟩, rfl⟩, ?_⟩)
          rw [psum_right, psum_left (by (first | lia | omega))]
          exact Sx.ext' (by simp only [sideS, movedS]; (first | lia | omega)) rfl (by simp only [sideS, movedS]; (first | lia | omega))
        · obtain ⟨i, rfl⟩ : ∃ i, f = xs.length + i := ⟨f - xs.length, by (first | lia | omega)⟩
          refine .inr ⟨_, ⟨i, j, by (first | lia | omega), by (first | lia | omega), rfl⟩, ?_⟩
          rw [psum_right, psum_right]
          exact Sx.ext' (by simp only [movedS]; (first | lia | omega)) (by simp only [movedS]; (first | lia | omega)) (by simp only [movedS]; (first | lia | omega))
    · rintro ((⟨f, c, h1, h2, rfl⟩ | ⟨_, _, ⟨f, hf, rfl⟩, ⟨_, ⟨j, h1, h2, rfl⟩, rfl⟩, rfl⟩) | ⟨_, ⟨f, c, h1, h2, rfl⟩, rfl⟩)
      · exact ⟨f, c, h1, by (first | lia | omega), by rw [psum_left h2, psum_left (by (first | lia | omega))]⟩
      · refine ⟨f, xs.length + j, by (first | lia | omega), by (first | lia | omega), ?_⟩
        rw [psum_right, psum_left (by (first | lia | omega))]
        exact Sx.ext' (by simp only [sideS, movedS]; (first | lia | omega)) rfl (by simp only [sideS, movedS]; (first | lia | omega))
      · refine ⟨xs.length + f, xs.length + c, by (first | lia | omega), by (first | lia | omega), ?_⟩
        rw [psum_right, psum_right]
        exact Sx.ext' (by simp only [movedS]; (first | lia | omega)) (by simp only [movedS]; (first | lia | omega)) (by simp only [movedS]; (first | lia | omega))
  · show Top _ (better a.head (sideS ⟨a.total, 0, a.many⟩ (movedS b.head a.many)))
    refine Top.or ha.head (Top.side (Top.one _) oh ohf) fun z => ?_
    constructor
    · rintro ⟨c, h1, h2, rfl⟩
      by_cases hc : c ≤ xs.length
      · exact .inl ⟨c, h1, hc, by rw [psum_left hc]⟩
      · obtain ⟨j, rfl⟩ : ∃ j, c = xs.length + j := ⟨c - xs.length, by (first | lia | omega)⟩
        refine .inr ⟨_, _, rfl, ⟨_, ⟨j, by (first | lia | omega), by (first | lia | omega), rfl⟩, rfl⟩, ?_⟩
        rw [psum_right]
        exact Sx.ext' (by simp only [sideS, movedS]; (first | lia | omega)) rfl (by simp only [sideS, movedS]; (first | lia | omega))
    · rintro (⟨c, h1, h2, rfl⟩ | ⟨_, _, rfl, ⟨_, ⟨j, h1, h2, rfl⟩, rfl⟩, rfl⟩)
      · exact ⟨c, h1, by (first | lia | omega), by rw [psum_left h2]⟩
      · refine ⟨xs.length + j, by (first | lia | omega), by (first | lia | omega), ?_⟩
        rw [psum_right]
        exact Sx.ext' (by simp only [sideS, movedS]; (first | lia | omega)) rfl (by simp only [sideS, movedS]; (first | lia | omega))
  · show Top _ (better (sideS a.tail ⟨b.total, a.many, a.many + b.many⟩) (movedS b.tail a.many))
    refine Top.or (Top.side ha.tail (Top.one _) (fun z e => by rw [e])) (hb.tail.moved a.many) fun z => ?_
    constructor
    · rintro ⟨f, h1, rfl⟩
      rw [hl] at h1
      by_cases hf : f < xs.length
      · refine .inl ⟨_, _, ⟨f, hf, rfl⟩, rfl, ?_⟩
        rw [pT, psum_left (by (first | lia | omega))]
        exact Sx.ext' (by simp only [sideS]; (first | lia | omega)) rfl (by simp only [sideS]; (first | lia | omega))
      · obtain ⟨i, rfl⟩ : ∃ i, f = xs.length + i := ⟨f - xs.length, by (first | lia | omega)⟩
        refine .inr ⟨_, ⟨i, by (first | lia | omega), rfl⟩, ?_⟩
        rw [pT, psum_right]
        exact Sx.ext' (by simp only [movedS]; (first | lia | omega)) (by simp only [movedS]; (first | lia | omega)) (by simp only [movedS]; (first | lia | omega))
    · rintro (⟨_, _, ⟨f, h1, rfl⟩, rfl, rfl⟩ | ⟨_, ⟨f, h1, rfl⟩, rfl⟩)
      · refine ⟨f, by (first | lia | omega), ?_⟩
        rw [pT, psum_left (by (first | lia | omega))]
        exact Sx.ext' (by simp only [sideS]; (first | lia | omega)) rfl (by simp only [sideS]; (first | lia | omega))
      · refine ⟨xs.length + f, by (first | lia | omega), ?_⟩
        rw [pT, psum_right]
        exact Sx.ext' (by simp only [movedS]; (first | lia | omega)) (by simp only [movedS]; (first | lia | omega)) (by simp only [movedS]; (first | lia | omega))
  · show Top _ (joinR a b)
    have cross : Top (fun z => ∃ p q, (∃ y, PT ys y ∧ p = movedS y a.many) ∧ PH xs q ∧ z = sideS p q) (sideS (movedS b.tail a.many) a.head) := Top.side (hb.tail.moved a.many) ha.head (by
      rintro _ ⟨c, _, _, rfl⟩
      obtain ⟨c', _, _, e⟩ := ha.head.has
      rw [e])
    have y1 : Top (fun z => (∃ p q, (∃ y, PT ys y ∧ p = movedS y a.many) ∧ PH xs q ∧ z = sideS p q) ∨ (∃ y, PR xs y ∧ z = moreS y b.total)) (match a.round with | none => sideS (movedS b.tail a.many) a.head | some r => better (sideS (movedS b.tail a.many) a.head) (moreS r b.total)) := by
      have q := ha.round
      cases e : a.round with
      | none =>
        rw [e] at q
        simp only at q
        refine cross.iff fun z => ⟨fun h => h.elim id ?_, .inl⟩
        rintro ⟨_, ⟨f, c, h1, h2, h3, _⟩, _⟩
        (first | lia | omega)
      | some r =>
        rw [e] at q
        exact Top.or cross (q.more b.total) fun z => Iff.rfl
    have y2 : Top (fun z => ((∃ p q, (∃ y, PT ys y ∧ p = movedS y a.many) ∧ PH xs q ∧ z = sideS p q) ∨ (∃ y, PR xs y ∧ z = moreS y b.total)) ∨ (∃ y, (∃ x, PR ys x ∧ y = movedS x a.many) ∧ z = moreS y a.total)) (joinR a b) := by
      have q := hb.round
      unfold joinR
      cases e : b.round with
      | none =>
        rw [e] at q
        simp only at q
        refine y1.iff fun z => ⟨fun h => h.elim id ?_, .inl⟩
        rintro ⟨_, ⟨_, ⟨f, c, h1, h2, h3, _⟩, _⟩, _⟩
        (first | lia | omega)
      | some r =>
        rw [e] at q
        exact Top.or y1 ((q.moved a.many).more a.total) fun z => Iff.rfl
    refine y2.iff fun z => ?_
    constructor
    · rintro ⟨f, c, h1, h2, h3, rfl⟩
      rw [hl] at h3
      by_cases hf : f < xs.length
      · refine .inl (.inr ⟨_, ⟨f, c, h1, h2, hf, rfl⟩, ?_⟩)
        rw [pT, psum_left (by (first | lia | omega)), psum_left (by (first | lia | omega))]
        exact Sx.ext' (by simp only [moreS]; (first | lia | omega)) rfl rfl
      · obtain ⟨i, rfl⟩ : ∃ i, f = xs.length + i := ⟨f - xs.length, by (first | lia | omega)⟩
        by_cases hc : c ≤ xs.length
        · refine .inl (.inl ⟨_, _, ⟨_, ⟨i, by (first | lia | omega), rfl⟩, rfl⟩, ⟨c, h1, hc, rfl⟩, ?_⟩)
          rw [pT, psum_right, psum_left hc]
          exact Sx.ext' (by simp only [sideS, movedS]; (first | lia | omega)) (by simp only [sideS, movedS]; (first | lia | omega)) rfl
        · obtain ⟨j, rfl⟩ : ∃ j, c = xs.length + j := ⟨c - xs.length, by (first | lia | omega)⟩
          refine .inr ⟨_, ⟨_, ⟨i, j, by (first | lia | omega), by (first | lia | omega), by (first | lia | omega), rfl⟩, rfl⟩, ?_⟩
          rw [pT, psum_right, psum_right]
          exact Sx.ext' (by simp only [moreS, movedS]; (first | lia | omega)) (by simp only [moreS, movedS]; (first | lia | omega)) (by simp only [moreS, movedS]; (first | lia | omega))
    · rintro ((⟨_, _, ⟨_, ⟨i, h1, rfl⟩, rfl⟩, ⟨c, h2, h3, rfl⟩, rfl⟩ | ⟨_, ⟨f, c, h1, h2, h3, rfl⟩, rfl⟩) | ⟨_, ⟨_, ⟨f, c, h1, h2, h3, rfl⟩, rfl⟩, rfl⟩)
      · refine ⟨xs.length + i, c, h2, by (first | lia | omega), by (first | lia | omega), ?_⟩
        rw [pT, psum_right, psum_left h3]
        exact Sx.ext' (by simp only [sideS, movedS]; (first | lia | omega)) (by simp only [sideS, movedS]; (first | lia | omega)) rfl
      · refine ⟨f, c, h1, h2, by (first | lia | omega), ?_⟩
        rw [pT, psum_left (by (first | lia | omega)), psum_left (by (first | lia | omega))]
        exact Sx.ext' (by simp only [moreS]; (first | lia | omega)) rfl rfl
      · refine ⟨xs.length + f, xs.length + c, by (first | lia | omega), by (first | lia | omega), by (first | lia | omega), ?_⟩
        rw [pT, psum_right, psum_right]
        exact Sx.ext' (by simp only [moreS, movedS]; (first | lia | omega)) (by simp only [moreS, movedS]; (first | lia | omega)) (by simp only [moreS, movedS]; (first | lia | omega))
/-! ### halves: what is known of a part, in the heap -/
abbrev Tx (x : Sx) : HO := .tup [.int x.s, .int x.f, .int x.b]
def IsRd (H : Hp) (v : V) : Option Sx → Prop
  | none => v = .non
  | some x => ∃ p, v = .ref p ∧ H p = some (Tx x)
structure IsKn (H : Hp) (p : Addr) (a : Kn) : Prop where
  ex : ∃ (pb ph pt : Addr) (vr : V), H p = some (.tup [.int a.many, .int a.total, .ref pb, .ref ph, .ref pt, vr]) ∧ H pb = some (Tx a.best) ∧ H ph = some (Tx a.head) ∧ H pt = some (Tx a.tail) ∧ IsRd H vr a.round
theorem IsRd.keep {H H' : Hp} {v : V} {o : Option Sx} (h : IsRd H v o) (s : Same H H') : IsRd H' v o := by
  cases o with
  | none => exact h
  | some x => obtain ⟨p, e, hp⟩ := h; exact ⟨p, e, s _ _ hp⟩
theorem IsKn.keep {H H' : Hp} {p : Addr} {a : Kn} (h : IsKn H p a) (s : Same H H') : IsKn H' p a := by
  obtain ⟨pb, ph, pt, vr, h1, h2, h3, h4, h5⟩ := h.ex
  exact ⟨pb, ph, pt, vr, s _ _ h1, s _ _ h2, s _ _ h3, s _ _ h4, h5.keep s⟩
def sp_order : Sp := fun vs H Q _ => ∃ (p : Addr) (x : Sx), vs = [.ref p] ∧ H p = some (Tx x) ∧ ∀ t, H t = none → Q (.ref t) (upd H t (.tup [.int (-x.s), .int x.f, .int x.b]))
theorem ok_order {P : Program} {w : World} {K : PySem.W.Frag} {mg : Str → Option Value} {base : Heap} {k : Nat} {f : Addr} {fd : FuncData} (F : Fun K "order_of" "order_of" s_order_of f fd) (Z : Blt mg) : FnOk P w K mg base CX0 (k + 1) f fd ["stretch"] sp_order := by
  refine F.ok sc_order_of (fun vs H Q E h => ?_) (fun cdv A outer s H vs Q E hr h => ?_)
  · obtain ⟨p, x, rfl, _⟩ := h
    rfl
  obtain ⟨p, x, rfl, hp, fin⟩ := h
  apply Exists.intro
  apply And.intro
  case left =>
    apply pss_one
    exact (ps_ret (pe_tup (pa_cons (pe_un un_neg (pe_ix ix_tup (pv 0) pe_int (fun _ _ => rfl))) (pa_cons (pe_ix ix_tup (pv 0) pe_int (fun _ _ => rfl)) (pa_cons (pe_ix ix_tup (pv 0) pe_int (fun _ _ => rfl)) pa_nil)))))
  walk_at "rd"
  refine ⟨_, _, _, _, rfl, rfl, SqT.of hp, rfl, ?_⟩
  walk_at "rd"
  refine ⟨_, _, _, _, rfl, rfl, SqT.of hp, rfl, ?_⟩
  walk_at "rd"
  refine ⟨_, _, _, _, rfl, rfl, SqT.of hp, rfl, ?_⟩
  exact ⟨by show 3 ≤ sizeLine; decide, fun t ht => fin t ht⟩
def sp_better : Sp := fun vs H Q _ => ∃ (p q : Addr) (x y : Sx), vs = [.ref p, .ref q] ∧ H p = some (Tx x) ∧ H q = some (Tx y) ∧ ∀ t H', Same H H' → H' t = some (Tx (better x y)) → Q (.ref t) H'
theorem ok_better {P : Program} {w : World} {K : PySem.W.Frag} {mg : Str → Option Value} {base : Heap} {k : Nat} {f : Addr} {fd : FuncData} (F : Fun K "better_of" "better_of" s_better_of f fd) (Z : Blt mg)
    (D_order_of : Def P w K mg base k "order_of" ["stretch"] sp_order) : FnOk P w K mg base CX0 (k + 2) f fd ["one", "other"] sp_better := by
  refine F.ok sc_better_of (fun vs H Q E h => ?_) (fun cdv A outer s H vs Q E hr h => ?_)
  · obtain ⟨p, q, x, y, rfl, _⟩ := h
    rfl
  obtain ⟨p, q, x, y, rfl, hp, hq, fin⟩ := h
  apply Exists.intro
  apply And.intro
  case left =>
    apply pss_one
    exact (ps_ret (pe_minK D_order_of hr rfl Z.min_ rfl (pa_cons (pv 0) (pa_cons (pv 1) pa_nil))))
  refine ⟨_, rfl, _, rfl, _, _, rfl, ⟨p, x, rfl, hp, fun t1 h1 => ⟨q, y, rfl, Same.new h1 _ _ _ hq, fun t2 h2 => ⟨t1, t2, [-x.s, x.f, x.b], [-y.s, y.f, y.b], rfl, rfl, SqT.of (Same.new h2 _ _ _ upd_same), SqT.of upd_same, ?_⟩⟩⟩⟩
  have sm := (Same.new h1 (.tup [.int (-x.s), .int x.f, .int x.b])).trans (Same.new h2 (.tup [.int (-y.s), .int y.f, .int y.b]))
  have e : (if HT.lexLt [-y.s, y.f, y.b] [-x.s, x.f, x.b] = true then V.ref q else V.ref p) = V.ref (if HT.lexLt [-y.s, y.f, y.b] [-x.s, x.f, x.b] = true then q else p) := by split <;> rfl
  show Q (if HT.lexLt [-y.s, y.f, y.b] [-x.s, x.f, x.b] = true then V.ref q else V.ref p) _
  rw [e]
  refine fin _ _ sm ?_
  unfold better
  split
  · exact sm _ _ hq
  · exact sm _ _ hp
def sp_moved : Sp := fun vs H Q _ => ∃ (p : Addr) (m : Int) (x : Sx), vs = [.ref p, .int m] ∧ H p = some (Tx x) ∧ ∀ t H', Same H H' → H' t = some (Tx (movedS x m)) → Q (.ref t) H'
theorem ok_moved {P : Program} {w : World} {K : PySem.W.Frag} {mg : Str → Option Value} {base : Heap} {k : Nat} {f : Addr} {fd : FuncData} (F : Fun K "moved" "moved" s_moved f fd) (Z : Blt mg) : FnOk P w K mg base CX0 (k + 1) f fd ["stretch", "places"] sp_moved := by
  refine F.ok sc_moved (fun vs H Q E h => ?_) (fun cdv A outer s H vs Q E hr h => ?_)
  · obtain ⟨p, m, x, rfl, _⟩ := h
    rfl
  obtain ⟨p, m, x, rfl, hp, fin⟩ := h
  apply Exists.intro
  apply And.intro
  case left =>
    apply pss_one
    exact (ps_ret (pe_tup (pa_cons (pe_ix ix_tup (pv 0) pe_int (fun _ _ => rfl)) (pa_cons (pe_op op_add (pe_ix ix_tup (pv 0) pe_int (fun _ _ => rfl)) (pv 1)) (pa_cons (pe_op op_add (pe_ix ix_tup (pv 0) pe_int (fun _ _ => rfl)) (pv 1)) pa_nil)))))
  walk_at "rd"
  refine ⟨_, _, _, _, rfl, rfl, SqT.of hp, rfl, ?_⟩
  walk_at "rd"
  refine ⟨_, _, _, _, rfl, rfl, SqT.of hp, rfl, ?_⟩
  walk_at "rd"
  refine ⟨_, _, _, _, rfl, rfl, SqT.of hp, rfl, ?_⟩
  walk_at "rd"
  exact ⟨by show 3 ≤ sizeLine; decide, fun t ht => fin t _ (Same.new ht _) upd_same⟩
def sp_side : Sp := fun vs H Q _ => ∃ (p q : Addr) (x y : Sx), vs = [.ref p, .ref q] ∧ H p = some (Tx x) ∧ H q = some (Tx y) ∧ ∀ t H', Same H H' → H' t = some (Tx (sideS x y)) → Q (.ref t) H'
theorem ok_side {P : Program} {w : World} {K : PySem.W.Frag} {mg : Str → Option Value} {base : Heap} {k : Nat} {f : Addr} {fd : FuncData} (F : Fun K "side_by_side" "side_by_side" s_side_by_side f fd) (Z : Blt mg) : FnOk P w K mg base CX0 (k + 1) f fd ["one", "other"] sp_side := by
  refine F.ok sc_side_by_side (fun vs H Q E h => ?_) (fun cdv A outer s H vs Q E hr h => ?_)
  · obtain ⟨p, q, x, y, rfl, _⟩ := h
    rfl
  obtain ⟨p, q, x, y, rfl, hp, hq, fin⟩ := h
  apply Exists.intro
  apply And.intro
  case left =>
    apply pss_one
    exact (ps_ret (pe_tup (pa_cons (pe_op op_add (pe_ix ix_tup (pv 0) pe_int (fun _ _ => rfl)) (pe_ix ix_tup (pv 1) pe_int (fun _ _ => rfl))) (pa_cons (pe_ix ix_tup (pv 0) pe_int (fun _ _ => rfl)) (pa_cons (pe_ix ix_tup (pv 1) pe_int (fun _ _ => rfl)) pa_nil)))))
  walk_at "rd"
  refine ⟨_, _, _, _, rfl, rfl, SqT.of hp, rfl, ?_⟩
  walk_at "rd"
  refine ⟨_, _, _, _, rfl, rfl, SqT.of hq, rfl, ?_⟩
  walk_at "rd"
  refine ⟨_, _, _, _, rfl, rfl, SqT.of hp, rfl, ?_⟩
  walk_at "rd"
  refine ⟨_, _, _, _, rfl, rfl, SqT.of hq, rfl, ?_⟩
  exact ⟨by show 3 ≤ sizeLine; decide, fun t ht => fin t _ (Same.new ht _) upd_same⟩
def sp_jround : Sp := fun vs H Q _ => ∃ (p q : Addr) (a b : Kn), vs = [.ref p, .ref q] ∧ IsKn H p a ∧ IsKn H q b ∧ ∀ t H', Same H H' → H' t = some (Tx (joinR a b)) → Q (.ref t) H'
theorem ok_jround {P : Program} {w : World} {K : PySem.W.Frag} {mg : Str → Option Value} {base : Heap} {k : Nat} {f : Addr} {fd : FuncData} (F : Fun K "joined_round" "joined_round" s_joined_round f fd) (Z : Blt mg) (CC : Cons mg)
    (D_better_of : Def P w K mg base k "better_of" ["one", "other"] sp_better) (D_moved : Def P w K mg base k "moved" ["stretch", "places"] sp_moved) (D_side_by_side : Def P w K mg base k "side_by_side" ["one", "other"] sp_side) : FnOk P w K mg base CX0 (k + 1) f fd ["one", "other"] sp_jround := by
  refine F.ok sc_joined_round (fun vs H Q E h => ?_) (fun cdv A outer s H vs Q E hr h => ?_)
  · obtain ⟨p, q, x, y, rfl, _⟩ := h
    rfl
  obtain ⟨p, q, a, b, rfl, ⟨pb, ph, pt, vr, ap, apb, aph, apt, ard⟩, ⟨qb, qh, qt, wr, bp, bpb, bph, bpt, brd⟩, fin⟩ := h
  apply Exists.intro
  apply And.intro
  case left =>
    apply pss_cons
    case h1 =>
      exact (ps_set (i := 2) sc_joined_round.nd rfl (by first | exact Or.inl rfl | exact Or.inr rfl) (pe_def D_side_by_side hr rfl (pa_cons (pe_def D_moved hr rfl (pa_cons (pe_ix ix_tup (pv 1) (pe_conI (n := 4) rfl CC.TAIL) (fun _ _ => rfl)) (pa_cons (pe_ix ix_tup (pv 0) (pe_conI (n := 0) rfl CC.MANY) (fun _ _ => rfl)) pa_nil))) (pa_cons (pe_ix ix_tup (pv 0) (pe_conI (n := 3) rfl CC.HEAD) (fun _ _ => rfl)) pa_nil))))
    apply pss_cons
    case h1 =>
      apply ps_if
      case hc => exact (pt_cmpR op_notN (pe_ix ix_tup (pv 0) (pe_conI (n := 5) rfl CC.ROUND) (fun _ _ => rfl)) pe_non (nomark _))
      case ha =>
        apply pss_cons
        case h1 =>
          exact (ps_set (i := 3) sc_joined_round.nd rfl (by first | exact Or.inl rfl | exact Or.inr rfl) (pe_ix ix_tup (pv 0) (pe_conI (n := 5) rfl CC.ROUND) (fun _ _ => rfl)))
        apply pss_one
        exact (ps_set (i := 2) sc_joined_round.nd rfl (by first | exact Or.inl rfl | exact Or.inr rfl) (pe_def D_better_of hr rfl (pa_cons (pv 2) (pa_cons (pe_tup (pa_cons (pe_op op_add (pe_ix ix_tup (pv 3) pe_int (fun _ _ => rfl)) (pe_ix ix_tup (pv 1) (pe_conI (n := 1) rfl CC.TOTAL) (fun _ _ => rfl))) (pa_cons (pe_ix ix_tup (pv 3) pe_int (fun _ _ => rfl)) (pa_cons (pe_ix ix_tup (pv 3) pe_int (fun _ _ => rfl)) pa_nil)))) pa_nil))))
      case hb =>
        exact pss_nil
    apply pss_cons
    case h1 =>
      apply ps_if
      case hc => exact (pt_cmpR op_notN (pe_ix ix_tup (pv 1) (pe_conI (n := 5) rfl CC.ROUND) (fun _ _ => rfl)) pe_non (nomark _))
      case ha =>
        apply pss_cons
        case h1 =>
          exact (ps_set (i := 3) sc_joined_round.nd rfl (by first | exact Or.inl rfl | exact Or.inr rfl) (pe_def D_moved hr rfl (pa_cons (pe_ix ix_tup (pv 1) (pe_conI (n := 5) rfl CC.ROUND) (fun _ _ => rfl)) (pa_cons (pe_ix ix_tup (pv 0) (pe_conI (n := 0) rfl CC.MANY) (fun _ _ => rfl)) pa_nil))))
        apply pss_one
        exact (ps_set (i := 2) sc_joined_round.nd rfl (by first | exact Or.inl rfl | exact Or.inr rfl) (pe_def D_better_of hr rfl (pa_cons (pv 2) (pa_cons (pe_tup (pa_cons (pe_op op_add (pe_ix ix_tup (pv 3) pe_int (fun _ _ => rfl)) (pe_ix ix_tup (pv 0) (pe_conI (n := 1) rfl CC.TOTAL) (fun _ _ => rfl))) (pa_cons (pe_ix ix_tup (pv 3) pe_int (fun _ _ => rfl)) (pa_cons (pe_ix ix_tup (pv 3) pe_int (fun _ _ => rfl)) pa_nil)))) pa_nil))))
      case hb =>
        exact pss_nil
    apply pss_one
    exact (ps_ret (pv 2))
  walk_at "rd"
  refine ⟨_, _, _, _, rfl, rfl, SqT.of bp, rfl, ?_⟩
  walk_at "rd"
  refine ⟨_, _, _, _, rfl, rfl, SqT.of ap, rfl, ?_⟩
  refine ⟨qt, _, b.tail, rfl, bpt, fun t1 H1 s1 ht1 => ?_⟩
  walk_at "rd"
  refine ⟨_, _, _, _, rfl, rfl, SqT.of (s1 _ _ ap), rfl, ?_⟩
  refine ⟨t1, ph, _, a.head, rfl, ht1, s1 _ _ aph, fun t2 H2 s2 ht2 => ?_⟩
  have s12 := s1.trans s2
  dsimp only [gName]
  refine seqU (fun σ' H' => ∃ t o, Same H H' ∧ H' t = some (Tx (match a.round with | none => sideS (movedS b.tail a.many) a.head | some r => better (sideS (movedS b.tail a.many) a.head) (moreS r b.total))) ∧ σ' = [some (.ref p), some (.ref q), some (.ref t), o]) ?_ (fun R hR => ?_)
  case refine_2 =>
    walk_at "rd"
    refine ⟨_, _, _, _, rfl, rfl, SqT.of (s12 _ _ ap), rfl, ?_⟩
    walk_at "rd"
    cases e : a.round with
    | none =>
      rw [e] at ard hR
      obtain rfl : vr = .non := ard
      refine iteF ?_
      exact hR _ _ ⟨t2, none, s12, ht2, rfl⟩
    | some r =>
      rw [e] at ard hR
      obtain ⟨rp, rfl, hrp⟩ := ard
      refine iteT ?_
      walk_at "rd"
      refine ⟨_, _, _, _, rfl, rfl, SqT.of (s12 _ _ ap), rfl, ?_⟩
      walk_at "rd"
      refine ⟨_, _, _, _, rfl, rfl, SqT.of (s12 _ _ hrp), rfl, ?_⟩
      walk_at "rd"
      refine ⟨_, _, _, _, rfl, rfl, SqT.of (s12 _ _ bp), rfl, ?_⟩
      walk_at "rd"
      refine ⟨_, _, _, _, rfl, rfl, SqT.of (s12 _ _ hrp), rfl, ?_⟩
      walk_at "rd"
      refine ⟨_, _, _, _, rfl, rfl, SqT.of (s12 _ _ hrp), rfl, ?_⟩
      refine ⟨by show 3 ≤ sizeLine; decide, fun t3 h3 => ?_⟩
      have s3 := Same.new h3 (Tx (moreS r b.total))
      refine ⟨t2, t3, _, moreS r b.total, rfl, s3 _ _ ht2, upd_same, fun t4 H4 s4 ht4 => ?_⟩
      exact hR _ _ ⟨t4, _, s12.trans (s3.trans s4), ht4, rfl⟩
  rintro _ H3 ⟨t, o, s3, ht, rfl⟩
  refine seqU (fun σ' H' => ∃ t o, Same H H' ∧ H' t = some (Tx (joinR a b)) ∧ σ' = [some (.ref p), some (.ref q), some (.ref t), o]) ?_ (fun R hR => ?_)
  case refine_2 =>
    walk_at "rd"
    refine ⟨_, _, _, _, rfl, rfl, SqT.of (s3 _ _ bp), rfl, ?_⟩
    walk_at "rd"
    cases e : b.round with
    | none =>
      rw [e] at brd
      obtain rfl : wr = .non := brd
      refine iteF ?_
      refine hR _ _ ⟨t, o, s3, ?_, rfl⟩
      unfold joinR
      rw [e]
      exact ht
    | some r =>
      rw [e] at brd
      obtain ⟨rp, rfl, hrp⟩ := brd
      refine iteT ?_
      walk_at "rd"
      refine ⟨_, _, _, _, rfl, rfl, SqT.of (s3 _ _ bp), rfl, ?_⟩
      walk_at "rd"
      refine ⟨_, _, _, _, rfl, rfl, SqT.of (s3 _ _ ap), rfl, ?_⟩
      refine ⟨rp, _, r, rfl, s3 _ _ hrp, fun t4 H4 s4 ht4 => ?_⟩
      have s34 := s3.trans s4
      walk_at "rd"
      refine ⟨_, _, _, _, rfl, rfl, SqT.of ht4, rfl, ?_⟩
      walk_at "rd"
      refine ⟨_, _, _, _, rfl, rfl, SqT.of (s34 _ _ ap), rfl, ?_⟩
      walk_at "rd"
      refine ⟨_, _, _, _, rfl, rfl, SqT.of ht4, rfl, ?_⟩
      walk_at "rd"
      refine ⟨_, _, _, _, rfl, rfl, SqT.of ht4, rfl, ?_⟩
      refine ⟨by show 3 ≤ sizeLine; decide, fun t5 h5 => ?_⟩
      have s5 := Same.new h5 (Tx (moreS (movedS r a.many) a.total))
      refine ⟨t, t5, _, moreS (movedS r a.many) a.total, rfl, s5 _ _ (s4 _ _ ht), upd_same, fun t6 H6 s6 ht6 => ?_⟩
      refine hR _ _ ⟨t6, _, s34.trans (s5.trans s6), ?_, rfl⟩
      unfold joinR
      rw [e]
      exact ht6
  rintro _ H4 ⟨t', o', s4, ht', rfl⟩
  walk_at "rd"
  exact fin _ _ s4 ht'
def sp_joined : Sp := fun vs H Q _ => ∃ (p q : Addr) (a b : Kn), vs = [.ref p, .ref q] ∧ IsKn H p a ∧ IsKn H q b ∧ ∀ t H', Same H H' → IsKn H' t (joinK a b) → Q (.ref t) H'
theorem ok_joined {P : Program} {w : World} {K : PySem.W.Frag} {mg : Str → Option Value} {base : Heap} {k : Nat} {f : Addr} {fd : FuncData} (F : Fun K "joined" "joined" s_joined f fd) (Z : Blt mg) (CC : Cons mg)
    (D_better_of : Def P w K mg base k "better_of" ["one", "other"] sp_better) (D_moved : Def P w K mg base k "moved" ["stretch", "places"] sp_moved) (D_side_by_side : Def P w K mg base k "side_by_side" ["one", "other"] sp_side)
    (D_joined_round : Def P w K mg base k "joined_round" ["one", "other"] sp_jround) : FnOk P w K mg base CX0 (k + 1) f fd ["one", "other"] sp_joined := by
  refine F.ok sc_joined (fun vs H Q E h => ?_) (fun cdv A outer s H vs Q E hr h => ?_)
  · obtain ⟨p, q, x, y, rfl, _⟩ := h
    rfl
  obtain ⟨p, q, a, b, rfl, ⟨pb, ph, pt, vr, ap, apb, aph, apt, ard⟩, ⟨qb, qh, qt, wr, bp, bpb, bph, bpt, brd⟩, fin⟩ := h
  apply Exists.intro
  apply And.intro
  case left =>
    apply pss_cons
    case h1 =>
      exact (ps_set (i := 2) sc_joined.nd rfl (by first | exact Or.inl rfl | exact Or.inr rfl) (pe_op op_add (pe_ix ix_tup (pv 0) (pe_conI (n := 0) rfl CC.MANY) (fun _ _ => rfl)) (pe_ix ix_tup (pv 1) (pe_conI (n := 0) rfl CC.MANY) (fun _ _ => rfl))))
    apply pss_cons
    case h1 =>
      exact (ps_set (i := 3) sc_joined.nd rfl (by first | exact Or.inl rfl | exact Or.inr rfl) (pe_tup (pa_cons (pe_ix ix_tup (pv 0) (pe_conI (n := 1) rfl CC.TOTAL) (fun _ _ => rfl)) (pa_cons pe_int (pa_cons (pe_ix ix_tup (pv 0) (pe_conI (n := 0) rfl CC.MANY) (fun _ _ => rfl)) pa_nil)))))
    apply pss_cons
    case h1 =>
      exact (ps_set (i := 4) sc_joined.nd rfl (by first | exact Or.inl rfl | exact Or.inr rfl) (pe_tup (pa_cons (pe_ix ix_tup (pv 1) (pe_conI (n := 1) rfl CC.TOTAL) (fun _ _ => rfl)) (pa_cons (pe_ix ix_tup (pv 0) (pe_conI (n := 0) rfl CC.MANY) (fun _ _ => rfl)) (pa_cons (pv 2) pa_nil)))))
    apply pss_cons
    case h1 =>
      exact (ps_set (i := 5) sc_joined.nd rfl (by first | exact Or.inl rfl | exact Or.inr rfl) (pe_def D_moved hr rfl (pa_cons (pe_ix ix_tup (pv 1) (pe_conI (n := 3) rfl CC.HEAD) (fun _ _ => rfl)) (pa_cons (pe_ix ix_tup (pv 0) (pe_conI (n := 0) rfl CC.MANY) (fun _ _ => rfl)) pa_nil))))
    apply pss_cons
    case h1 =>
      exact (ps_set (i := 6) sc_joined.nd rfl (by first | exact Or.inl rfl | exact Or.inr rfl) (pe_def D_side_by_side hr rfl (pa_cons (pe_ix ix_tup (pv 0) (pe_conI (n := 4) rfl CC.TAIL) (fun _ _ => rfl)) (pa_cons (pv 5) pa_nil))))
    apply pss_one
    exact (ps_ret (pe_tup (pa_cons (pv 2) (pa_cons (pe_op op_add (pe_ix ix_tup (pv 0) (pe_conI (n := 1) rfl CC.TOTAL) (fun _ _ => rfl)) (pe_ix ix_tup (pv 1) (pe_conI (n := 1) rfl CC.TOTAL) (fun _ _ => rfl))) (pa_cons (pe_def D_better_of hr rfl (pa_cons (pe_def D_better_of hr rfl (pa_cons (pe_ix ix_tup (pv 0) (pe_conI (n := 2) rfl CC.BEST) (fun _ _ => rfl)) (pa_cons (pv 6) pa_nil))) (pa_cons (pe_def D_moved hr rfl (pa_cons (pe_ix ix_tup (pv 1) (pe_conI (n := 2) rfl CC.BEST) (fun _ _ => rfl)) (pa_cons (pe_ix ix_tup (pv 0) (pe_conI (n := 0) rfl CC.MANY) (fun _ _ => rfl)) pa_nil))) pa_nil))) (pa_cons (pe_def D_better_of hr rfl (pa_cons (pe_ix ix_tup (pv 0) (pe_conI (n := 3) rfl CC.HEAD) (fun _ _ => rfl)) (pa_cons (pe_def D_side_by_side hr rfl (pa_cons (pv 3) (pa_cons (pv 5) pa_nil))) pa_nil))) (pa_cons (pe_def D_better_of hr rfl (pa_cons (pe_def D_side_by_side hr rfl (pa_cons (pe_ix ix_tup (pv 0) (pe_conI (n := 4) rfl CC.TAIL) (fun _ _ => rfl)) (pa_cons (pv 4) pa_nil))) (pa_cons (pe_def D_moved hr rfl (pa_cons (pe_ix ix_tup (pv 1) (pe_conI (n := 4) rfl CC.TAIL) (fun _ _ => rfl)) (pa_cons (pe_ix ix_tup (pv 0) (pe_conI (n := 0) rfl CC.MANY) (fun _ _ => rfl)) pa_nil))) pa_nil))) (pa_cons (pe_def D_joined_round hr rfl (pa_cons (pv 0) (pa_cons (pv 1) pa_nil))) pa_nil))))))))
  walk_at "rd"
  refine ⟨_, _, _, _, rfl, rfl, SqT.of ap, rfl, ?_⟩
  walk_at "rd"
  refine ⟨_, _, _, _, rfl, rfl, SqT.of bp, rfl, ?_⟩
  walk_at "rd"
  refine ⟨_, _, _, _, rfl, rfl, SqT.of ap, rfl, ?_⟩
  walk_at "rd"
  refine ⟨_, _, _, _, rfl, rfl, SqT.of ap, rfl, ?_⟩
  refine ⟨by show 3 ≤ sizeLine; decide, fun t1 h1 => ?_⟩
  have s1 := Same.new h1 (Tx ⟨a.total, 0, a.many⟩)
  have ht1 : upd H t1 (Tx ⟨a.total, 0, a.many⟩) t1 = some (Tx ⟨a.total, 0, a.many⟩) := upd_same
  obtain ⟨H1, eH1⟩ : ∃ z, z = upd H t1 (Tx ⟨a.total, 0, a.many⟩) := ⟨_, rfl⟩
  rw [← eH1] at s1 ht1
  walk_at "rd"
  rw [← eH1]
  refine ⟨_, _, _, _, rfl, rfl, SqT.of (s1 _ _ bp), rfl, ?_⟩
  walk_at "rd"
  refine ⟨_, _, _, _, rfl, rfl, SqT.of (s1 _ _ ap), rfl, ?_⟩
  walk_at "rd"
  refine ⟨by show 3 ≤ sizeLine; decide, fun t2 h2 => ?_⟩
  have s2 := s1.trans (Same.new h2 (Tx ⟨b.total, a.many, a.many + b.many⟩))
  have ht1' := Same.new h2 (Tx ⟨b.total, a.many, a.many + b.many⟩) _ _ ht1
  have ht2 : upd H1 t2 (Tx ⟨b.total, a.many, a.many + b.many⟩) t2 = some (Tx ⟨b.total, a.many, a.many + b.many⟩) := upd_same
  obtain ⟨H2, eH2⟩ : ∃ z, z = upd H1 t2 (Tx ⟨b.total, a.many, a.many + b.many⟩) := ⟨_, rfl⟩
  rw [← eH2] at s2 ht2 ht1'
  walk_at "rd"
  rw [← eH2]
  refine ⟨_, _, _, _, rfl, rfl, SqT.of (s2 _ _ bp), rfl, ?_⟩
  walk_at "rd"
  refine ⟨_, _, _, _, rfl, rfl, SqT.of (s2 _ _ ap), rfl, ?_⟩
  refine ⟨qh, _, b.head, rfl, s2 _ _ bph, fun t3 H3 s3 ht3 => ?_⟩
  walk_at "rd"
  refine ⟨_, _, _, _, rfl, rfl, SqT.of ((s2.trans s3) _ _ ap), rfl, ?_⟩
  walk_at "rd"
  refine ⟨pt, t3, a.tail, _, rfl, (s2.trans s3) _ _ apt, ht3, fun t4 H4 s4 ht4 => ?_⟩
  have s04 := s2.trans (s3.trans s4)
  walk_at "rd"
  refine ⟨_, _, _, _, rfl, rfl, SqT.of (s04 _ _ ap), rfl, ?_⟩
  walk_at "rd"
  refine ⟨_, _, _, _, rfl, rfl, SqT.of (s04 _ _ bp), rfl, ?_⟩
  walk_at "rd"
  refine ⟨_, _, _, _, rfl, rfl, SqT.of (s04 _ _ ap), rfl, ?_⟩
  walk_at "rd"
  refine ⟨pb, t4, a.best, _, rfl, s04 _ _ apb, ht4, fun t5 H5 s5 ht5 => ?_⟩
  have s05 := s04.trans s5
  walk_at "rd"
  refine ⟨_, _, _, _, rfl, rfl, SqT.of (s05 _ _ bp), rfl, ?_⟩
  walk_at "rd"
  refine ⟨_, _, _, _, rfl, rfl, SqT.of (s05 _ _ ap), rfl, ?_⟩
  refine ⟨qb, _, b.best, rfl, s05 _ _ bpb, fun t6 H6 s6 ht6 => ?_⟩
  refine ⟨t5, t6, _, _, rfl, s6 _ _ ht5, ht6, fun t7 H7 s7 ht7 => ?_⟩
  have s07 := s05.trans (s6.trans s7)
  walk_at "rd"
  refine ⟨_, _, _, _, rfl, rfl, SqT.of (s07 _ _ ap), rfl, ?_⟩
  walk_at "rd"
  have s27 := s3.trans (s4.trans (s5.trans (s6.trans s7)))
  refine ⟨t1, t3, _, _, rfl, s27 _ _ ht1', (s4.trans (s5.trans (s6.trans s7))) _ _ ht3, fun t8 H8 s8 ht8 => ?_⟩
  refine ⟨ph, t8, a.head, _, rfl, s8 _ _ (s07 _ _ aph), ht8, fun t9 H9 s9 ht9 => ?_⟩
  have s09 := s07.trans (s8.trans s9)
  walk_at "rd"
  refine ⟨_, _, _, _, rfl, rfl, SqT.of (s09 _ _ ap), rfl, ?_⟩
  walk_at "rd"
  refine ⟨pt, t2, a.tail, _, rfl, s09 _ _ apt, (s27.trans (s8.trans s9)) _ _ ht2, fun t10 H10 s10 ht10 => ?_⟩
  have s010 := s09.trans s10
  walk_at "rd"
  refine ⟨_, _, _, _, rfl, rfl, SqT.of (s010 _ _ bp), rfl, ?_⟩
  walk_at "rd"
  refine ⟨_, _, _, _, rfl, rfl, SqT.of (s010 _ _ ap), rfl, ?_⟩
  refine ⟨qt, _, b.tail, rfl, s010 _ _ bpt, fun t11 H11 s11 ht11 => ?_⟩
  refine ⟨t10, t11, _, _, rfl, s11 _ _ ht10, ht11, fun t12 H12 s12 ht12 => ?_⟩
  have s012 := s010.trans (s11.trans s12)
  walk_at "rd"
  refine ⟨p, q, a, b, rfl, (IsKn.mk ⟨pb, ph, pt, vr, ap, apb, aph, apt, ard⟩).keep s012, (IsKn.mk ⟨qb, qh, qt, wr, bp, bpb, bph, bpt, brd⟩).keep s012, fun t13 H13 s13 ht13 => ?_⟩
  refine ⟨by show 6 ≤ sizeLine; decide, fun t14 h14 => ?_⟩
  have s14 := Same.new h14 (.tup [.int (a.many + b.many), .int (a.total + b.total), .ref t7, .ref t9, .ref t12, .ref t13])
  have sA := s8.trans (s9.trans (s10.trans (s11.trans (s12.trans (s13.trans s14)))))
  have sB := s10.trans (s11.trans (s12.trans (s13.trans s14)))
  refine fin t14 _ (s012.trans (s13.trans s14)) ⟨t7, t9, t12, .ref t13, upd_same, sA _ _ ht7, sB _ _ ht9, (s13.trans s14) _ _ ht12, t13, rfl, s14 _ _ ht13⟩
/-! ### kept rows -/
inductive IsKept (H : Hp) : Nat → Addr → List Int → Prop
  | leaf {d : Nat} {p kp : Addr} {n : Int} (h : H p = some (.tup [.ref kp, .non, .non])) (hk : IsKn H kp (oneK n)) : IsKept H (d + 1) p [n]
  | node {d : Nat} {p kp l r : Addr} {xs ys : List Int} {a : Kn} (h : H p = some (.tup [.ref kp, .ref l, .ref r])) (hk : IsKn H kp a) (ok : KnOk a (xs ++ ys)) (hl : IsKept H d l xs) (hr : IsKept H d r ys) (hm : xs.length = (xs.length + ys.length) / 2) : IsKept H (d + 1) p (xs ++ ys)
theorem IsKept.keep {H H' : Hp} {d : Nat} {p : Addr} {ns : List Int} (h : IsKept H d p ns) (s : Same H H') : IsKept H' d p ns := by
  induction h with
  | leaf h hk => exact .leaf (s _ _ h) (hk.keep s)
  | node h hk ok _ _ hm ihl ihr => exact .node (s _ _ h) (hk.keep s) ok ihl ihr hm
theorem IsKept.known {H : Hp} {d : Nat} {p : Addr} {ns : List Int} (h : IsKept H d p ns) : ∃ (kp : Addr) (a : Kn) (x y : V), H p = some (.tup [.ref kp, x, y]) ∧ IsKn H kp a ∧ KnOk a ns := by
  cases h with
  | leaf h hk => exact ⟨_, _, _, _, h, hk, one_ok _⟩
  | node h hk ok _ _ _ => exact ⟨_, _, _, _, h, hk, ok⟩
theorem IsKept.pos {H : Hp} {d : Nat} {p : Addr} {ns : List Int} (h : IsKept H d p ns) : 1 ≤ ns.length := by
  induction h with
  | leaf h hk => exact Nat.le_refl _
  | node h hk ok _ _ hm ihl ihr => rw [List.length_append]; (first | lia | omega)
def sp_single : Sp := fun vs H Q _ => ∃ n : Int, vs = [.int n] ∧ ∀ t H' , Same H H' → (∀ d, IsKept H' (d + 1) t [n]) → Q (.ref t) H'
theorem ok_single {P : Program} {w : World} {K : PySem.W.Frag} {mg : Str → Option Value} {base : Heap} {k : Nat} {f : Addr} {fd : FuncData} (F : Fun K "single" "single" s_single f fd) (Z : Blt mg) : FnOk P w K mg base CX0 (k + 1) f fd ["number"] sp_single := by
  refine F.ok sc_single (fun vs H Q E h => ?_) (fun cdv A outer s H vs Q E hr h => ?_)
  · obtain ⟨n, rfl, _⟩ := h
    rfl
  obtain ⟨n, rfl, fin⟩ := h
  apply Exists.intro
  apply And.intro
  case left =>
    apply pss_cons
    case h1 =>
      exact (ps_set (i := 1) sc_single.nd rfl (by first | exact Or.inl rfl | exact Or.inr rfl) (pe_tup (pa_cons (pv 0) (pa_cons pe_int (pa_cons pe_int pa_nil)))))
    apply pss_one
    exact (ps_ret (pe_tup (pa_cons (pe_tup (pa_cons pe_int (pa_cons (pv 0) (pa_cons (pv 1) (pa_cons (pv 1) (pa_cons (pv 1) (pa_cons pe_non pa_nil))))))) (pa_cons pe_non (pa_cons pe_non pa_nil)))))
  walk_at "rd"
  refine ⟨by show 3 ≤ sizeLine; decide, fun t1 h1 => ?_⟩
  have s1 := Same.new h1 (Tx ⟨n, 0, 1⟩)
  walk_at "rd"
  refine ⟨by show 6 ≤ sizeLine; decide, fun t2 h2 => ?_⟩
  have s2 := Same.new h2 (.tup [.int 1, .int n, .ref t1, .ref t1, .ref t1, .non])
  walk_at "rd"
  refine ⟨by show 3 ≤ sizeLine; decide, fun t3 h3 => ?_⟩
  have s3 := Same.new h3 (.tup [.ref t2, .non, .non])
  have e1 := (s2.trans s3) _ _ (upd_same (H := H) (a := t1) (o := Tx ⟨n, 0, 1⟩))
  exact fin t3 _ (s1.trans (s2.trans s3)) fun d => .leaf upd_same ⟨t1, t1, t1, .non, s3 _ _ upd_same, e1, e1, e1, rfl⟩
def sp_paired : Sp := fun vs H Q _ => ∃ (p q : Addr) (kp kq : Addr) (a b : Kn) (x y x' y' : V), vs = [.ref p, .ref q] ∧ H p = some (.tup [.ref kp, x, y]) ∧ H q = some (.tup [.ref kq, x', y']) ∧ IsKn H kp a ∧ IsKn H kq b ∧
  ∀ t kt H', Same H H' → H' t = some (.tup [.ref kt, .ref p, .ref q]) → IsKn H' kt (joinK a b) → Q (.ref t) H'
theorem ok_paired {P : Program} {w : World} {K : PySem.W.Frag} {mg : Str → Option Value} {base : Heap} {k : Nat} {f : Addr} {fd : FuncData} (F : Fun K "paired" "paired" s_paired f fd) (Z : Blt mg) (CC : Cons mg)
    (D_joined : Def P w K mg base k "joined" ["one", "other"] sp_joined) : FnOk P w K mg base CX0 (k + 1) f fd ["left", "right"] sp_paired := by
  refine F.ok sc_paired (fun vs H Q E h => ?_) (fun cdv A outer s H vs Q E hr h => ?_)
  · obtain ⟨p, q, _, _, _, _, _, _, _, _, rfl, _⟩ := h
    rfl
  obtain ⟨p, q, kp, kq, a, b, x, y, x', y', rfl, hp, hq, ha, hb, fin⟩ := h
  apply Exists.intro
  apply And.intro
  case left =>
    apply pss_one
    exact (ps_ret (pe_tup (pa_cons (pe_def D_joined hr rfl (pa_cons (pe_ix ix_tup (pv 0) (pe_conI (n := 0) rfl CC.KNOWN) (fun _ _ => rfl)) (pa_cons (pe_ix ix_tup (pv 1) (pe_conI (n := 0) rfl CC.KNOWN) (fun _ _ => rfl)) pa_nil))) (pa_cons (pv 0) (pa_cons (pv 1) pa_nil)))))
  walk_at "rd"
  refine ⟨_, _, _, _, rfl, rfl, SqT.of hp, rfl, ?_⟩
  walk_at "rd"
  refine ⟨_, _, _, _, rfl, rfl, SqT.of hq, rfl, ?_⟩
  refine ⟨kp, kq, a, b, rfl, ha, hb, fun kt H1 s1 hk1 => ?_⟩
  walk_at "rd"
  refine ⟨by show 3 ≤ sizeLine; decide, fun t h1 => ?_⟩
  have s2 := Same.new h1 (.tup [.ref kt, .ref p, .ref q])
  exact fin t kt _ (s1.trans s2) upd_same (hk1.keep s2)
theorem cut_join {ns : List Int} {f m b : Int} (h0 : 0 ≤ f) (h1 : f ≤ m) (h2 : m ≤ b) : cutI ns f m ++ cutI ns m b = cutI ns f b := by
  unfold cutI
  have e1 : b.toNat - f.toNat = (m.toNat - f.toNat) + (b.toNat - m.toNat) := by (first | lia | omega)
  have e2 : m.toNat = f.toNat + (m.toNat - f.toNat) := by (first | lia | omega)
  rw [e1, List.take_add, List.drop_drop]
  rw [← e2]
theorem cut_len {ns : List Int} {f b : Int} (h0 : 0 ≤ f) (h1 : f ≤ b) (h2 : b ≤ (ns.length : Int)) : ((cutI ns f b).length : Int) = b - f := by
  unfold cutI
  rw [List.length_take, List.length_drop]
  (first | lia | omega)
theorem cut_one {ns : List Int} {f b : Int} (h0 : 0 ≤ f) (h1 : b = f + 1) (h2 : b ≤ (ns.length : Int)) : cutI ns f b = [ns.getD f.toNat 0] := by
  unfold cutI
  have e : b.toNat - f.toNat = 1 := by (first | lia | omega)
  have hl : f.toNat < ns.length := by (first | lia | omega)
  rw [e, List.drop_eq_getElem_cons hl, List.take_succ_cons, List.take_zero, List.getD_eq_getElem?_getD, List.getElem?_eq_getElem hl]
  rfl
theorem cut_whole {ns : List Int} : cutI ns 0 (ns.length : Int) = ns := by
  unfold cutI
  simp
def sp_halved (d : Nat) : Sp := fun vs H Q _ => ∃ (r : Addr) (f b : Int) (ns : List Int), vs = [.ref r, .int f, .int b] ∧ H r = some (.lst (ns.map V.int)) ∧ 0 ≤ f ∧ f < b ∧ b ≤ (ns.length : Int) ∧ ns.length ≤ 100000 ∧ 2 * (b - f) ≤ (2 : Int) ^ d ∧
  ∀ t H', Same H H' → IsKept H' d t (cutI ns f b) → Q (.ref t) H'
theorem none_halved {P : Program} {w : World} {K : PySem.W.Frag} {mg : Str → Option Value} {base : Heap} {k : Nat} {f : Addr} {fd : FuncData} {ps : List Str} : FnOk P w K mg base CX0 k f fd ps (sp_halved 0) := by
  have no : ∀ vs H Q E, ¬ sp_halved 0 vs H Q E := fun vs H Q E h => by
    obtain ⟨r, f, b, ns, _, _, h0, h1, h2, _, h3, _⟩ := h
    have : (2 : Int) ^ 0 = 1 := rfl
    (first | lia | omega)
  exact ⟨fun vs H Q E h => absurd h (no vs H Q E), fun A outer s H args us vs Q E _ _ _ _ h => absurd h (no vs H Q E)⟩
theorem ok_halved {P : Program} {w : World} {K : PySem.W.Frag} {mg : Str → Option Value} {base : Heap} {k d : Nat} {f : Addr} {fd : FuncData} (F : Fun K "halved" "halved" s_halved f fd) (Z : Blt mg)
    (D_single : Def P w K mg base k "single" ["number"] sp_single) (D_paired : Def P w K mg base k "paired" ["left", "right"] sp_paired) (D_halved : Def P w K mg base k "halved" ["row", "first", "beyond"] (sp_halved d)) : FnOk P w K mg base CX0 (k + 1) f fd ["row", "first", "beyond"] (sp_halved (d + 1)) := by
  refine F.ok sc_halved (fun vs H Q E h => ?_) (fun cdv A outer s H vs Q E hr h => ?_)
  · obtain ⟨r, f, b, ns, rfl, _⟩ := h
    rfl
  obtain ⟨r, f, b, ns, rfl, hR, h0, h1, h2, hz, hd, fin⟩ := h
  apply Exists.intro
  apply And.intro
  case left =>
    apply pss_cons
    case h1 =>
      apply ps_if
      case hc => exact (pt_cmpR op_eq (pe_op op_sub (pv 2) (pv 1)) pe_int (nomark _))
      case ha =>
        apply pss_one
        exact (ps_ret (pe_def D_single hr rfl (pa_cons (pe_ix ix_list (pv 0) (pv 1) (fun _ _ => rfl)) pa_nil)))
      case hb =>
        exact pss_nil
    apply pss_cons
    case h1 =>
      exact (ps_set (i := 3) sc_halved.nd rfl (by first | exact Or.inl rfl | exact Or.inr rfl) (pe_op op_fdiv (pe_op op_add (pv 1) (pv 2)) pe_int))
    apply pss_one
    exact (ps_ret (pe_def D_paired hr rfl (pa_cons (pe_def D_halved hr rfl (pa_cons (pv 0) (pa_cons (pv 1) (pa_cons (pv 3) pa_nil)))) (pa_cons (pe_def D_halved hr rfl (pa_cons (pv 0) (pa_cons (pv 3) (pa_cons (pv 2) pa_nil)))) pa_nil))))
  walk_at "rd"
  refine ifI (fun he => ?_) (fun hne => ?_)
  · walk_at "rd"
    refine ⟨_, _, _, _, rfl, rfl, SqL.of hR, atI_ok h0 (by (first | lia | omega)), ?_⟩
    refine ⟨_, rfl, fun t H1 s1 hk => ?_⟩
    refine fin t H1 s1 ?_
    rw [cut_one h0 (by (first | lia | omega)) h2]
    exact hk d
  · have e2 : (2 : Int) ^ (d + 1) = 2 * 2 ^ d := by rw [Int.pow_succ]; (first | lia | omega)
    rw [e2] at hd
    have hd2 : 2 * ((b - f) / 2) ≤ (2 : Int) ^ d ∧ 2 * ((b - f + 1) / 2) ≤ (2 : Int) ^ d := by
      cases d with
      | zero =>
        have : (2 : Int) ^ 0 = 1 := rfl
        (first | lia | omega)
      | succ d =>
        have e3 : (2 : Int) ^ (d + 1) = 2 * 2 ^ d := by rw [Int.pow_succ]; (first | lia | omega)
        rw [e3] at hd ⊢
        (first | lia | omega)
    walk_at "rd"
    refine ⟨r, f, _, ns, rfl, hR, h0, by (first | lia | omega), by (first | lia | omega), hz, by (first | lia | omega), fun t1 H1 s1 hk1 => ?_⟩
    walk_at "rd"
    refine ⟨r, _, b, ns, rfl, s1 _ _ hR, by (first | lia | omega), by (first | lia | omega), by (first | lia | omega), hz, by (first | lia | omega), fun t2 H2 s2 hk2 => ?_⟩
    obtain ⟨kp, a, x, y, e1, ka, oka⟩ := (hk1.keep s2).known
    obtain ⟨kq, a', x', y', e2, kb, okb⟩ := hk2.known
    refine ⟨t1, t2, kp, kq, a, a', x, y, x', y', rfl, e1, e2, ka, kb, fun t kt H3 s3 h3 hk3 => ?_⟩
    refine fin t H3 (s1.trans (s2.trans s3)) ?_
    have hm : (f + b) / 2 = f + (b - f) / 2 := by (first | lia | omega)
    rw [← cut_join (m := (f + b) / 2) h0 (by (first | lia | omega)) (by (first | lia | omega))]
    have l1 := cut_len (ns := ns) (f := f) (b := (f + b) / 2) h0 (by (first | lia | omega)) (by (first | lia | omega))
    have l2 := cut_len (ns := ns) (f := (f + b) / 2) (b := b) (by (first | lia | omega)) (by (first | lia | omega)) h2
    exact .node h3 hk3 (join_ok oka okb) ((hk1.keep s2).keep s3) (hk2.keep s3) (by (first | lia | omega))
theorem rec_halved {P : Program} {w : World} {K : PySem.W.Frag} {mg : Str → Option Value} {base : Heap} {k : Nat} {f : Addr} {fd : FuncData} (F : Fun K "halved" "halved" s_halved f fd) (Z : Blt mg) (b : Binds K fd ["row", "first", "beyond"] []) (kp : PySem.W.keepIn K (.ref f) = true) (m : mg "halved" = some (.ref f))
    (D_single : Def P w K mg base k "single" ["number"] sp_single) (D_paired : Def P w K mg base k "paired" ["left", "right"] sp_paired) : ∀ d, FnOk P w K mg base CX0 (k + d) f fd ["row", "first", "beyond"] (sp_halved d)
  | 0 => none_halved
  | d + 1 => ok_halved F Z (D_single.mono (Nat.le_add_right _ _)) (D_paired.mono (Nat.le_add_right _ _)) ⟨f, fd, rec_halved F Z b kp m D_single D_paired d, b, kp, m⟩
def sp_kept : Sp := fun vs H Q _ => ∃ (r : Addr) (ns : List Int), vs = [.ref r] ∧ H r = some (.lst (ns.map V.int)) ∧ 1 ≤ ns.length ∧ ns.length ≤ 4000 ∧ ∀ t H', Same H H' → IsKept H' 13 t ns → Q (.ref t) H'
theorem ok_kept {P : Program} {w : World} {K : PySem.W.Frag} {mg : Str → Option Value} {base : Heap} {k : Nat} {f : Addr} {fd : FuncData} (F : Fun K "kept" "kept" s_kept f fd) (Z : Blt mg)
    (D_halved : Def P w K mg base k "halved" ["row", "first", "beyond"] (sp_halved 13)) : FnOk P w K mg base CX0 (k + 1) f fd ["row"] sp_kept := by
  refine F.ok sc_kept (fun vs H Q E h => ?_) (fun cdv A outer s H vs Q E hr h => ?_)
  · obtain ⟨r, ns, rfl, _⟩ := h
    rfl
  obtain ⟨r, ns, rfl, hR, h1, h2, fin⟩ := h
  apply Exists.intro
  apply And.intro
  case left =>
    apply pss_one
    exact (ps_ret (pe_def D_halved hr rfl (pa_cons (pv 0) (pa_cons pe_int (pa_cons (pe_callB call_len_seq rfl Z.len_ PySem.boot_len (pa_cons (pv 0) pa_nil)) pa_nil)))))
  have hl : (ns.map V.int).length = ns.length := List.length_map _
  walk_at "rd"
  refine ⟨r, _, rfl, .inl (SqL.of hR), ?_⟩
  refine ⟨r, 0, _, ns, rfl, hR, by decide, by (first | lia | omega), by (first | lia | omega), by (first | lia | omega), ?_, fun t H1 s1 hk => ?_⟩
  · have : (2 : Int) ^ 13 = 8192 := rfl
    (first | lia | omega)
  · rw [hl, cut_whole] at hk
    exact fin t H1 s1 hk
def sp_many : Sp := fun vs H Q _ => ∃ (d : Nat) (p : Addr) (ns : List Int), vs = [.ref p] ∧ IsKept H d p ns ∧ Q (.int ns.length) H
theorem ok_many {P : Program} {w : World} {K : PySem.W.Frag} {mg : Str → Option Value} {base : Heap} {k : Nat} {f : Addr} {fd : FuncData} (F : Fun K "many_of" "many_of" s_many_of f fd) (Z : Blt mg) (CC : Cons mg) : FnOk P w K mg base CX0 (k + 1) f fd ["held"] sp_many := by
  refine F.ok sc_many_of (fun vs H Q E h => ?_) (fun cdv A outer s H vs Q E hr h => ?_)
  · obtain ⟨d, p, ns, rfl, _⟩ := h
    rfl
  obtain ⟨d, p, ns, rfl, hk, fin⟩ := h
  apply Exists.intro
  apply And.intro
  case left =>
    apply pss_one
    exact (ps_ret (pe_ix ix_tup (pe_ix ix_tup (pv 0) (pe_conI (n := 0) rfl CC.KNOWN) (fun _ _ => rfl)) (pe_conI (n := 0) rfl CC.MANY) (fun _ _ => rfl)))
  obtain ⟨kp, a, x, y, e, ⟨pb, ph, pt, vr, e2, _⟩, ok⟩ := hk.known
  walk_at "rd"
  refine ⟨_, _, _, _, rfl, rfl, SqT.of e, rfl, ?_⟩
  walk_at "rd"
  refine ⟨_, _, _, _, rfl, rfl, SqT.of e2, rfl, ?_⟩
  rw [ok.many]
  exact fin
def sp_rowof (d : Nat) : Sp := fun vs H Q _ => ∃ (p : Addr) (ns : List Int), vs = [.ref p] ∧ IsKept H d p ns ∧ ns.length ≤ 100000 ∧ ∀ l H', Same H H' → H l = none → H' l = some (.lst (ns.map V.int)) → Q (.ref l) H'
theorem none_rowof {P : Program} {w : World} {K : PySem.W.Frag} {mg : Str → Option Value} {base : Heap} {k : Nat} {f : Addr} {fd : FuncData} {ps : List Str} : FnOk P w K mg base CX0 k f fd ps (sp_rowof 0) := by
  have no : ∀ vs H Q E, ¬ sp_rowof 0 vs H Q E := fun vs H Q E h => by
    obtain ⟨p, ns, _, hk, _⟩ := h
    cases hk
  exact ⟨fun vs H Q E h => absurd h (no vs H Q E), fun A outer s H args us vs Q E _ _ _ _ h => absurd h (no vs H Q E)⟩
theorem ok_rowof {P : Program} {w : World} {K : PySem.W.Frag} {mg : Str → Option Value} {base : Heap} {k d : Nat} {f : Addr} {fd : FuncData} (F : Fun K "row_of" "row_of" s_row_of f fd) (Z : Blt mg) (CC : Cons mg)
    (D_row_of : Def P w K mg base k "row_of" ["held"] (sp_rowof d)) : FnOk P w K mg base CX0 (k + 1) f fd ["held"] (sp_rowof (d + 1)) := by
  refine F.ok sc_row_of (fun vs H Q E h => ?_) (fun cdv A outer s H vs Q E hr h => ?_)
  · obtain ⟨p, ns, rfl, _⟩ := h
    rfl
  obtain ⟨p, ns, rfl, hk, hz, fin⟩ := h
  apply Exists.intro
  apply And.intro
  case left =>
    apply pss_cons
    case h1 =>
      apply ps_if
      case hc => exact (pt_cmpR op_isN (pe_ix ix_tup (pv 0) (pe_conI (n := 1) rfl CC.LEFT) (fun _ _ => rfl)) pe_non (nomark _))
      case ha =>
        apply pss_one
        exact (ps_ret (pe_lst (pa_cons (pe_ix ix_tup (pe_ix ix_tup (pv 0) (pe_conI (n := 0) rfl CC.KNOWN) (fun _ _ => rfl)) (pe_conI (n := 1) rfl CC.TOTAL) (fun _ _ => rfl)) pa_nil)))
      case hb =>
        exact pss_nil
    apply pss_one
    exact (ps_ret (pe_op op_cat (pe_def D_row_of hr rfl (pa_cons (pe_ix ix_tup (pv 0) (pe_conI (n := 1) rfl CC.LEFT) (fun _ _ => rfl)) pa_nil)) (pe_def D_row_of hr rfl (pa_cons (pe_ix ix_tup (pv 0) (pe_conI (n := 2) rfl CC.RIGHT) (fun _ _ => rfl)) pa_nil))))
  cases hk with
  | @leaf _ _ kp n h hk =>
    obtain ⟨pb, ph, pt, vr, e2, _⟩ := hk
    walk_at "rd"
    refine ⟨_, _, _, _, rfl, rfl, SqT.of h, rfl, ?_⟩
    walk_at "rd"
    refine ⟨_, _, _, _, rfl, rfl, SqT.of h, rfl, ?_⟩
    walk_at "rd"
    refine ⟨_, _, _, _, rfl, rfl, SqT.of e2, rfl, ?_⟩
    exact ⟨by show 1 ≤ sizeLine; decide, fun l hl => fin l _ (Same.new hl _) hl upd_same⟩
  | @node _ _ kp l r xs ys a h hk ok h1 h2 hm =>
    rw [List.length_append] at hz
    walk_at "rd"
    refine ⟨_, _, _, _, rfl, rfl, SqT.of h, rfl, ?_⟩
    walk_at "rd"
    refine ⟨_, _, _, _, rfl, rfl, SqT.of h, rfl, ?_⟩
    refine ⟨l, xs, rfl, h1, by (first | lia | omega), fun l1 H1 s1 hn1 hl1 => ?_⟩
    walk_at "rd"
    refine ⟨_, _, _, _, rfl, rfl, SqT.of (s1 _ _ h), rfl, ?_⟩
    refine ⟨r, ys, rfl, h2.keep s1, by (first | lia | omega), fun l2 H2 s2 hn2 hl2 => ?_⟩
    refine ⟨l1, l2, _, _, rfl, rfl, s2 _ _ hl1, hl2, by rw [List.length_map, List.length_map]; exact Nat.le_of_lt (small (by (first | lia | omega))), fun l3 hl3 => ?_⟩
    refine fin l3 _ (s1.trans (s2.trans (Same.new hl3 _))) ((s1.trans s2).free hl3) ?_
    rw [upd_same, List.map_append]
theorem rec_rowof {P : Program} {w : World} {K : PySem.W.Frag} {mg : Str → Option Value} {base : Heap} {k : Nat} {f : Addr} {fd : FuncData} (F : Fun K "row_of" "row_of" s_row_of f fd) (Z : Blt mg) (CC : Cons mg) (b : Binds K fd ["held"] []) (kp : PySem.W.keepIn K (.ref f) = true) (m : mg "row_of" = some (.ref f)) : ∀ d, FnOk P w K mg base CX0 (k + d) f fd ["held"] (sp_rowof d)
  | 0 => none_rowof
  | d + 1 => ok_rowof F Z CC ⟨f, fd, rec_rowof F Z CC b kp m d, b, kp, m⟩
/-! ### is_whole, is_stretch, stretch_sum -/
def sp_whole : Sp := fun vs H Q _ => ∃ i : Int, vs = [.int i] ∧ Q (.bl true) H
theorem ok_whole {P : Program} {w : World} {K : PySem.W.Frag} {mg : Str → Option Value} {base : Heap} {k : Nat} {f : Addr} {fd : FuncData} (F : Fun K "is_whole" "is_whole" s_is_whole f fd) (Z : Blt mg) : FnOk P w K mg base CX0 (k + 1) f fd ["thing"] sp_whole := by
  refine F.ok sc_is_whole (fun vs H Q E h => ?_) (fun cdv A outer s H vs Q E hr h => ?_)
  · obtain ⟨i, rfl, _⟩ := h
    rfl
  obtain ⟨i, rfl, q⟩ := h
  apply Exists.intro
  apply And.intro
  case left =>
    apply pss_one
    exact (ps_ret (pe_and (pe_callB call_isi rfl Z.isinstance_ PyProof.Rows.boot_isinstance (pa_cons (pv 0) (pa_cons (pe_bltn (v := .ty "int") rfl Z.int_ PyProof.Rows.boot_int rfl) pa_nil))) (pe_one (pe_not (pe_callB call_isi rfl Z.isinstance_ PyProof.Rows.boot_isinstance (pa_cons (pv 0) (pa_cons (pe_bltn (v := .ty "bool") rfl Z.bool_ PyProof.Rows.boot_bool rfl) pa_nil)))))))
  walk_at "rd"
  refine ⟨_, _, _, _, rfl, .int _, kit_ii, _, rfl, iteT ?_⟩
  walk_at "rd"
  refine ⟨_, _, _, _, rfl, .int _, kit_ib, _, rfl, ?_⟩
  exact q
def sp_isstretch : Sp := fun vs H Q _ => ∃ (p : Addr) (a b m : Int), vs = [.ref p, .int m] ∧ H p = some (.tup [.int a, .int b]) ∧ Q (.bl (decide (0 ≤ a ∧ a < b ∧ b ≤ m))) H
theorem ok_isstretch {P : Program} {w : World} {K : PySem.W.Frag} {mg : Str → Option Value} {base : Heap} {k : Nat} {f : Addr} {fd : FuncData} (F : Fun K "is_stretch" "is_stretch" s_is_stretch f fd) (Z : Blt mg)
    (D_is_whole : Def P w K mg base k "is_whole" ["thing"] sp_whole) : FnOk P w K mg base CX0 (k + 1) f fd ["stretch", "many"] sp_isstretch := by
  refine F.ok sc_is_stretch (fun vs H Q E h => ?_) (fun cdv A outer s H vs Q E hr h => ?_)
  · obtain ⟨p, a, b, m, rfl, _⟩ := h
    rfl
  obtain ⟨p, a, b, m, rfl, hp, q⟩ := h
  apply Exists.intro
  apply And.intro
  case left =>
    apply pss_cons
    case h1 =>
      apply ps_if
      case hc => exact (PW.pt (pw_or (pt_not (pt_val (pe_callB call_isi rfl Z.isinstance_ PyProof.Rows.boot_isinstance (pa_cons (pv 0) (pa_cons (pe_bltn (v := .ty "tuple") rfl Z.tuple_ PyProof.Rows.boot_tuple rfl) pa_nil))))) (pw_or1 (pt_cmpR op_ne (pe_callB call_len_seq rfl Z.len_ PySem.boot_len (pa_cons (pv 0) pa_nil)) pe_int (nomark _)))))
      case ha =>
        apply pss_one
        exact (ps_ret pe_bl)
      case hb =>
        exact pss_nil
    apply pss_cons
    case h1 =>
      exact (ps_set (i := 2) sc_is_stretch.nd rfl (by first | exact Or.inl rfl | exact Or.inr rfl) (pe_ix ix_tup (pv 0) pe_int (fun _ _ => rfl)))
    apply pss_cons
    case h1 =>
      exact (ps_set (i := 3) sc_is_stretch.nd rfl (by first | exact Or.inl rfl | exact Or.inr rfl) (pe_ix ix_tup (pv 0) pe_int (fun _ _ => rfl)))
    apply pss_cons
    case h1 =>
      apply ps_if
      case hc => exact (PW.pt (pw_or (pt_not (pt_val (pe_def D_is_whole hr rfl (pa_cons (pv 2) pa_nil)))) (pw_or1 (pt_not (pt_val (pe_def D_is_whole hr rfl (pa_cons (pv 3) pa_nil)))))))
      case ha =>
        apply pss_one
        exact (ps_ret pe_bl)
      case hb =>
        exact pss_nil
    apply pss_one
    exact (ps_ret (pe_chain3 op_le op_lt op_le pe_int (pv 2) (pv 3) (pv 1)))
  walk_at "rd"
  refine ⟨_, _, _, _, rfl, .tup hp, kit_tt, _, rfl, iteF ?_⟩
  walk_at "rd"
  refine ⟨p, _, rfl, .inr (SqT.of hp), ?_⟩
  refine ⟨rfl, _, rfl, ?_⟩
  refine ifIN (fun z => absurd rfl z) (fun _ => ?_)
  walk_at "rd"
  refine ⟨p, _, 0, _, rfl, rfl, SqT.of hp, rfl, ?_⟩
  walk_at "rd"
  refine ⟨p, _, 1, _, rfl, rfl, SqT.of hp, rfl, ?_⟩
  walk_at "rd"
  refine ifD (fun h1 => ?_) (fun h1 => ?_)
  · walk_at "rd"
    refine ifD (fun h2 => ?_) (fun h2 => ?_)
    · walk_at "rd"
      have e : decide (0 ≤ a ∧ a < b ∧ b ≤ m) = decide (b ≤ m) := by simp only [h1, h2, true_and]
      rw [e] at q
      exact q
    · rw [decide_eq_false (by (first | lia | omega))] at q
      exact q
  · rw [decide_eq_false (by (first | lia | omega))] at q
    exact q
/-! ### all stays but one thing -/
def SameX (q : Addr) (H H' : Hp) : Prop := ∀ b o, b ≠ q → H b = some o → H' b = some o
theorem sX {q : Addr} {H H' : Hp} (s : Same H H') : SameX q H H' := fun b o _ e => s b o e
theorem SameX.trans {q : Addr} {H H1 H2 : Hp} (a : SameX q H H1) (b : SameX q H1 H2) : SameX q H H2 := fun c o h e => b c o h (a c o h e)
theorem SameX.upd {q p : Addr} {H H' : Hp} {o : HO} (s : SameX q H H') (h : H p = none) : SameX q H (upd H' p o) := fun b u hb e => by
  rw [upd_ne (ne_of_none e h)]
  exact s b u hb e
def Pot (H : Hp) (q : Addr) : Prop := ∃ a b : Int, H q = some (.lst [.int a, .int b])
theorem Pot.keep {H H' : Hp} {q : Addr} (h : Pot H q) (s : Same H H') : Pot H' q := by
  obtain ⟨a, b, e⟩ := h
  exact ⟨a, b, s _ _ e⟩
theorem Pot.ne {H : Hp} {q p : Addr} (h : Pot H q) (e : H p = none) : p ≠ q := fun z => by
  obtain ⟨a, b, e'⟩ := h
  rw [z, e'] at e
  cases e
/-! ### a number put in; changes -/
def sp_put (d : Nat) : Sp := fun vs H Q _ => ∃ (p : Addr) (i n : Int) (ns : List Int), vs = [.ref p, .int i, .int n] ∧ IsKept H d p ns ∧ 0 ≤ i ∧ i < (ns.length : Int) ∧ ∀ t H', Same H H' → IsKept H' d t (ns.set i.toNat n) → Q (.ref t) H'
theorem none_put {P : Program} {w : World} {K : PySem.W.Frag} {mg : Str → Option Value} {base : Heap} {k : Nat} {f : Addr} {fd : FuncData} {ps : List Str} : FnOk P w K mg base CX0 k f fd ps (sp_put 0) := by
  have no : ∀ vs H Q E, ¬ sp_put 0 vs H Q E := fun vs H Q E h => by
    obtain ⟨p, i, n, ns, _, hk, _⟩ := h
    cases hk
  exact ⟨fun vs H Q E h => absurd h (no vs H Q E), fun A outer s H args us vs Q E _ _ _ _ h => absurd h (no vs H Q E)⟩
theorem ok_put {P : Program} {w : World} {K : PySem.W.Frag} {mg : Str → Option Value} {base : Heap} {k d : Nat} {f : Addr} {fd : FuncData} (F : Fun K "with_put" "with_put" s_with_put f fd) (Z : Blt mg) (CC : Cons mg)
    (D_single : Def P w K mg base k "single" ["number"] sp_single) (D_paired : Def P w K mg base k "paired" ["left", "right"] sp_paired) (D_many_of : Def P w K mg base k "many_of" ["held"] sp_many)
    (D_with_put : Def P w K mg base k "with_put" ["held", "place", "number"] (sp_put d)) : FnOk P w K mg base CX0 (k + 1) f fd ["held", "place", "number"] (sp_put (d + 1)) := by
  refine F.ok sc_with_put (fun vs H Q E h => ?_) (fun cdv A outer s H vs Q E hr h => ?_)
  · obtain ⟨p, i, n, ns, rfl, _⟩ := h
    rfl
  obtain ⟨p, i, n, ns, rfl, hk, h0, h1, fin⟩ := h
  apply Exists.intro
  apply And.intro
  case left =>
    apply pss_cons
    case h1 =>
      apply ps_if
      case hc => exact (pt_cmpR op_isN (pe_ix ix_tup (pv 0) (pe_conI (n := 1) rfl CC.LEFT) (fun _ _ => rfl)) pe_non (nomark _))
      case ha =>
        apply pss_one
        exact (ps_ret (pe_def D_single hr rfl (pa_cons (pv 2) pa_nil)))
      case hb =>
        exact pss_nil
    apply pss_cons
    case h1 =>
      exact (ps_set (i := 3) sc_with_put.nd rfl (by first | exact Or.inl rfl | exact Or.inr rfl) (pe_def D_many_of hr rfl (pa_cons (pe_ix ix_tup (pv 0) (pe_conI (n := 1) rfl CC.LEFT) (fun _ _ => rfl)) pa_nil)))
    apply pss_cons
    case h1 =>
      apply ps_if
      case hc => exact (pt_cmpR op_lt (pv 1) (pv 3) (nomark _))
      case ha =>
        apply pss_one
        exact (ps_ret (pe_def D_paired hr rfl (pa_cons (pe_def D_with_put hr rfl (pa_cons (pe_ix ix_tup (pv 0) (pe_conI (n := 1) rfl CC.LEFT) (fun _ _ => rfl)) (pa_cons (pv 1) (pa_cons (pv 2) pa_nil)))) (pa_cons (pe_ix ix_tup (pv 0) (pe_conI (n := 2) rfl CC.RIGHT) (fun _ _ => rfl)) pa_nil))))
      case hb =>
        exact pss_nil
    apply pss_one
    exact (ps_ret (pe_def D_paired hr rfl (pa_cons (pe_ix ix_tup (pv 0) (pe_conI (n := 1) rfl CC.LEFT) (fun _ _ => rfl)) (pa_cons (pe_def D_with_put hr rfl (pa_cons (pe_ix ix_tup (pv 0) (pe_conI (n := 2) rfl CC.RIGHT) (fun _ _ => rfl)) (pa_cons (pe_op op_sub (pv 1) (pv 3)) (pa_cons (pv 2) pa_nil)))) pa_nil))))
  cases hk with
  | @leaf _ _ kp n0 h hk =>
    walk_at "rd"
    refine ⟨_, _, _, _, rfl, rfl, SqT.of h, rfl, ?_⟩
    walk_at "rd"
    refine fun t H1 s1 hk1 => fin t H1 s1 ?_
    simp only [List.length_singleton] at h1
    have e : i.toNat = 0 := by (first | lia | omega)
    rw [e]
    exact hk1 d
  | @node _ _ kp l r xs ys a h hk ok hl hr' hm =>
    rw [List.length_append] at h1
    obtain ⟨kl, al, x1, y1, el, knl, okl⟩ := hl.known
    obtain ⟨kr, ar, x2, y2, er, knr, okr⟩ := hr'.known
    walk_at "rd"
    refine ⟨_, _, _, _, rfl, rfl, SqT.of h, rfl, ?_⟩
    walk_at "rd"
    refine ⟨_, _, _, _, rfl, rfl, SqT.of h, rfl, ?_⟩
    refine ⟨d, l, xs, rfl, hl, ?_⟩
    walk_at "rd"
    refine ifD (fun hlt => ?_) (fun hge => ?_)
    · walk_at "rd"
      refine ⟨_, _, _, _, rfl, rfl, SqT.of h, rfl, ?_⟩
      walk_at "rd"
      refine ⟨l, i, n, xs, rfl, hl, h0, hlt, fun t1 H1 s1 hk1 => ?_⟩
      walk_at "rd"
      refine ⟨_, _, _, _, rfl, rfl, SqT.of (s1 _ _ h), rfl, ?_⟩
      obtain ⟨kp1, a1, x, y, e1, ka, oka⟩ := hk1.known
      refine ⟨t1, r, kp1, kr, a1, ar, x, y, x2, y2, rfl, e1, s1 _ _ er, ka, knr.keep s1, fun t kt H3 s3 h3 hk3 => ?_⟩
      refine fin t H3 (s1.trans s3) ?_
      rw [List.set_append_left _ _ (by (first | lia | omega))]
      exact .node h3 hk3 (join_ok oka okr) (hk1.keep s3) ((hr'.keep s1).keep s3) (by rw [List.length_set]; exact hm)
    · walk_at "rd"
      refine ⟨_, _, _, _, rfl, rfl, SqT.of h, rfl, ?_⟩
      walk_at "rd"
      refine ⟨_, _, _, _, rfl, rfl, SqT.of h, rfl, ?_⟩
      walk_at "rd"
      refine ⟨r, _, n, ys, rfl, hr', by (first | lia | omega), by (first | lia | omega), fun t1 H1 s1 hk1 => ?_⟩
      obtain ⟨kp1, a1, x, y, e1, ka, oka⟩ := hk1.known
      refine ⟨l, t1, kl, kp1, al, a1, x1, y1, x, y, rfl, s1 _ _ el, e1, knl.keep s1, ka, fun t kt H3 s3 h3 hk3 => ?_⟩
      refine fin t H3 (s1.trans s3) ?_
      have ei : i.toNat - xs.length = (i - (xs.length : Int)).toNat := by (first | lia | omega)
      rw [List.set_append_right _ _ (by (first | lia | omega)), ei]
      exact .node h3 hk3 (join_ok okl oka) ((hl.keep s1).keep s3) (hk1.keep s3) (by rw [List.length_set]; exact hm)
theorem rec_put {P : Program} {w : World} {K : PySem.W.Frag} {mg : Str → Option Value} {base : Heap} {k : Nat} {f : Addr} {fd : FuncData} (F : Fun K "with_put" "with_put" s_with_put f fd) (Z : Blt mg) (CC : Cons mg) (b : Binds K fd ["held", "place", "number"] []) (kp : PySem.W.keepIn K (.ref f) = true) (m : mg "with_put" = some (.ref f))
    (D_single : Def P w K mg base k "single" ["number"] sp_single) (D_paired : Def P w K mg base k "paired" ["left", "right"] sp_paired) (D_many_of : Def P w K mg base k "many_of" ["held"] sp_many) : ∀ d, FnOk P w K mg base CX0 (k + d) f fd ["held", "place", "number"] (sp_put d)
  | 0 => none_put
  | d + 1 => ok_put F Z CC (D_single.mono (Nat.le_add_right _ _)) (D_paired.mono (Nat.le_add_right _ _)) (D_many_of.mono (Nat.le_add_right _ _)) ⟨f, fd, rec_put F Z CC b kp m D_single D_paired D_many_of d, b, kp, m⟩
def sp_rpl : Sp := fun vs H Q _ => ∃ (d : Nat) (p : Addr) (i : Int) (ns : List Int), vs = [.ref p, .int i] ∧ IsKept H d p ns ∧ 0 ≤ i ∧ i < (ns.length : Int) ∧ Q .non H
theorem ok_rpl {P : Program} {w : World} {K : PySem.W.Frag} {mg : Str → Option Value} {base : Heap} {k : Nat} {f : Addr} {fd : FuncData} (F : Fun K "refuse_place" "refuse_place" s_refuse_place f fd) (Z : Blt mg)
    (D_is_whole : Def P w K mg base k "is_whole" ["thing"] sp_whole) (D_many_of : Def P w K mg base k "many_of" ["held"] sp_many) : FnOk P w K mg base CX0 (k + 1) f fd ["held", "place"] sp_rpl := by
  refine F.ok sc_refuse_place (fun vs H Q E h => ?_) (fun cdv A outer s H vs Q E hr h => ?_)
  · obtain ⟨d, p, i, ns, rfl, _⟩ := h
    rfl
  obtain ⟨d, p, i, ns, rfl, hk, h0, h1, fin⟩ := h
  apply Exists.intro
  apply And.intro
  case left =>
    apply pss_one
    apply ps_if
    case hc => exact (PW.pt (pw_or (pt_not (pt_val (pe_def D_is_whole hr rfl (pa_cons (pv 1) pa_nil)))) (pw_or1 (pt_not (pt_chain op_le op_lt pe_int (pv 1) (pe_def D_many_of hr rfl (pa_cons (pv 0) pa_nil)))))))
    case ha =>
      apply pss_one
      exact ps_never
    case hb =>
      exact pss_nil
  walk_at "rd"
  refine ifD (fun _ => ?_) (fun z => absurd h0 z)
  walk_at "rd"
  refine ⟨d, p, ns, rfl, hk, ?_⟩
  walk_at "rd"
  rw [decide_eq_true h1]
  exact fin
/-- changes: a list of tuples -/
def Chg (H : Hp) : List V → List (Int × Int) → Prop
  | [], [] => True
  | x :: xs, c :: cs => (∃ p, x = .ref p ∧ H p = some (.tup [.int c.1, .int c.2])) ∧ Chg H xs cs
  | _, _ => False
theorem Chg.keep {H H' : Hp} (s : Same H H') : ∀ {xs : List V} {cs : List (Int × Int)}, Chg H xs cs → Chg H' xs cs
  | [], [], _ => trivial
  | x :: xs, c :: cs, ⟨⟨p, e, h⟩, t⟩ => ⟨⟨p, e, s _ _ h⟩, Chg.keep s t⟩
  | [], _ :: _, h => h.elim
  | _ :: _, [], h => h.elim
theorem Chg.keepX {H H' : Hp} {q : Addr} (hq : ∃ xs, H q = some (.lst xs)) (s : SameX q H H') : ∀ {xs : List V} {cs : List (Int × Int)}, Chg H xs cs → Chg H' xs cs
  | [], [], _ => trivial
  | x :: xs, c :: cs, ⟨⟨p, e, h⟩, t⟩ => ⟨⟨p, e, s _ _ (fun z => by obtain ⟨ys, hq⟩ := hq; rw [z, hq] at h; cases h) h⟩, Chg.keepX hq s t⟩
  | [], _ :: _, h => h.elim
  | _ :: _, [], h => h.elim
theorem Chg.len {H : Hp} : ∀ {xs : List V} {cs : List (Int × Int)}, Chg H xs cs → xs.length = cs.length
  | [], [], _ => rfl
  | x :: xs, c :: cs, ⟨_, t⟩ => by rw [List.length_cons, List.length_cons, Chg.len t]
  | [], _ :: _, h => h.elim
  | _ :: _, [], h => h.elim
theorem Chg.at {H : Hp} : ∀ {xs : List V} {cs : List (Int × Int)} {i : Nat} {x : V}, Chg H xs cs → xs[i]? = some x → ∃ p c, x = .ref p ∧ cs[i]? = some c ∧ H p = some (.tup [.int c.1, .int c.2])
  | x :: xs, c :: cs, 0, y, ⟨⟨p, e, h⟩, _⟩, ey => by simp at ey; subst ey; exact ⟨p, c, e, rfl, h⟩
  | x :: xs, c :: cs, i + 1, y, ⟨_, t⟩, ey => by
    obtain ⟨p, c', e, e', h⟩ := Chg.at (i := i) (x := y) t (by simpa using ey)
    exact ⟨p, c', e, by simpa using e', h⟩
  | [], [], _, _, _, e => by simp at e
  | [], _ :: _, _, _, h, _ => h.elim
  | _ :: _, [], _, _, h, _ => h.elim
theorem Chg.append {H : Hp} : ∀ {xs ys : List V} {cs ds : List (Int × Int)}, Chg H xs cs → Chg H ys ds → Chg H (xs ++ ys) (cs ++ ds)
  | [], _, [], _, _, h => h
  | x :: xs, _, c :: cs, _, ⟨a, t⟩, h => ⟨a, Chg.append t h⟩
  | [], _, _ :: _, _, h, _ => h.elim
  | _ :: _, _, [], _, h, _ => h.elim
def putAll (ns : List Int) : List (Int × Int) → List Int
  | [] => ns
  | c :: cs => putAll (ns.set c.1.toNat c.2) cs
theorem putAll_len : ∀ {cs : List (Int × Int)} {ns : List Int}, (putAll ns cs).length = ns.length
  | [], _ => rfl
  | c :: cs, ns => by rw [putAll, putAll_len, List.length_set]
theorem putAll_append : ∀ {cs ds : List (Int × Int)} {ns : List Int}, putAll ns (cs ++ ds) = putAll (putAll ns cs) ds
  | [], _, _ => rfl
  | c :: cs, ds, ns => by rw [List.cons_append, putAll, putAll_append, putAll]
theorem putAll_step {cs : List (Int × Int)} {ns : List Int} {i : Nat} {c : Int × Int} (h : cs[i]? = some c) : putAll ns (cs.take (i + 1)) = (putAll ns (cs.take i)).set c.1.toNat c.2 := by
  obtain ⟨hi, rfl⟩ := List.getElem?_eq_some_iff.mp h
  rw [List.take_succ_eq_append_getElem hi, putAll_append]
  rfl
def InRow (m : Int) (cs : List (Int × Int)) : Prop := ∀ c, c ∈ cs → 0 ≤ c.1 ∧ c.1 < m
def sp_changed : Sp := fun vs H Q _ => ∃ (p l : Addr) (ns : List Int) (xs : List V) (cs : List (Int × Int)), vs = [.ref p, .ref l] ∧ IsKept H 13 p ns ∧ H l = some (.lst xs) ∧ Chg H xs cs ∧ InRow ns.length cs ∧
  ∀ t H', Same H H' → IsKept H' 13 t (putAll ns cs) → (cs = [] → t = p) → Q (.ref t) H'
theorem ok_changed {P : Program} {w : World} {K : PySem.W.Frag} {mg : Str → Option Value} {base : Heap} {k : Nat} {f : Addr} {fd : FuncData} (F : Fun K "changed" "changed" s_changed f fd) (Z : Blt mg)
    (D_refuse_place : Def P w K mg base k "refuse_place" ["held", "place"] sp_rpl) (D_with_put : Def P w K mg base k "with_put" ["held", "place", "number"] (sp_put 13)) : FnOk P w K mg base CX0 (k + 1) f fd ["held", "changes"] sp_changed := by
  refine F.ok sc_changed (fun vs H Q E h => ?_) (fun cdv A outer s H vs Q E hr h => ?_)
  · obtain ⟨p, l, ns, xs, cs, rfl, _⟩ := h
    rfl
  obtain ⟨p, l, ns, xs, cs, rfl, hk, hl, hc, hin, fin⟩ := h
  apply Exists.intro
  apply And.intro
  case left =>
    apply pss_cons
    case h1 =>
      exact (ps_set (i := 2) sc_changed.nd rfl (by first | exact Or.inl rfl | exact Or.inr rfl) (pv 0))
    apply pss_cons
    case h1 =>
      apply ps_for PassesOwn.never rfl
      case hi => exact (pi_list (pv 1))
      case hg => exact (pg_name (i := 3) sc_changed.nd rfl (by first | exact Or.inl rfl | exact Or.inr rfl))
      case hb =>
        apply pss_cons
        case h1 =>
          exact (ps_expr (pe_def D_refuse_place hr rfl (pa_cons (pv 0) (pa_cons (pe_ix ix_tup (pv 3) pe_int (fun _ _ => rfl)) pa_nil))))
        apply pss_one
        exact (ps_set (i := 2) sc_changed.nd rfl (by first | exact Or.inl rfl | exact Or.inr rfl) (pe_def D_with_put hr rfl (pa_cons (pv 2) (pa_cons (pe_ix ix_tup (pv 3) pe_int (fun _ _ => rfl)) (pa_cons (pe_ix ix_tup (pv 3) pe_int (fun _ _ => rfl)) pa_nil)))))
    apply pss_one
    exact (ps_ret (pv 2))
  walk_at "rd"
  refine ⟨⟨_, SqL.of hl⟩, ?_⟩
  refine for_list (xs := xs) (fun i σ H' => ∃ t o, Same H H' ∧ IsKept H' 13 t (putAll ns (cs.take i)) ∧ (cs.take i = [] → t = p) ∧ σ = [some (.ref p), some (.ref l), some (.ref t), o]) ⟨p, none, Same.refl _, hk, fun _ => rfl, rfl⟩ ?_ ?_ ?_
  · rintro i σ H' _ ⟨t, o, sm, _⟩
    exact SqL.of (sm _ _ hl)
  · rintro i x σ H1 hx ⟨t, o, sm, hk1, _, rfl⟩
    obtain ⟨q, c, rfl, hc1, hq⟩ := (hc.keep sm).at hx
    have hcm := hin c (List.mem_of_getElem? hc1)
    walk_at "rd"
    refine ⟨_, _, _, _, rfl, rfl, SqT.of hq, rfl, ?_⟩
    refine ⟨13, p, _, ns, rfl, hk.keep sm, hcm.1, hcm.2, ?_⟩
    walk_at "rd"
    refine ⟨_, _, _, _, rfl, rfl, SqT.of hq, rfl, ?_⟩
    walk_at "rd"
    refine ⟨_, _, _, _, rfl, rfl, SqT.of hq, rfl, ?_⟩
    refine ⟨t, _, _, _, rfl, hk1, hcm.1, by rw [putAll_len]; exact hcm.2, fun t2 H2 s2 hk2 => ?_⟩
    refine ⟨t2, _, sm.trans s2, by rw [putAll_step hc1]; exact hk2, fun z => ?_, rfl⟩
    have hi := (List.getElem?_eq_some_iff.mp hc1).1
    have e := congrArg List.length z
    rw [List.length_take, List.length_nil] at e
    (first | lia | omega)
  · rintro σ H1 ⟨t, o, sm, hk1, ht, rfl⟩
    walk_at "rd"
    rw [hc.len, List.take_of_length_le (Nat.le_refl _)] at hk1 ht
    exact fin t H1 sm hk1 ht
/-! ### pots -/
def sp_next : Sp := fun vs H Q _ => ∃ (q : Addr) (m : Int), vs = [.ref q, .int m] ∧ Pot H q ∧ 1 ≤ m ∧ m ≤ 1000000000 ∧ ∀ (n : Int) (H' : Hp), SameX q H H' → Pot H' q → 0 ≤ n → n < m → Q (.int n) H'
theorem ok_next {P : Program} {w : World} {K : PySem.W.Frag} {mg : Str → Option Value} {base : Heap} {k : Nat} {f : Addr} {fd : FuncData} (F : Fun K "_law_next" "_law_next" s_law_next f fd) (Z : Blt mg) : FnOk P w K mg base CX0 (k + 1) f fd ["pot", "many"] sp_next := by
  refine F.ok sc_law_next (fun vs H Q E h => ?_) (fun cdv A outer s H vs Q E hr h => ?_)
  · obtain ⟨q, m, rfl, _⟩ := h
    rfl
  obtain ⟨q, m, rfl, ⟨a, b, hq⟩, hm1, hm2, fin⟩ := h
  apply Exists.intro
  apply And.intro
  case left =>
    apply pss_cons
    case h1 =>
      exact (ps_asg (pe_op op_add (pe_ix ix_list (pv 0) pe_int (fun _ _ => rfl)) pe_int) (pg_sub (pv 0) pe_int set_list (fun _ => rfl)))
    apply pss_cons
    case h1 =>
      exact (ps_set (i := 2) sc_law_next.nd rfl (by first | exact Or.inl rfl | exact Or.inr rfl) (pe_ix ix_list (pv 0) pe_int (fun _ _ => rfl)))
    apply pss_cons
    case h1 =>
      apply ps_if
      case hc => exact (pt_cmpR op_ge (pv 2) (pe_op op_pow pe_int pe_int) (nomark _))
      case ha =>
        apply pss_cons
        case h1 =>
          exact (ps_asg (pe_op op_fdiv (pv 2) (pv 1)) (pg_sub (pv 0) pe_int set_list (fun _ => rfl)))
        apply pss_one
        exact (ps_ret (pe_op op_mod (pv 2) (pv 1)))
      case hb =>
        exact pss_nil
    apply pss_cons
    case h1 =>
      exact (ps_set (i := 3) sc_law_next.nd rfl (by first | exact Or.inl rfl | exact Or.inr rfl) (pe_op op_mod (pe_op op_add (pe_op op_add (pe_op op_mul (pv 2) pe_int) (pe_op op_mul (pe_ix ix_list (pv 0) pe_int (fun _ _ => rfl)) pe_int)) pe_int) pe_int))
    apply pss_cons
    case h1 =>
      exact (ps_set (i := 3) sc_law_next.nd rfl (by first | exact Or.inl rfl | exact Or.inr rfl) (pe_op op_mod (pe_op op_mul (pv 3) (pv 3)) pe_int))
    apply pss_one
    exact (ps_ret (pe_op op_mod (pe_op op_fdiv (pe_op op_mod (pe_op op_add (pe_op op_mul (pv 3) pe_int) (pe_op op_mul (pe_ix ix_list (pv 0) pe_int (fun _ _ => rfl)) pe_int)) pe_int) pe_int) (pv 1)))
  walk_at "rd"
  refine ⟨q, _, 1, _, rfl, rfl, SqL.of hq, rfl, ?_⟩
  walk_at "rd"
  refine ⟨q, _, 1, 1, rfl, rfl, hq, rfl, ?_⟩
  obtain ⟨H1, eH1⟩ : ∃ z, z = upd H q (.lst [.int a, .int (b + 1)]) := ⟨_, rfl⟩
  have hq1 : H1 q = some (.lst [.int a, .int (b + 1)]) := by rw [eH1]; exact upd_same
  have s1 : SameX q H H1 := fun c o hc e => by rw [eH1, upd_ne hc]; exact e
  show tSeq _ _ _ _ (upd H q (.lst [.int a, .int (b + 1)]))
  rw [← eH1]
  walk_at "rd"
  refine ⟨q, _, 0, _, rfl, rfl, SqL.of hq1, rfl, ?_⟩
  walk_at "rd"
  refine ifD (fun hge => ?_) (fun hge => ?_)
  · walk_at "rd"
    refine ⟨⟨by (first | lia | omega), by (first | lia | omega)⟩, ?_⟩
    walk_at "rd"
    refine ⟨q, _, 0, 0, rfl, rfl, hq1, rfl, ?_⟩
    walk_at "rd"
    refine ⟨by (first | lia | omega), ?_⟩
    have mm := mod_lt (a := a) (b := m) (by (first | lia | omega))
    exact fin _ _ (s1.trans fun c o hc e => by rw [upd_ne hc]; exact e) ⟨_, _, upd_same⟩ mm.1 mm.2
  · walk_at "rd"
    refine ⟨q, _, 1, _, rfl, rfl, SqL.of hq1, rfl, ?_⟩
    walk_at "rd"
    have m1 := mod_lt (a := a * 69621 + (b + 1) * 7919 + 13) (b := 2147483647) (by decide)
    obtain ⟨x, ex⟩ : ∃ x, x = (a * 69621 + (b + 1) * 7919 + 13) % 2147483647 := ⟨_, rfl⟩
    rw [← ex] at m1
    refine ⟨cMulL' (by rw [← ex]; (first | lia | omega)) (by rw [← ex]; (first | lia | omega)), ?_⟩
    walk_at "rd"
    refine ⟨q, _, 1, _, rfl, rfl, SqL.of hq1, rfl, ?_⟩
    walk_at "rd"
    refine ⟨by (first | lia | omega), ?_⟩
    exact fin _ _ s1 ⟨_, _, hq1⟩ (mod_lt (by (first | lia | omega))).1 (mod_lt (by (first | lia | omega))).2
/-! ### the pots, a number, a row -/
def PotsAt (H : Hp) (l : Addr) (ps : List Addr) : Prop := H l = some (.lst (ps.map V.ref)) ∧ ∀ p, p ∈ ps → Pot H p
def sp_pots : Sp := fun vs H Q _ => ∃ (a : Addr) (ns : List Int), vs = [.ref a] ∧ H a = some (.lst (ns.map V.int)) ∧ ns.length ≤ 63 ∧ ∀ (l : Addr) (ps : List Addr) (H' : Hp), Same H H' → PotsAt H' l ps → ps.length ≤ 63 → Q (.ref l) H'
def sp_pots1 : Sp := fun vs H Q _ => ∃ (a : Addr) (ns : List Int), vs = [.ref a] ∧ H a = some (.lst (ns.map V.int)) ∧ ns.length ≤ 63 ∧ ∀ (l : Addr) (ps : List Addr) (H' : Hp), Same H H' → PotsAt H' l ps → ps.length ≤ 63 → 1 ≤ ps.length → Q (.ref l) H'
theorem ok_pots1 {P : Program} {w : World} {K : PySem.W.Frag} {mg : Str → Option Value} {base : Heap} {k : Nat} {f : Addr} {fd : FuncData} (F : Fun K "_law_pots" "_law_pots" s_law_pots f fd) (Z : Blt mg) : FnOk P w K mg base CX0 (k + 1) f fd ["script"] sp_pots1 := by
  refine F.ok sc_law_pots (fun vs H Q E h => ?_) (fun cdv A outer s H vs Q E hr h => ?_)
  · obtain ⟨a, ns, rfl, _⟩ := h
    rfl
  obtain ⟨a, ns, rfl, ha, hz, q⟩ := h
  apply Exists.intro
  apply And.intro
  case left =>
    apply pss_cons
    case h1 =>
      apply ps_if
      case hc => exact (pt_cmpR op_eq (pe_callB call_len_seq rfl Z.len_ PySem.boot_len (pa_cons (pv 0) pa_nil)) pe_int (nomark _))
      case ha =>
        apply pss_one
        exact (ps_ret (pe_lst (pa_cons (pe_lst (pa_cons pe_int (pa_cons pe_int pa_nil))) pa_nil)))
      case hb =>
        exact pss_nil
    apply pss_one
    exact (ps_ret (pe_lc (N' := ["cell"]) (ix := [none]) rfl rfl (by decide +kernel) rfl rfl rfl rfl (pi_list (pe_slice sl_list (pv 0) po_none (po_some pe_int))) (fun _ _ _ _ => (pg_name (i := 0) (show List.Nodup (["cell"] : List Str) by decide +kernel) rfl (by first | exact Or.inl rfl | exact Or.inr rfl))) (fun _ _ _ _ => pts_nil) (fun _ _ _ _ => (pe_lst (pa_cons (pv 0) (pa_cons pe_int pa_nil))))))
  have hl : (ns.map V.int).length = ns.length := List.length_map _
  walk_at "rd"
  refine ⟨a, _, rfl, .inl (SqL.of ha), ?_⟩
  walk_at "rd"
  refine ifI (fun he => ?_) (fun hne => ?_)
  · walk_at "rd"
    refine ⟨by show 2 ≤ sizeLine; decide, fun p1 hp1 => ?_⟩
    walk_at "rd"
    refine ⟨by show 1 ≤ sizeLine; decide, fun p2 hp2 => ?_⟩
    have s2 := Same.new hp2 (.lst [.ref p1])
    refine q p2 [p1] _ ((Same.new hp1 _).trans s2) ⟨upd_same, fun p hp => ?_⟩ (by show 1 ≤ 63; decide) (by show 1 ≤ 1; decide)
    rw [List.mem_singleton] at hp
    subst hp
    exact ⟨0, 0, s2 _ _ upd_same⟩
  · walk_at "rd"
    refine ⟨a, _, rfl, SqL.of ha, fun l0 hl0 => ?_⟩
    have s0 := Same.new hl0 (.lst (cutV (ns.map V.int) none (some 63)))
    have ec : cutV (ns.map V.int) none (some 63) = ns.map V.int := (cut_front (m := 63)).trans (by rw [List.take_of_length_le hz])
    have hl1 : upd H l0 (.lst (cutV (ns.map V.int) none (some 63))) l0 = some (.lst (ns.map V.int)) := by rw [upd_same, ec]
    walk_at "rd"
    refine ⟨⟨_, SqL.of hl1⟩, ?_⟩
    obtain ⟨H1, eH1⟩ : ∃ z, z = upd H l0 (.lst (cutV (ns.map V.int) none (some 63))) := ⟨_, rfl⟩
    rw [← eH1] at s0 hl1 ⊢
    intro acc hacc
    refine comp_by (n := ns.length) (fun i τ zs H' => H' acc = some (.lst zs) ∧ (∃ ps : List Addr, ps.length = i ∧ zs = ps.map V.ref ∧ ∀ p, p ∈ ps → Pot H' p) ∧ Same H1 H' ∧ ∃ o0, τ = [o0]) ⟨upd_same, ⟨[], rfl, rfl, fun p hp => by cases hp⟩, Same.new hacc _, none, rfl⟩ (by (first | lia | omega)) ?_ ?_ ?_ ?_
    · rintro i τ zs H' ⟨e, ⟨ms, hm, rfl, _⟩, _⟩
      exact ⟨e, by rw [List.length_map]; (first | lia | omega)⟩
    · rintro i τ zs H' hi ⟨e, _, sm, _⟩
      exact ⟨_, V.int ns[i], SqL.of (sm _ _ hl1), by rw [List.getElem?_map, List.getElem?_eq_getElem hi]; rfl⟩
    · rintro τ zs H' ⟨e, ⟨ps, hm, rfl, hp⟩, sm, _⟩
      refine ⟨⟨_, SqL.of (sm _ _ hl1), by rw [hl]; exact Nat.le_refl _⟩, ?_⟩
      exact q acc ps H' (s0.trans sm) ⟨e, hp⟩ (by (first | lia | omega)) (by rw [hm]; rw [hl] at hne; (first | lia | omega))
    · rintro i τ zs H' v H2 hi ⟨e, ⟨ps, hm, rfl, hp⟩, sm, o0, rfl⟩ ⟨rfl, y⟩
      have ey := y _ (SqL.of (sm _ _ hl1))
      obtain ⟨_, rfl⟩ := int_at ey
      walk_at "rd"
      refine ⟨by show 2 ≤ sizeLine; decide, fun p1 hp1 => ?_⟩
      have s3 := Same.new hp1 (.lst [.int ns[i], .int 0])
      have e3 := s3 _ _ e
      refine ⟨e3, Nx.mk hi ⟨upd_same, ⟨ps ++ [p1], by rw [List.length_append, List.length_singleton, hm], by rw [List.map_append]; rfl, fun p hp' => ?_⟩, ?_, _, rfl⟩⟩
      · have np : p ≠ acc := fun z => by
          subst z
          rcases List.mem_append.mp hp' with z | z
          · obtain ⟨x, y, e'⟩ := hp p z
            rw [e] at e'
            cases ps with
            | nil => cases z
            | cons p0 ps => simp at e'
          · rw [List.mem_singleton] at z
            subst z
            rw [e] at hp1
            cases hp1
        rcases List.mem_append.mp hp' with z | z
        · obtain ⟨x, y, e'⟩ := hp p z
          exact ⟨x, y, by rw [upd_ne np]; exact s3 _ _ e'⟩
        · rw [List.mem_singleton] at z
          subst z
          exact ⟨_, _, by rw [upd_ne np]; exact upd_same⟩
      · exact (sm.trans s3).upd hacc
/-! ### tuples stay where a list is changed -/
def SameT (H H' : Hp) : Prop := ∀ b xs, H b = some (.tup xs) → H' b = some (.tup xs)
theorem SameX.tups {H H' : Hp} {q : Addr} (s : SameX q H H') (hq : Pot H q) : SameT H H' := fun b xs e => s b _ (fun z => by obtain ⟨x, y, e'⟩ := hq; rw [z, e'] at e; cases e) e
theorem IsRd.keepT {H H' : Hp} {v : V} {o : Option Sx} (h : IsRd H v o) (s : SameT H H') : IsRd H' v o := by
  cases o with
  | none => exact h
  | some x => obtain ⟨p, e, hp⟩ := h; exact ⟨p, e, s _ _ hp⟩
theorem IsKn.keepT {H H' : Hp} {p : Addr} {a : Kn} (h : IsKn H p a) (s : SameT H H') : IsKn H' p a := by
  obtain ⟨pb, ph, pt, vr, h1, h2, h3, h4, h5⟩ := h.ex
  exact ⟨pb, ph, pt, vr, s _ _ h1, s _ _ h2, s _ _ h3, s _ _ h4, h5.keepT s⟩
theorem IsKept.keepT {H H' : Hp} {d : Nat} {p : Addr} {ns : List Int} (h : IsKept H d p ns) (s : SameT H H') : IsKept H' d p ns := by
  induction h with
  | leaf h hk => exact .leaf (s _ _ h) (hk.keepT s)
  | node h hk ok _ _ hm ihl ihr => exact .node (s _ _ h) (hk.keepT s) ok ihl ihr hm
/-! ### parts of a kept row -/
theorem cut_left {xs ys : List Int} {f b : Int} (h0 : 0 ≤ f) (h1 : f ≤ b) (h2 : b ≤ (xs.length : Int)) : cutI (xs ++ ys) f b = cutI xs f b := by
  unfold cutI
  rw [List.drop_append_of_le_length (by (first | lia | omega)), List.take_append_of_le_length (by rw [List.length_drop]; (first | lia | omega))]
theorem cut_right {xs ys : List Int} {f b : Int} (h0 : (xs.length : Int) ≤ f) (h1 : f ≤ b) : cutI (xs ++ ys) f b = cutI ys (f - (xs.length : Int)) (b - (xs.length : Int)) := by
  unfold cutI
  have e1 : f.toNat = xs.length + (f - (xs.length : Int)).toNat := by (first | lia | omega)
  have e2 : b.toNat - f.toNat = (b - (xs.length : Int)).toNat - (f - (xs.length : Int)).toNat := by (first | lia | omega)
  rw [e2, e1, ← List.drop_drop, List.drop_left' rfl]
def sp_known (d : Nat) : Sp := fun vs H Q _ => ∃ (p : Addr) (f b : Int) (ns : List Int), vs = [.ref p, .int f, .int b] ∧ IsKept H d p ns ∧ 0 ≤ f ∧ f < b ∧ b ≤ (ns.length : Int) ∧ ∀ kp a H', Same H H' → IsKn H' kp a → KnOk a (cutI ns f b) → Q (.ref kp) H'
theorem none_known {P : Program} {w : World} {K : PySem.W.Frag} {mg : Str → Option Value} {base : Heap} {k : Nat} {f : Addr} {fd : FuncData} {ps : List Str} : FnOk P w K mg base CX0 k f fd ps (sp_known 0) := by
  have no : ∀ vs H Q E, ¬ sp_known 0 vs H Q E := fun vs H Q E h => by
    obtain ⟨p, f, b, ns, _, hk, _⟩ := h
    cases hk
  exact ⟨fun vs H Q E h => absurd h (no vs H Q E), fun A outer s H args us vs Q E _ _ _ _ h => absurd h (no vs H Q E)⟩
theorem ok_known {P : Program} {w : World} {K : PySem.W.Frag} {mg : Str → Option Value} {base : Heap} {k d : Nat} {f : Addr} {fd : FuncData} (F : Fun K "known_of" "known_of" s_known_of f fd) (Z : Blt mg) (CC : Cons mg)
    (D_joined : Def P w K mg base k "joined" ["one", "other"] sp_joined) (D_many_of : Def P w K mg base k "many_of" ["held"] sp_many) (D_known_of : Def P w K mg base k "known_of" ["held", "first", "beyond"] (sp_known d)) : FnOk P w K mg base CX0 (k + 1) f fd ["held", "first", "beyond"] (sp_known (d + 1)) := by
  refine F.ok sc_known_of (fun vs H Q E h => ?_) (fun cdv A outer s H vs Q E hr h => ?_)
  · obtain ⟨p, f, b, ns, rfl, _⟩ := h
    rfl
  obtain ⟨p, f, b, ns, rfl, hk, h0, h1, h2, fin⟩ := h
  apply Exists.intro
  apply And.intro
  case left =>
    apply pss_cons
    case h1 =>
      apply ps_if
      case hc => exact (PW.pt (pw_and (pt_cmpR op_eq (pv 1) pe_int (nomark _)) (pw_and1 (pt_cmpR op_eq (pv 2) (pe_def D_many_of hr rfl (pa_cons (pv 0) pa_nil)) (nomark _)))))
      case ha =>
        apply pss_one
        exact (ps_ret (pe_ix ix_tup (pv 0) (pe_conI (n := 0) rfl CC.KNOWN) (fun _ _ => rfl)))
      case hb =>
        exact pss_nil
    apply pss_cons
    case h1 =>
      exact (ps_set (i := 3) sc_known_of.nd rfl (by first | exact Or.inl rfl | exact Or.inr rfl) (pe_def D_many_of hr rfl (pa_cons (pe_ix ix_tup (pv 0) (pe_conI (n := 1) rfl CC.LEFT) (fun _ _ => rfl)) pa_nil)))
    apply pss_cons
    case h1 =>
      apply ps_if
      case hc => exact (pt_cmpR op_le (pv 2) (pv 3) (nomark _))
      case ha =>
        apply pss_one
        exact (ps_ret (pe_def D_known_of hr rfl (pa_cons (pe_ix ix_tup (pv 0) (pe_conI (n := 1) rfl CC.LEFT) (fun _ _ => rfl)) (pa_cons (pv 1) (pa_cons (pv 2) pa_nil)))))
      case hb =>
        exact pss_nil
    apply pss_cons
    case h1 =>
      apply ps_if
      case hc => exact (pt_cmpR op_ge (pv 1) (pv 3) (nomark _))
      case ha =>
        apply pss_one
        exact (ps_ret (pe_def D_known_of hr rfl (pa_cons (pe_ix ix_tup (pv 0) (pe_conI (n := 2) rfl CC.RIGHT) (fun _ _ => rfl)) (pa_cons (pe_op op_sub (pv 1) (pv 3)) (pa_cons (pe_op op_sub (pv 2) (pv 3)) pa_nil)))))
      case hb =>
        exact pss_nil
    apply pss_one
    exact (ps_ret (pe_def D_joined hr rfl (pa_cons (pe_def D_known_of hr rfl (pa_cons (pe_ix ix_tup (pv 0) (pe_conI (n := 1) rfl CC.LEFT) (fun _ _ => rfl)) (pa_cons (pv 1) (pa_cons (pv 3) pa_nil)))) (pa_cons (pe_def D_known_of hr rfl (pa_cons (pe_ix ix_tup (pv 0) (pe_conI (n := 2) rfl CC.RIGHT) (fun _ _ => rfl)) (pa_cons pe_int (pa_cons (pe_op op_sub (pv 2) (pv 3)) pa_nil)))) pa_nil))))
  obtain ⟨kp, a, x, y, e, kn, ok⟩ := hk.known
  have whole : f = 0 → b = (ns.length : Int) → cutI ns f b = ns := fun z1 z2 => by rw [z1, z2]; exact cut_whole
  have one : (f = 0 ∧ b = (ns.length : Int)) → Q (.ref kp) H := fun z => fin kp a H (Same.refl _) kn (by rw [whole z.1 z.2]; exact ok)
  have two : ¬ (f = 0 ∧ b = (ns.length : Int)) → ∃ l r xs ys, H p = some (.tup [.ref kp, .ref l, .ref r]) ∧ ns = xs ++ ys ∧ IsKept H d l xs ∧ IsKept H d r ys := fun z => by
    cases hk with
    | @leaf _ _ kp n h hk => exact absurd ⟨by simp only [List.length_singleton] at h2; (first | lia | omega), by simp only [List.length_singleton] at h2 ⊢; (first | lia | omega)⟩ z
    | @node _ _ kp' l r xs ys a h hk ok hl hr' hm =>
      rw [h] at e
      injection e with e1
      injection e1 with e1
      injection e1 with e1 e2
      injection e1 with e1
      subst e1
      exact ⟨l, r, xs, ys, h, rfl, hl, hr'⟩
  refine seqU (fun σ' H' => H = H' ∧ ¬ (f = 0 ∧ b = (ns.length : Int)) ∧ σ' = [some (.ref p), some (.int f), some (.int b), none]) ?_ (fun R hR => ?_)
  case refine_2 =>
    walk_at "rd"
    refine ifI (fun he => ?_) (fun hne => ?_)
    · walk_at "rd"
      refine ⟨_, p, ns, rfl, hk, ?_⟩
      walk_at "rd"
      refine ifI (fun he2 => ?_) (fun hne2 => ?_)
      · walk_at "rd"
        refine ⟨_, _, _, _, rfl, rfl, SqT.of e, rfl, ?_⟩
        exact one ⟨he, he2⟩
      · exact hR _ _ ⟨rfl, fun z => hne2 z.2, rfl⟩
    · exact hR _ _ ⟨rfl, fun z => hne z.1, rfl⟩
  rintro _ _ ⟨rfl, hno, rfl⟩
  obtain ⟨l, r, xs, ys, hp, rfl, hl, hr'⟩ := two hno
  rw [List.length_append] at h2
  walk_at "rd"
  refine ⟨_, _, _, _, rfl, rfl, SqT.of hp, rfl, ?_⟩
  refine ⟨d, l, xs, rfl, hl, ?_⟩
  walk_at "rd"
  refine ifD (fun hb => ?_) (fun hb => ?_)
  · walk_at "rd"
    refine ⟨_, _, _, _, rfl, rfl, SqT.of hp, rfl, ?_⟩
    walk_at "rd"
    refine ⟨l, f, b, xs, rfl, hl, h0, h1, hb, fun kp a H' s1 hk1 ok1 => ?_⟩
    exact fin kp a H' s1 hk1 (by rw [cut_left h0 (by (first | lia | omega)) hb]; exact ok1)
  · walk_at "rd"
    refine ifD (fun hf => ?_) (fun hf => ?_)
    · walk_at "rd"
      refine ⟨_, _, _, _, rfl, rfl, SqT.of hp, rfl, ?_⟩
      walk_at "rd"
      refine ⟨r, _, _, ys, rfl, hr', by (first | lia | omega), by (first | lia | omega), by (first | lia | omega), fun kp a H' s1 hk1 ok1 => ?_⟩
      exact fin kp a H' s1 hk1 (by rw [cut_right hf (by (first | lia | omega))]; exact ok1)
    · walk_at "rd"
      refine ⟨_, _, _, _, rfl, rfl, SqT.of hp, rfl, ?_⟩
      walk_at "rd"
      refine ⟨l, f, _, xs, rfl, hl, h0, by (first | lia | omega), by (first | lia | omega), fun k1 a1 H1 s1 hk1 ok1 => ?_⟩
      walk_at "rd"
      refine ⟨_, _, _, _, rfl, rfl, SqT.of (s1 _ _ hp), rfl, ?_⟩
      walk_at "rd"
      refine ⟨r, 0, _, ys, rfl, hr'.keep s1, by decide, by (first | lia | omega), by (first | lia | omega), fun k2 a2 H2 s2 hk2 ok2 => ?_⟩
      refine ⟨k1, k2, a1, a2, rfl, hk1.keep s2, hk2, fun t H3 s3 hk3 => ?_⟩
      refine fin t _ H3 (s1.trans (s2.trans s3)) hk3 ?_
      have e1 : cutI (xs ++ ys) f b = cutI xs f (xs.length : Int) ++ cutI ys 0 (b - (xs.length : Int)) := by
        rw [← cut_join (m := (xs.length : Int)) h0 (by (first | lia | omega)) (by (first | lia | omega)), cut_left h0 (by (first | lia | omega)) (Int.le_refl _), cut_right (Int.le_refl _) (by (first | lia | omega)), Int.sub_self]
      rw [e1]
      exact join_ok ok1 ok2
theorem rec_known {P : Program} {w : World} {K : PySem.W.Frag} {mg : Str → Option Value} {base : Heap} {k : Nat} {f : Addr} {fd : FuncData} (F : Fun K "known_of" "known_of" s_known_of f fd) (Z : Blt mg) (CC : Cons mg) (b : Binds K fd ["held", "first", "beyond"] []) (kp : PySem.W.keepIn K (.ref f) = true) (m : mg "known_of" = some (.ref f))
    (D_joined : Def P w K mg base k "joined" ["one", "other"] sp_joined) (D_many_of : Def P w K mg base k "many_of" ["held"] sp_many) : ∀ d, FnOk P w K mg base CX0 (k + d) f fd ["held", "first", "beyond"] (sp_known d)
  | 0 => none_known
  | d + 1 => ok_known F Z CC (D_joined.mono (Nat.le_add_right _ _)) (D_many_of.mono (Nat.le_add_right _ _)) ⟨f, fd, rec_known F Z CC b kp m D_joined D_many_of d, b, kp, m⟩
theorem psum_all (ns : List Int) : psum ns ns.length = ns.sum := by unfold psum; rw [List.take_length]
/-! ### known_of_part -/
def sp_kpart : Sp := fun vs H Q _ => ∃ (p t : Addr) (f b : Int) (ns : List Int), vs = [.ref p, .ref t] ∧ IsKept H 13 p ns ∧ H t = some (.tup [.int f, .int b]) ∧ 0 ≤ f ∧ f < b ∧ b ≤ (ns.length : Int) ∧ ∀ kp a H', Same H H' → IsKn H' kp a → KnOk a (cutI ns f b) → Q (.ref kp) H'
theorem ok_kpart {P : Program} {w : World} {K : PySem.W.Frag} {mg : Str → Option Value} {base : Heap} {k : Nat} {f : Addr} {fd : FuncData} (F : Fun K "known_of_part" "known_of_part" s_known_of_part f fd) (Z : Blt mg)
    (D_is_stretch : Def P w K mg base k "is_stretch" ["stretch", "many"] sp_isstretch) (D_many_of : Def P w K mg base k "many_of" ["held"] sp_many) (D_known_of : Def P w K mg base k "known_of" ["held", "first", "beyond"] (sp_known 13)) : FnOk P w K mg base CX0 (k + 1) f fd ["held", "stretch"] sp_kpart := by
  refine F.ok sc_known_of_part (fun vs H Q E h => ?_) (fun cdv A outer s H vs Q E hr h => ?_)
  · obtain ⟨p, t, f, b, ns, rfl, _⟩ := h
    rfl
  obtain ⟨p, t, f, b, ns, rfl, hk, ht, h0, h1, h2, fin⟩ := h
  apply Exists.intro
  apply And.intro
  case left =>
    apply pss_cons
    case h1 =>
      apply ps_if
      case hc => exact (pt_not (pt_val (pe_def D_is_stretch hr rfl (pa_cons (pv 1) (pa_cons (pe_def D_many_of hr rfl (pa_cons (pv 0) pa_nil)) pa_nil)))))
      case ha =>
        apply pss_one
        exact ps_never
      case hb =>
        exact pss_nil
    apply pss_one
    exact (ps_ret (pe_def D_known_of hr rfl (pa_cons (pv 0) (pa_cons (pe_ix ix_tup (pv 1) pe_int (fun _ _ => rfl)) (pa_cons (pe_ix ix_tup (pv 1) pe_int (fun _ _ => rfl)) pa_nil)))))
  walk_at "rd"
  refine ⟨_, p, ns, rfl, hk, ?_⟩
  refine ⟨t, f, b, _, rfl, ht, _, rfl, ?_⟩
  rw [decide_eq_true (show 0 ≤ f ∧ f < b ∧ b ≤ ((ns.length : Nat) : Int) from ⟨h0, h1, h2⟩)]
  refine iteF ?_
  walk_at "rd"
  refine ⟨_, _, _, _, rfl, rfl, SqT.of ht, rfl, ?_⟩
  walk_at "rd"
  refine ⟨_, _, _, _, rfl, rfl, SqT.of ht, rfl, ?_⟩
  exact ⟨p, f, b, ns, rfl, hk, h0, h1, h2, fin⟩
/-! ### sum_in -/
def sp_sumin : Sp := fun vs H Q _ => ∃ (p t : Addr) (f b : Int) (ns : List Int), vs = [.ref p, .ref t] ∧ IsKept H 13 p ns ∧ H t = some (.tup [.int f, .int b]) ∧ 0 ≤ f ∧ f < b ∧ b ≤ (ns.length : Int) ∧ ∀ H', Same H H' → Q (.int (cutI ns f b).sum) H'
theorem ok_sumin {P : Program} {w : World} {K : PySem.W.Frag} {mg : Str → Option Value} {base : Heap} {k : Nat} {f : Addr} {fd : FuncData} (F : Fun K "sum_in" "sum_in" s_sum_in f fd) (Z : Blt mg) (CC : Cons mg)
    (D_known_of_part : Def P w K mg base k "known_of_part" ["held", "stretch"] sp_kpart) : FnOk P w K mg base CX0 (k + 1) f fd ["held", "stretch"] sp_sumin := by
  refine F.ok sc_sum_in (fun vs H Q E h => ?_) (fun cdv A outer s H vs Q E hr h => ?_)
  · obtain ⟨p, t, f, b, ns, rfl, _⟩ := h
    rfl
  obtain ⟨p, t, f, b, ns, rfl, hk, ht, h0, h1, h2, fin⟩ := h
  apply Exists.intro
  apply And.intro
  case left =>
    apply pss_one
    exact (ps_ret (pe_ix ix_tup (pe_def D_known_of_part hr rfl (pa_cons (pv 0) (pa_cons (pv 1) pa_nil))) (pe_conI (n := 1) rfl CC.TOTAL) (fun _ _ => rfl)))
  walk_at "rd"
  refine ⟨p, t, f, b, ns, rfl, hk, ht, h0, h1, h2, fun kp a H1 s1 hk1 ok1 => ?_⟩
  obtain ⟨pb, ph, pt, vr, e, _⟩ := hk1.ex
  walk_at "rd"
  refine ⟨_, _, _, _, rfl, rfl, SqT.of e, rfl, ?_⟩
  rw [ok1.total, psum_all]
  exact fin H1 s1
/-! ### best_in -/
def sp_bestin : Sp := fun vs H Q _ => ∃ (p t : Addr) (f b : Int) (ns : List Int), vs = [.ref p, .ref t] ∧ IsKept H 13 p ns ∧ H t = some (.tup [.int f, .int b]) ∧ 0 ≤ f ∧ f < b ∧ b ≤ (ns.length : Int) ∧ ∀ u x H', Same H H' → H' u = some (Tx (movedS x f)) → Top (PB (cutI ns f b)) x → Q (.ref u) H'
theorem ok_bestin {P : Program} {w : World} {K : PySem.W.Frag} {mg : Str → Option Value} {base : Heap} {k : Nat} {f : Addr} {fd : FuncData} (F : Fun K "best_in" "best_in" s_best_in f fd) (Z : Blt mg) (CC : Cons mg)
    (D_moved : Def P w K mg base k "moved" ["stretch", "places"] sp_moved) (D_known_of_part : Def P w K mg base k "known_of_part" ["held", "stretch"] sp_kpart) : FnOk P w K mg base CX0 (k + 1) f fd ["held", "stretch"] sp_bestin := by
  refine F.ok sc_best_in (fun vs H Q E h => ?_) (fun cdv A outer s H vs Q E hr h => ?_)
  · obtain ⟨p, t, f, b, ns, rfl, _⟩ := h
    rfl
  obtain ⟨p, t, f, b, ns, rfl, hk, ht, h0, h1, h2, fin⟩ := h
  apply Exists.intro
  apply And.intro
  case left =>
    apply pss_one
    exact (ps_ret (pe_def D_moved hr rfl (pa_cons (pe_ix ix_tup (pe_def D_known_of_part hr rfl (pa_cons (pv 0) (pa_cons (pv 1) pa_nil))) (pe_conI (n := 2) rfl CC.BEST) (fun _ _ => rfl)) (pa_cons (pe_ix ix_tup (pv 1) pe_int (fun _ _ => rfl)) pa_nil))))
  walk_at "rd"
  refine ⟨p, t, f, b, ns, rfl, hk, ht, h0, h1, h2, fun kp a H1 s1 hk1 ok1 => ?_⟩
  obtain ⟨pb, ph, pt, vr, e, eb, _⟩ := hk1.ex
  walk_at "rd"
  refine ⟨_, _, _, _, rfl, rfl, SqT.of e, rfl, ?_⟩
  walk_at "rd"
  refine ⟨_, _, _, _, rfl, rfl, SqT.of (s1 _ _ ht), rfl, ?_⟩
  exact ⟨pb, f, a.best, rfl, eb, fun u H2 s2 hu => fin u a.best H2 (s1.trans s2) hu ok1.best⟩
/-! ### the best of a kept row's ring -/
def rg (ns : List Int) (f m : Nat) : Int := if f + m ≤ ns.length then psum ns (f + m) - psum ns f else psum ns ns.length - psum ns f + psum ns (f + m - ns.length)
def PG (ns : List Int) (z : Sx) : Prop := ∃ f m : Nat, f < ns.length ∧ 1 ≤ m ∧ m ≤ ns.length ∧ z = ⟨rg ns f m, f, m⟩
def flatS (x : Sx) : Sx := ⟨x.s, x.f, x.b - x.f⟩
def overS (n : Int) (x : Sx) : Sx := ⟨x.s, x.f, n - x.f + x.b⟩
theorem flat_top {ns : List Int} {x : Sx} (h : Top (PB ns) x) : Top (fun z => ∃ y, PB ns y ∧ z = flatS y) (flatS x) := by
  refine ⟨⟨x, h.has, rfl⟩, ?_⟩
  rintro _ ⟨y, hy, rfl⟩
  have q := h.le y hy
  unfold Sx.le at q ⊢
  simp only [flatS]
  (first | lia | omega)
theorem over_top {ns : List Int} {n : Int} {x : Sx} (h : Top (PR ns) x) : Top (fun z => ∃ y, PR ns y ∧ z = overS n y) (overS n x) := by
  refine ⟨⟨x, h.has, rfl⟩, ?_⟩
  rintro _ ⟨y, hy, rfl⟩
  have q := h.le y hy
  unfold Sx.le at q ⊢
  simp only [overS]
  (first | lia | omega)
theorem ring_iff {ns : List Int} {z : Sx} : PG ns z ↔ (∃ y, PB ns y ∧ z = flatS y) ∨ (∃ y, PR ns y ∧ z = overS ns.length y) := by
  constructor
  · rintro ⟨f, m, hf, h1, h2, rfl⟩
    by_cases h : f + m ≤ ns.length
    · refine .inl ⟨_, ⟨f, f + m, by (first | lia | omega), h, rfl⟩, ?_⟩
      unfold rg
      rw [if_pos h]
      exact Sx.ext' rfl rfl (by show (m : Int) = ((f + m : Nat) : Int) - f; (first | lia | omega))
    · refine .inr ⟨_, ⟨f, f + m - ns.length, by (first | lia | omega), by (first | lia | omega), hf, rfl⟩, ?_⟩
      unfold rg
      rw [if_neg h]
      exact Sx.ext' rfl rfl (by show (m : Int) = (ns.length : Int) - f + ((f + m - ns.length : Nat) : Int); (first | lia | omega))
  · rintro (⟨_, ⟨f, b, h1, h2, rfl⟩, rfl⟩ | ⟨_, ⟨f, b, h1, h2, h3, rfl⟩, rfl⟩)
    · refine ⟨f, b - f, by (first | lia | omega), by (first | lia | omega), by (first | lia | omega), ?_⟩
      unfold rg
      rw [if_pos (by (first | lia | omega))]
      have e : f + (b - f) = b := by (first | lia | omega)
      rw [e]
      exact Sx.ext' rfl rfl (by show (b : Int) - f = ((b - f : Nat) : Int); (first | lia | omega))
    · refine ⟨f, ns.length - f + b, h3, by (first | lia | omega), by (first | lia | omega), ?_⟩
      unfold rg
      rw [if_neg (by (first | lia | omega))]
      have e : f + (ns.length - f + b) - ns.length = b := by (first | lia | omega)
      rw [e]
      exact Sx.ext' rfl rfl (by show (ns.length : Int) - f + b = ((ns.length - f + b : Nat) : Int); (first | lia | omega))
theorem ring_one {ns : List Int} {x : Sx} (h : Top (PB ns) x) (hn : ns.length = 1) : Top (PG ns) (flatS x) := (flat_top h).iff fun z => by
  rw [ring_iff]
  refine ⟨fun q => q.elim id ?_, .inl⟩
  rintro ⟨_, ⟨f, b, h1, h2, h3, _⟩, _⟩
  (first | lia | omega)
theorem ring_two {ns : List Int} {x y : Sx} (h : Top (PB ns) x) (g : Top (PR ns) y) : Top (PG ns) (better (flatS x) (overS ns.length y)) := Top.or (flat_top h) (over_top g) fun z => ring_iff
def sp_bround : Sp := fun vs H Q _ => ∃ (p : Addr) (ns : List Int), vs = [.ref p] ∧ IsKept H 13 p ns ∧ ∀ u x H', Same H H' → H' u = some (Tx x) → Top (PG ns) x → Q (.ref u) H'
theorem ok_bround {P : Program} {w : World} {K : PySem.W.Frag} {mg : Str → Option Value} {base : Heap} {k : Nat} {f : Addr} {fd : FuncData} (F : Fun K "best_round" "best_round" s_best_round f fd) (Z : Blt mg) (CC : Cons mg)
    (D_better_of : Def P w K mg base k "better_of" ["one", "other"] sp_better) (D_many_of : Def P w K mg base k "many_of" ["held"] sp_many) : FnOk P w K mg base CX0 (k + 1) f fd ["held"] sp_bround := by
  refine F.ok sc_best_round (fun vs H Q E h => ?_) (fun cdv A outer s H vs Q E hr h => ?_)
  · obtain ⟨p, ns, rfl, _⟩ := h
    rfl
  obtain ⟨p, ns, rfl, hk, fin⟩ := h
  apply Exists.intro
  apply And.intro
  case left =>
    apply pss_cons
    case h1 =>
      exact (ps_set (i := 1) sc_best_round.nd rfl (by first | exact Or.inl rfl | exact Or.inr rfl) (pe_ix ix_tup (pe_ix ix_tup (pv 0) (pe_conI (n := 0) rfl CC.KNOWN) (fun _ _ => rfl)) (pe_conI (n := 2) rfl CC.BEST) (fun _ _ => rfl)))
    apply pss_cons
    case h1 =>
      exact (ps_set (i := 2) sc_best_round.nd rfl (by first | exact Or.inl rfl | exact Or.inr rfl) (pe_tup (pa_cons (pe_ix ix_tup (pv 1) pe_int (fun _ _ => rfl)) (pa_cons (pe_ix ix_tup (pv 1) pe_int (fun _ _ => rfl)) (pa_cons (pe_op op_sub (pe_ix ix_tup (pv 1) pe_int (fun _ _ => rfl)) (pe_ix ix_tup (pv 1) pe_int (fun _ _ => rfl))) pa_nil)))))
    apply pss_cons
    case h1 =>
      exact (ps_set (i := 3) sc_best_round.nd rfl (by first | exact Or.inl rfl | exact Or.inr rfl) (pe_ix ix_tup (pe_ix ix_tup (pv 0) (pe_conI (n := 0) rfl CC.KNOWN) (fun _ _ => rfl)) (pe_conI (n := 5) rfl CC.ROUND) (fun _ _ => rfl)))
    apply pss_cons
    case h1 =>
      apply ps_if
      case hc => exact (pt_cmpR op_isN (pv 3) pe_non (nomark _))
      case ha =>
        apply pss_one
        exact (ps_ret (pv 2))
      case hb =>
        exact pss_nil
    apply pss_one
    exact (ps_ret (pe_def D_better_of hr rfl (pa_cons (pv 2) (pa_cons (pe_tup (pa_cons (pe_ix ix_tup (pv 3) pe_int (fun _ _ => rfl)) (pa_cons (pe_ix ix_tup (pv 3) pe_int (fun _ _ => rfl)) (pa_cons (pe_op op_add (pe_op op_sub (pe_def D_many_of hr rfl (pa_cons (pv 0) pa_nil)) (pe_ix ix_tup (pv 3) pe_int (fun _ _ => rfl))) (pe_ix ix_tup (pv 3) pe_int (fun _ _ => rfl))) pa_nil)))) pa_nil))))
  obtain ⟨kp, a, x, y, e, ⟨pb, ph, pt, vr, e2, eb, _, _, er⟩, ok⟩ := hk.known
  walk_at "rd"
  refine ⟨_, _, _, _, rfl, rfl, SqT.of e, rfl, ?_⟩
  walk_at "rd"
  refine ⟨_, _, _, _, rfl, rfl, SqT.of e2, rfl, ?_⟩
  walk_at "rd"
  refine ⟨_, _, _, _, rfl, rfl, SqT.of eb, rfl, ?_⟩
  walk_at "rd"
  refine ⟨_, _, _, _, rfl, rfl, SqT.of eb, rfl, ?_⟩
  walk_at "rd"
  refine ⟨_, _, _, _, rfl, rfl, SqT.of eb, rfl, ?_⟩
  walk_at "rd"
  refine ⟨_, _, _, _, rfl, rfl, SqT.of eb, rfl, ?_⟩
  walk_at "rd"
  refine ⟨by show 3 ≤ sizeLine; decide, fun t1 h1 => ?_⟩
  have s1 := Same.new h1 (.tup [.int a.best.s, .int a.best.f, .int (a.best.b - a.best.f)])
  have ht1 : upd H t1 (.tup [.int a.best.s, .int a.best.f, .int (a.best.b - a.best.f)]) t1 = some (Tx (flatS a.best)) := upd_same
  obtain ⟨H1, eH1⟩ : ∃ z, z = upd H t1 (.tup [.int a.best.s, .int a.best.f, .int (a.best.b - a.best.f)]) := ⟨_, rfl⟩
  rw [← eH1] at s1 ht1
  walk_at "rd"
  rw [← eH1]
  refine ⟨_, _, _, _, rfl, rfl, SqT.of (s1 _ _ e), rfl, ?_⟩
  walk_at "rd"
  refine ⟨_, _, _, _, rfl, rfl, SqT.of (s1 _ _ e2), rfl, ?_⟩
  walk_at "rd"
  have rd := ok.round
  cases ec : a.round with
  | none =>
    rw [ec] at er rd
    obtain rfl : vr = .non := er
    refine iteT ?_
    walk_at "rd"
    exact fin t1 _ H1 s1 ht1 (ring_one ok.best rd)
  | some r =>
    rw [ec] at er rd
    obtain ⟨rp, rfl, hrp⟩ := er
    refine iteF ?_
    walk_at "rd"
    refine ⟨_, _, _, _, rfl, rfl, SqT.of (s1 _ _ hrp), rfl, ?_⟩
    walk_at "rd"
    refine ⟨_, _, _, _, rfl, rfl, SqT.of (s1 _ _ hrp), rfl, ?_⟩
    walk_at "rd"
    refine ⟨_, p, ns, rfl, hk.keep s1, ?_⟩
    walk_at "rd"
    refine ⟨_, _, _, _, rfl, rfl, SqT.of (s1 _ _ hrp), rfl, ?_⟩
    walk_at "rd"
    refine ⟨_, _, _, _, rfl, rfl, SqT.of (s1 _ _ hrp), rfl, ?_⟩
    walk_at "rd"
    refine ⟨by show 3 ≤ sizeLine; decide, fun t2 h2 => ?_⟩
    have s2 := Same.new h2 (Tx (overS ns.length r))
    refine ⟨t1, t2, flatS a.best, overS ns.length r, rfl, s2 _ _ ht1, upd_same, fun t3 H3 s3 ht3 => ?_⟩
    exact fin t3 _ H3 (s1.trans (s2.trans s3)) ht3 (ring_two ok.best rd)
/-! ### two kept ones of the same row compare as alike -/
theorem IsKn.like {K : PySem.W.Frag} {H : Hp} {p q : Addr} {a : Kn} (h : IsKn H p a) (g : IsKn H q a) : Like K H 2 (.ref p) (.ref q) := by
  obtain ⟨pb, ph, pt, vr, h1, h2, h3, h4, h5⟩ := h.ex
  obtain ⟨qb, qh, qt, wr, g1, g2, g3, g4, g5⟩ := g.ex
  have tx : ∀ {p q : Addr} {x : Sx}, H p = some (Tx x) → H q = some (Tx x) → Like K H 1 (.ref p) (.ref q) := fun {p q x} hp hq => .tup (SqT.of hp) (SqT.of hq) rfl fun j u v eu ev => by
    rw [eu] at ev
    cases ev
    match j with
    | 0 => cases eu; exact .same rfl
    | 1 => cases eu; exact .same rfl
    | 2 => cases eu; exact .same rfl
    | j + 3 => simp at eu
  have rd : Like K H 1 vr wr := by
    cases e : a.round with
    | none =>
      rw [e] at h5 g5
      obtain rfl : vr = .non := h5
      obtain rfl : wr = .non := g5
      exact .same rfl
    | some x =>
      rw [e] at h5 g5
      obtain ⟨p, rfl, hp⟩ := h5
      obtain ⟨q, rfl, hq⟩ := g5
      exact tx hp hq
  refine .tup (SqT.of h1) (SqT.of g1) rfl fun j u v eu ev => ?_
  match j with
  | 0 => cases eu; cases ev; exact .same rfl
  | 1 => cases eu; cases ev; exact .same rfl
  | 2 => cases eu; cases ev; exact tx h2 g2
  | 3 => cases eu; cases ev; exact tx h3 g3
  | 4 => cases eu; cases ev; exact tx h4 g4
  | 5 => cases eu; cases ev; exact rd
  | j + 6 => simp at eu
theorem IsKept.items {K : PySem.W.Frag} {H : Hp} {d : Nat} {p : Addr} {ns : List Int} (h : IsKept H d p ns) : ∀ {d' : Nat} {q : Addr} {ms : List Int}, IsKept H d' q ms → ns = ms →
    ∃ xs ys, H p = some (.tup xs) ∧ H q = some (.tup ys) ∧ xs.length = ys.length ∧ ∀ (j : Nat) x y, xs[j]? = some x → ys[j]? = some y → Like K H (d + 1) x y := by
  induction h with
  | @leaf d p kp n h hk =>
    intro d' q ms g e
    cases g with
    | @leaf d2 _ kq n' g gk =>
      cases e
      refine ⟨_, _, h, g, rfl, fun j x y ex ey => ?_⟩
      match j with
      | 0 => cases ex; cases ey; exact (hk.like gk).mono (by (first | lia | omega))
      | 1 => cases ex; cases ey; exact .same rfl
      | 2 => cases ex; cases ey; exact .same rfl
      | j + 3 => simp at ex
    | @node d2 _ kq l r xs ys a g gk ok gl gr gm =>
      have e1 := congrArg List.length e
      rw [List.length_append, List.length_singleton] at e1
      have := gl.pos
      have := gr.pos
      (first | lia | omega)
  | @node d p kp l r xs ys a h hk ok hl hr hm ihl ihr =>
    intro d' q ms g e
    cases g with
    | @leaf d2 _ kq n' g gk =>
      have e1 := congrArg List.length e
      rw [List.length_append, List.length_singleton] at e1
      have := hl.pos
      have := hr.pos
      (first | lia | omega)
    | @node d2 _ kq l' r' xs' ys' a' g gk ok' gl gr gm =>
      have e1 := congrArg List.length e
      rw [List.length_append, List.length_append] at e1
      have el : xs.length = xs'.length := by (first | lia | omega)
      obtain ⟨rfl, rfl⟩ := List.append_inj e el
      obtain rfl := ok.uniq ok'
      obtain ⟨u1, v1, a1, b1, c1, d1⟩ := ihl gl rfl
      obtain ⟨u2, v2, a2, b2, c2, d2'⟩ := ihr gr rfl
      refine ⟨_, _, h, g, rfl, fun j x y ex ey => ?_⟩
      match j with
      | 0 => cases ex; cases ey; exact (hk.like gk).mono (by (first | lia | omega))
      | 1 => cases ex; cases ey; exact .tup (SqT.of a1) (SqT.of b1) c1 d1
      | 2 => cases ex; cases ey; exact .tup (SqT.of a2) (SqT.of b2) c2 d2'
      | j + 3 => simp at ex
theorem IsKept.like {K : PySem.W.Frag} {neg : Bool} {H : Hp} {d d' : Nat} {p q : Addr} {ns : List Int} {Q : VK} (h : IsKept H d p ns) (g : IsKept H d' q ns) (hd : d + 1 ≤ 50) (fin : Q (.bl (!neg)) H) : rLike K neg (.ref p) (.ref q) H Q := by
  obtain ⟨xs, ys, h1, h2, h3, h4⟩ := h.items (K := K) g rfl
  exact ⟨_, p, q, xs, ys, rfl, rfl, .inl ⟨SqT.of h1, SqT.of h2⟩, h3, h4, hd, fin⟩
/-! ### the best of some stretches, by sums ahead -/
structure BestIn (P : Nat → Int) (S : Nat → Nat → Prop) (s : Int) (f b : Nat) : Prop where
  mem : S f b
  val : s = P b - P f
  top : ∀ f' b', S f' b' → P b' - P f' < s ∨ (P b' - P f' = s ∧ (f < f' ∨ (f = f' ∧ b ≤ b')))
/-- stretches of told lengths in n numbers -/
def Val (n L : Nat) (M : Int) (f b : Nat) : Prop := f + L ≤ b ∧ (b : Int) ≤ f + M ∧ b ≤ n
abbrev IsBest (ns : List Int) (L : Nat) (M : Int) (s : Int) (f b : Nat) : Prop := BestIn (psum ns) (Val ns.length L M) s f b
theorem psum_getD {ns : List Int} {i : Nat} (h : i < ns.length) : psum ns (i + 1) = psum ns i + ns.getD i 0 := by
  rw [psum_succ h, List.getD_eq_getElem?_getD, List.getElem?_eq_getElem h]
  rfl
/-! ### the least paper -/
def ppr (ns : List Int) : Nat → Int
  | 0 => ns.getD 0 0
  | i + 1 => ns.getD (i + 1) 0 + (if ppr ns i > 0 then ppr ns i else 0)
def pprL (ns : List Int) (i : Nat) : List Int := (List.range i).map (ppr ns)
theorem pprL_len {ns : List Int} {i : Nat} : (pprL ns i).length = i := by unfold pprL; rw [List.length_map, List.length_range]
theorem pprL_succ {ns : List Int} {i : Nat} : pprL ns (i + 1) = pprL ns i ++ [ppr ns i] := by
  unfold pprL
  rw [List.range_succ, List.map_append]
  rfl
theorem pprL_at {ns : List Int} {i d : Nat} (h : d < i) : (pprL ns i).getD d 0 = ppr ns d := by
  unfold pprL
  rw [List.getD_eq_getElem?_getD, List.getElem?_map, List.getElem?_range h]
  rfl
/-- v is the greatest sum of a stretch that ends with the number at p -/
def IsTop (ns : List Int) (lo p : Nat) (v : Int) : Prop := (∀ f, lo ≤ f → f ≤ p → psum ns (p + 1) - psum ns f ≤ v) ∧ ∃ f, lo ≤ f ∧ f ≤ p ∧ v = psum ns (p + 1) - psum ns f
theorem ppr_top {ns : List Int} : ∀ {p : Nat}, p < ns.length → IsTop ns 0 p (ppr ns p)
  | 0, h => by
    have e : psum ns 1 = psum ns 0 + ns.getD 0 0 := psum_getD (ns := ns) (i := 0) h
    have z : psum ns 0 = 0 := rfl
    refine ⟨fun f _ hf => ?_, 0, by (first | lia | omega), by (first | lia | omega), ?_⟩
    · have : f = 0 := by (first | lia | omega)
      subst this
      show psum ns 1 - psum ns 0 ≤ ns.getD 0 0
      (first | lia | omega)
    · show ns.getD 0 0 = psum ns 1 - psum ns 0
      (first | lia | omega)
  | p + 1, h => by
    obtain ⟨h1, f, a, b, e⟩ := ppr_top (ns := ns) (p := p) (by (first | lia | omega))
    have e1 := psum_getD (ns := ns) (i := p + 1) h
    have eq : ppr ns (p + 1) = ns.getD (p + 1) 0 + (if ppr ns p > 0 then ppr ns p else 0) := rfl
    refine ⟨fun f' _ hf' => ?_, ?_⟩
    · by_cases ef : f' = p + 1
      · subst ef
        rw [eq]
        split <;> (first | lia | omega)
      · have := h1 f' (by (first | lia | omega)) (by (first | lia | omega))
        rw [eq]
        split <;> (first | lia | omega)
    · by_cases hp : ppr ns p > 0
      · refine ⟨f, a, by (first | lia | omega), ?_⟩
        rw [eq, if_pos hp]
        (first | lia | omega)
      · refine ⟨p + 1, by (first | lia | omega), by (first | lia | omega), ?_⟩
        rw [eq, if_neg hp]
        (first | lia | omega)
/-- what makes a paper right -/
def Right (ns ps : List Int) : Prop := ps.length = ns.length ∧ ∀ i, i < ns.length → ns.getD i 0 ≤ ps.getD i 0 ∧ (0 < i → ns.getD i 0 + ps.getD (i - 1) 0 ≤ ps.getD i 0)
/-! ### paper_of -/
def sp_paper : Sp := fun vs H Q _ => ∃ (r : Addr) (ns : List Int), vs = [.ref r] ∧ H r = some (.lst (ns.map V.int)) ∧ 1 ≤ ns.length ∧ ns.length ≤ 90000 ∧
  ∀ (l : Addr) (H' : Hp), Same H H' → H l = none → H' l = some (.lst ((pprL ns ns.length).map V.int)) → Q (.ref l) H'
theorem ok_paper {P : Program} {w : World} {K : PySem.W.Frag} {mg : Str → Option Value} {base : Heap} {k : Nat} {f : Addr} {fd : FuncData} (F : Fun K "paper_of" "paper_of" s_paper_of f fd) (Z : Blt mg) : FnOk P w K mg base CX0 (k + 1) f fd ["row"] sp_paper := by
  refine F.ok sc_paper_of (fun vs H Q E h => ?_) (fun cdv A outer s H vs Q E hr h => ?_)
  · obtain ⟨r, ns, rfl, _⟩ := h
    rfl
  obtain ⟨r, ns, rfl, hR, hn, hz, q⟩ := h
  apply Exists.intro
  apply And.intro
  case left =>
    apply pss_cons
    case h1 =>
      exact (ps_set (i := 1) sc_paper_of.nd rfl (by first | exact Or.inl rfl | exact Or.inr rfl) (pe_lst (pa_cons (pe_ix ix_list (pv 0) pe_int (fun _ _ => rfl)) pa_nil)))
    apply pss_cons
    case h1 =>
      apply ps_for PassesOwn.never rfl
      case hi => exact (pi_range2 rfl Z.range_ (pa_cons pe_int (pa_cons (pe_callB call_len_seq rfl Z.len_ PySem.boot_len (pa_cons (pv 0) pa_nil)) pa_nil)))
      case hg => exact (pg_name (i := 2) sc_paper_of.nd rfl (by first | exact Or.inl rfl | exact Or.inr rfl))
      case hb =>
        apply pss_one
        exact (ps_expr (pe_bm PySem.F.plainAttrs_list PySem.F.slot_list_append PySem.F.type_list_append mt_append (pv 1) (pa_cons (pe_op op_add (pe_ix ix_list (pv 0) (pv 2) (fun _ _ => rfl)) (pe_callB (call_max2 rfl) rfl Z.max_ PyProof.Rows.boot_max (pa_cons pe_int (pa_cons (pe_ix ix_list (pv 1) (pe_op op_sub (pv 2) pe_int) (fun _ _ => rfl)) pa_nil)))) pa_nil)))
    apply pss_one
    exact (ps_ret (pv 1))
  have hl : (ns.map V.int).length = ns.length := List.length_map _
  walk_at "rd"
  refine ⟨r, _, _, _, rfl, rfl, SqL.of hR, atI_ok (k := 0) (by (first | lia | omega)) (by (first | lia | omega)), ?_⟩
  walk_at "rd"
  refine ⟨by show 1 ≤ sizeLine; decide, fun l hl0 => ?_⟩
  have s1 : Same H (upd H l (.lst [.int (ns.getD 0 0)])) := Same.new hl0 _
  walk_at "rd"
  refine ⟨r, _, rfl, .inl (SqL.of (s1 _ _ hR)), ?_⟩
  refine ⟨_, _, rfl, ⟨by (first | lia | omega), by (first | lia | omega), by (first | lia | omega), by (first | lia | omega)⟩, ?_⟩
  refine for_range (fun i σ H' => ∃ o2, Same H H' ∧ H' l = some (.lst ((pprL ns (i + 1)).map V.int)) ∧ σ = [some (.ref r), some (.ref l), o2]) ⟨none, s1, upd_same, rfl⟩ ?_ ?_
  · rintro i σ H1 hi ⟨o2, sm, hl1, rfl⟩
    have hi' : i + 1 < ns.length := by (first | lia | omega)
    have ei : ((1 : Int) + i).toNat = i + 1 := by (first | lia | omega)
    have ej : ((1 : Int) + i - 1).toNat = i := by (first | lia | omega)
    have hpl := pprL_len (ns := ns) (i := i + 1)
    walk_at "rd"
    refine ⟨.inl ⟨rfl, _, SqL.of hl1⟩, ?_⟩
    walk_at "rd"
    refine ⟨r, _, _, _, rfl, rfl, SqL.of (sm _ _ hR), atI_ok (by (first | lia | omega)) (by (first | lia | omega)), ?_⟩
    walk_at "rd"
    refine ⟨l, _, _, _, rfl, rfl, SqL.of hl1, atI_ok (by (first | lia | omega)) (by (first | lia | omega)), ?_⟩
    rw [ei, ej, pprL_at (by (first | lia | omega))]
    refine ⟨_, _, rfl, ?_⟩
    walk_at "rd"
    refine ⟨l, _, _, rfl, rfl, hl1, small (by rw [List.length_map]; (first | lia | omega)), ?_⟩
    refine ⟨_, sm.upd hl0, ?_, rfl⟩
    rw [upd_same, pprL_succ (i := i + 1), List.map_append]
    rfl
  · rintro σ H1 ⟨o2, sm, hl1, rfl⟩
    walk_at "rd"
    have e : ((((ns.map V.int).length : Nat) : Int) - 1).toNat + 1 = ns.length := by (first | lia | omega)
    rw [e] at hl1
    exact q l H1 sm hl0 hl1
/-! ### bound_of -/
def sp_bound : Sp := fun vs H Q _ => ∃ (p : Addr) (ps : List Int), vs = [.ref p] ∧ H p = some (.lst (ps.map V.int)) ∧ 0 < ps.length ∧ ∀ M, M ∈ ps → (∀ a, a ∈ ps → a ≤ M) → Q (.int M) H
theorem ok_bound {P : Program} {w : World} {K : PySem.W.Frag} {mg : Str → Option Value} {base : Heap} {k : Nat} {f : Addr} {fd : FuncData} (F : Fun K "bound_of" "bound_of" s_bound_of f fd) (Z : Blt mg) : FnOk P w K mg base CX0 (k + 1) f fd ["paper"] sp_bound := by
  refine F.ok sc_bound_of (fun vs H Q E h => ?_) (fun cdv A outer s H vs Q E hr h => ?_)
  · obtain ⟨p, ps, rfl, _⟩ := h
    rfl
  obtain ⟨p, ps, rfl, hp, hz, q⟩ := h
  apply Exists.intro
  apply And.intro
  case left =>
    apply pss_one
    exact (ps_ret (pe_callB (max_of_list rfl) rfl Z.max_ PyProof.Rows.boot_max (pa_cons (pv 0) pa_nil)))
  walk_at "rd"
  exact ⟨p, ps, rfl, SqL.of hp, hz, q⟩
/-! ### places that are hit -/
def Hit (ns : List Int) (m : Int) (p : Nat) : Prop := ∃ f b : Nat, f ≤ p ∧ p < b ∧ b ≤ ns.length ∧ psum ns b - psum ns f = m
open Classical in
noncomputable def placesOf (ns : List Int) (m : Int) : List Int := ((List.range ns.length).filter fun p => decide (Hit ns m p)).map fun (p : Nat) => (p : Int)
/-! ### what a place must be -/
def MaxOf (P : Int → Prop) (m : Int) : Prop := P m ∧ ∀ x, P x → x ≤ m
theorem MaxOf.iff {P Q : Int → Prop} {m : Int} (h : MaxOf P m) (e : ∀ x, Q x ↔ P x) : MaxOf Q m := ⟨(e m).mpr h.1, fun x q => h.2 x ((e x).mp q)⟩
def OutP (ns : List Int) (i : Nat) (w : Int) : Prop := ∃ f b : Nat, f < b ∧ b ≤ ns.length ∧ (b ≤ i ∨ i < f) ∧ w = psum ns b - psum ns f
def InP (ns : List Int) (i : Nat) (w : Int) : Prop := ∃ f b : Nat, f ≤ i ∧ i < b ∧ b ≤ ns.length ∧ w = psum ns i - psum ns f + (psum ns b - psum ns (i + 1))
def MustIs (ns : List Int) (i : Nat) (v : Int) : Prop := ∃ W B, MaxOf (OutP ns i) W ∧ MaxOf (InP ns i) B ∧ v = W - B
def LeftP (ns : List Int) (i : Nat) (w : Int) : Prop := ∃ f : Nat, f ≤ i ∧ w = psum ns i - psum ns f
def RightP (ns : List Int) (i : Nat) (w : Int) : Prop := ∃ b : Nat, i < b ∧ b ≤ ns.length ∧ w = psum ns b - psum ns (i + 1)
theorem in_max {ns : List Int} {i : Nat} {L R : Int} (h : MaxOf (LeftP ns i) L) (g : MaxOf (RightP ns i) R) : MaxOf (InP ns i) (L + R) := by
  obtain ⟨f, h1, h2⟩ := h.1
  obtain ⟨b, g1, g2, g3⟩ := g.1
  refine ⟨⟨f, b, h1, g1, g2, by (first | lia | omega)⟩, ?_⟩
  rintro x ⟨f', b', a1, a2, a3, rfl⟩
  have := h.2 _ ⟨f', a1, rfl⟩
  have := g.2 _ ⟨b', a2, a3, rfl⟩
  (first | lia | omega)
def OutL (ns : List Int) (i : Nat) (w : Int) : Prop := ∃ f b : Nat, f < b ∧ b ≤ i ∧ b ≤ ns.length ∧ w = psum ns b - psum ns f
def OutR (ns : List Int) (i : Nat) (w : Int) : Prop := ∃ f b : Nat, f < b ∧ b ≤ ns.length ∧ i < f ∧ w = psum ns b - psum ns f
theorem out_iff {ns : List Int} {i : Nat} {w : Int} : OutP ns i w ↔ OutL ns i w ∨ OutR ns i w := by
  constructor
  · rintro ⟨f, b, h1, h2, h3 | h3, e⟩
    · exact .inl ⟨f, b, h1, h3, h2, e⟩
    · exact .inr ⟨f, b, h1, h2, h3, e⟩
  · rintro (⟨f, b, h1, h3, h2, e⟩ | ⟨f, b, h1, h2, h3, e⟩)
    · exact ⟨f, b, h1, h2, .inl h3, e⟩
    · exact ⟨f, b, h1, h2, .inr h3, e⟩
/-- what is without it: the best ahead of it, behind it, of each where there is one -/
def Withs (ns : List Int) (i : Nat) (ws : List Int) : Prop := ∀ M, M ∈ ws → (∀ x, x ∈ ws → x ≤ M) → MaxOf (OutP ns i) M
def WsL (ns : List Int) (i : Nat) (ws : List Int) : Prop := (i = 0 ∧ ws = []) ∨ ∃ W, 0 < i ∧ ws = [W] ∧ MaxOf (OutL ns i) W
def WsR (ns : List Int) (i : Nat) (us ws : List Int) : Prop := (¬ i + 1 < ns.length ∧ ws = us) ∨ ∃ W, i + 1 < ns.length ∧ ws = us ++ [W] ∧ MaxOf (OutR ns i) W
theorem withs_of {ns : List Int} {i : Nat} {us ws : List Int} (hi : i < ns.length) (h : WsL ns i us) (g : WsR ns i us ws) : Withs ns i ws ∧ ws.length ≤ 2 ∧ (ws = [] ↔ ns.length = 1) := by
  have nl : i = 0 → ∀ x, ¬ OutL ns i x := by
    rintro z x ⟨f, b, h1, h2, _⟩
    (first | lia | omega)
  have nr : ¬ i + 1 < ns.length → ∀ x, ¬ OutR ns i x := by
    rintro z x ⟨f, b, h1, h2, h3, _⟩
    (first | lia | omega)
  rcases h with ⟨h0, rfl⟩ | ⟨W, h0, rfl, h⟩
  · rcases g with ⟨g0, rfl⟩ | ⟨V, g0, rfl, g⟩
    · exact ⟨fun M hM _ => absurd hM List.not_mem_nil, Nat.zero_le _, by simp; (first | lia | omega)⟩
    · refine ⟨fun M hM _ => ?_, by simp, by simp; (first | lia | omega)⟩
      have e : M = V := by simpa using hM
      subst e
      exact g.iff fun x => by rw [out_iff]; exact ⟨fun z => z.elim (fun q => absurd q (nl h0 x)) id, .inr⟩
  · rcases g with ⟨g0, rfl⟩ | ⟨V, g0, rfl, g⟩
    · refine ⟨fun M hM _ => ?_, by simp, by simp; (first | lia | omega)⟩
      have e : M = W := by simpa using hM
      subst e
      exact h.iff fun x => by rw [out_iff]; exact ⟨fun z => z.elim id (fun q => absurd q (nr g0 x)), .inl⟩
    · refine ⟨fun M hM hx => ?_, by simp, by simp; (first | lia | omega)⟩
      have l1 := hx W (by simp)
      have l2 := hx V (by simp)
      have hM' : M = W ∨ M = V := by simpa using hM
      refine ⟨out_iff.mpr ?_, fun x hx' => ?_⟩
      · rcases hM' with rfl | rfl
        · exact .inl h.1
        · exact .inr g.1
      · rcases out_iff.mp hx' with z | z
        · exact Int.le_trans (h.2 x z) l1
        · exact Int.le_trans (g.2 x z) l2
theorem psum_cutK {ns : List Int} {f b : Int} {j : Nat} (h0 : 0 ≤ f) (h1 : f ≤ b) (h2 : b ≤ (ns.length : Int)) (hj : (j : Int) ≤ b - f) : psum (cutI ns f b) j = psum ns (f.toNat + j) - psum ns f.toNat := by
  unfold cutI
  have e : psum ((ns.drop f.toNat).take (b.toNat - f.toNat)) j = psum (ns.drop f.toNat) j := by
    unfold psum
    rw [List.take_take, Nat.min_eq_left (by (first | lia | omega))]
  rw [e]
  unfold psum
  rw [List.take_add, List.sum_append]
  (first | lia | omega)
theorem left_known {ns : List Int} {i : Nat} {a : Kn} (hi : i ≤ ns.length) (h0 : 0 < i) (ok : KnOk a (cutI ns 0 (i : Int))) : MaxOf (OutL ns i) a.best.s ∧ MaxOf (LeftP ns i) (if 0 < a.tail.s then a.tail.s else 0) := by
  have l := cut_len (ns := ns) (f := 0) (b := (i : Int)) (by (first | lia | omega)) (by (first | lia | omega)) (by (first | lia | omega))
  have l' : (cutI ns 0 (i : Int)).length = i := by (first | lia | omega)
  have ps : ∀ j : Nat, j ≤ i → psum (cutI ns 0 (i : Int)) j = psum ns j := fun j hj => by
    rw [psum_cutK (by (first | lia | omega)) (by (first | lia | omega)) (by (first | lia | omega)) (by (first | lia | omega))]
    have e : (0 : Int).toNat + j = j := by simp
    have z : psum ns (0 : Int).toNat = 0 := rfl
    rw [e, z]
    (first | lia | omega)
  refine ⟨?_, ?_⟩
  · obtain ⟨f, b, h1, h2, e⟩ := ok.best.has
    have es : a.best.s = psum ns b - psum ns f := by rw [e]; show psum _ b - psum _ f = _; rw [ps b (by (first | lia | omega)), ps f (by (first | lia | omega))]
    refine ⟨⟨f, b, h1, by (first | lia | omega), by (first | lia | omega), es⟩, ?_⟩
    rintro x ⟨f', b', a1, a2, a3, rfl⟩
    have q := ok.best.le _ ⟨f', b', a1, by (first | lia | omega), rfl⟩
    rw [ps b' (by (first | lia | omega)), ps f' (by (first | lia | omega))] at q
    unfold Sx.le at q
    dsimp only at q
    (first | lia | omega)
  · obtain ⟨f, h1, e⟩ := ok.tail.has
    have es : a.tail.s = psum ns i - psum ns f := by rw [e]; show psum _ _ - psum _ f = _; rw [l', ps i (Nat.le_refl _), ps f (by (first | lia | omega))]
    have up : ∀ f' : Nat, f' < i → psum ns i - psum ns f' ≤ a.tail.s := fun f' hf' => by
      have q := ok.tail.le _ ⟨f', by (first | lia | omega), rfl⟩
      rw [l', ps i (Nat.le_refl _), ps f' (by (first | lia | omega))] at q
      unfold Sx.le at q
      dsimp only at q
      (first | lia | omega)
    refine ⟨?_, ?_⟩
    · split
      · exact ⟨f, by (first | lia | omega), es⟩
      · exact ⟨i, Nat.le_refl _, by (first | lia | omega)⟩
    · rintro x ⟨f', a1, rfl⟩
      by_cases hf : f' = i
      · subst hf
        split <;> (first | lia | omega)
      · have := up f' (by (first | lia | omega))
        split <;> (first | lia | omega)
theorem right_known {ns : List Int} {i : Nat} {a : Kn} (hi : i + 1 < ns.length) (ok : KnOk a (cutI ns ((i : Int) + 1) (ns.length : Int))) : MaxOf (OutR ns i) a.best.s ∧ MaxOf (RightP ns i) (if 0 < a.head.s then a.head.s else 0) := by
  have l := cut_len (ns := ns) (f := (i : Int) + 1) (b := (ns.length : Int)) (by (first | lia | omega)) (by (first | lia | omega)) (by (first | lia | omega))
  have ps : ∀ j : Nat, j ≤ ns.length - (i + 1) → psum (cutI ns ((i : Int) + 1) (ns.length : Int)) j = psum ns (i + 1 + j) - psum ns (i + 1) := fun j hj => by
    rw [psum_cutK (by (first | lia | omega)) (by (first | lia | omega)) (by (first | lia | omega)) (by (first | lia | omega))]
    have e : ((i : Int) + 1).toNat = i + 1 := by (first | lia | omega)
    rw [e]
  refine ⟨?_, ?_⟩
  · obtain ⟨f, b, h1, h2, e⟩ := ok.best.has
    have es : a.best.s = psum ns (i + 1 + b) - psum ns (i + 1 + f) := by rw [e]; show psum _ b - psum _ f = _; rw [ps b (by (first | lia | omega)), ps f (by (first | lia | omega))]; (first | lia | omega)
    refine ⟨⟨i + 1 + f, i + 1 + b, by (first | lia | omega), by (first | lia | omega), by (first | lia | omega), es⟩, ?_⟩
    rintro x ⟨f', b', a1, a2, a3, rfl⟩
    have q := ok.best.le _ ⟨f' - (i + 1), b' - (i + 1), by (first | lia | omega), by (first | lia | omega), rfl⟩
    rw [ps _ (by (first | lia | omega)), ps _ (by (first | lia | omega))] at q
    have e1 : i + 1 + (b' - (i + 1)) = b' := by (first | lia | omega)
    have e2 : i + 1 + (f' - (i + 1)) = f' := by (first | lia | omega)
    rw [e1, e2] at q
    unfold Sx.le at q
    dsimp only at q
    (first | lia | omega)
  · obtain ⟨b, h1, h2, e⟩ := ok.head.has
    have es : a.head.s = psum ns (i + 1 + b) - psum ns (i + 1) := by rw [e]; show psum _ b = _; rw [ps b (by (first | lia | omega))]
    have up : ∀ b' : Nat, i + 1 < b' → b' ≤ ns.length → psum ns b' - psum ns (i + 1) ≤ a.head.s := fun b' h1 h2 => by
      have q := ok.head.le _ ⟨b' - (i + 1), by (first | lia | omega), by (first | lia | omega), rfl⟩
      rw [ps _ (by (first | lia | omega))] at q
      have e1 : i + 1 + (b' - (i + 1)) = b' := by (first | lia | omega)
      rw [e1] at q
      unfold Sx.le at q
      dsimp only at q
      (first | lia | omega)
    refine ⟨?_, ?_⟩
    · split
      · exact ⟨i + 1 + b, by (first | lia | omega), by (first | lia | omega), es⟩
      · exact ⟨i + 1, by (first | lia | omega), by (first | lia | omega), by (first | lia | omega)⟩
    · rintro x ⟨b', a1, a2, rfl⟩
      by_cases hb : b' = i + 1
      · subst hb
        split <;> (first | lia | omega)
      · have := up b' (by (first | lia | omega)) a2
        split <;> (first | lia | omega)
def sp_must : Sp := fun vs H Q _ => ∃ (p : Addr) (i : Int) (ns : List Int), vs = [.ref p, .int i] ∧ IsKept H 13 p ns ∧ 0 ≤ i ∧ i < (ns.length : Int) ∧ (ns.length = 1 → ∀ H', Same H H' → Q .non H') ∧ (1 < ns.length → ∀ v H', Same H H' → MustIs ns i.toNat v → Q (.int v) H')
theorem ok_must {P : Program} {w : World} {K : PySem.W.Frag} {mg : Str → Option Value} {base : Heap} {k : Nat} {f : Addr} {fd : FuncData} (F : Fun K "must_be" "must_be" s_must_be f fd) (Z : Blt mg) (CC : Cons mg)
    (D_refuse_place : Def P w K mg base k "refuse_place" ["held", "place"] sp_rpl) (D_many_of : Def P w K mg base k "many_of" ["held"] sp_many) (D_known_of : Def P w K mg base k "known_of" ["held", "first", "beyond"] (sp_known 13)) : FnOk P w K mg base CX0 (k + 1) f fd ["held", "place"] sp_must := by
  refine F.ok sc_must_be (fun vs H Q E h => ?_) (fun cdv A outer s H vs Q E hr h => ?_)
  · obtain ⟨p, i, ns, rfl, _⟩ := h
    rfl
  obtain ⟨p, i', ns, rfl, hk, h0, h1, f1, f2⟩ := h
  obtain ⟨i, ei⟩ : ∃ i : Nat, i' = i := ⟨i'.toNat, by (first | lia | omega)⟩
  subst ei
  rw [Int.toNat_natCast] at f2
  apply Exists.intro
  apply And.intro
  case left =>
    apply pss_cons
    case h1 =>
      exact (ps_expr (pe_def D_refuse_place hr rfl (pa_cons (pv 0) (pa_cons (pv 1) pa_nil))))
    apply pss_cons
    case h1 =>
      exact (ps_set (i := 2) sc_must_be.nd rfl (by first | exact Or.inl rfl | exact Or.inr rfl) (pe_def D_many_of hr rfl (pa_cons (pv 0) pa_nil)))
    apply pss_cons
    case h1 =>
      exact (ps_set (i := 3) sc_must_be.nd rfl (by first | exact Or.inl rfl | exact Or.inr rfl) (pe_lst pa_nil))
    apply pss_cons
    case h1 =>
      exact (ps_set (i := 4) sc_must_be.nd rfl (by first | exact Or.inl rfl | exact Or.inr rfl) pe_int)
    apply pss_cons
    case h1 =>
      apply ps_if
      case hc => exact (pt_cmpR op_gt (pv 1) pe_int (nomark _))
      case ha =>
        apply pss_cons
        case h1 =>
          exact (ps_set (i := 5) sc_must_be.nd rfl (by first | exact Or.inl rfl | exact Or.inr rfl) (pe_def D_known_of hr rfl (pa_cons (pv 0) (pa_cons pe_int (pa_cons (pv 1) pa_nil)))))
        apply pss_cons
        case h1 =>
          exact (ps_expr (pe_bm PySem.F.plainAttrs_list PySem.F.slot_list_append PySem.F.type_list_append mt_append (pv 3) (pa_cons (pe_ix ix_tup (pe_ix ix_tup (pv 5) (pe_conI (n := 2) rfl CC.BEST) (fun _ _ => rfl)) pe_int (fun _ _ => rfl)) pa_nil)))
        apply pss_one
        exact (ps_aug (i := 4) sc_must_be.nd rfl (by first | exact Or.inl rfl | exact Or.inr rfl) (pe_callB (call_max2 rfl) rfl Z.max_ PyProof.Rows.boot_max (pa_cons pe_int (pa_cons (pe_ix ix_tup (pe_ix ix_tup (pv 5) (pe_conI (n := 4) rfl CC.TAIL) (fun _ _ => rfl)) pe_int (fun _ _ => rfl)) pa_nil))) ip_add)
      case hb =>
        exact pss_nil
    apply pss_cons
    case h1 =>
      apply ps_if
      case hc => exact (pt_cmpR op_lt (pe_op op_add (pv 1) pe_int) (pv 2) (nomark _))
      case ha =>
        apply pss_cons
        case h1 =>
          exact (ps_set (i := 6) sc_must_be.nd rfl (by first | exact Or.inl rfl | exact Or.inr rfl) (pe_def D_known_of hr rfl (pa_cons (pv 0) (pa_cons (pe_op op_add (pv 1) pe_int) (pa_cons (pv 2) pa_nil)))))
        apply pss_cons
        case h1 =>
          exact (ps_expr (pe_bm PySem.F.plainAttrs_list PySem.F.slot_list_append PySem.F.type_list_append mt_append (pv 3) (pa_cons (pe_ix ix_tup (pe_ix ix_tup (pv 6) (pe_conI (n := 2) rfl CC.BEST) (fun _ _ => rfl)) pe_int (fun _ _ => rfl)) pa_nil)))
        apply pss_one
        exact (ps_aug (i := 4) sc_must_be.nd rfl (by first | exact Or.inl rfl | exact Or.inr rfl) (pe_callB (call_max2 rfl) rfl Z.max_ PyProof.Rows.boot_max (pa_cons pe_int (pa_cons (pe_ix ix_tup (pe_ix ix_tup (pv 6) (pe_conI (n := 3) rfl CC.HEAD) (fun _ _ => rfl)) pe_int (fun _ _ => rfl)) pa_nil))) ip_add)
      case hb =>
        exact pss_nil
    apply pss_cons
    case h1 =>
      apply ps_if
      case hc => exact (pt_not (pt_truth (pv 3) (fun _ => rfl)))
      case ha =>
        apply pss_one
        exact (ps_ret pe_non)
      case hb =>
        exact pss_nil
    apply pss_one
    exact (ps_ret (pe_op op_sub (pe_callB (max_of_list rfl) rfl Z.max_ PyProof.Rows.boot_max (pa_cons (pv 3) pa_nil)) (pv 4)))
  walk_at "rd"
  refine ⟨13, p, _, ns, rfl, hk, h0, h1, ?_⟩
  walk_at "rd"
  refine ⟨13, p, ns, rfl, hk, ?_⟩
  walk_at "rd"
  refine ⟨Nat.zero_le _, fun wl hwl => ?_⟩
  have s1 := Same.new hwl (.lst [])
  walk_at "rd"
  refine ifJ (fun σ' H' => ∃ (us : List Int) (L : Int) (o5 : Option V), Same H H' ∧ H' wl = some (.lst (us.map V.int)) ∧ us.length ≤ 1 ∧ WsL ns i us ∧ MaxOf (LeftP ns i) L ∧ σ' = [some (.ref p), some (.int i), some (.int ns.length), some (.ref wl), some (.int L), o5, none]) ?_ (fun hpos => ?_) (fun R hR hpos => ?_)
  case refine_2 =>
    obtain rfl : i = 0 := by (first | lia | omega)
    refine ⟨[], 0, _, s1, upd_same, Nat.zero_le _, .inl ⟨rfl, rfl⟩, ⟨⟨0, Nat.le_refl _, by (first | lia | omega)⟩, ?_⟩, rfl⟩
    rintro x ⟨f, hf, rfl⟩
    obtain rfl : f = 0 := by (first | lia | omega)
    (first | lia | omega)
  case refine_3 =>
    walk_at "rd"
    refine ⟨p, 0, _, ns, rfl, hk.keep s1, by decide, by (first | lia | omega), by (first | lia | omega), fun kp a H2 s2 hk2 ok2 => ?_⟩
    obtain ⟨m1, m2⟩ := left_known (by (first | lia | omega)) (by (first | lia | omega)) ok2
    obtain ⟨pb, ph, pt, vr, ep, eb, _, et, _⟩ := hk2.ex
    have hwl2 := s2 _ _ (upd_same (H := H) (a := wl) (o := .lst []))
    walk_at "rd"
    refine ⟨.inl ⟨rfl, _, SqL.of hwl2⟩, ?_⟩
    walk_at "rd"
    refine ⟨_, _, _, _, rfl, rfl, SqT.of ep, rfl, ?_⟩
    walk_at "rd"
    refine ⟨_, _, _, _, rfl, rfl, SqT.of eb, rfl, ?_⟩
    refine ⟨wl, _, _, rfl, rfl, hwl2, by decide, ?_⟩
    have nwl : ∀ {x : Addr} {xs : List V}, H2 x = some (.tup xs) → upd H2 wl (.lst ([] ++ [.int a.best.s])) x = some (.tup xs) := fun {x xs} e => by
      rw [upd_ne (fun z => by rw [z, hwl2] at e; cases e)]
      exact e
    walk_at "rd"
    refine ⟨_, _, _, _, rfl, rfl, SqT.of (nwl ep), rfl, ?_⟩
    walk_at "rd"
    refine ⟨_, _, _, _, rfl, rfl, SqT.of (nwl et), rfl, ?_⟩
    refine ⟨_, _, rfl, ?_⟩
    walk_at "rd"
    refine hR _ _ ⟨[a.best.s], 0 + (if a.tail.s > 0 then a.tail.s else 0), _, (s1.trans s2).upd hwl, upd_same, Nat.le_refl _, .inr ⟨_, by (first | lia | omega), rfl, m1⟩, ?_, rfl⟩
    rw [Int.zero_add]
    exact m2
  rintro _ H2 ⟨us, L, o5, s2, hwl2, hul, hws, hL, rfl⟩
  walk_at "rd"
  refine ifJ (fun σ' H' => ∃ (ws : List Int) (B : Int) (o6 : Option V), Same H H' ∧ H' wl = some (.lst (ws.map V.int)) ∧ WsR ns i us ws ∧ MaxOf (InP ns i) B ∧ σ' = [some (.ref p), some (.int i), some (.int ns.length), some (.ref wl), some (.int B), o5, o6]) ?_ (fun hlt => ?_) (fun R hR hlt => ?_)
  case refine_2 =>
    refine ⟨us, L, _, s2, hwl2, .inl ⟨by (first | lia | omega), rfl⟩, ?_, rfl⟩
    have hr0 : MaxOf (RightP ns i) 0 := by
      refine ⟨⟨i + 1, by (first | lia | omega), by (first | lia | omega), by (first | lia | omega)⟩, ?_⟩
      rintro x ⟨b, a1, a2, rfl⟩
      obtain rfl : b = i + 1 := by (first | lia | omega)
      (first | lia | omega)
    have := in_max hL hr0
    rw [Int.add_zero] at this
    exact this
  case refine_3 =>
    walk_at "rd"
    refine ⟨p, _, _, ns, rfl, hk.keep s2, by (first | lia | omega), by (first | lia | omega), by (first | lia | omega), fun kp a H3 s3 hk3 ok3 => ?_⟩
    obtain ⟨m1, m2⟩ := right_known (by (first | lia | omega)) ok3
    obtain ⟨pb, ph, pt, vr, ep, eb, eh, _, _⟩ := hk3.ex
    have hwl3 := s3 _ _ hwl2
    walk_at "rd"
    refine ⟨.inl ⟨rfl, _, SqL.of hwl3⟩, ?_⟩
    walk_at "rd"
    refine ⟨_, _, _, _, rfl, rfl, SqT.of ep, rfl, ?_⟩
    walk_at "rd"
    refine ⟨_, _, _, _, rfl, rfl, SqT.of eb, rfl, ?_⟩
    refine ⟨wl, _, _, rfl, rfl, hwl3, small (by rw [List.length_map]; (first | lia | omega)), ?_⟩
    have nwl : ∀ {x : Addr} {xs : List V}, H3 x = some (.tup xs) → upd H3 wl (.lst (us.map V.int ++ [.int a.best.s])) x = some (.tup xs) := fun {x xs} e => by
      rw [upd_ne (fun z => by rw [z, hwl3] at e; cases e)]
      exact e
    walk_at "rd"
    refine ⟨_, _, _, _, rfl, rfl, SqT.of (nwl ep), rfl, ?_⟩
    walk_at "rd"
    refine ⟨_, _, _, _, rfl, rfl, SqT.of (nwl eh), rfl, ?_⟩
    refine ⟨_, _, rfl, ?_⟩
    walk_at "rd"
    refine hR _ _ ⟨us ++ [a.best.s], L + (if a.head.s > 0 then a.head.s else 0), _, (s2.trans s3).upd hwl, by rw [upd_same, List.map_append]; rfl, .inr ⟨_, by (first | lia | omega), rfl, m1⟩, in_max hL m2, rfl⟩
  rintro _ H3 ⟨ws, B, o6, s3, hwl3, hwr, hB, rfl⟩
  obtain ⟨hw, hwz, hwe⟩ := withs_of (by (first | lia | omega)) hws hwr
  walk_at "rd"
  refine ⟨_, .inl ⟨_, SqL.of hwl3, rfl⟩, ?_⟩
  by_cases hn : ns.length = 1
  · obtain rfl := hwe.mpr hn
    exact f1 hn H3 s3
  · have hne : ws ≠ [] := fun z => hn (hwe.mp z)
    have e : (!(!(ws.map V.int).isEmpty)) = false := by
      cases ws with
      | nil => exact absurd rfl hne
      | cons _ _ => rfl
    show if (!(!(ws.map V.int).isEmpty)) = true then _ else _
    rw [e]
    refine iteF ?_
    walk_at "rd"
    refine ⟨wl, ws, rfl, SqL.of hwl3, List.length_pos_iff.mpr hne, fun M hM1 hM2 => ?_⟩
    walk_at "rd"
    exact f2 (by (first | lia | omega)) _ H3 s3 ⟨M, B, hw M hM1 hM2, hB, rfl⟩
/-! ### places_in_best -/
theorem psum_revP {ns : List Int} {i : Nat} (h : i ≤ ns.length) : psum ns.reverse i = psum ns ns.length - psum ns (ns.length - i) := by
  unfold psum
  rw [List.take_reverse, List.sum_reverse, List.take_length]
  have e : ns.sum = (ns.take (ns.length - i)).sum + (ns.drop (ns.length - i)).sum := by rw [← List.sum_append, List.take_append_drop]
  (first | lia | omega)
theorem bound_best {ns : List Int} {M : Int} {z : Sx} (h : Top (PB ns) z) (hM : M ∈ pprL ns ns.length) (hm : ∀ a, a ∈ pprL ns ns.length → a ≤ M) : M = z.s := by
  have mem : ∀ {p : Nat}, p < ns.length → ppr ns p ∈ pprL ns ns.length := fun {p} hp => by
    unfold pprL
    exact List.mem_map.mpr ⟨p, List.mem_range.mpr hp, rfl⟩
  refine Int.le_antisymm ?_ ?_
  · unfold pprL at hM
    obtain ⟨p, hp, rfl⟩ := List.mem_map.mp hM
    have hp' := List.mem_range.mp hp
    obtain ⟨_, f, _, h2, e⟩ := ppr_top hp'
    have q := h.le _ ⟨f, p + 1, by (first | lia | omega), by (first | lia | omega), rfl⟩
    unfold Sx.le at q
    dsimp only at q
    (first | lia | omega)
  · obtain ⟨f, b, h1, h2, e⟩ := h.has
    obtain ⟨t, _⟩ := ppr_top (ns := ns) (p := b - 1) (by (first | lia | omega))
    have q := t f (Nat.zero_le _) (by (first | lia | omega))
    have e1 : b - 1 + 1 = b := by (first | lia | omega)
    rw [e1] at q
    have := hm _ (mem (p := b - 1) (by (first | lia | omega)))
    have es : z.s = psum ns b - psum ns f := by rw [e]
    (first | lia | omega)
theorem hit_iff {ns : List Int} {p : Nat} {z : Sx} (hp : p < ns.length) (h : Top (PB ns) z) : ppr ns p + ppr ns.reverse (ns.length - 1 - p) - ns.getD p 0 = z.s ↔ Hit ns z.s p := by
  have l := List.length_reverse (as := ns)
  obtain ⟨a1, f, _, a3, a4⟩ := ppr_top hp
  obtain ⟨b1, g, _, b3, b4⟩ := ppr_top (ns := ns.reverse) (p := ns.length - 1 - p) (by (first | lia | omega))
  have n := psum_getD hp
  have e1 : ns.length - 1 - p + 1 = ns.length - p := by (first | lia | omega)
  have rv : ∀ g : Nat, g ≤ ns.length - 1 - p → psum ns.reverse (ns.length - p) - psum ns.reverse g = psum ns (ns.length - g) - psum ns p := fun g hg => by
    rw [psum_revP (by (first | lia | omega)), psum_revP (by (first | lia | omega))]
    have : ns.length - (ns.length - p) = p := by (first | lia | omega)
    rw [this]
    (first | lia | omega)
  rw [e1, rv g b3] at b4
  constructor
  · intro e
    exact ⟨f, ns.length - g, a3, by (first | lia | omega), by (first | lia | omega), by (first | lia | omega)⟩
  · rintro ⟨f', b', h1, h2, h3, h4⟩
    have q := h.le _ ⟨f, ns.length - g, by (first | lia | omega), by (first | lia | omega), rfl⟩
    unfold Sx.le at q
    dsimp only at q
    have u1 := a1 f' (Nat.zero_le _) h1
    have u2 := b1 (ns.length - b') (Nat.zero_le _) (by (first | lia | omega))
    rw [e1, rv _ (by (first | lia | omega))] at u2
    have e3 : ns.length - (ns.length - b') = b' := by (first | lia | omega)
    rw [e3] at u2
    (first | lia | omega)
def sp_places : Sp := fun vs H Q _ => ∃ (p : Addr) (ns : List Int), vs = [.ref p] ∧ IsKept H 13 p ns ∧ ns.length ≤ 4000 ∧ ∀ l z H', Same H H' → H l = none → Top (PB ns) z → H' l = some (.lst ((placesOf ns z.s).map V.int)) → Q (.ref l) H'
open Classical in
theorem ok_places {P : Program} {w : World} {K : PySem.W.Frag} {mg : Str → Option Value} {base : Heap} {k : Nat} {f : Addr} {fd : FuncData} (F : Fun K "places_in_best" "places_in_best" s_places_in_best f fd) (Z : Blt mg)
    (D_row_of : Def P w K mg base k "row_of" ["held"] (sp_rowof 13)) (D_paper_of : Def P w K mg base k "paper_of" ["row"] sp_paper) (D_bound_of : Def P w K mg base k "bound_of" ["paper"] sp_bound) : FnOk P w K mg base CX0 (k + 1) f fd ["held"] sp_places := by
  refine F.ok sc_places_in_best (fun vs H Q E h => ?_) (fun cdv A outer s H vs Q E hr h => ?_)
  · obtain ⟨p, ns, rfl, _⟩ := h
    rfl
  obtain ⟨p, ns, rfl, hk, hz, fin⟩ := h
  obtain ⟨_, a, _, _, _, _, ok⟩ := hk.known
  have tz := ok.best
  have hpos := hk.pos
  have lrev := List.length_reverse (as := ns)
  apply Exists.intro
  apply And.intro
  case left =>
    apply pss_cons
    case h1 =>
      exact (ps_set (i := 1) sc_places_in_best.nd rfl (by first | exact Or.inl rfl | exact Or.inr rfl) (pe_def D_row_of hr rfl (pa_cons (pv 0) pa_nil)))
    apply pss_cons
    case h1 =>
      exact (ps_set (i := 2) sc_places_in_best.nd rfl (by first | exact Or.inl rfl | exact Or.inr rfl) (pe_def D_paper_of hr rfl (pa_cons (pv 1) pa_nil)))
    apply pss_cons
    case h1 =>
      exact (ps_set (i := 3) sc_places_in_best.nd rfl (by first | exact Or.inl rfl | exact Or.inr rfl) (pe_rev (pe_def D_paper_of hr rfl (pa_cons (pe_rev (pv 1) (pe_un un_neg pe_int)) pa_nil)) (pe_un un_neg pe_int)))
    apply pss_cons
    case h1 =>
      exact (ps_set (i := 4) sc_places_in_best.nd rfl (by first | exact Or.inl rfl | exact Or.inr rfl) (pe_def D_bound_of hr rfl (pa_cons (pv 2) pa_nil)))
    apply pss_one
    exact (ps_ret (pe_lc (N' := ["place", "most", "row", "ending", "begun"]) (ix := [none, some 4, some 1, some 2, some 3]) rfl rfl (by decide +kernel) rfl rfl rfl rfl (pi_range1 rfl Z.range_ (pa_cons (pe_callB call_len_seq rfl Z.len_ PySem.boot_len (pa_cons (pv 1) pa_nil)) pa_nil)) (fun _ _ _ _ => (pg_name (i := 0) (show List.Nodup (["place", "most", "row", "ending", "begun"] : List Str) by decide +kernel) rfl (by first | exact Or.inl rfl | exact Or.inr rfl))) (fun _ _ _ _ => (pts_one (pt_cmpR op_eq (pe_op op_sub (pe_op op_add (pe_ix ix_listB (pv 3) (pv 0) (fun _ _ => rfl)) (pe_ix ix_listB (pv 4) (pv 0) (fun _ _ => rfl))) (pe_ix ix_listB (pv 2) (pv 0) (fun _ _ => rfl))) (pv 1) (nomark _)))) (fun _ _ _ _ => (pv 0))))
  walk_at "rd"
  refine ⟨p, ns, rfl, hk, by (first | lia | omega), fun r H1 s1 hr0 hr1 => ?_⟩
  walk_at "rd"
  refine ⟨r, ns, rfl, hr1, hpos, by (first | lia | omega), fun en H2 s2 hen0 hen => ?_⟩
  walk_at "rd"
  refine ⟨r, _, rfl, rfl, SqL.of (s2 _ _ hr1), fun l1 hl1 => ?_⟩
  rw [← List.map_reverse]
  have s3 := Same.new hl1 (.lst (ns.reverse.map V.int))
  refine ⟨l1, ns.reverse, rfl, upd_same, by (first | lia | omega), by (first | lia | omega), fun bg H4 s4 hbg0 hbg => ?_⟩
  walk_at "rd"
  refine ⟨bg, _, rfl, rfl, SqL.of hbg, fun l2 hl2 => ?_⟩
  rw [← List.map_reverse]
  have s5 := Same.new hl2 (.lst ((pprL ns.reverse ns.reverse.length).reverse.map V.int))
  have hl25 : upd H4 l2 (.lst ((pprL ns.reverse ns.reverse.length).reverse.map V.int)) l2 = some (.lst ((pprL ns.reverse ns.reverse.length).reverse.map V.int)) := upd_same
  have s25 := s3.trans (s4.trans s5)
  obtain ⟨H5, eH5⟩ : ∃ z, z = upd H4 l2 (.lst ((pprL ns.reverse ns.reverse.length).reverse.map V.int)) := ⟨_, rfl⟩
  rw [← eH5] at s5 hl25 s25
  walk_at "rd"
  rw [← eH5]
  refine ⟨en, _, rfl, s25 _ _ hen, by rw [pprL_len]; (first | lia | omega), fun M hM1 hM2 => ?_⟩
  obtain rfl := bound_best tz hM1 hM2
  have hr5 := (s2.trans s25) _ _ hr1
  walk_at "rd"
  refine ⟨r, _, rfl, .inl (SqL.of hr5), ?_⟩
  rw [List.length_map]
  refine ⟨_, rfl, by (first | lia | omega), by (first | lia | omega), ?_⟩
  rw [Int.toNat_natCast]
  intro acc hacc
  have s05 := s1.trans (s2.trans s25)
  refine comp_by (n := ns.length) (fun i τ zs H' => H' acc = some (.lst zs) ∧ zs = ((((List.range i).filter fun q => decide (Hit ns a.best.s q)).map fun (q : Nat) => (q : Int))).map V.int ∧ Same H5 H' ∧ ∃ o0, τ = [o0, some (.int a.best.s), some (.ref r), some (.ref en), some (.ref l2)]) ⟨upd_same, rfl, Same.new hacc _, none, rfl⟩ (by (first | lia | omega)) ?_ ?_ ?_ ?_
  · rintro i τ zs H' ⟨e, rfl, _⟩
    refine ⟨e, ?_⟩
    rw [List.length_map, List.length_map]
    exact Nat.le_trans (List.length_filter_le _ _) (by rw [List.length_range]; exact Nat.le_refl _)
  · rintro i τ zs H' hi _
    exact hi
  · rintro τ zs H6 ⟨e, rfl, sm, _⟩
    exact ⟨Nat.le_refl _, fin acc a.best H6 (s05.trans sm) (s05.free hacc) tz e⟩
  · rintro i τ zs H6 x H7 hi ⟨e, rfl, sm, o0, rfl⟩ ⟨rfl, rfl⟩
    have lp : (pprL ns ns.length).length = ns.length := pprL_len
    have lq : (pprL ns.reverse ns.reverse.length).reverse.length = ns.length := by rw [List.length_reverse, pprL_len, lrev]
    have ei : (0 + (i : Int)).toNat = i := by (first | lia | omega)
    have g1 : (pprL ns ns.length).getD i 0 = ppr ns i := pprL_at hi
    have g2 : (pprL ns.reverse ns.reverse.length).reverse.getD i 0 = ppr ns.reverse (ns.length - 1 - i) := by
      rw [List.getD_eq_getElem?_getD, List.getElem?_reverse (by rw [pprL_len, lrev]; exact hi), pprL_len, lrev, ← List.getD_eq_getElem?_getD]
      exact pprL_at (by (first | lia | omega))
    walk_at "rd"
    refine ⟨_, _, _, _, rfl, rfl, SqL.of (sm _ _ (s25 _ _ hen)), atI_ok (by (first | lia | omega)) (by (first | lia | omega)), ?_⟩
    walk_at "rd"
    refine ⟨_, _, _, _, rfl, rfl, SqL.of (sm _ _ hl25), atI_ok (by (first | lia | omega)) (by (first | lia | omega)), ?_⟩
    walk_at "rd"
    refine ⟨_, _, _, _, rfl, rfl, SqL.of (sm _ _ hr5), atI_ok (by (first | lia | omega)) (by (first | lia | omega)), ?_⟩
    rw [ei, g1, g2]
    walk_at "rd"
    have hh := hit_iff hi tz
    refine ifI (fun he => ?_) (fun hne => ?_)
    · have hit := hh.mp he
      walk_at "rd"
      refine ⟨e, Nx.mk hi ⟨upd_same, ?_, sm.upd hacc, _, rfl⟩⟩
      rw [List.range_succ, List.filter_append, List.map_append, List.map_append]
      have : ([i].filter fun q => decide (Hit ns a.best.s q)) = [i] := by simp [hit]
      rw [this]
      show _ ++ [V.int (0 + (i : Int))] = _ ++ [V.int (i : Int)]
      rw [Int.zero_add]
    · have hit : ¬ Hit ns a.best.s i := fun z => hne (hh.mpr z)
      refine Nx.mk hi ⟨e, ?_, sm, _, rfl⟩
      rw [List.range_succ, List.filter_append, List.map_append, List.map_append]
      have : ([i].filter fun q => decide (Hit ns a.best.s q)) = [] := by simp [hit]
      rw [this]
      simp
/-! ### a number put in a place, and what it must be -/
theorem psum_nx {ns : List Int} {i : Nat} (h : i < ns.length) : psum ns (i + 1) = psum ns i + ns.getD i 0 := by
  rw [psum_succ h, List.getD_eq_getElem?_getD, List.getElem?_eq_getElem h]
  rfl
theorem set_low {ns : List Int} {i b : Nat} {x : Int} (h : b ≤ i) : psum (ns.set i x) b = psum ns b := by
  unfold psum
  rw [List.take_set_of_le h]
theorem set_high {ns : List Int} {i : Nat} {x : Int} (hi : i < ns.length) : ∀ b, i < b → b ≤ ns.length → psum (ns.set i x) b = psum ns b + (x - ns.getD i 0)
  | 0, h, _ => absurd h (by (first | lia | omega))
  | b + 1, h, hb => by
    have a := psum_nx (ns := ns.set i x) (i := b) (by rw [List.length_set]; (first | lia | omega))
    have c := psum_nx (ns := ns) (i := b) (by (first | lia | omega))
    by_cases e : b = i
    · subst e
      have g : (ns.set b x).getD b 0 = x := by rw [List.getD_eq_getElem?_getD, List.getElem?_set_self hi]; rfl
      rw [a, c, g, set_low (Nat.le_refl _)]
      (first | lia | omega)
    · have g : (ns.set i x).getD b 0 = ns.getD b 0 := by rw [List.getD_eq_getElem?_getD, List.getElem?_set_ne (Ne.symm e), ← List.getD_eq_getElem?_getD]
      have ih := set_high (x := x) hi b (by (first | lia | omega)) (by (first | lia | omega))
      rw [a, c, g, ih]
      (first | lia | omega)
def cutA {α : Type} (xs : List α) (lo hi : Option Int) : List α := (xs.drop (HT.sIx xs.length 0 lo)).take (HT.sIx xs.length xs.length hi - HT.sIx xs.length 0 lo)
/-! ### a planted row -/
theorem pl_low {xs ys : List Int} {b : Nat} (h : b ≤ xs.length) : psum (xs ++ ys) b = psum xs b := by
  unfold psum
  rw [List.take_append_of_le_length h]
theorem pl_high {xs ys : List Int} (b : Nat) : psum (xs ++ ys) (xs.length + b) = psum xs xs.length + psum ys b := by
  unfold psum
  rw [List.take_length_add_append, List.sum_append, List.take_length]
def Blk (xs : List Int) (z : Int) : Prop := psum xs xs.length = z ∧ ∀ f b : Nat, f ≤ b → b ≤ xs.length → psum xs b - psum xs f ≤ z
def Tl (t : List Int) : Prop := psum t t.length = 0 ∧ ∀ j : Nat, j ≤ t.length → -1 ≤ psum t j ∧ psum t j ≤ 0
def Hd (t : List Int) : Prop := psum t t.length = 0 ∧ ∀ j : Nat, j ≤ t.length → 0 ≤ psum t j ∧ psum t j ≤ 1
structure Pl (w : Int) (row due : List Int) : Prop where
  all : ∀ f b : Nat, f ≤ b → b ≤ row.length → psum row b - psum row f ≤ w
  suf : ∀ f : Nat, f < row.length → psum row row.length - psum row f ≤ -1
  due : due = placesOf row w
def ExW (row : List Int) (w : Int) : Prop := ∃ f b : Nat, f < b ∧ b ≤ row.length ∧ psum row b - psum row f = w
def Bes (t : List Int) : Prop := Tl t ∧ Hd t.reverse ∧ t.length ≤ 4
/-! ### rows of three blocks -/
theorem psum_rep {n j : Nat} {x : Int} (h : j ≤ n) : psum (List.replicate n x) j = x * j := by
  unfold psum
  rw [List.take_replicate, Nat.min_eq_left h]
  clear h
  induction j with
  | zero => rw [Int.natCast_zero, Int.mul_zero]; rfl
  | succ j ih => rw [List.replicate_succ, List.sum_cons, ih, Int.natCast_succ, Int.mul_add, Int.mul_one]; (first | lia | omega)
def row3 (a w c : Nat) (x y z : Int) : List Int := (List.replicate a x ++ List.replicate w y) ++ List.replicate c z
theorem row3_len {a w c : Nat} {x y z : Int} : (row3 a w c x y z).length = a + w + c := by
  unfold row3
  rw [List.length_append, List.length_append, List.length_replicate, List.length_replicate, List.length_replicate]
theorem row3_a {a w c : Nat} {x y z : Int} {j : Nat} (h : j ≤ a) : psum (row3 a w c x y z) j = x * j := by
  unfold row3
  rw [pl_low (by rw [List.length_append, List.length_replicate]; (first | lia | omega)), pl_low (by rw [List.length_replicate]; exact h), psum_rep h]
theorem row3_b {a w c : Nat} {x y z : Int} {j : Nat} (h1 : a ≤ j) (h2 : j ≤ a + w) : psum (row3 a w c x y z) j = x * a + y * ((j : Int) - a) := by
  have l1 : (List.replicate a x).length = a := List.length_replicate
  obtain ⟨i, rfl⟩ : ∃ i, j = a + i := ⟨j - a, by (first | lia | omega)⟩
  unfold row3
  rw [pl_low (by rw [List.length_append, List.length_replicate, List.length_replicate]; (first | lia | omega))]
  have e := pl_high (xs := List.replicate a x) (ys := List.replicate w y) i
  rw [l1] at e
  rw [e, psum_rep (Nat.le_refl _), psum_rep (by (first | lia | omega)), show ((a + i : Nat) : Int) - a = (i : Int) by (first | lia | omega)]
theorem row3_c {a w c : Nat} {x y z : Int} {j : Nat} (h1 : a + w ≤ j) (h2 : j ≤ a + w + c) : psum (row3 a w c x y z) j = x * a + y * w + z * ((j : Int) - (a + w)) := by
  have l1 : (List.replicate a x ++ List.replicate w y).length = a + w := by rw [List.length_append, List.length_replicate, List.length_replicate]
  have e2 : psum (List.replicate a x ++ List.replicate w y) (a + w) = x * a + y * w := by
    have := row3_b (a := a) (w := w) (c := 0) (x := x) (y := y) (z := z) (j := a + w) (by (first | lia | omega)) (Nat.le_refl _)
    unfold row3 at this
    rw [List.replicate_zero, List.append_nil] at this
    rw [this, show ((a + w : Nat) : Int) - a = (w : Int) by (first | lia | omega)]
  obtain ⟨i, rfl⟩ : ∃ i, j = a + w + i := ⟨j - (a + w), by (first | lia | omega)⟩
  unfold row3
  have e := pl_high (xs := List.replicate a x ++ List.replicate w y) (ys := List.replicate c z) i
  rw [l1] at e
  rw [e, e2, psum_rep (by (first | lia | omega)), show ((a + w + i : Nat) : Int) - (a + w) = (i : Int) by (first | lia | omega)]
/-- the best of a part, told by any stretch that no other is above -/
theorem cut_is {ns : List Int} {f b : Nat} {x : Sx} (hf : f < b) (hb : b ≤ ns.length) (hx : Top (PB (cutI ns (f : Int) (b : Int))) x) {p q : Nat} (h1 : f ≤ p) (h2 : p < q) (h3 : q ≤ b)
    (h : ∀ p' q', f ≤ p' → p' < q' → q' ≤ b → psum ns q' - psum ns p' < psum ns q - psum ns p ∨ (psum ns q' - psum ns p' = psum ns q - psum ns p ∧ (p < p' ∨ (p = p' ∧ q ≤ q')))) :
    x.s = psum ns q - psum ns p ∧ x.f + f = p ∧ x.b + f = q := by
  have hl : (cutI ns (f : Int) (b : Int)).length = b - f := by
    unfold cutI
    rw [List.length_take, List.length_drop, show ((b : Nat) : Int).toNat = b from rfl, show ((f : Nat) : Int).toNat = f from rfl]
    (first | lia | omega)
  have hp : ∀ {j : Nat}, j ≤ b - f → psum (cutI ns (f : Int) (b : Int)) j = psum ns (f + j) - psum ns f := fun {j} hj => by
    have := psum_cutK (ns := ns) (f := (f : Int)) (b := (b : Int)) (j := j) (by (first | lia | omega)) (by (first | lia | omega)) (by (first | lia | omega)) (by (first | lia | omega))
    rw [show ((f : Nat) : Int).toNat = f from rfl] at this
    exact this
  obtain ⟨i, j, g1, g2, e⟩ := hx.has
  rw [hl] at g2
  have es : x.s = psum ns (f + j) - psum ns (f + i) := by
    rw [e]
    show psum (cutI ns (f : Int) (b : Int)) j - psum (cutI ns (f : Int) (b : Int)) i = _
    rw [hp g2, hp (by (first | lia | omega))]
    (first | lia | omega)
  have ef : x.f = i := by rw [e]
  have eb : x.b = j := by rw [e]
  have t1 := h (f + i) (f + j) (by (first | lia | omega)) (by (first | lia | omega)) (by (first | lia | omega))
  have t2 := hx.le ⟨psum (cutI ns (f : Int) (b : Int)) (q - f) - psum (cutI ns (f : Int) (b : Int)) (p - f), ((p - f : Nat) : Int), ((q - f : Nat) : Int)⟩ ⟨p - f, q - f, by (first | lia | omega), by rw [hl]; (first | lia | omega), rfl⟩
  unfold Sx.le at t2
  dsimp only at t2
  rw [hp (by (first | lia | omega)), hp (by (first | lia | omega)), show f + (q - f) = q by (first | lia | omega), show f + (p - f) = p by (first | lia | omega)] at t2
  (first | lia | omega)
theorem ring_is {ns : List Int} {x : Sx} (hx : Top (PG ns) x) {f m : Nat} (h1 : f < ns.length) (h2 : 1 ≤ m) (h3 : m ≤ ns.length)
    (h : ∀ f' m', f' < ns.length → 1 ≤ m' → m' ≤ ns.length → rg ns f' m' < rg ns f m ∨ (rg ns f' m' = rg ns f m ∧ (f < f' ∨ (f = f' ∧ m ≤ m')))) : x = ⟨rg ns f m, f, m⟩ := by
  refine hx.uniq ⟨⟨f, m, h1, h2, h3, rfl⟩, fun y hy => ?_⟩
  obtain ⟨f', m', g1, g2, g3, rfl⟩ := hy
  have := h f' m' g1 g2 g3
  unfold Sx.le
  dsimp only
  (first | lia | omega)
theorem must_is {ns : List Int} {i : Nat} {v W B : Int} (h : MustIs ns i v) (hW : MaxOf (OutP ns i) W) (hB : MaxOf (InP ns i) B) : v = W - B := by
  obtain ⟨W', B', h1, h2, e⟩ := h
  have := hW.2 _ h1.1
  have := h1.2 _ hW.1
  have := hB.2 _ h2.1
  have := h2.2 _ hB.1
  (first | lia | omega)
/-- -1 .. 1 .. -1 -/
def Peak (ns : List Int) (a w n : Nat) : Prop := ns.length = n ∧ ∀ j : Nat, j ≤ n → (j ≤ a ∧ psum ns j = -j) ∨ (a < j ∧ j ≤ a + w ∧ psum ns j = (j : Int) - 2 * a) ∨ (a + w < j ∧ psum ns j = 2 * (w : Int) - j)
theorem peak_row {a w c : Nat} : Peak (row3 a w c (-1) 1 (-1)) a w (a + w + c) := by
  refine ⟨row3_len, fun j hj => ?_⟩
  by_cases h1 : j ≤ a
  · exact .inl ⟨h1, by rw [row3_a h1]; (first | lia | omega)⟩
  by_cases h2 : j ≤ a + w
  · exact .inr (.inl ⟨by (first | lia | omega), h2, by rw [row3_b (by (first | lia | omega)) h2]; (first | lia | omega)⟩)
  · exact .inr (.inr ⟨by (first | lia | omega), by rw [row3_c (by (first | lia | omega)) hj]; (first | lia | omega)⟩)
theorem peak_ring {ns : List Int} {a w n : Nat} {x : Sx} (h : Peak ns a w n) (hw : 1 ≤ w) (ha : a + w < n) (h1 : 1 ≤ a) (hx : Top (PG ns) x) : x = ⟨w, a, w⟩ := by
  have e : rg ns a w = w := by
    have p1 := h.2 a (by (first | lia | omega))
    have p2 := h.2 (a + w) (by (first | lia | omega))
    unfold rg
    rw [if_pos (by rw [h.1]; (first | lia | omega))]
    (first | lia | omega)
  rw [ring_is hx (f := a) (m := w) (by rw [h.1]; (first | lia | omega)) hw (by rw [h.1]; (first | lia | omega)) (fun f' m' g1 g2 g3 => ?_), e]
  rw [e]
  rw [h.1] at g1 g3
  have p1 := h.2 f' (by (first | lia | omega))
  unfold rg
  rw [h.1]
  split
  · rename_i hle
    have p2 := h.2 (f' + m') (by (first | lia | omega))
    (first | lia | omega)
  · rename_i hle
    have p2 := h.2 n (Nat.le_refl _)
    have p3 := h.2 (f' + m' - n) (by (first | lia | omega))
    (first | lia | omega)
theorem peak_must {ns : List Int} {a w n i : Nat} {v : Int} (h : Peak ns a w n) (hw : 1 ≤ w) (ha : a + w < n) (h1 : 1 ≤ a) (hi : i + 1 = a ∨ i = a + w) (hv : MustIs ns i v) : v = 0 := by
  have q1 := h.2 a (by (first | lia | omega))
  have q2 := h.2 (a + w) (by (first | lia | omega))
  have q3 := h.2 i (by (first | lia | omega))
  have q4 := h.2 (i + 1) (by (first | lia | omega))
  have hn := h.1
  have hW : MaxOf (OutP ns i) w := by
    refine ⟨⟨a, a + w, by (first | lia | omega), by (first | lia | omega), by (first | lia | omega), by (first | lia | omega)⟩, fun x hx => ?_⟩
    obtain ⟨f, b, g1, g2, g3, rfl⟩ := hx
    have p1 := h.2 f (by (first | lia | omega))
    have p2 := h.2 b (by (first | lia | omega))
    (first | lia | omega)
  have hB : MaxOf (InP ns i) w := by
    constructor
    · rcases hi with z | z
      · exact ⟨i, a + w, by (first | lia | omega), by (first | lia | omega), by (first | lia | omega), by (first | lia | omega)⟩
      · exact ⟨a, i + 1, by (first | lia | omega), by (first | lia | omega), by (first | lia | omega), by (first | lia | omega)⟩
    · rintro x ⟨f, b, g1, g2, g3, rfl⟩
      have p1 := h.2 f (by (first | lia | omega))
      have p2 := h.2 b (by (first | lia | omega))
      (first | lia | omega)
  have := must_is hv hW hB
  (first | lia | omega)
theorem peak_whole {ns : List Int} {a w n : Nat} {x : Sx} (h : Peak ns a w n) (hw : 1 ≤ w) (ha : a + w < n) (h1 : 1 ≤ a) (hx : Top (PB (cutI ns ((0 : Nat) : Int) (n : Int))) x) : x.s = w ∧ x.f + ((0 : Nat) : Int) = a ∧ x.b + ((0 : Nat) : Int) = (a : Int) + w := by
  have q1 := h.2 a (by (first | lia | omega))
  have q2 := h.2 (a + w) (by (first | lia | omega))
  have := cut_is (by (first | lia | omega)) (by rw [h.1]; (first | lia | omega)) hx (p := a) (q := a + w) (by (first | lia | omega)) (by (first | lia | omega)) (by (first | lia | omega)) (fun p' q' g1 g2 g3 => by
    have p1 := h.2 p' (by (first | lia | omega))
    have p2 := h.2 q' (by (first | lia | omega))
    (first | lia | omega))
  (first | lia | omega)
theorem peak_back {ns : List Int} {a w n i : Nat} {x : Sx} (h : Peak ns a w n) (ha : a + w < n) (hi : a < i) (hi2 : i < a + w) (hx : Top (PB (cutI ns (i : Int) (n : Int))) x) : x.s = (a : Int) + w - i ∧ x.f + (i : Int) = i ∧ x.b + (i : Int) = (a : Int) + w := by
  have q1 := h.2 i (by (first | lia | omega))
  have q2 := h.2 (a + w) (by (first | lia | omega))
  have := cut_is (by (first | lia | omega)) (by rw [h.1]; (first | lia | omega)) hx (p := i) (q := a + w) (by (first | lia | omega)) (by (first | lia | omega)) (by (first | lia | omega)) (fun p' q' g1 g2 g3 => by
    have p1 := h.2 p' (by (first | lia | omega))
    have p2 := h.2 q' (by (first | lia | omega))
    (first | lia | omega))
  (first | lia | omega)
theorem peak_front {ns : List Int} {a w n i : Nat} {x : Sx} (h : Peak ns a w n) (ha : a + w < n) (hi : a < i) (hi2 : i < a + w) (hx : Top (PB (cutI ns ((0 : Nat) : Int) (i : Int))) x) : x.s = (i : Int) - a ∧ x.f + ((0 : Nat) : Int) = a ∧ x.b + ((0 : Nat) : Int) = i := by
  have q1 := h.2 i (by (first | lia | omega))
  have q2 := h.2 a (by (first | lia | omega))
  have := cut_is (by (first | lia | omega)) (by rw [h.1]; (first | lia | omega)) hx (p := a) (q := i) (by (first | lia | omega)) (by (first | lia | omega)) (by (first | lia | omega)) (fun p' q' g1 g2 g3 => by
    have p1 := h.2 p' (by (first | lia | omega))
    have p2 := h.2 q' (by (first | lia | omega))
    (first | lia | omega))
  (first | lia | omega)
theorem peak_low {ns : List Int} {a w n : Nat} {x : Sx} (h : Peak ns a w n) (ha : a + w < n) (h1 : 1 ≤ a) (hx : Top (PB (cutI ns ((0 : Nat) : Int) (a : Int))) x) : x.s = -1 ∧ x.f + ((0 : Nat) : Int) = 0 ∧ x.b + ((0 : Nat) : Int) = 1 := by
  have q1 := h.2 0 (by (first | lia | omega))
  have q2 := h.2 1 (by (first | lia | omega))
  have := cut_is (by (first | lia | omega)) (by rw [h.1]; (first | lia | omega)) hx (p := 0) (q := 1) (by (first | lia | omega)) (by (first | lia | omega)) (by (first | lia | omega)) (fun p' q' g1 g2 g3 => by
    have p1 := h.2 p' (by (first | lia | omega))
    have p2 := h.2 q' (by (first | lia | omega))
    (first | lia | omega))
  (first | lia | omega)
open Classical in
theorem peak_places {ns : List Int} {a w n : Nat} {z : Sx} (h : Peak ns a w n) (hw : 1 ≤ w) (ha : a + w < n) (h1 : 1 ≤ a) (hz : Top (PB ns) z) : placesOf ns z.s = (List.range w).map fun (i : Nat) => (a : Int) + (i : Int) := by
  have q1 := h.2 a (by (first | lia | omega))
  have q2 := h.2 (a + w) (by (first | lia | omega))
  have es : z.s = w := by
    obtain ⟨p, q, g1, g2, e⟩ := hz.has
    rw [h.1] at g2
    have t := hz.le ⟨psum ns (a + w) - psum ns a, (a : Nat), ((a + w : Nat) : Int)⟩ ⟨a, a + w, by (first | lia | omega), by rw [h.1]; (first | lia | omega), rfl⟩
    unfold Sx.le at t
    dsimp only at t
    have p1 := h.2 p (by (first | lia | omega))
    have p2 := h.2 q (by (first | lia | omega))
    have e' : z.s = psum ns q - psum ns p := by rw [e]
    (first | lia | omega)
  have hit : ∀ p, p < n → (Hit ns z.s p ↔ (a ≤ p ∧ p < a + w)) := fun p hp => by
    rw [es]
    constructor
    · rintro ⟨f, b, g1, g2, g3, e⟩
      rw [h.1] at g3
      have p1 := h.2 f (by (first | lia | omega))
      have p2 := h.2 b (by (first | lia | omega))
      (first | lia | omega)
    · intro g
      exact ⟨a, a + w, g.1, g.2, by rw [h.1]; (first | lia | omega), by (first | lia | omega)⟩
  obtain ⟨c, hc⟩ : ∃ c, n = a + (w + c) := ⟨n - a - w, by (first | lia | omega)⟩
  unfold placesOf
  rw [h.1]
  have e1 : (List.range n).filter (fun p => decide (Hit ns z.s p)) = (List.range n).filter fun p => decide (a ≤ p ∧ p < a + w) := by
    refine List.filter_congr fun p hp => ?_
    exact decide_eq_decide.mpr (hit p (List.mem_range.mp hp))
  rw [e1, hc, List.range_add, List.range_add, List.map_append, List.filter_append, List.filter_append, List.filter_eq_nil_iff.mpr, List.filter_eq_self.mpr, List.nil_append]
  · rw [List.filter_eq_nil_iff.mpr, List.append_nil, List.map_map]
    · exact List.map_congr_left fun i _ => by show ((a + i : Nat) : Int) = _; (first | lia | omega)
    · intro p hp
      rw [List.map_map] at hp
      obtain ⟨i, _, rfl⟩ := List.mem_map.mp hp
      show ¬ decide (a ≤ a + (w + i) ∧ a + (w + i) < a + w) = true
      rw [decide_eq_true_iff]
      (first | lia | omega)
  · intro p hp
    obtain ⟨i, hi, rfl⟩ := List.mem_map.mp hp
    have := List.mem_range.mp hi
    rw [decide_eq_true_iff]
    (first | lia | omega)
  · intro p hp
    have := List.mem_range.mp hp
    rw [decide_eq_true_iff]
    (first | lia | omega)
/-- one place of the middle fallen -/
def Fall (ns : List Int) (a w n t : Nat) : Prop := ns.length = n ∧ ∀ j : Nat, j ≤ n → (j ≤ a ∧ psum ns j = -j) ∨ (a < j ∧ j ≤ t ∧ psum ns j = (j : Int) - 2 * a) ∨ (t < j ∧ j ≤ a + w ∧ psum ns j = (j : Int) - 2 * a - 1 - n) ∨ (a + w < j ∧ psum ns j = 2 * (w : Int) - j - 1 - n)
theorem peak_fall {ns : List Int} {a w n t : Nat} (h : Peak ns a w n) (ha : a + w < n) (ht : a < t) (ht2 : t < a + w) : Fall (ns.set t (-(n : Int))) a w n t := by
  refine ⟨by rw [List.length_set]; exact h.1, fun j hj => ?_⟩
  have hg : ns.getD t 0 = 1 := by
    have e := psum_nx (ns := ns) (i := t) (by rw [h.1]; (first | lia | omega))
    have p1 := h.2 t (by (first | lia | omega))
    have p2 := h.2 (t + 1) (by (first | lia | omega))
    (first | lia | omega)
  have p := h.2 j hj
  by_cases hj2 : j ≤ t
  · rw [set_low hj2]
    (first | lia | omega)
  · rw [set_high (by rw [h.1]; (first | lia | omega)) j (by (first | lia | omega)) (by rw [h.1]; (first | lia | omega)), hg]
    (first | lia | omega)
theorem fall_whole {ns : List Int} {a w n t : Nat} {x : Sx} (h : Fall ns a w n t) (ha : a + w < n) (h1 : 1 ≤ a) (ht : a < t) (ht2 : t < a + w) (hx : Top (PB (cutI ns ((0 : Nat) : Int) (n : Int))) x) :
    (a + w - t - 1 ≤ t - a → x.s = (t : Int) - a ∧ x.f + ((0 : Nat) : Int) = a ∧ x.b + ((0 : Nat) : Int) = t) ∧ (t - a < a + w - t - 1 → x.s = (a : Int) + w - t - 1 ∧ x.f + ((0 : Nat) : Int) = (t : Int) + 1 ∧ x.b + ((0 : Nat) : Int) = (a : Int) + w) := by
  have q1 := h.2 a (by (first | lia | omega))
  have q2 := h.2 t (by (first | lia | omega))
  have q3 := h.2 (t + 1) (by (first | lia | omega))
  have q4 := h.2 (a + w) (by (first | lia | omega))
  constructor
  · intro hle
    have := cut_is (by (first | lia | omega)) (by rw [h.1]; (first | lia | omega)) hx (p := a) (q := t) (by (first | lia | omega)) (by (first | lia | omega)) (by (first | lia | omega)) (fun p' q' g1 g2 g3 => by
      have p1 := h.2 p' (by (first | lia | omega))
      have p2 := h.2 q' (by (first | lia | omega))
      (first | lia | omega))
    (first | lia | omega)
  · intro hlt
    have := cut_is (by (first | lia | omega)) (by rw [h.1]; (first | lia | omega)) hx (p := t + 1) (q := a + w) (by (first | lia | omega)) (by (first | lia | omega)) (by (first | lia | omega)) (fun p' q' g1 g2 g3 => by
      have p1 := h.2 p' (by (first | lia | omega))
      have p2 := h.2 q' (by (first | lia | omega))
      (first | lia | omega))
    (first | lia | omega)
theorem fall_must {ns : List Int} {a w n t : Nat} {v : Int} (h : Fall ns a w n t) (ha : a + w < n) (h1 : 1 ≤ a) (ht : a < t) (ht2 : t < a + w) (hv : MustIs ns t v) : v = -((min (t - a) (a + w - t - 1) : Nat) : Int) := by
  have q1 := h.2 a (by (first | lia | omega))
  have q2 := h.2 t (by (first | lia | omega))
  have q3 := h.2 (t + 1) (by (first | lia | omega))
  have q4 := h.2 (a + w) (by (first | lia | omega))
  have hn := h.1
  have hW : MaxOf (OutP ns t) ((max (t - a) (a + w - t - 1) : Nat) : Int) := by
    constructor
    · by_cases hc : a + w - t - 1 ≤ t - a
      · exact ⟨a, t, by (first | lia | omega), by (first | lia | omega), by (first | lia | omega), by (first | lia | omega)⟩
      · exact ⟨t + 1, a + w, by (first | lia | omega), by (first | lia | omega), by (first | lia | omega), by (first | lia | omega)⟩
    · rintro x ⟨f, b, g1, g2, g3, rfl⟩
      have p1 := h.2 f (by (first | lia | omega))
      have p2 := h.2 b (by (first | lia | omega))
      (first | lia | omega)
  have hB : MaxOf (InP ns t) ((w : Int) - 1) := by
    refine ⟨⟨a, a + w, by (first | lia | omega), by (first | lia | omega), by (first | lia | omega), by (first | lia | omega)⟩, ?_⟩
    rintro x ⟨f, b, g1, g2, g3, rfl⟩
    have p1 := h.2 f (by (first | lia | omega))
    have p2 := h.2 b (by (first | lia | omega))
    (first | lia | omega)
  have := must_is hv hW hB
  (first | lia | omega)
theorem ends_ring {a m b : Nat} {x : Sx} (ha : 1 ≤ a) (hm : 1 ≤ m) (hb : 1 ≤ b) (hx : Top (PG (row3 a m b 1 (-2) 1)) x) : x = ⟨(a : Int) + b, (a : Int) + m, (a : Int) + b⟩ := by
  obtain ⟨n, hn⟩ : ∃ n, n = a + m + b := ⟨_, rfl⟩
  have hl : (row3 a m b 1 (-2) 1).length = n := by rw [hn]; exact row3_len
  have h : ∀ j : Nat, j ≤ n → (j ≤ a ∧ psum (row3 a m b 1 (-2) 1) j = j) ∨ (a < j ∧ j ≤ a + m ∧ psum (row3 a m b 1 (-2) 1) j = 3 * (a : Int) - 2 * j) ∨ (a + m < j ∧ psum (row3 a m b 1 (-2) 1) j = (j : Int) - 3 * m) := fun j hj => by
    by_cases h1 : j ≤ a
    · exact .inl ⟨h1, by rw [row3_a h1]; (first | lia | omega)⟩
    by_cases h2 : j ≤ a + m
    · exact .inr (.inl ⟨by (first | lia | omega), h2, by rw [row3_b (by (first | lia | omega)) h2]; (first | lia | omega)⟩)
    · exact .inr (.inr ⟨by (first | lia | omega), by rw [row3_c (by (first | lia | omega)) (by (first | lia | omega))]; (first | lia | omega)⟩)
  have q1 := h a (by (first | lia | omega))
  have q2 := h (a + m) (by (first | lia | omega))
  have q3 := h n (by (first | lia | omega))
  have e : rg (row3 a m b 1 (-2) 1) (a + m) (a + b) = (a : Int) + b := by
    unfold rg
    rw [if_neg (by rw [hl]; (first | lia | omega)), hl, show a + m + (a + b) - n = a by (first | lia | omega)]
    (first | lia | omega)
  rw [ring_is hx (f := a + m) (m := a + b) (by rw [hl]; (first | lia | omega)) (by (first | lia | omega)) (by rw [hl]; (first | lia | omega)) (fun f' m' g1 g2 g3 => ?_), e]
  · simp only [Int.natCast_add]
  rw [e]
  rw [hl] at g1 g3
  have p1 := h f' (by (first | lia | omega))
  unfold rg
  rw [hl]
  split
  · rename_i hle
    have p2 := h (f' + m') (by (first | lia | omega))
    (first | lia | omega)
  · rename_i hle
    have p3 := h (f' + m' - n) (by (first | lia | omega))
    (first | lia | omega)
/-- changes taken back -/
theorem put_back {ns : List Int} : ∀ {cs : List (Int × Int)} {ms : List Int}, InRow ns.length cs → ms.length = ns.length → (∀ i, i < ns.length → ms.getD i 0 = ns.getD i 0 ∨ ∃ c, c ∈ cs ∧ c.1 = (i : Int)) → putAll ms (cs.map fun c => (c.1, ns.getD c.1.toNat 0)) = ns
  | [], ms, _, hl, h => by
    show ms = ns
    refine List.ext_getElem hl fun i h1 h2 => ?_
    rcases h i h2 with z | ⟨c, hc, _⟩
    · rw [List.getD_eq_getElem?_getD, List.getD_eq_getElem?_getD, List.getElem?_eq_getElem h1, List.getElem?_eq_getElem h2] at z
      exact z
    · cases hc
  | c :: cs, ms, hin, hl, h => by
    have hc := hin c (List.mem_cons_self)
    show putAll (ms.set c.1.toNat (ns.getD c.1.toNat 0)) (cs.map fun c => (c.1, ns.getD c.1.toNat 0)) = ns
    refine put_back (fun d hd => hin d (List.mem_cons_of_mem _ hd)) (by rw [List.length_set]; exact hl) fun i hi => ?_
    by_cases e : c.1.toNat = i
    · refine .inl ?_
      rw [e, List.getD_eq_getElem?_getD, List.getElem?_set, if_pos rfl, if_pos (by (first | lia | omega))]
      rfl
    · rcases h i hi with z | ⟨d, hd, ed⟩
      · refine .inl ?_
        rw [List.getD_eq_getElem?_getD, List.getElem?_set, if_neg e, ← List.getD_eq_getElem?_getD]
        exact z
      · rcases List.mem_cons.mp hd with rfl | hd
        · (first | lia | omega)
        · exact .inr ⟨d, hd, ed⟩
theorem put_all_back {ns : List Int} {cs : List (Int × Int)} (hin : InRow ns.length cs) : putAll (putAll ns cs) (cs.map fun c => (c.1, ns.getD c.1.toNat 0)) = ns := by
  refine put_back hin putAll_len fun i hi => ?_
  by_cases h : ∃ c, c ∈ cs ∧ c.1 = (i : Int)
  · exact .inr h
  refine .inl ?_
  have : ∀ {cs : List (Int × Int)} {ms : List Int}, InRow ns.length cs → (¬ ∃ c, c ∈ cs ∧ c.1 = (i : Int)) → (putAll ms cs).getD i 0 = ms.getD i 0 := fun {cs} => by
    induction cs with
    | nil => exact fun _ _ => rfl
    | cons c cs ih =>
      intro ms hin h
      have hc := hin c (List.mem_cons_self)
      show (putAll (ms.set c.1.toNat c.2) cs).getD i 0 = _
      rw [ih (fun d hd => hin d (List.mem_cons_of_mem _ hd)) (fun ⟨d, hd, e⟩ => h ⟨d, List.mem_cons_of_mem _ hd, e⟩), List.getD_eq_getElem?_getD, List.getElem?_set, if_neg (fun z => h ⟨c, List.mem_cons_self, by (first | lia | omega)⟩), ← List.getD_eq_getElem?_getD]
  exact this hin h
/-- tuples of ints, == -/
theorem EqT {K : PySem.W.Frag} {H : Hp} {a b : Addr} {ns ms : List Int} (ha : SqT K H a (ns.map V.int)) (hb : SqT K H b (ms.map V.int)) : EqD K H 1 (.ref a) (.ref b) (decide (ns = ms)) := by
  have q := EqD.tup (n := 0) (e := fun j => ns.getD j 0 == ms.getD j 0) ha hb fun j x y ex ey => by
    rw [List.getElem?_map] at ex ey
    cases e1 : ns[j]? with
    | none => rw [e1] at ex; cases ex
    | some i =>
      cases e2 : ms[j]? with
      | none => rw [e2] at ey; cases ey
      | some i' =>
        rw [e1] at ex; rw [e2] at ey
        cases ex; cases ey
        have z := EqD.flat (K := K) (H := H) (x := V.int i) (y := V.int i') rfl rfl
        have z2 : (ns.getD j 0 == ms.getD j 0) = eqV (V.int i) (V.int i') := by rw [List.getD_eq_getElem?_getD, List.getD_eq_getElem?_getD, e1, e2]; rfl
        rw [z2]
        exact z
  have e : ((List.range (min (ns.map V.int).length (ms.map V.int).length)).all (fun j => ns.getD j 0 == ms.getD j 0) && (ns.map V.int).length == (ms.map V.int).length) = decide (ns = ms) := by
    rw [List.length_map, List.length_map, Bool.eq_iff_iff, decide_eq_true_iff, Bool.and_eq_true, List.all_eq_true, beq_iff_eq]
    constructor
    · rintro ⟨h, hl⟩
      refine List.ext_getElem hl fun j h1 h2 => ?_
      have := h j (List.mem_range.mpr (by (first | lia | omega)))
      rw [List.getD_eq_getElem?_getD, List.getD_eq_getElem?_getD, List.getElem?_eq_getElem h1, List.getElem?_eq_getElem h2] at this
      simpa using this
    · rintro rfl
      exact ⟨fun j _ => beq_self_eq_true _, rfl⟩
  rw [← e]
  exact q
/-! ### _law_right -/
theorem rep_x {s : Nat} {x : Int} : (List.replicate s [V.int x]).flatten = (List.replicate s x).map V.int := by
  induction s with
  | zero => rfl
  | succ s ih => rw [List.replicate_succ, List.flatten_cons, ih, List.replicate_succ]; rfl
theorem eq3 {a b c a' b' c' : Int} (h : a = a' ∧ b = b' ∧ c = c') : decide ([a, b, c] = [a', b', c']) = true := by
  rw [h.1, h.2.1, h.2.2, decide_eq_true rfl]
def sp_right37 : Sp := fun vs H Q _ => ∃ (pot : Addr) (n a w : Nat), vs = [.ref pot, .int n, .int a, .int w] ∧ Pot H pot ∧ 1 ≤ a ∧ 2 ≤ w ∧ a + w < n ∧ n ≤ 3000 ∧ ∀ H', SameX pot H H' → Pot H' pot → Q (.bl true) H'
theorem ok_right37 {P : Program} {w : World} {K : PySem.W.Frag} {mg : Str → Option Value} {base : Heap} {k : Nat} {f : Addr} {fd : FuncData} (F : Fun K "_law_right" "_law_right" s_law_right f fd) (Z : Blt mg)
    (D_law_next : Def P w K mg base k "_law_next" ["pot", "many"] sp_next) (D_kept : Def P w K mg base k "kept" ["row"] sp_kept) (D_best_in : Def P w K mg base k "best_in" ["held", "stretch"] sp_bestin) (D_sum_in : Def P w K mg base k "sum_in" ["held", "stretch"] sp_sumin) (D_places_in_best : Def P w K mg base k "places_in_best" ["held"] sp_places) (D_best_round : Def P w K mg base k "best_round" ["held"] sp_bround) (D_must_be : Def P w K mg base k "must_be" ["held", "place"] sp_must) (D_changed : Def P w K mg base k "changed" ["held", "changes"] sp_changed) : FnOk P w K mg base CX0 (k + 1) f fd ["pot", "many", "first", "wide"] sp_right37 := by
  refine F.ok sc_law_right (fun vs H Q E h => ?_) (fun cdv A outer s H vs Q E hr h => ?_)
  · obtain ⟨pot, n, a, w, rfl, _⟩ := h
    rfl
  obtain ⟨pot, n, a, wd, rfl, hq, ha, hw, hn, hn3, fin⟩ := h
  apply Exists.intro
  apply And.intro
  case left =>
    apply pss_cons
    case h1 =>
      exact (ps_set (i := 4) sc_law_right.nd rfl (by first | exact Or.inl rfl | exact Or.inr rfl) (pe_op op_cat (pe_op op_cat (pe_op op_rep (pe_lst (pa_cons (pe_un un_neg pe_int) pa_nil)) (pv 2)) (pe_op op_rep (pe_lst (pa_cons pe_int pa_nil)) (pv 3))) (pe_op op_rep (pe_lst (pa_cons (pe_un un_neg pe_int) pa_nil)) (pe_op op_sub (pe_op op_sub (pv 1) (pv 2)) (pv 3)))))
    apply pss_cons
    case h1 =>
      exact (ps_set (i := 5) sc_law_right.nd rfl (by first | exact Or.inl rfl | exact Or.inr rfl) (pe_def D_kept hr rfl (pa_cons (pv 4) pa_nil)))
    apply pss_cons
    case h1 =>
      exact (ps_set (i := 6) sc_law_right.nd rfl (by first | exact Or.inl rfl | exact Or.inr rfl) (pe_op op_add (pv 2) (pv 3)))
    apply pss_cons
    case h1 =>
      apply ps_if
      case hc => exact (PW.pt (pw_or (pt_cmpR (op_neD hr) (pe_def D_best_in hr rfl (pa_cons (pv 5) (pa_cons (pe_tup (pa_cons pe_int (pa_cons (pv 1) pa_nil))) pa_nil))) (pe_tup (pa_cons (pv 3) (pa_cons (pv 2) (pa_cons (pv 6) pa_nil)))) (nomark _)) (pw_or1 (pt_cmpR op_ne (pe_def D_sum_in hr rfl (pa_cons (pv 5) (pa_cons (pe_tup (pa_cons pe_int (pa_cons (pv 1) pa_nil))) pa_nil))) (pe_op op_sub (pe_op op_mul pe_int (pv 3)) (pv 1)) (nomark _)))))
      case ha =>
        apply pss_one
        exact (ps_ret pe_bl)
      case hb =>
        exact pss_nil
    apply pss_cons
    case h1 =>
      apply ps_if
      case hc => exact (PW.pt (pw_or (pt_cmpR (op_neD hr) (pe_def D_places_in_best hr rfl (pa_cons (pv 5) pa_nil)) (pe_listRange2 rfl rfl Z.list_ Z.range_ (pa_cons (pv 2) (pa_cons (pv 6) pa_nil))) (nomark _)) (pw_or1 (pt_cmpR (op_neD hr) (pe_def D_best_round hr rfl (pa_cons (pv 5) pa_nil)) (pe_tup (pa_cons (pv 3) (pa_cons (pv 2) (pa_cons (pv 3) pa_nil)))) (nomark _)))))
      case ha =>
        apply pss_one
        exact (ps_ret pe_bl)
      case hb =>
        exact pss_nil
    apply pss_cons
    case h1 =>
      exact (ps_set (i := 7) sc_law_right.nd rfl (by first | exact Or.inl rfl | exact Or.inr rfl) (pe_op op_add (pe_op op_add (pv 2) pe_int) (pe_def D_law_next hr rfl (pa_cons (pv 0) (pa_cons (pe_op op_sub (pv 3) pe_int) pa_nil)))))
    apply pss_cons
    case h1 =>
      apply ps_if
      case hc => exact (PW.pt (pw_or (pt_cmpR (op_neD hr) (pe_def D_best_in hr rfl (pa_cons (pv 5) (pa_cons (pe_tup (pa_cons (pv 7) (pa_cons (pv 1) pa_nil))) pa_nil))) (pe_tup (pa_cons (pe_op op_sub (pv 6) (pv 7)) (pa_cons (pv 7) (pa_cons (pv 6) pa_nil)))) (nomark _)) (pw_or1 (pt_cmpR (op_neD hr) (pe_def D_best_in hr rfl (pa_cons (pv 5) (pa_cons (pe_tup (pa_cons pe_int (pa_cons (pv 7) pa_nil))) pa_nil))) (pe_tup (pa_cons (pe_op op_sub (pv 7) (pv 2)) (pa_cons (pv 2) (pa_cons (pv 7) pa_nil)))) (nomark _)))))
      case ha =>
        apply pss_one
        exact (ps_ret pe_bl)
      case hb =>
        exact pss_nil
    apply pss_cons
    case h1 =>
      apply ps_if
      case hc => exact (PW.pt (pw_or (pt_cmpR (op_neD hr) (pe_def D_best_in hr rfl (pa_cons (pv 5) (pa_cons (pe_tup (pa_cons pe_int (pa_cons (pv 2) pa_nil))) pa_nil))) (pe_tup (pa_cons (pe_un un_neg pe_int) (pa_cons pe_int (pa_cons pe_int pa_nil)))) (nomark _)) (pw_or (pt_cmpR op_ne (pe_def D_must_be hr rfl (pa_cons (pv 5) (pa_cons (pe_op op_sub (pv 2) pe_int) pa_nil))) pe_int (nomark _)) (pw_or1 (pt_cmpR op_ne (pe_def D_must_be hr rfl (pa_cons (pv 5) (pa_cons (pv 6) pa_nil))) pe_int (nomark _))))))
      case ha =>
        apply pss_one
        exact (ps_ret pe_bl)
      case hb =>
        exact pss_nil
    apply pss_cons
    case h1 =>
      exact (ps_set (i := 8) sc_law_right.nd rfl (by first | exact Or.inl rfl | exact Or.inr rfl) (pe_def D_changed hr rfl (pa_cons (pv 5) (pa_cons (pe_lst (pa_cons (pe_tup (pa_cons (pv 7) (pa_cons (pe_un un_neg (pv 1)) pa_nil))) pa_nil)) pa_nil))))
    apply pss_cons
    case h1 =>
      exact (ps_set (i := 9) sc_law_right.nd rfl (by first | exact Or.inl rfl | exact Or.inr rfl) (pe_lst (pa_cons (pe_tup (pa_cons (pe_op op_sub (pv 7) (pv 2)) (pa_cons (pv 2) (pa_cons (pv 7) pa_nil)))) pa_nil)))
    apply pss_cons
    case h1 =>
      apply ps_if
      case hc => exact (pt_cmpR op_lt (pe_op op_add (pv 7) pe_int) (pv 6) (nomark _))
      case ha =>
        apply pss_one
        exact (ps_expr (pe_bm PySem.F.plainAttrs_list PySem.F.slot_list_append PySem.F.type_list_append mt_append (pv 9) (pa_cons (pe_tup (pa_cons (pe_op op_sub (pe_op op_sub (pv 6) (pv 7)) pe_int) (pa_cons (pe_op op_add (pv 7) pe_int) (pa_cons (pv 6) pa_nil)))) pa_nil)))
      case hb =>
        exact pss_nil
    apply pss_cons
    case h1 =>
      exact (ps_set (i := 10) sc_law_right.nd rfl (by first | exact Or.inl rfl | exact Or.inr rfl) (pe_ix ix_list (pe_lc (N' := ["part", "parts"]) (ix := [none, some 9]) rfl rfl (by decide +kernel) rfl rfl rfl rfl (pi_list (pv 9)) (fun _ _ _ _ => (pg_name (i := 0) (show List.Nodup (["part", "parts"] : List Str) by decide +kernel) rfl (by first | exact Or.inl rfl | exact Or.inr rfl))) (fun _ _ _ _ => (pts_one (pt_cmpR op_eq (pe_ix ix_tupB (pv 0) pe_int (fun _ _ => rfl)) (pe_callB (max_of_listB rfl) rfl Z.max_ PyProof.Rows.boot_max (pa_cons (pe_lc (N' := ["one"]) (ix := [none]) rfl rfl (by decide +kernel) rfl rfl rfl rfl (pi_listB (pv 1)) (fun _ _ _ _ => (pg_name (i := 0) (show List.Nodup (["one"] : List Str) by decide +kernel) rfl (by first | exact Or.inl rfl | exact Or.inr rfl))) (fun _ _ _ _ => pts_nil) (fun _ _ _ _ => (pe_ix ix_tupBB (pv 0) pe_int (fun _ _ => rfl)))) pa_nil)) (nomark _)))) (fun _ _ _ _ => (pv 0))) pe_int (fun _ _ => rfl)))
    apply pss_one
    exact (ps_ret (pe_and (pe_cmpR (op_eqD hr) (pe_def D_best_in hr rfl (pa_cons (pv 8) (pa_cons (pe_tup (pa_cons pe_int (pa_cons (pv 1) pa_nil))) pa_nil))) (pv 10) (nomark _)) (pe_one (pe_cmpR op_eq (pe_def D_must_be hr rfl (pa_cons (pv 8) (pa_cons (pv 7) pa_nil))) (pe_op op_sub pe_int (pe_callB (call_min2 rfl) rfl Z.min_ PyProof.Rows.boot_min (pa_cons (pe_op op_sub (pv 7) (pv 2)) (pa_cons (pe_op op_sub (pe_op op_sub (pv 6) (pv 7)) pe_int) pa_nil)))) (nomark _)))))
  obtain ⟨c, hc⟩ : ∃ c, n = a + wd + c := ⟨n - a - wd, by (first | lia | omega)⟩
  have hl3 : (row3 a wd c (-1) 1 (-1)).length = n := by rw [hc]; exact row3_len
  have pk : Peak (row3 a wd c (-1) 1 (-1)) a wd n := by rw [hc]; exact peak_row
  obtain ⟨ns, ens⟩ : ∃ ns, ns = row3 a wd c (-1) 1 (-1) := ⟨_, rfl⟩
  rw [← ens] at hl3 pk
  refine seqU (fun σ' H' => ∃ (r : Addr), Same H H' ∧ H' r = some (.lst (ns.map V.int)) ∧ σ' = [some (.ref pot), some (.int n), some (.int a), some (.int wd), some (.ref r), none, none, none, none, none, none]) ?_ (fun R hR' => ?_)
  case refine_2 =>
    walk_at "rd"
    refine ⟨by show 1 ≤ sizeLine; decide, fun c1 hc1 => ?_⟩
    walk_at "rd"
    refine ⟨c1, _, _, rfl, rfl, upd_same, by (first | lia | omega), by (first | lia | omega), Nat.le_of_lt (small (by show 1 * a ≤ _; (first | lia | omega))), fun c2 hc2 => ?_⟩
    have ea : (List.replicate ((a : Nat) : Int).toNat [V.int (-1)]).flatten = (List.replicate a (-1 : Int)).map V.int := rep_x
    rw [ea]
    have w1 := Same.new hc1 (.lst [.int (-1)])
    have w2 := Same.new hc2 (.lst ((List.replicate a (-1 : Int)).map V.int))
    walk_at "rd"
    refine ⟨by show 1 ≤ sizeLine; decide, fun c3 hc3 => ?_⟩
    walk_at "rd"
    refine ⟨c3, _, _, rfl, rfl, upd_same, by (first | lia | omega), by (first | lia | omega), Nat.le_of_lt (small (by show 1 * wd ≤ _; (first | lia | omega))), fun c4 hc4 => ?_⟩
    have ew : (List.replicate ((wd : Nat) : Int).toNat [V.int 1]).flatten = (List.replicate wd (1 : Int)).map V.int := rep_x
    rw [ew]
    have w3 := Same.new hc3 (.lst [.int 1])
    have w4 := Same.new hc4 (.lst ((List.replicate wd (1 : Int)).map V.int))
    refine ⟨c2, c4, _, _, rfl, rfl, (w3.trans w4) _ _ upd_same, upd_same, by rw [List.length_map, List.length_map, List.length_replicate, List.length_replicate]; exact Nat.le_of_lt (small (by (first | lia | omega))), fun c5 hc5 => ?_⟩
    have w5 := Same.new hc5 (.lst ((List.replicate a (-1 : Int)).map V.int ++ (List.replicate wd (1 : Int)).map V.int))
    walk_at "rd"
    refine ⟨by show 1 ≤ sizeLine; decide, fun c6 hc6 => ?_⟩
    walk_at "rd"
    have ec : ((n : Int) - (a : Int) - (wd : Int)) = ((c : Nat) : Int) := by (first | lia | omega)
    refine ⟨c6, _, _, rfl, congrArg V.int ec, upd_same, by (first | lia | omega), by (first | lia | omega), Nat.le_of_lt (small (by show 1 * c ≤ _; (first | lia | omega))), fun c7 hc7 => ?_⟩
    have ew2 : (List.replicate ((c : Nat) : Int).toNat [V.int (-1)]).flatten = (List.replicate c (-1 : Int)).map V.int := rep_x
    rw [ew2]
    have w6 := Same.new hc6 (.lst [.int (-1)])
    have w7 := Same.new hc7 (.lst ((List.replicate c (-1 : Int)).map V.int))
    refine ⟨c5, c7, _, _, rfl, rfl, (w6.trans w7) _ _ upd_same, upd_same, by rw [List.length_append, List.length_map, List.length_map, List.length_map, List.length_replicate, List.length_replicate, List.length_replicate]; exact Nat.le_of_lt (small (by (first | lia | omega))), fun c8 hc8 => ?_⟩
    refine hR' _ _ ⟨c8, w1.trans (w2.trans (w3.trans (w4.trans (w5.trans (w6.trans (w7.trans (Same.new hc8 _))))))), ?_, rfl⟩
    rw [upd_same, ens]
    unfold row3
    rw [List.map_append, List.map_append]
  rintro _ H1 ⟨r, s1, hr1, rfl⟩
  refine seqU (fun σ' H' => ∃ (p : Addr), Same H H' ∧ IsKept H' 13 p ns ∧ σ' = [some (.ref pot), some (.int n), some (.int a), some (.int wd), some (.ref r), some (.ref p), none, none, none, none, none]) ?_ (fun R hR' => ?_)
  case refine_2 =>
    walk_at "rd"
    refine ⟨r, ns, rfl, hr1, by (first | lia | omega), by (first | lia | omega), fun p H2 s2 hk => ?_⟩
    exact hR' _ _ ⟨p, s1.trans s2, hk, rfl⟩
  rintro _ H2 ⟨p, s2, hk2, rfl⟩
  have eb : (a : Int) + (wd : Int) = ((a + wd : Nat) : Int) := by (first | lia | omega)
  refine seqU (fun σ' H' => H2 = H' ∧ σ' = [some (.ref pot), some (.int n), some (.int a), some (.int wd), some (.ref r), some (.ref p), some (.int (a + wd : Nat)), none, none, none, none]) ?_ (fun R hR' => ?_)
  case refine_2 =>
    walk_at "rd"
    refine hR' _ _ ⟨rfl, ?_⟩
    dsimp only
    rw [eb]
    rfl
  rintro _ _ ⟨rfl, rfl⟩
  refine seqU (fun σ' H' => Same H2 H' ∧ σ' = [some (.ref pot), some (.int n), some (.int a), some (.int wd), some (.ref r), some (.ref p), some (.int (a + wd : Nat)), none, none, none, none]) ?_ (fun R hR' => ?_)
  case refine_2 =>
    walk_at "rd"
    refine ⟨by show 2 ≤ sizeLine; decide, fun t1 ht1 => ?_⟩
    have u1 := Same.new ht1 (.tup [.int 0, .int n])
    refine ⟨p, t1, ((0 : Nat) : Int), (n : Int), ns, rfl, hk2.keep u1, upd_same, by (first | lia | omega), by (first | lia | omega), by (first | lia | omega), fun x z H3 u2 hx hz => ?_⟩
    walk_at "rd"
    refine ⟨by show 3 ≤ sizeLine; decide, fun t2 ht2 => ?_⟩
    have u3 := Same.new ht2 (.tup [.int wd, .int a, .int (a + wd : Nat)])
    refine ⟨0, _, EqT (ns := [z.s, z.f + ((0 : Nat) : Int), z.b + ((0 : Nat) : Int)]) (ms := [(wd : Int), (a : Int), ((a + wd : Nat) : Int)]) (SqT.of (u3 _ _ hx)) (SqT.of upd_same), by decide, ?_⟩
    rw [eq3 (by have := peak_whole pk (by (first | lia | omega)) hn ha hz; (first | lia | omega))]
    have u13 := u1.trans (u2.trans u3)
    walk_at "rd"
    refine ⟨by show 2 ≤ sizeLine; decide, fun t3 ht3 => ?_⟩
    have u4 := Same.new ht3 (.tup [.int 0, .int n])
    refine ⟨p, t3, ((0 : Nat) : Int), (n : Int), ns, rfl, hk2.keep (u13.trans u4), upd_same, by (first | lia | omega), by (first | lia | omega), by (first | lia | omega), fun H4 u5 => ?_⟩
    have es : (cutI ns ((0 : Nat) : Int) (n : Int)).sum = 2 * (wd : Int) - n := by
      have e : cutI ns ((0 : Nat) : Int) (n : Int) = ns := by
        unfold cutI
        rw [show ((0 : Nat) : Int).toNat = 0 from rfl, show ((n : Nat) : Int).toNat = n from rfl, List.drop_zero]
        exact List.take_of_length_le (by (first | lia | omega))
      rw [e, ← psum_all, hl3]
      have := pk.2 n (Nat.le_refl _)
      (first | lia | omega)
    rw [es]
    walk_at "rd"
    refine ifIN (fun z => absurd rfl z) (fun _ => ?_)
    exact hR' _ _ ⟨u13.trans (u4.trans u5), rfl⟩
  rintro _ H3 ⟨s3, rfl⟩
  have hk3 := hk2.keep s3
  refine seqU (fun σ' H' => Same H3 H' ∧ σ' = [some (.ref pot), some (.int n), some (.int a), some (.int wd), some (.ref r), some (.ref p), some (.int (a + wd : Nat)), none, none, none, none]) ?_ (fun R hR' => ?_)
  case refine_2 =>
    walk_at "rd"
    refine ⟨p, ns, rfl, hk3, by (first | lia | omega), fun l z H4 u1 hl0 hz hl => ?_⟩
    rw [peak_places pk (by (first | lia | omega)) hn ha hz] at hl
    walk_at "rd"
    refine ⟨_, _, rfl, by (first | lia | omega), by (first | lia | omega), by (first | lia | omega), fun l2 hl2 => ?_⟩
    have u2 := Same.new hl2 (.lst ((List.range (((a + wd : Nat) : Int) - (a : Int)).toNat).map fun (m : Nat) => V.int ((a : Int) + (m : Int))))
    have e2 : ((List.range (((a + wd : Nat) : Int) - (a : Int)).toNat).map fun (m : Nat) => V.int ((a : Int) + (m : Int))) = ((List.range wd).map fun (i : Nat) => (a : Int) + (i : Int)).map V.int := by
      rw [show (((a + wd : Nat) : Int) - (a : Int)).toNat = wd by (first | lia | omega), List.map_map]
      rfl
    refine ⟨0, _, EqD.ints (SqL.of (u2 _ _ hl)) (SqL.of (by rw [upd_same, e2])), by decide, ?_⟩
    rw [decide_eq_true rfl]
    walk_at "rd"
    have u12 := u1.trans u2
    refine ⟨p, ns, rfl, hk3.keep u12, fun x z H5 u3 hx hz => ?_⟩
    rw [peak_ring pk (by (first | lia | omega)) hn ha hz] at hx
    walk_at "rd"
    refine ⟨by show 3 ≤ sizeLine; decide, fun t2 ht2 => ?_⟩
    have u4 := Same.new ht2 (.tup [.int wd, .int a, .int wd])
    refine ⟨0, _, EqT (ns := [(wd : Int), (a : Int), (wd : Int)]) (ms := [(wd : Int), (a : Int), (wd : Int)]) (SqT.of (u4 _ _ hx)) (SqT.of upd_same), by decide, ?_⟩
    rw [decide_eq_true rfl]
    walk_at "rd"
    exact hR' _ _ ⟨u12.trans (u3.trans u4), rfl⟩
  rintro _ H4 ⟨s4, rfl⟩
  have s04 := s2.trans (s3.trans s4)
  have hq4 := hq.keep s04
  refine seqU (fun σ' H' => ∃ (t : Nat), a < t ∧ t < a + wd ∧ SameX pot H4 H' ∧ Pot H' pot ∧ σ' = [some (.ref pot), some (.int n), some (.int a), some (.int wd), some (.ref r), some (.ref p), some (.int (a + wd : Nat)), some (.int t), none, none, none]) ?_ (fun R hR' => ?_)
  case refine_2 =>
    walk_at "rd"
    refine ⟨pot, _, rfl, hq4, by (first | lia | omega), by (first | lia | omega), fun n1 H5 s5 hq5 h1 h2 => ?_⟩
    walk_at "rd"
    refine hR' _ _ ⟨a + 1 + n1.toNat, by (first | lia | omega), by (first | lia | omega), s5, hq5, ?_⟩
    have e : ((a + 1 + n1.toNat : Nat) : Int) = (a : Int) + 1 + n1 := by (first | lia | omega)
    rw [e]
    rfl
  rintro _ H5 ⟨t, ht1, ht2, s5, hq5, rfl⟩
  have hk5 := (hk3.keep s4).keepT (s5.tups hq4)
  refine seqU (fun σ' H' => Same H5 H' ∧ σ' = [some (.ref pot), some (.int n), some (.int a), some (.int wd), some (.ref r), some (.ref p), some (.int (a + wd : Nat)), some (.int t), none, none, none]) ?_ (fun R hR' => ?_)
  case refine_2 =>
    walk_at "rd"
    refine ⟨by show 2 ≤ sizeLine; decide, fun t1 ht1' => ?_⟩
    have u1 := Same.new ht1' (.tup [.int t, .int n])
    refine ⟨p, t1, (t : Int), (n : Int), ns, rfl, hk5.keep u1, upd_same, by (first | lia | omega), by (first | lia | omega), by (first | lia | omega), fun x z H6 u2 hx hz => ?_⟩
    walk_at "rd"
    refine ⟨by show 3 ≤ sizeLine; decide, fun t2 ht2' => ?_⟩
    have u3 := Same.new ht2' (.tup [.int (((a + wd : Nat) : Int) - t), .int t, .int (a + wd : Nat)])
    refine ⟨0, _, EqT (ns := [z.s, z.f + (t : Int), z.b + (t : Int)]) (ms := [((a + wd : Nat) : Int) - t, (t : Int), ((a + wd : Nat) : Int)]) (SqT.of (u3 _ _ hx)) (SqT.of upd_same), by decide, ?_⟩
    rw [eq3 (by have := peak_back pk hn ht1 ht2 hz; (first | lia | omega))]
    have u13 := u1.trans (u2.trans u3)
    walk_at "rd"
    refine ⟨by show 2 ≤ sizeLine; decide, fun t3 ht3 => ?_⟩
    have u4 := Same.new ht3 (.tup [.int 0, .int t])
    refine ⟨p, t3, ((0 : Nat) : Int), (t : Int), ns, rfl, hk5.keep (u13.trans u4), upd_same, by (first | lia | omega), by (first | lia | omega), by (first | lia | omega), fun x2 z2 H7 u5 hx2 hz2 => ?_⟩
    walk_at "rd"
    refine ⟨by show 3 ≤ sizeLine; decide, fun t4 ht4 => ?_⟩
    have u6 := Same.new ht4 (.tup [.int ((t : Int) - a), .int a, .int t])
    refine ⟨0, _, EqT (ns := [z2.s, z2.f + ((0 : Nat) : Int), z2.b + ((0 : Nat) : Int)]) (ms := [(t : Int) - a, (a : Int), (t : Int)]) (SqT.of (u6 _ _ hx2)) (SqT.of upd_same), by decide, ?_⟩
    rw [eq3 (by have := peak_front pk hn ht1 ht2 hz2; (first | lia | omega))]
    walk_at "rd"
    exact hR' _ _ ⟨u13.trans (u4.trans (u5.trans u6)), rfl⟩
  rintro _ H6 ⟨s6, rfl⟩
  have hk6 := hk5.keep s6
  refine seqU (fun σ' H' => Same H6 H' ∧ σ' = [some (.ref pot), some (.int n), some (.int a), some (.int wd), some (.ref r), some (.ref p), some (.int (a + wd : Nat)), some (.int t), none, none, none]) ?_ (fun R hR' => ?_)
  case refine_2 =>
    walk_at "rd"
    refine ⟨by show 2 ≤ sizeLine; decide, fun t1 ht1' => ?_⟩
    have u1 := Same.new ht1' (.tup [.int 0, .int a])
    refine ⟨p, t1, ((0 : Nat) : Int), (a : Int), ns, rfl, hk6.keep u1, upd_same, by (first | lia | omega), by (first | lia | omega), by (first | lia | omega), fun x z H7 u2 hx hz => ?_⟩
    walk_at "rd"
    refine ⟨by show 3 ≤ sizeLine; decide, fun t2 ht2' => ?_⟩
    have u3 := Same.new ht2' (.tup [.int (-1), .int 0, .int 1])
    refine ⟨0, _, EqT (ns := [z.s, z.f + ((0 : Nat) : Int), z.b + ((0 : Nat) : Int)]) (ms := [-1, 0, 1]) (SqT.of (u3 _ _ hx)) (SqT.of upd_same), by decide, ?_⟩
    rw [eq3 (by have := peak_low pk hn ha hz; (first | lia | omega))]
    have u13 := u1.trans (u2.trans u3)
    walk_at "rd"
    refine ⟨p, _, ns, rfl, hk6.keep u13, by (first | lia | omega), by (first | lia | omega), fun z => absurd z (by (first | lia | omega)), fun _ v H8 u4 hv => ?_⟩
    rw [peak_must pk (by (first | lia | omega)) hn ha (i := ((a : Int) - 1).toNat) (by (first | lia | omega)) hv]
    walk_at "rd"
    refine ⟨p, _, ns, rfl, hk6.keep (u13.trans u4), by (first | lia | omega), by (first | lia | omega), fun z => absurd z (by (first | lia | omega)), fun _ v2 H9 u5 hv2 => ?_⟩
    rw [peak_must pk (by (first | lia | omega)) hn ha (i := ((a + wd : Nat) : Int).toNat) (by (first | lia | omega)) hv2]
    walk_at "rd"
    exact hR' _ _ ⟨u13.trans (u4.trans u5), rfl⟩
  rintro _ H7 ⟨s7, rfl⟩
  have hk7 := hk6.keep s7
  have fl := peak_fall pk hn ht1 ht2
  refine seqU (fun σ' H' => ∃ (p2 : Addr), Same H7 H' ∧ IsKept H' 13 p2 (ns.set t (-(n : Int))) ∧ σ' = [some (.ref pot), some (.int n), some (.int a), some (.int wd), some (.ref r), some (.ref p), some (.int (a + wd : Nat)), some (.int t), some (.ref p2), none, none]) ?_ (fun R hR' => ?_)
  case refine_2 =>
    walk_at "rd"
    refine ⟨by show 2 ≤ sizeLine; decide, fun t1 ht1' => ?_⟩
    have u1 := Same.new ht1' (.tup [.int t, .int (-(n : Int))])
    walk_at "rd"
    refine ⟨by show 1 ≤ sizeLine; decide, fun l1 hl1 => ?_⟩
    have u2 := Same.new hl1 (.lst [.ref t1])
    refine ⟨p, l1, ns, _, [((t : Int), -(n : Int))], rfl, hk7.keep (u1.trans u2), upd_same, ⟨⟨t1, rfl, u2 _ _ upd_same⟩, trivial⟩, (fun d hd => by rw [List.mem_singleton] at hd; subst hd; exact ⟨by (first | lia | omega), by (first | lia | omega)⟩), fun p2 H8 u3 hk8 _ => ?_⟩
    exact hR' _ _ ⟨p2, u1.trans (u2.trans u3), hk8, rfl⟩
  rintro _ H8 ⟨p2, s8, hk8, rfl⟩
  refine seqU (fun σ' H' => ∃ (pl q1 : Addr), Same H8 H' ∧ H8 pl = none ∧ H' pl = some (.lst [.ref q1]) ∧ H' q1 = some (Tx ⟨(t : Int) - a, a, t⟩) ∧ σ' = [some (.ref pot), some (.int n), some (.int a), some (.int wd), some (.ref r), some (.ref p), some (.int (a + wd : Nat)), some (.int t), some (.ref p2), some (.ref pl), none]) ?_ (fun R hR' => ?_)
  case refine_2 =>
    walk_at "rd"
    refine ⟨by show 3 ≤ sizeLine; decide, fun q1 hq1 => ?_⟩
    have u1 := Same.new hq1 (.tup [.int ((t : Int) - a), .int a, .int t])
    refine ⟨by show 1 ≤ sizeLine; decide, fun l1 hl1 => ?_⟩
    have u2 := Same.new hl1 (.lst [.ref q1])
    exact hR' _ _ ⟨l1, q1, u1.trans u2, u1.free hl1, upd_same, u2 _ _ upd_same, rfl⟩
  rintro _ H9 ⟨pl, q1, s9, hpl0, hpl9, hq19, rfl⟩
  refine seqU (fun σ' H' => ∃ (pl : Addr) (ps : List (Addr × Sx)), Same H8 H' ∧ H' pl = some (.lst (ps.map fun q => V.ref q.1)) ∧ (∀ q, q ∈ ps → H' q.1 = some (Tx q.2)) ∧ (ps.map (·.2) = [⟨(t : Int) - a, a, t⟩] ∧ t + 1 = a + wd ∨ ps.map (·.2) = [⟨(t : Int) - a, a, t⟩, ⟨((a + wd : Nat) : Int) - t - 1, (t : Int) + 1, ((a + wd : Nat) : Int)⟩] ∧ t + 1 < a + wd) ∧ σ' = [some (.ref pot), some (.int n), some (.int a), some (.int wd), some (.ref r), some (.ref p), some (.int (a + wd : Nat)), some (.int t), some (.ref p2), some (.ref pl), none]) ?_ (fun R hR' => ?_)
  case refine_2 =>
    walk_at "rd"
    refine ifD (fun hlt => ?_) (fun hge => ?_)
    · walk_at "rd"
      refine ⟨.inl ⟨rfl, _, SqL.of hpl9⟩, ?_⟩
      walk_at "rd"
      refine ⟨by show 3 ≤ sizeLine; decide, fun q2 hq2 => ?_⟩
      have u1 := Same.new hq2 (.tup [.int (((a + wd : Nat) : Int) - t - 1), .int ((t : Int) + 1), .int ((a + wd : Nat) : Int)])
      refine ⟨pl, _, _, rfl, rfl, u1 _ _ hpl9, small (by show 1 ≤ _; decide), ?_⟩
      have n1 : q1 ≠ pl := fun z => by rw [z, hpl9] at hq19; cases hq19
      have n2 : q2 ≠ pl := fun z => by rw [z, hpl9] at hq2; cases hq2
      refine hR' _ _ ⟨pl, [(q1, ⟨(t : Int) - a, a, t⟩), (q2, ⟨((a + wd : Nat) : Int) - t - 1, (t : Int) + 1, ((a + wd : Nat) : Int)⟩)], (s9.trans u1).upd hpl0, upd_same, fun q hq => ?_, .inr ⟨rfl, by (first | lia | omega)⟩, rfl⟩
      rcases List.mem_cons.mp hq with rfl | hq
      · rw [upd_ne n1]
        exact u1 _ _ hq19
      · rw [List.mem_singleton] at hq
        subst hq
        rw [upd_ne n2]
        exact upd_same
    · refine hR' _ _ ⟨pl, [(q1, ⟨(t : Int) - a, a, t⟩)], s9, hpl9, fun q hq => ?_, .inl ⟨rfl, by (first | lia | omega)⟩, rfl⟩
      rw [List.mem_singleton] at hq
      subst hq
      exact hq19
  rintro _ H9 ⟨pl, ps, s9, hpl9, hps9, hcs, rfl⟩
  have hpz : 1 ≤ ps.length ∧ ps.length ≤ 2 := by
    rcases hcs with ⟨e, _⟩ | ⟨e, _⟩
    · have := congrArg List.length e
      rw [List.length_map, List.length_singleton] at this
      (first | lia | omega)
    · have := congrArg List.length e
      rw [List.length_map, List.length_cons, List.length_singleton] at this
      (first | lia | omega)
  have hfst : ∃ (q : Addr) (z : Sx) (rest : List (Addr × Sx)), ps.filter (fun q => decide (∀ q', q' ∈ ps → q'.2.s ≤ q.2.s)) = (q, z) :: rest ∧ (q, z) ∈ ps ∧ (a + wd - t - 1 ≤ t - a → z = ⟨(t : Int) - a, a, t⟩) ∧ (t - a < a + wd - t - 1 → z = ⟨((a + wd : Nat) : Int) - t - 1, (t : Int) + 1, ((a + wd : Nat) : Int)⟩) := by
    rcases hcs with ⟨e, e2⟩ | ⟨e, e2⟩
    · match ps, e with
      | [(q, z)], e =>
        cases e
        refine ⟨q, _, [], ?_, List.mem_singleton.mpr rfl, fun _ => rfl, fun z => by (first | lia | omega)⟩
        rw [List.filter_cons, if_pos (decide_eq_true (fun q' hq' => by rw [List.mem_singleton] at hq'; subst hq'; exact Int.le_refl _))]
        rfl
    · match ps, e with
      | [(q, z), (q2, z2)], e =>
        cases e
        by_cases hc : a + wd - t - 1 ≤ t - a
        · have hall : ∀ q' : Addr × Sx, q' ∈ [(q, (⟨(t : Int) - a, a, t⟩ : Sx)), (q2, ⟨((a + wd : Nat) : Int) - t - 1, (t : Int) + 1, ((a + wd : Nat) : Int)⟩)] → q'.2.s ≤ (t : Int) - a := fun q' hq' => by
            rcases List.mem_cons.mp hq' with rfl | hq'
            · exact Int.le_refl _
            · rw [List.mem_singleton] at hq'
              subst hq'
              show ((a + wd : Nat) : Int) - t - 1 ≤ (t : Int) - a
              (first | lia | omega)
          exact ⟨q, _, _, List.filter_cons_of_pos (decide_eq_true hall), List.mem_cons_self, fun _ => rfl, fun z => by (first | lia | omega)⟩
        · refine ⟨q2, _, [], ?_, List.mem_cons_of_mem _ (List.mem_singleton.mpr rfl), fun z => by (first | lia | omega), fun _ => rfl⟩
          rw [List.filter_cons, if_neg, List.filter_cons, if_pos (decide_eq_true (fun q' hq' => ?_))]
          · rfl
          · rcases List.mem_cons.mp hq' with rfl | hq'
            · show (t : Int) - a ≤ ((a + wd : Nat) : Int) - t - 1
              (first | lia | omega)
            · rw [List.mem_singleton] at hq'
              subst hq'
              exact Int.le_refl _
          · rw [decide_eq_true_iff]
            intro z
            have := z _ (List.mem_cons_of_mem _ (List.mem_singleton.mpr rfl))
            have h2 : ((a + wd : Nat) : Int) - t - 1 ≤ (t : Int) - a := this
            (first | lia | omega)
  refine seqU (fun σ' H' => ∃ (q : Addr) (z : Sx), Same H9 H' ∧ H' q = some (Tx z) ∧ (a + wd - t - 1 ≤ t - a → z = ⟨(t : Int) - a, a, t⟩) ∧ (t - a < a + wd - t - 1 → z = ⟨((a + wd : Nat) : Int) - t - 1, (t : Int) + 1, ((a + wd : Nat) : Int)⟩) ∧ σ' = [some (.ref pot), some (.int n), some (.int a), some (.int wd), some (.ref r), some (.ref p), some (.int (a + wd : Nat)), some (.int t), some (.ref p2), some (.ref pl), some (.ref q)]) ?_ (fun R hR' => ?_)
  case refine_2 =>
    walk_at "rd"
    refine ⟨⟨_, SqL.of hpl9⟩, ?_⟩
    intro acc hacc
    have hplm : (ps.map fun q => V.ref q.1).length = ps.length := List.length_map _
    refine comp_by (n := ps.length) (fun i τ zs H' => H' acc = some (.lst zs) ∧ zs = ((ps.take i).filter (fun q => decide (∀ q', q' ∈ ps → q'.2.s ≤ q.2.s))).map (fun q => V.ref q.1) ∧ Same H9 H' ∧ ∃ o0, τ = [o0, some (.ref pl)]) ⟨upd_same, rfl, Same.new hacc _, none, rfl⟩ (by (first | lia | omega)) ?_ ?_ ?_ ?_
    · rintro i τ zs H' ⟨e, rfl, _⟩
      exact ⟨e, by rw [List.length_map]; exact Nat.le_trans (List.length_filter_le _ _) (by rw [List.length_take]; (first | lia | omega))⟩
    · rintro i τ zs H' hi ⟨_, _, sm, _⟩
      exact ⟨_, .ref ps[i].1, SqL.of (sm _ _ hpl9), by rw [List.getElem?_map, List.getElem?_eq_getElem hi]; rfl⟩
    · rintro τ zs H' ⟨e, rfl, sm, _⟩
      refine ⟨⟨_, SqL.of (sm _ _ hpl9), by rw [hplm]; exact Nat.le_refl _⟩, ?_⟩
      rw [List.take_length] at e
      obtain ⟨q, z, rest, e1, hm, h1, h2⟩ := hfst
      rw [e1] at e
      walk_at "rd"
      refine ⟨acc, _, 0, _, rfl, rfl, SqL.of e, atI_nat (j := 0) (v := V.ref q) rfl, ?_⟩
      exact hR' _ _ ⟨q, z, sm, sm _ _ (hps9 _ hm), h1, h2, rfl⟩
    · rintro i τ zs H10 x H11 hi ⟨e, rfl, sm, o0, rfl⟩ ⟨rfl, y⟩
      have hx := y _ (SqL.of (sm _ _ hpl9))
      rw [List.getElem?_map, List.getElem?_eq_getElem hi] at hx
      cases hx
      have hqi := sm _ _ (hps9 _ (List.getElem_mem hi))
      walk_at "rd"
      refine ⟨ps[i].1, _, 0, _, rfl, rfl, SqT.of hqi, rfl, ?_⟩
      walk_at "rd"
      have hpl10 := sm _ _ hpl9
      refine ⟨⟨_, SqL.of hpl10⟩, ?_⟩
      intro ac2 hac2
      refine comp_by (n := ps.length) (fun j τ zs H' => H' ac2 = some (.lst zs) ∧ zs = ((ps.take j).map (fun q => q.2.s)).map V.int ∧ Same H11 H' ∧ ∃ o0, τ = [o0]) ⟨upd_same, rfl, Same.new hac2 _, none, rfl⟩ (by (first | lia | omega)) ?_ ?_ ?_ ?_
      · rintro j τ zs H' ⟨e, rfl, _⟩
        exact ⟨e, by rw [List.length_map, List.length_map, List.length_take]; (first | lia | omega)⟩
      · rintro j τ zs H' hj ⟨_, _, sm, _⟩
        exact ⟨_, .ref ps[j].1, SqL.of (sm _ _ hpl10), by rw [List.getElem?_map, List.getElem?_eq_getElem hj]; rfl⟩
      · rintro τ zs H12 ⟨e2, rfl, sm2, _⟩
        refine ⟨⟨_, SqL.of (sm2 _ _ hpl10), by rw [hplm]; exact Nat.le_refl _⟩, ?_⟩
        rw [List.take_length] at e2
        walk_at "rd"
        refine ⟨ac2, _, rfl, SqL.of e2, by rw [List.length_map]; (first | lia | omega), fun M hM hle => ?_⟩
        obtain ⟨qm, hqm, eM⟩ := List.mem_map.mp hM
        walk_at "rd"
        have hiff : ps[i].2.s = M ↔ ∀ q', q' ∈ ps → q'.2.s ≤ ps[i].2.s := by
          constructor
          · intro e q' hq'
            rw [e]
            exact hle _ (List.mem_map.mpr ⟨q', hq', rfl⟩)
          · intro h
            have h1 := h qm hqm
            have h2 := hle _ (List.mem_map.mpr ⟨ps[i], List.getElem_mem hi, rfl⟩)
            have h3 : qm.2.s = M := eM
            (first | lia | omega)
        refine ifI (fun heq => ?_) (fun hne => ?_)
        · walk_at "rd"
          refine ⟨sm2 _ _ e, Nx.mk hi ⟨upd_same, ?_, (sm.trans sm2).upd hacc, _, rfl⟩⟩
          rw [List.take_succ_eq_append_getElem hi, List.filter_append, List.map_append, List.filter_cons, if_pos (decide_eq_true (hiff.mp heq))]
          rfl
        · refine Nx.mk hi ⟨sm2 _ _ e, ?_, sm.trans sm2, _, rfl⟩
          rw [List.take_succ_eq_append_getElem hi, List.filter_append, List.filter_cons, if_neg (fun z => hne (hiff.mpr (of_decide_eq_true z)))]
          rw [List.filter_nil, List.append_nil]
      · rintro j τ zs H12 x H13 hj ⟨e2, rfl, sm2, o0, rfl⟩ ⟨rfl, y⟩
        have hx := y _ (SqL.of (sm2 _ _ hpl10))
        rw [List.getElem?_map, List.getElem?_eq_getElem hj] at hx
        cases hx
        walk_at "rd"
        refine ⟨ps[j].1, _, 0, _, rfl, rfl, SqT.of ((sm.trans sm2) _ _ (hps9 _ (List.getElem_mem hj))), rfl, ?_⟩
        refine ⟨e2, Nx.mk hj ⟨upd_same, ?_, sm2.upd hac2, _, rfl⟩⟩
        rw [List.take_succ_eq_append_getElem hj, List.map_append, List.map_append]
        rfl
  rintro _ H10 ⟨q, z, s10, hq10, hz1, hz2, rfl⟩
  have s810 := s9.trans s10
  have hk10 := hk8.keep s810
  walk_at "rd"
  refine ⟨by show 2 ≤ sizeLine; decide, fun t1 ht1' => ?_⟩
  have u1 := Same.new ht1' (.tup [.int 0, .int n])
  have hlf : (ns.set t (-(n : Int))).length = n := by rw [List.length_set]; exact hl3
  refine ⟨p2, t1, ((0 : Nat) : Int), (n : Int), _, rfl, hk10.keep u1, upd_same, by (first | lia | omega), by (first | lia | omega), by (first | lia | omega), fun x z' H11 u2 hx hz' => ?_⟩
  walk_at "rd"
  have fw := fall_whole fl hn ha ht1 ht2 hz'
  refine ⟨0, _, EqT (ns := [z'.s, z'.f + ((0 : Nat) : Int), z'.b + ((0 : Nat) : Int)]) (ms := [z.s, z.f, z.b]) (SqT.of hx) (SqT.of ((u1.trans u2) _ _ hq10)), by decide, ?_⟩
  rw [eq3 (by
    by_cases hc : a + wd - t - 1 ≤ t - a
    · have := fw.1 hc
      rw [hz1 hc]
      dsimp only
      (first | lia | omega)
    · have := fw.2 (by (first | lia | omega))
      rw [hz2 (by (first | lia | omega))]
      dsimp only
      (first | lia | omega))]
  walk_at "rd"
  refine ⟨p2, _, _, rfl, hk10.keep (u1.trans u2), by (first | lia | omega), by (first | lia | omega), fun z => absurd z (by (first | lia | omega)), fun _ v H12 u3 hv => ?_⟩
  have ev := fall_must fl hn ha ht1 ht2 (v := v) hv
  walk_at "rd"
  refine ⟨_, _, rfl, ?_⟩
  walk_at "rd"
  have ev2 : v = 0 - (if ((a + wd : Nat) : Int) - (t : Int) - 1 < (t : Int) - (a : Int) then ((a + wd : Nat) : Int) - (t : Int) - 1 else (t : Int) - (a : Int)) := by
    rw [ev]
    split <;> (first | lia | omega)
  have u13 := u1.trans (u2.trans u3)
  have s512 := s6.trans (s7.trans (s8.trans (s810.trans u13)))
  exact (congrArg (fun b => Q (V.bl b) H12) (decide_eq_true (congrArg V.int ev2))).mpr (fin _ ((sX s04).trans (s5.trans (sX s512))) (hq5.keep s512))
/-! ### _law_ends_right -/
def sp_ends37 : Sp := fun vs H Q _ => ∃ (pot : Addr) (n : Nat), vs = [.ref pot, .int n] ∧ Pot H pot ∧ 100 ≤ n ∧ n ≤ 3000 ∧ ∀ H', SameX pot H H' → Pot H' pot → Q (.bl true) H'
theorem ixN37 {n : Nat} {k : Int} (h0 : 0 ≤ k) (h : k < (n : Int)) : ixN n k = some k.toNat := by
  unfold ixN
  rw [if_pos h0, if_pos h]
theorem set_ints37 {ms : List Int} {j : Nat} {x : Int} : (ms.map V.int).set j (.int x) = (ms.set j x).map V.int := by rw [List.map_set]
theorem ok_ends37 {P : Program} {w : World} {K : PySem.W.Frag} {mg : Str → Option Value} {base : Heap} {k : Nat} {f : Addr} {fd : FuncData} (F : Fun K "_law_ends_right" "_law_ends_right" s_law_ends_right f fd) (Z : Blt mg)
    (D_law_next : Def P w K mg base k "_law_next" ["pot", "many"] sp_next) (D_kept : Def P w K mg base k "kept" ["row"] sp_kept) (D_best_round : Def P w K mg base k "best_round" ["held"] sp_bround) (D_changed : Def P w K mg base k "changed" ["held", "changes"] sp_changed) (D_row_of : Def P w K mg base k "row_of" ["held"] (sp_rowof 13)) : FnOk P w K mg base CX0 (k + 1) f fd ["pot", "many"] sp_ends37 := by
  refine F.ok sc_law_ends_right (fun vs H Q E h => ?_) (fun cdv A outer s H vs Q E hr h => ?_)
  · obtain ⟨pot, n, rfl, _⟩ := h
    rfl
  obtain ⟨pot, n, rfl, hq, hn1, hn2, fin⟩ := h
  apply Exists.intro
  apply And.intro
  case left =>
    apply pss_cons
    case h1 =>
      exact (ps_set (i := 2) sc_law_ends_right.nd rfl (by first | exact Or.inl rfl | exact Or.inr rfl) (pe_op op_add pe_int (pe_def D_law_next hr rfl (pa_cons (pv 0) (pa_cons (pe_op op_fdiv (pv 1) pe_int) pa_nil)))))
    apply pss_cons
    case h1 =>
      exact (ps_set (i := 3) sc_law_ends_right.nd rfl (by first | exact Or.inl rfl | exact Or.inr rfl) (pe_op op_add pe_int (pe_def D_law_next hr rfl (pa_cons (pv 0) (pa_cons (pe_op op_fdiv (pv 1) pe_int) pa_nil)))))
    apply pss_cons
    case h1 =>
      apply ps_if
      case hc => exact (pt_cmpR op_eq (pe_def D_law_next hr rfl (pa_cons (pv 0) (pa_cons pe_int pa_nil))) pe_int (nomark _))
      case ha =>
        apply pss_cons
        case h1 =>
          exact (ps_set (i := 4) sc_law_ends_right.nd rfl (by first | exact Or.inl rfl | exact Or.inr rfl) (pe_op op_add pe_int (pe_def D_law_next hr rfl (pa_cons (pv 0) (pa_cons pe_int pa_nil)))))
        apply pss_cons
        case h1 =>
          exact (ps_set (i := 2) sc_law_ends_right.nd rfl (by first | exact Or.inl rfl | exact Or.inr rfl) (pe_op op_add pe_int (pe_def D_law_next hr rfl (pa_cons (pv 0) (pa_cons (pe_op op_sub (pe_op op_sub (pv 1) (pv 4)) pe_int) pa_nil)))))
        apply pss_one
        exact (ps_set (i := 3) sc_law_ends_right.nd rfl (by first | exact Or.inl rfl | exact Or.inr rfl) (pe_op op_sub (pe_op op_sub (pv 1) (pv 4)) (pv 2)))
      case hb =>
        exact pss_nil
    apply pss_cons
    case h1 =>
      exact (ps_set (i := 5) sc_law_ends_right.nd rfl (by first | exact Or.inl rfl | exact Or.inr rfl) (pe_def D_kept hr rfl (pa_cons (pe_op op_cat (pe_op op_cat (pe_op op_rep (pe_lst (pa_cons pe_int pa_nil)) (pv 2)) (pe_op op_rep (pe_lst (pa_cons (pe_un un_neg pe_int) pa_nil)) (pe_op op_sub (pe_op op_sub (pv 1) (pv 2)) (pv 3)))) (pe_op op_rep (pe_lst (pa_cons pe_int pa_nil)) (pv 3))) pa_nil)))
    apply pss_cons
    case h1 =>
      apply ps_if
      case hc => exact (pt_cmpR (op_neD hr) (pe_def D_best_round hr rfl (pa_cons (pv 5) pa_nil)) (pe_tup (pa_cons (pe_op op_add (pv 2) (pv 3)) (pa_cons (pe_op op_sub (pv 1) (pv 3)) (pa_cons (pe_op op_add (pv 2) (pv 3)) pa_nil)))) (nomark _))
      case ha =>
        apply pss_one
        exact (ps_ret pe_bl)
      case hb =>
        exact pss_nil
    apply pss_cons
    case h1 =>
      exact (ps_set (i := 6) sc_law_ends_right.nd rfl (by first | exact Or.inl rfl | exact Or.inr rfl) (pe_lst pa_nil))
    apply pss_cons
    case h1 =>
      apply ps_for PassesOwn.never rfl
      case hi => exact (pi_range1 rfl Z.range_ (pa_cons pe_int pa_nil))
      case hg => exact (pg_name (i := 7) sc_law_ends_right.nd rfl (by first | exact Or.inl rfl | exact Or.inr rfl))
      case hb =>
        apply pss_one
        exact (ps_expr (pe_bm PySem.F.plainAttrs_list PySem.F.slot_list_append PySem.F.type_list_append mt_append (pv 6) (pa_cons (pe_tup (pa_cons (pe_def D_law_next hr rfl (pa_cons (pv 0) (pa_cons (pv 1) pa_nil))) (pa_cons (pe_op op_sub (pe_def D_law_next hr rfl (pa_cons (pv 0) (pa_cons pe_int pa_nil))) pe_int) pa_nil))) pa_nil)))
    apply pss_cons
    case h1 =>
      exact (ps_set (i := 8) sc_law_ends_right.nd rfl (by first | exact Or.inl rfl | exact Or.inr rfl) (pe_def D_changed hr rfl (pa_cons (pv 5) (pa_cons (pv 6) pa_nil))))
    apply pss_cons
    case h1 =>
      exact (ps_set (i := 9) sc_law_ends_right.nd rfl (by first | exact Or.inl rfl | exact Or.inr rfl) (pe_op op_cat (pe_op op_cat (pe_op op_rep (pe_lst (pa_cons pe_int pa_nil)) (pv 2)) (pe_op op_rep (pe_lst (pa_cons (pe_un un_neg pe_int) pa_nil)) (pe_op op_sub (pe_op op_sub (pv 1) (pv 2)) (pv 3)))) (pe_op op_rep (pe_lst (pa_cons pe_int pa_nil)) (pv 3))))
    apply pss_cons
    case h1 =>
      exact (ps_set (i := 10) sc_law_ends_right.nd rfl (by first | exact Or.inl rfl | exact Or.inr rfl) (pe_callTy call_list_of rfl Z.list_ PyProof.Rows.boot_list (pa_cons (pv 9) pa_nil)))
    apply pss_cons
    case h1 =>
      apply ps_for PassesOwn.never rfl
      case hi => exact (pi_list (pv 6))
      case hg => exact (pg_tup (n := 2) rfl (pgs_cons (pg_name (i := 11) sc_law_ends_right.nd rfl (by first | exact Or.inl rfl | exact Or.inr rfl)) (pgs_cons (pg_name (i := 12) sc_law_ends_right.nd rfl (by first | exact Or.inl rfl | exact Or.inr rfl)) pgs_nil)))
      case hb =>
        apply pss_one
        exact (ps_asg (pv 12) (pg_sub (pv 10) (pv 11) set_list (fun _ => rfl)))
    apply pss_cons
    case h1 =>
      apply ps_if
      case hc => exact (PW.pt (pw_or (pt_cmpR (op_neD hr) (pe_def D_row_of hr rfl (pa_cons (pv 8) pa_nil)) (pv 10) (nomark _)) (pw_or1 (pt_cmpR (op_neD hr) (pe_def D_row_of hr rfl (pa_cons (pv 5) pa_nil)) (pv 9) (nomark _)))))
      case ha =>
        apply pss_one
        exact (ps_ret pe_bl)
      case hb =>
        exact pss_nil
    apply pss_cons
    case h1 =>
      first | exact (ps_lc (i := 13) sc_law_ends_right.nd rfl (by first | exact Or.inl rfl | exact Or.inr rfl) (N' := ["place", "number", "row"]) (ix := [none, none, some 9]) rfl rfl (by decide +kernel) rfl rfl rfl rfl (pi_list (pv 6)) (fun _ _ _ _ => (pg_tupB (n := 2) rfl (pgs_cons (pg_name (i := 0) (show List.Nodup (["place", "number", "row"] : List Str) by decide +kernel) rfl (by first | exact Or.inl rfl | exact Or.inr rfl)) (pgs_cons (pg_name (i := 1) (show List.Nodup (["place", "number", "row"] : List Str) by decide +kernel) rfl (by first | exact Or.inl rfl | exact Or.inr rfl)) pgs_nil)))) (fun _ _ _ _ => pts_nil) (fun _ _ _ _ => (pe_tup (pa_cons (pv 0) (pa_cons (pe_ix ix_listB (pv 2) (pv 0) (fun _ _ => rfl)) pa_nil))))) | exact (ps_set (i := 13) sc_law_ends_right.nd rfl (by first | exact Or.inl rfl | exact Or.inr rfl) (pe_lc (N' := ["place", "number", "row"]) (ix := [none, none, some 9]) rfl rfl (by decide +kernel) rfl rfl rfl rfl (pi_list (pv 6)) (fun _ _ _ _ => (pg_tupB (n := 2) rfl (pgs_cons (pg_name (i := 0) (show List.Nodup (["place", "number", "row"] : List Str) by decide +kernel) rfl (by first | exact Or.inl rfl | exact Or.inr rfl)) (pgs_cons (pg_name (i := 1) (show List.Nodup (["place", "number", "row"] : List Str) by decide +kernel) rfl (by first | exact Or.inl rfl | exact Or.inr rfl)) pgs_nil)))) (fun _ _ _ _ => pts_nil) (fun _ _ _ _ => (pe_tup (pa_cons (pv 0) (pa_cons (pe_ix ix_listB (pv 2) (pv 0) (fun _ _ => rfl)) pa_nil))))))
    apply pss_one
    exact (ps_ret (pe_cmpR (op_eqK hr) (pe_def D_changed hr rfl (pa_cons (pv 8) (pa_cons (pv 13) pa_nil))) (pv 5) (nomark _)))
  refine seqU (fun σ' H' => ∃ a : Nat, 1 ≤ a ∧ 4 * a ≤ n ∧ SameX pot H H' ∧ Pot H' pot ∧ σ' = [some (.ref pot), some (.int n), some (.int a), none, none, none, none, none, none, none, none, none, none, none]) ?_ (fun R hR' => ?_)
  case refine_2 =>
    walk_at "rd"
    refine ⟨pot, _, rfl, hq, by show (1 : Int) ≤ (n : Int) / 4; (first | lia | omega), by show (n : Int) / 4 ≤ _; (first | lia | omega), fun n1 H1 s1 hq1 h1 h2 => ?_⟩
    have h2' : n1 < (n : Int) / 4 := h2
    walk_at "rd"
    refine hR' _ _ ⟨1 + n1.toNat, by (first | lia | omega), by (first | lia | omega), s1, hq1, ?_⟩
    rw [show ((1 + n1.toNat : Nat) : Int) = 1 + n1 by (first | lia | omega)]
    rfl
  rintro _ H1 ⟨a, ha1, ha2, s1, hq1, rfl⟩
  refine seqU (fun σ' H' => ∃ b : Nat, 1 ≤ b ∧ 4 * b ≤ n ∧ SameX pot H H' ∧ Pot H' pot ∧ σ' = [some (.ref pot), some (.int n), some (.int a), some (.int b), none, none, none, none, none, none, none, none, none, none]) ?_ (fun R hR' => ?_)
  case refine_2 =>
    walk_at "rd"
    refine ⟨pot, _, rfl, hq1, by show (1 : Int) ≤ (n : Int) / 4; (first | lia | omega), by show (n : Int) / 4 ≤ _; (first | lia | omega), fun n1 H2 s2 hq2 h1 h2 => ?_⟩
    have h2' : n1 < (n : Int) / 4 := h2
    walk_at "rd"
    refine hR' _ _ ⟨1 + n1.toNat, by (first | lia | omega), by (first | lia | omega), s1.trans s2, hq2, ?_⟩
    rw [show ((1 + n1.toNat : Nat) : Int) = 1 + n1 by (first | lia | omega)]
    rfl
  rintro _ H2 ⟨b, hb1, hb2, s2, hq2, rfl⟩
  refine seqU (fun σ' H' => ∃ (a b : Nat) (o4 : Option V), 1 ≤ a ∧ 1 ≤ b ∧ a + b < n ∧ SameX pot H H' ∧ Pot H' pot ∧ σ' = [some (.ref pot), some (.int n), some (.int a), some (.int b), o4, none, none, none, none, none, none, none, none, none]) ?_ (fun R hR' => ?_)
  case refine_2 =>
    walk_at "rd"
    refine ⟨pot, _, rfl, hq2, by decide, by decide, fun n1 H3 s3 hq3 h1 h2 => ?_⟩
    walk_at "rd"
    refine ifI (fun _ => ?_) (fun _ => ?_)
    · walk_at "rd"
      refine ⟨pot, _, rfl, hq3, by decide, by decide, fun n2 H4 s4 hq4 h3 h4 => ?_⟩
      walk_at "rd"
      refine ⟨pot, _, rfl, hq4, by (first | lia | omega), by (first | lia | omega), fun n3 H5 s5 hq5 h5 h6 => ?_⟩
      walk_at "rd"
      refine hR' _ _ ⟨1 + n3.toNat, (n - (1 + n2) - (1 + n3) : Int).toNat, some (.int (1 + n2)), by (first | lia | omega), by (first | lia | omega), by (first | lia | omega), s2.trans (s3.trans (s4.trans s5)), hq5, ?_⟩
      rw [show ((1 + n3.toNat : Nat) : Int) = 1 + n3 by (first | lia | omega), show (((n - (1 + n2) - (1 + n3) : Int).toNat : Nat) : Int) = n - (1 + n2) - (1 + n3) by (first | lia | omega)]
      rfl
    · exact hR' _ _ ⟨a, b, none, ha1, hb1, by (first | lia | omega), s2.trans s3, hq3, rfl⟩
  clear s1 hq1 ha1 ha2 hb1 hb2 s2 hq2
  clear H1 H2 a b
  rintro _ H1 ⟨a, b, o4, ha1, hb1, hab, s1, hq1, rfl⟩
  obtain ⟨m, hm⟩ : ∃ m, n = a + m + b := ⟨n - a - b, by (first | lia | omega)⟩
  have em : ((n : Int) - (a : Int) - (b : Int)) = ((m : Nat) : Int) := by (first | lia | omega)
  obtain ⟨ns, ens⟩ : ∃ ns, ns = row3 a m b 1 (-2) 1 := ⟨_, rfl⟩
  have hl3 : ns.length = n := by rw [ens, hm]; exact row3_len
  refine seqU (fun σ' H' => ∃ (p : Addr), Same H1 H' ∧ IsKept H' 13 p ns ∧ σ' = [some (.ref pot), some (.int n), some (.int a), some (.int b), o4, some (.ref p), none, none, none, none, none, none, none, none]) ?_ (fun R hR' => ?_)
  case refine_2 =>
    walk_at "rd"
    refine ⟨by show 1 ≤ sizeLine; decide, fun c1 hc1 => ?_⟩
    walk_at "rd"
    refine ⟨c1, _, _, rfl, rfl, upd_same, by (first | lia | omega), by (first | lia | omega), Nat.le_of_lt (small (by show 1 * a ≤ _; (first | lia | omega))), fun c2 hc2 => ?_⟩
    have ea : (List.replicate ((a : Nat) : Int).toNat [V.int 1]).flatten = (List.replicate a (1 : Int)).map V.int := rep_x
    rw [ea]
    have w1 := Same.new hc1 (.lst [.int 1])
    have w2 := Same.new hc2 (.lst ((List.replicate a (1 : Int)).map V.int))
    walk_at "rd"
    refine ⟨by show 1 ≤ sizeLine; decide, fun c3 hc3 => ?_⟩
    walk_at "rd"
    refine ⟨c3, _, _, rfl, congrArg V.int em, upd_same, by (first | lia | omega), by (first | lia | omega), Nat.le_of_lt (small (by show 1 * m ≤ _; (first | lia | omega))), fun c4 hc4 => ?_⟩
    have ew : (List.replicate ((m : Nat) : Int).toNat [V.int (-2)]).flatten = (List.replicate m (-2 : Int)).map V.int := rep_x
    rw [ew]
    have w3 := Same.new hc3 (.lst [.int (-2)])
    have w4 := Same.new hc4 (.lst ((List.replicate m (-2 : Int)).map V.int))
    refine ⟨c2, c4, _, _, rfl, rfl, (w3.trans w4) _ _ upd_same, upd_same, by rw [List.length_map, List.length_map, List.length_replicate, List.length_replicate]; exact Nat.le_of_lt (small (by (first | lia | omega))), fun c5 hc5 => ?_⟩
    have w5 := Same.new hc5 (.lst ((List.replicate a (1 : Int)).map V.int ++ (List.replicate m (-2 : Int)).map V.int))
    walk_at "rd"
    refine ⟨by show 1 ≤ sizeLine; decide, fun c6 hc6 => ?_⟩
    walk_at "rd"
    refine ⟨c6, _, _, rfl, rfl, upd_same, by (first | lia | omega), by (first | lia | omega), Nat.le_of_lt (small (by show 1 * b ≤ _; (first | lia | omega))), fun c7 hc7 => ?_⟩
    have ew2 : (List.replicate ((b : Nat) : Int).toNat [V.int 1]).flatten = (List.replicate b (1 : Int)).map V.int := rep_x
    rw [ew2]
    have w6 := Same.new hc6 (.lst [.int 1])
    have w7 := Same.new hc7 (.lst ((List.replicate b (1 : Int)).map V.int))
    refine ⟨c5, c7, _, _, rfl, rfl, (w6.trans w7) _ _ upd_same, upd_same, by rw [List.length_append, List.length_map, List.length_map, List.length_map, List.length_replicate, List.length_replicate, List.length_replicate]; exact Nat.le_of_lt (small (by (first | lia | omega))), fun c8 hc8 => ?_⟩
    have w8 := w1.trans (w2.trans (w3.trans (w4.trans (w5.trans (w6.trans (w7.trans (Same.new hc8 (.lst ((List.replicate a (1 : Int)).map V.int ++ (List.replicate m (-2 : Int)).map V.int ++ (List.replicate b (1 : Int)).map V.int)))))))))
    have e8 : (List.replicate a (1 : Int)).map V.int ++ (List.replicate m (-2 : Int)).map V.int ++ (List.replicate b (1 : Int)).map V.int = ns.map V.int := by
      rw [ens]
      unfold row3
      rw [List.map_append, List.map_append]
    refine ⟨c8, ns, rfl, by rw [upd_same, e8], by (first | lia | omega), by (first | lia | omega), fun p H2 s2 hk => ?_⟩
    exact hR' _ _ ⟨p, w8.trans s2, hk, rfl⟩
  rintro _ H2 ⟨p, s2, hk2, rfl⟩
  refine seqU (fun σ' H' => Same H2 H' ∧ σ' = [some (.ref pot), some (.int n), some (.int a), some (.int b), o4, some (.ref p), none, none, none, none, none, none, none, none]) ?_ (fun R hR' => ?_)
  case refine_2 =>
    walk_at "rd"
    refine ⟨p, ns, rfl, hk2, fun x z H3 u1 hx hz => ?_⟩
    rw [ens] at hz
    rw [ends_ring ha1 (by (first | lia | omega)) hb1 hz] at hx
    walk_at "rd"
    refine ⟨by show 3 ≤ sizeLine; decide, fun t2 ht2 => ?_⟩
    have u2 := Same.new ht2 (.tup [.int ((a : Int) + b), .int ((n : Int) - b), .int ((a : Int) + b)])
    refine ⟨0, _, EqT (ns := [(a : Int) + b, (a : Int) + m, (a : Int) + b]) (ms := [(a : Int) + b, (n : Int) - b, (a : Int) + b]) (SqT.of (u2 _ _ hx)) (SqT.of upd_same), by decide, ?_⟩
    rw [eq3 (by (first | lia | omega))]
    walk_at "rd"
    exact hR' _ _ ⟨u1.trans u2, rfl⟩
  rintro _ H3 ⟨s3, rfl⟩
  have hk3 := hk2.keep s3
  have s03 := s1.trans (sX (s2.trans s3))
  have hq3 := hq1.keep (s2.trans s3)
  refine seqU (fun σ' H' => ∃ (ch : Addr), Same H3 H' ∧ H3 ch = none ∧ H' ch = some (.lst []) ∧ σ' = [some (.ref pot), some (.int n), some (.int a), some (.int b), o4, some (.ref p), some (.ref ch), none, none, none, none, none, none, none]) ?_ (fun R hR' => ?_)
  case refine_2 =>
    walk_at "rd"
    refine ⟨Nat.zero_le _, fun ch hch => ?_⟩
    exact hR' _ _ ⟨ch, Same.new hch _, hch, upd_same, rfl⟩
  rintro _ H4 ⟨ch, s4, hch0, hch4, rfl⟩
  have npc : ch ≠ pot := hq3.ne hch0
  have hq4 := hq3.keep s4
  refine seqU (fun σ' H' => ∃ (xs : List V) (cs : List (Int × Int)) (ok : Option V), SameX pot H3 H' ∧ Pot H' pot ∧ H' ch = some (.lst xs) ∧ Chg H' xs cs ∧ InRow ns.length cs ∧ cs.length ≤ 200 ∧ σ' = [some (.ref pot), some (.int n), some (.int a), some (.int b), o4, some (.ref p), some (.ref ch), ok, none, none, none, none, none, none]) ?_ (fun R hR' => ?_)
  case refine_2 =>
    walk_at "rd"
    refine ⟨by decide, by decide, ?_⟩
    refine for_range (fun i σ H' => ∃ (xs : List V) (cs : List (Int × Int)) (ok : Option V), SameX pot H3 H' ∧ Pot H' pot ∧ H' ch = some (.lst xs) ∧ Chg H' xs cs ∧ InRow ns.length cs ∧ cs.length ≤ i ∧ σ = [some (.ref pot), some (.int n), some (.int a), some (.int b), o4, some (.ref p), some (.ref ch), ok, none, none, none, none, none, none]) ⟨[], [], none, sX s4, hq4, hch4, trivial, (fun c hc => by cases hc), Nat.le_refl _, rfl⟩ ?_ ?_
    · rintro i σ H5 hi ⟨xs, cs, ok, s5, hq5, hch5, hC5, hin5, hz5, rfl⟩
      have hi200 : i < 200 := hi
      walk_at "rd"
      refine ⟨.inl ⟨rfl, _, SqL.of hch5⟩, ?_⟩
      walk_at "rd"
      refine ⟨pot, _, rfl, hq5, by (first | lia | omega), by (first | lia | omega), fun n1 H6 s6 hq6 h1 h2 => ?_⟩
      walk_at "rd"
      refine ⟨pot, _, rfl, hq6, by decide, by decide, fun n2 H7 s7 hq7 h3 h4 => ?_⟩
      walk_at "rd"
      refine ⟨by show 2 ≤ sizeLine; decide, fun p5 hp5 => ?_⟩
      have s57 := s6.trans s7
      have s8 := Same.new hp5 (.tup [.int n1, .int (n2 - 4)])
      have hch7 := s57 _ _ npc hch5
      have hch8 := s8 _ _ hch7
      refine ⟨ch, _, _, rfl, rfl, hch8, small (by rw [hC5.len]; (first | lia | omega)), ?_⟩
      have n5 : p5 ≠ ch := fun z => by rw [z, hch7] at hp5; cases hp5
      refine ⟨_, cs ++ [(n1, n2 - 4)], _, (s5.trans (s57.trans (sX s8))).upd hch0, ?_, upd_same, ?_, fun c hc => ?_, by rw [List.length_append, List.length_singleton]; (first | lia | omega), rfl⟩
      · obtain ⟨u, v, e⟩ := hq7.keep s8
        exact ⟨u, v, by rw [upd_ne (Ne.symm npc)]; exact e⟩
      · refine Chg.append (Chg.keepX ⟨_, hch8⟩ (fun b u hb e => by rw [upd_ne hb]; exact e) (Chg.keep s8 (Chg.keepX (q := pot) (by obtain ⟨u, v, e⟩ := hq5; exact ⟨_, e⟩) s57 hC5))) ⟨⟨p5, rfl, ?_⟩, trivial⟩
        rw [upd_ne n5]
        exact upd_same
      · rcases List.mem_append.mp hc with z | z
        · exact hin5 c z
        · rw [List.mem_singleton] at z
          subst z
          exact ⟨h1, by show n1 < _; rw [hl3]; exact h2⟩
    · rintro σ H5 ⟨xs, cs, ok, s5, hq5, hch5, hC5, hin5, hz5, rfl⟩
      exact hR' _ _ ⟨xs, cs, ok, s5, hq5, hch5, hC5, hin5, hz5, rfl⟩
  rintro _ H5 ⟨xs, cs, ok, s5, hq5, hch5, hC5, hin5, hz5, rfl⟩
  have hk5 := hk3.keepT (s5.tups hq3)
  refine seqU (fun σ' H' => ∃ (p2 : Addr), Same H5 H' ∧ IsKept H' 13 p2 (putAll ns cs) ∧ σ' = [some (.ref pot), some (.int n), some (.int a), some (.int b), o4, some (.ref p), some (.ref ch), ok, some (.ref p2), none, none, none, none, none]) ?_ (fun R hR' => ?_)
  case refine_2 =>
    walk_at "rd"
    refine ⟨p, ch, ns, xs, cs, rfl, hk5, hch5, hC5, hin5, fun p2 H6 u1 hk6 _ => ?_⟩
    exact hR' _ _ ⟨p2, u1, hk6, rfl⟩
  rintro _ H6 ⟨p2, s6, hk6, rfl⟩
  refine seqU (fun σ' H' => ∃ (r : Addr), Same H6 H' ∧ H' r = some (.lst (ns.map V.int)) ∧ σ' = [some (.ref pot), some (.int n), some (.int a), some (.int b), o4, some (.ref p), some (.ref ch), ok, some (.ref p2), some (.ref r), none, none, none, none]) ?_ (fun R hR' => ?_)
  case refine_2 =>
    walk_at "rd"
    refine ⟨by show 1 ≤ sizeLine; decide, fun c1 hc1 => ?_⟩
    walk_at "rd"
    refine ⟨c1, _, _, rfl, rfl, upd_same, by (first | lia | omega), by (first | lia | omega), Nat.le_of_lt (small (by show 1 * a ≤ _; (first | lia | omega))), fun c2 hc2 => ?_⟩
    have ea : (List.replicate ((a : Nat) : Int).toNat [V.int 1]).flatten = (List.replicate a (1 : Int)).map V.int := rep_x
    rw [ea]
    have w1 := Same.new hc1 (.lst [.int 1])
    have w2 := Same.new hc2 (.lst ((List.replicate a (1 : Int)).map V.int))
    walk_at "rd"
    refine ⟨by show 1 ≤ sizeLine; decide, fun c3 hc3 => ?_⟩
    walk_at "rd"
    refine ⟨c3, _, _, rfl, congrArg V.int em, upd_same, by (first | lia | omega), by (first | lia | omega), Nat.le_of_lt (small (by show 1 * m ≤ _; (first | lia | omega))), fun c4 hc4 => ?_⟩
    have ew : (List.replicate ((m : Nat) : Int).toNat [V.int (-2)]).flatten = (List.replicate m (-2 : Int)).map V.int := rep_x
    rw [ew]
    have w3 := Same.new hc3 (.lst [.int (-2)])
    have w4 := Same.new hc4 (.lst ((List.replicate m (-2 : Int)).map V.int))
    refine ⟨c2, c4, _, _, rfl, rfl, (w3.trans w4) _ _ upd_same, upd_same, by rw [List.length_map, List.length_map, List.length_replicate, List.length_replicate]; exact Nat.le_of_lt (small (by (first | lia | omega))), fun c5 hc5 => ?_⟩
    have w5 := Same.new hc5 (.lst ((List.replicate a (1 : Int)).map V.int ++ (List.replicate m (-2 : Int)).map V.int))
    walk_at "rd"
    refine ⟨by show 1 ≤ sizeLine; decide, fun c6 hc6 => ?_⟩
    walk_at "rd"
    refine ⟨c6, _, _, rfl, rfl, upd_same, by (first | lia | omega), by (first | lia | omega), Nat.le_of_lt (small (by show 1 * b ≤ _; (first | lia | omega))), fun c7 hc7 => ?_⟩
    have ew2 : (List.replicate ((b : Nat) : Int).toNat [V.int 1]).flatten = (List.replicate b (1 : Int)).map V.int := rep_x
    rw [ew2]
    have w6 := Same.new hc6 (.lst [.int 1])
    have w7 := Same.new hc7 (.lst ((List.replicate b (1 : Int)).map V.int))
    refine ⟨c5, c7, _, _, rfl, rfl, (w6.trans w7) _ _ upd_same, upd_same, by rw [List.length_append, List.length_map, List.length_map, List.length_map, List.length_replicate, List.length_replicate, List.length_replicate]; exact Nat.le_of_lt (small (by (first | lia | omega))), fun c8 hc8 => ?_⟩
    have w8 := w1.trans (w2.trans (w3.trans (w4.trans (w5.trans (w6.trans (w7.trans (Same.new hc8 (.lst ((List.replicate a (1 : Int)).map V.int ++ (List.replicate m (-2 : Int)).map V.int ++ (List.replicate b (1 : Int)).map V.int)))))))))
    have e8 : (List.replicate a (1 : Int)).map V.int ++ (List.replicate m (-2 : Int)).map V.int ++ (List.replicate b (1 : Int)).map V.int = ns.map V.int := by
      rw [ens]
      unfold row3
      rw [List.map_append, List.map_append]
    exact hR' _ _ ⟨c8, w8, by rw [upd_same, e8], rfl⟩
  rintro _ H7 ⟨r, s7, hr7, rfl⟩
  refine seqU (fun σ' H' => ∃ (pt : Addr), Same H7 H' ∧ H7 pt = none ∧ H' pt = some (.lst (ns.map V.int)) ∧ σ' = [some (.ref pot), some (.int n), some (.int a), some (.int b), o4, some (.ref p), some (.ref ch), ok, some (.ref p2), some (.ref r), some (.ref pt), none, none, none]) ?_ (fun R hR' => ?_)
  case refine_2 =>
    walk_at "rd"
    refine ⟨r, _, rfl, .inl (SqL.of hr7), fun pt hpt => ?_⟩
    exact hR' _ _ ⟨pt, Same.new hpt _, hpt, upd_same, rfl⟩
  rintro _ H8 ⟨pt, s8, hpt0, hpt8, rfl⟩
  have s57 := s6.trans s7
  have hch8 := (s57.trans s8) _ _ hch5
  have hC8 := hC5.keep (s57.trans s8)
  refine seqU (fun σ' H' => ∃ (o1 o2 : Option V), Same H7 H' ∧ H' pt = some (.lst ((putAll ns cs).map V.int)) ∧ σ' = [some (.ref pot), some (.int n), some (.int a), some (.int b), o4, some (.ref p), some (.ref ch), ok, some (.ref p2), some (.ref r), some (.ref pt), o1, o2, none]) ?_ (fun R hR' => ?_)
  case refine_2 =>
    walk_at "rd"
    refine ⟨⟨_, SqL.of hch8⟩, ?_⟩
    refine for_list (xs := xs) (fun i σ H' => ∃ (o1 o2 : Option V), Same H7 H' ∧ H' pt = some (.lst ((putAll ns (cs.take i)).map V.int)) ∧ σ = [some (.ref pot), some (.int n), some (.int a), some (.int b), o4, some (.ref p), some (.ref ch), ok, some (.ref p2), some (.ref r), some (.ref pt), o1, o2, none]) ⟨none, none, s8, hpt8, rfl⟩ ?_ ?_ ?_
    · rintro i σ H' _ ⟨_, _, sm, _⟩
      exact SqL.of (sm _ _ (s57 _ _ hch5))
    · rintro i x σ H9 hx ⟨o1, o2, sm, hpt9, rfl⟩
      obtain ⟨pp, e, rfl, he, hp⟩ := ((hC5.keep s57).keep sm).at hx
      have hcm := hin5 e (List.mem_of_getElem? he)
      refine ⟨pp, _, rfl, SqT.of hp, rfl, _, _, rfl, _, _, rfl, rfl, ?_⟩
      walk_at "rd"
      refine ⟨pt, _, _, _, rfl, rfl, hpt9, ixN37 hcm.1 (by rw [List.length_map, putAll_len]; exact hcm.2), ?_⟩
      refine ⟨_, _, sm.upd hpt0, ?_, rfl⟩
      rw [upd_same, set_ints37, putAll_step he]
    · rintro σ H9 ⟨o1, o2, sm, hpt9, rfl⟩
      rw [hC5.len, List.take_of_length_le (Nat.le_refl _)] at hpt9
      exact hR' _ _ ⟨o1, o2, sm, hpt9, rfl⟩
  rintro _ H9 ⟨o1, o2, s9, hpt9, rfl⟩
  have hpl : (putAll ns cs).length = n := by rw [putAll_len]; exact hl3
  have s69 := s7.trans s9
  have hk9 := hk6.keep s69
  have s59 := s6.trans s69
  have hkh9 := hk5.keep s59
  have hr9 := s9 _ _ hr7
  refine seqU (fun σ' H' => Same H9 H' ∧ σ' = [some (.ref pot), some (.int n), some (.int a), some (.int b), o4, some (.ref p), some (.ref ch), ok, some (.ref p2), some (.ref r), some (.ref pt), o1, o2, none]) ?_ (fun R hR' => ?_)
  case refine_2 =>
    walk_at "rd"
    refine ⟨p2, _, rfl, hk9, by (first | lia | omega), fun l1 H10 u1 hl10 hl1 => ?_⟩
    walk_at "rd"
    refine ⟨0, _, EqD.ints (SqL.of hl1) (SqL.of (u1 _ _ hpt9)), by decide, ?_⟩
    rw [decide_eq_true rfl]
    walk_at "rd"
    refine ⟨p, _, rfl, hkh9.keep u1, by (first | lia | omega), fun l2 H11 u2 hl20 hl2 => ?_⟩
    walk_at "rd"
    refine ⟨0, _, EqD.ints (SqL.of hl2) (SqL.of ((u1.trans u2) _ _ hr9)), by decide, ?_⟩
    rw [decide_eq_true rfl]
    walk_at "rd"
    exact hR' _ _ ⟨u1.trans u2, rfl⟩
  rintro _ H10 ⟨s10, rfl⟩
  walk_at "rd"
  have hch10 := (s59.trans s10) _ _ hch5
  have hC10 := hC5.keep (s59.trans s10)
  have hr10 := s10 _ _ hr9
  refine ⟨⟨_, SqL.of hch10⟩, ?_⟩
  intro acc hacc
  have hxl := hC5.len
  refine comp_by (n := xs.length) (fun i τ zs H' => H' acc = some (.lst zs) ∧ Chg H' zs ((cs.take i).map fun c => (c.1, ns.getD c.1.toNat 0)) ∧ Same H10 H' ∧ ∃ o0 o1, τ = [o0, o1, some (.ref r)]) ⟨upd_same, trivial, Same.new hacc _, none, none, rfl⟩ (by (first | lia | omega)) ?_ ?_ ?_ ?_
  · rintro i τ zs H' ⟨e, hC, _⟩
    exact ⟨e, by rw [hC.len, List.length_map, List.length_take]; (first | lia | omega)⟩
  · rintro i τ zs H' hi ⟨_, _, sm, _⟩
    exact ⟨_, xs[i], SqL.of (sm _ _ hch10), List.getElem?_eq_getElem hi⟩
  · rintro τ zs H11 ⟨e, hC, sm, _⟩
    refine ⟨⟨_, SqL.of (sm _ _ hch10), Nat.le_refl _⟩, ?_⟩
    rw [hxl, List.take_length] at hC
    walk_at "rd"
    refine ⟨p2, acc, putAll ns cs, zs, _, rfl, hk9.keep (s10.trans sm), e, hC, ?_, fun p3 H12 u1 hk12 _ => ?_⟩
    · intro d hd
      obtain ⟨d', hd', rfl⟩ := List.mem_map.mp hd
      rw [putAll_len]
      exact hin5 d' hd'
    rw [put_all_back hin5] at hk12
    walk_at "rd"
    have s512 := s59.trans (s10.trans (sm.trans u1))
    refine hk12.like (hk5.keep s512) (by decide) ?_
    exact fin _ (s03.trans (s5.trans (sX s512))) (hq5.keep s512)
  · rintro i τ zs H11 x H12 hi ⟨e, hC, sm, o0, o1', rfl⟩ ⟨rfl, y⟩
    have hx := y _ (SqL.of (sm _ _ hch10))
    obtain ⟨pp, d, rfl, hd, hp⟩ := (hC10.keep sm).at hx
    have hcm := hin5 d (List.mem_of_getElem? hd)
    refine ⟨pp, _, rfl, SqT.of hp, rfl, _, _, rfl, _, _, rfl, rfl, ?_⟩
    walk_at "rd"
    refine ⟨r, _, _, _, rfl, rfl, SqL.of (sm _ _ hr10), atI_ok hcm.1 hcm.2, ?_⟩
    refine ⟨by show 2 ≤ sizeLine; decide, fun p5 hp5 => ?_⟩
    have u1 := Same.new hp5 (.tup [.int d.1, .int (ns.getD d.1.toNat 0)])
    have e2 := u1 _ _ e
    have n5 : p5 ≠ acc := fun z => by rw [z, e] at hp5; cases hp5
    refine ⟨e2, Nx.mk hi ⟨upd_same, ?_, (sm.trans u1).upd hacc, _, _, rfl⟩⟩
    obtain ⟨hi', ed⟩ := List.getElem?_eq_some_iff.mp hd
    rw [List.take_succ_eq_append_getElem hi', ed, List.map_append]
    refine Chg.append (Chg.keepX ⟨_, e2⟩ (fun b u hb e => by rw [upd_ne hb]; exact e) (hC.keep u1)) ⟨⟨p5, rfl, ?_⟩, trivial⟩
    rw [upd_ne n5]
    exact upd_same
/-! ### law -/
theorem ok_law {P : Program} {w : World} {K : PySem.W.Frag} {mg : Str → Option Value} {base : Heap} {k : Nat} {f : Addr} {fd : FuncData} (F : Fun K "law" "law" s_law f fd) (Z : Blt mg)
    (D_law_pots : Def P w K mg base k "_law_pots" ["script"] sp_pots1) (D_law_next : Def P w K mg base k "_law_next" ["pot", "many"] sp_next) (D_law_right : Def P w K mg base k "_law_right" ["pot", "many", "first", "wide"] sp_right37) (D_law_ends_right : Def P w K mg base k "_law_ends_right" ["pot", "many"] sp_ends37) : FnOk P w K mg base CX0 (k + 1) f fd ["script"] (sp_law K) := by
  refine F.ok sc_law (fun vs H Q E h => ?_) (fun cdv A outer s H vs Q E hr h => ?_)
  · obtain ⟨a, ns, rfl, _⟩ := h
    rfl
  obtain ⟨a, sc, rfl, hS, hz, q⟩ := h
  apply Exists.intro
  apply And.intro
  case left =>
    apply pss_cons
    case h1 =>
      exact (ps_set (i := 1) sc_law.nd rfl (by first | exact Or.inl rfl | exact Or.inr rfl) (pe_ix ix_list (pe_def D_law_pots hr rfl (pa_cons (pe_slice sl_list (pv 0) po_none (po_some pe_int)) pa_nil)) pe_int (fun _ _ => rfl)))
    apply pss_cons
    case h1 =>
      exact (ps_set (i := 2) sc_law.nd rfl (by first | exact Or.inl rfl | exact Or.inr rfl) (pe_ix ix_list (pe_lst (pa_cons (pe_op op_add pe_int (pe_def D_law_next hr rfl (pa_cons (pv 1) (pa_cons pe_int pa_nil)))) (pa_cons (pe_op op_add pe_int (pe_def D_law_next hr rfl (pa_cons (pv 1) (pa_cons pe_int pa_nil)))) pa_nil))) (pe_callTy call_int1 rfl Z.int_ PyProof.Rows.boot_int (pa_cons (pe_cmpR op_eq (pe_def D_law_next hr rfl (pa_cons (pv 1) (pa_cons pe_int pa_nil))) pe_int (nomark _)) pa_nil)) (fun _ _ => rfl)))
    apply pss_cons
    case h1 =>
      exact (ps_set (i := 3) sc_law.nd rfl (by first | exact Or.inl rfl | exact Or.inr rfl) (pe_op op_add pe_int (pe_def D_law_next hr rfl (pa_cons (pv 1) (pa_cons (pe_op op_fdiv (pv 2) pe_int) pa_nil)))))
    apply pss_cons
    case h1 =>
      exact (ps_set (i := 4) sc_law.nd rfl (by first | exact Or.inl rfl | exact Or.inr rfl) (pe_op op_add pe_int (pe_def D_law_next hr rfl (pa_cons (pv 1) (pa_cons (pe_op op_sub (pe_op op_sub (pv 2) (pv 3)) pe_int) pa_nil)))))
    apply pss_one
    exact (ps_ret (pe_and (pe_def D_law_right hr rfl (pa_cons (pv 1) (pa_cons (pv 2) (pa_cons (pv 4) (pa_cons (pv 3) pa_nil))))) (pe_one (pe_def D_law_ends_right hr rfl (pa_cons (pv 1) (pa_cons (pv 2) pa_nil))))))
  walk_at "rd"
  refine ⟨a, _, rfl, hS, fun l0 hl0 => ?_⟩
  have ec : cutV (sc.map V.int) none (some 1) = (sc.take 1).map V.int := cut_front (m := 1)
  rw [ec]
  refine ⟨l0, sc.take 1, rfl, upd_same, by rw [List.length_take]; (first | lia | omega), fun l ps H1 s1 hps hpz hp1 => ?_⟩
  obtain ⟨pot, rest, eps⟩ : ∃ pot rest, ps = pot :: rest := by
    cases ps with
    | nil => exact absurd hp1 (by decide)
    | cons x xs => exact ⟨x, xs, rfl⟩
  have hq1 : Pot H1 pot := hps.2 pot (by rw [eps]; exact List.mem_cons_self)
  walk_at "rd"
  refine ⟨l, _, 0, _, rfl, rfl, SqL.of hps.1, atI_nat (j := 0) (v := V.ref pot) (by rw [eps]; rfl), ?_⟩
  dsimp only [gName]
  refine seqU (fun σ' H' => ∃ n : Nat, 100 ≤ n ∧ n ≤ 3000 ∧ Pot H' pot ∧ σ' = [some (.ref a), some (.ref pot), some (.int n), none, none]) ?_ (fun R hR' => ?_)
  case refine_2 =>
    walk_at "rd"
    refine ⟨pot, _, rfl, hq1, by decide, by decide, fun n1 H2 s2 hq2 h1 h2 => ?_⟩
    walk_at "rd"
    refine ⟨pot, _, rfl, hq2, by decide, by decide, fun n2 H3 s3 hq3 h3 h4 => ?_⟩
    walk_at "rd"
    refine ⟨by show 2 ≤ sizeLine; decide, fun p4 hp4 => ?_⟩
    have s4 := Same.new hp4 (.lst [.int (100 + n1), .int (1000 + n2)])
    have np4 : p4 ≠ pot := hq3.ne hp4
    walk_at "rd"
    refine ⟨pot, _, rfl, hq3.keep s4, by decide, by decide, fun n3 H5 s5 hq5 h5 h6 => ?_⟩
    walk_at "rd"
    refine .inr ⟨_, rfl, ?_⟩
    have hp5 := s5 _ _ np4 upd_same
    obtain ⟨j, ej, hj⟩ : ∃ j : Int, (if decide (V.int n3 = V.int 0) = true then 1 else 0) = j ∧ (j = 0 ∨ j = 1) := by
      refine ⟨_, rfl, ?_⟩
      split
      · exact .inr rfl
      · exact .inl rfl
    rw [ej]
    rcases hj with rfl | rfl
    · refine ⟨p4, _, 0, _, rfl, rfl, SqL.of hp5, rfl, ?_⟩
      refine hR' _ _ ⟨100 + n1.toNat, by (first | lia | omega), by (first | lia | omega), hq5, ?_⟩
      rw [show ((100 + n1.toNat : Nat) : Int) = 100 + n1 by (first | lia | omega)]
      rfl
    · refine ⟨p4, _, 1, _, rfl, rfl, SqL.of hp5, rfl, ?_⟩
      refine hR' _ _ ⟨1000 + n2.toNat, by (first | lia | omega), by (first | lia | omega), hq5, ?_⟩
      rw [show ((1000 + n2.toNat : Nat) : Int) = 1000 + n2 by (first | lia | omega)]
      rfl
  rintro _ H2 ⟨n, hn1, hn2, hq2, rfl⟩
  refine seqU (fun σ' H' => ∃ w : Nat, 2 ≤ w ∧ 3 * w ≤ n + 3 ∧ Pot H' pot ∧ σ' = [some (.ref a), some (.ref pot), some (.int n), some (.int w), none]) ?_ (fun R hR' => ?_)
  case refine_2 =>
    walk_at "rd"
    refine ⟨pot, _, rfl, hq2, by show (1 : Int) ≤ (n : Int) / 3; (first | lia | omega), by show (n : Int) / 3 ≤ _; (first | lia | omega), fun n1 H3 s3 hq3 h1 h2 => ?_⟩
    have h2' : n1 < (n : Int) / 3 := h2
    walk_at "rd"
    refine hR' _ _ ⟨2 + n1.toNat, by (first | lia | omega), by (first | lia | omega), hq3, ?_⟩
    rw [show ((2 + n1.toNat : Nat) : Int) = 2 + n1 by (first | lia | omega)]
    rfl
  rintro _ H3 ⟨wd, hw1, hw2, hq3, rfl⟩
  refine seqU (fun σ' H' => ∃ m : Nat, 1 ≤ m ∧ m + wd < n ∧ Pot H' pot ∧ σ' = [some (.ref a), some (.ref pot), some (.int n), some (.int wd), some (.int m)]) ?_ (fun R hR' => ?_)
  case refine_2 =>
    walk_at "rd"
    refine ⟨pot, _, rfl, hq3, by (first | lia | omega), by (first | lia | omega), fun n1 H4 s4 hq4 h1 h2 => ?_⟩
    walk_at "rd"
    refine hR' _ _ ⟨1 + n1.toNat, by (first | lia | omega), by (first | lia | omega), hq4, ?_⟩
    rw [show ((1 + n1.toNat : Nat) : Int) = 1 + n1 by (first | lia | omega)]
    rfl
  rintro _ H4 ⟨m, hm1, hm2, hq4, rfl⟩
  walk_at "rd"
  refine ⟨pot, n, m, wd, rfl, hq4, hm1, hw1, hm2, hn2, fun H5 s5 hq5 => ?_⟩
  walk_at "rd"
  exact ⟨pot, n, rfl, hq5, hn1, hn2, fun H6 s6 hq6 => q _⟩
theorem of1 {us : List Value} (h : us.length = 1) : ∃ x0, us = [x0] := by
  match us, h with
  | [x0], _ => exact ⟨_, rfl⟩
theorem of2 {us : List Value} (h : us.length = 2) : ∃ x0 x1, us = [x0, x1] := by
  match us, h with
  | [x0, x1], _ => exact ⟨_, _, rfl⟩
theorem of3 {us : List Value} (h : us.length = 3) : ∃ x0 x1 x2, us = [x0, x1, x2] := by
  match us, h with
  | [x0, x1, x2], _ => exact ⟨_, _, _, rfl⟩
theorem of4 {us : List Value} (h : us.length = 4) : ∃ x0 x1 x2 x3, us = [x0, x1, x2, x3] := by
  match us, h with
  | [x0, x1, x2, x3], _ => exact ⟨_, _, _, _, rfl⟩
theorem all_mk {l : PySem.W.OpenLaw} {w : World} {K : PySem.W.Frag} {h : Heap} {mg : Str → Option Value} {fa f0 f1 f2 f3 f4 f5 f6 f7 f8 f9 f10 f11 f12 f13 f14 f15 f16 f17 f18 f19 f20 f21 f22 f23 f24 f25 f26 f27 f28 f29 f30 : Addr} (X : K.In h) (G : h.Ns mainGlobals mg) (hfa : mg "law" = some (.ref fa))
    {ct_BEST ct_HEAD ct_KNOWN ct_LEFT ct_MANY ct_RIGHT ct_ROUND ct_TAIL ct_TOTAL : Tok}
    {od0 an0 od1 an1 od2 an2 od3 an3 od4 an4 od5 an5 od6 an6 od7 an7 od8 an8 od9 an9 od10 an10 od11 an11 od12 an12 od13 an13 od14 an14 od15 an15 od16 an16 od17 an17 od18 an18 od19 an19 od20 an20 od21 an21 od22 an22 od23 an23 od24 an24 od25 an25 od26 an26 od27 an27 od28 an28 od29 an29 od30 an30 : Option Addr} {sl0 sl1 sl2 sl3 sl4 sl5 sl6 sl7 sl8 sl9 sl10 sl11 sl12 sl13 sl14 sl15 sl16 sl17 sl18 sl19 sl20 sl21 sl22 sl23 sl24 sl25 sl26 sl27 sl28 sl29 sl30 : Array (Option Value)} {oc0 kV0 dc0 pm0 cd0 ct0 oc1 kV1 dc1 pm1 cd1 ct1 oc2 kV2 dc2 pm2 cd2 ct2 oc3 kV3 dc3 pm3 cd3 ct3 oc4 kV4 dc4 pm4 cd4 ct4 oc5 kV5 dc5 pm5 cd5 ct5 oc6 kV6 dc6 pm6 cd6 ct6 oc7 kV7 dc7 pm7 cd7 ct7 oc8 kV8 dc8 pm8 cd8 ct8 oc9 kV9 dc9 pm9 cd9 ct9 oc10 kV10 dc10 pm10 cd10 ct10 oc11 kV11 dc11 pm11 cd11 ct11 oc12 kV12 dc12 pm12 cd12 ct12 oc13 kV13 dc13 pm13 cd13 ct13 oc14 kV14 dc14 pm14 cd14 ct14 oc15 kV15 dc15 pm15 cd15 ct15 oc16 kV16 dc16 pm16 cd16 ct16 oc17 kV17 dc17 pm17 cd17 ct17 oc18 kV18 dc18 pm18 cd18 ct18 oc19 kV19 dc19 pm19 cd19 ct19 oc20 kV20 dc20 pm20 cd20 ct20 oc21 kV21 dc21 pm21 cd21 ct21 oc22 kV22 dc22 pm22 cd22 ct22 oc23 kV23 dc23 pm23 cd23 ct23 oc24 kV24 dc24 pm24 cd24 ct24 oc25 kV25 dc25 pm25 cd25 ct25 oc26 kV26 dc26 pm26 cd26 ct26 oc27 kV27 dc27 pm27 cd27 ct27 oc28 kV28 dc28 pm28 cd28 ct28 oc29 kV29 dc29 pm29 cd29 ct29 oc30 kV30 dc30 pm30 cd30 ct30 : Value}
    (a0 : PySem.W.nsIn K mainGlobals "is_whole" = some (some (.ref f0))) (l0 : K.lookup f0 = some ⟨oc0, od0, .func (PySem.W.fnOf "is_whole" "is_whole" (defArgs s_is_whole) (defBody s_is_whole) (defScope s_is_whole) .none kV0 dc0 pm0 an0 cd0 ct0), sl0⟩) (c0 : PySem.W.codeIn K cd0 "is_whole" = true) (k0 : PySem.W.keepIn K (.ref f0) = true)
    (a1 : PySem.W.nsIn K mainGlobals "is_stretch" = some (some (.ref f1))) (l1 : K.lookup f1 = some ⟨oc1, od1, .func (PySem.W.fnOf "is_stretch" "is_stretch" (defArgs s_is_stretch) (defBody s_is_stretch) (defScope s_is_stretch) .none kV1 dc1 pm1 an1 cd1 ct1), sl1⟩) (c1 : PySem.W.codeIn K cd1 "is_stretch" = true) (k1 : PySem.W.keepIn K (.ref f1) = true)
    (a2 : PySem.W.nsIn K mainGlobals "order_of" = some (some (.ref f2))) (l2 : K.lookup f2 = some ⟨oc2, od2, .func (PySem.W.fnOf "order_of" "order_of" (defArgs s_order_of) (defBody s_order_of) (defScope s_order_of) .none kV2 dc2 pm2 an2 cd2 ct2), sl2⟩) (c2 : PySem.W.codeIn K cd2 "order_of" = true) (k2 : PySem.W.keepIn K (.ref f2) = true)
    (a3 : PySem.W.nsIn K mainGlobals "better_of" = some (some (.ref f3))) (l3 : K.lookup f3 = some ⟨oc3, od3, .func (PySem.W.fnOf "better_of" "better_of" (defArgs s_better_of) (defBody s_better_of) (defScope s_better_of) .none kV3 dc3 pm3 an3 cd3 ct3), sl3⟩) (c3 : PySem.W.codeIn K cd3 "better_of" = true) (k3 : PySem.W.keepIn K (.ref f3) = true)
    (a4 : PySem.W.nsIn K mainGlobals "moved" = some (some (.ref f4))) (l4 : K.lookup f4 = some ⟨oc4, od4, .func (PySem.W.fnOf "moved" "moved" (defArgs s_moved) (defBody s_moved) (defScope s_moved) .none kV4 dc4 pm4 an4 cd4 ct4), sl4⟩) (c4 : PySem.W.codeIn K cd4 "moved" = true) (k4 : PySem.W.keepIn K (.ref f4) = true)
    (a5 : PySem.W.nsIn K mainGlobals "side_by_side" = some (some (.ref f5))) (l5 : K.lookup f5 = some ⟨oc5, od5, .func (PySem.W.fnOf "side_by_side" "side_by_side" (defArgs s_side_by_side) (defBody s_side_by_side) (defScope s_side_by_side) .none kV5 dc5 pm5 an5 cd5 ct5), sl5⟩) (c5 : PySem.W.codeIn K cd5 "side_by_side" = true) (k5 : PySem.W.keepIn K (.ref f5) = true)
    (a6 : PySem.W.nsIn K mainGlobals "joined_round" = some (some (.ref f6))) (l6 : K.lookup f6 = some ⟨oc6, od6, .func (PySem.W.fnOf "joined_round" "joined_round" (defArgs s_joined_round) (defBody s_joined_round) (defScope s_joined_round) .none kV6 dc6 pm6 an6 cd6 ct6), sl6⟩) (c6 : PySem.W.codeIn K cd6 "joined_round" = true) (k6 : PySem.W.keepIn K (.ref f6) = true)
    (a7 : PySem.W.nsIn K mainGlobals "joined" = some (some (.ref f7))) (l7 : K.lookup f7 = some ⟨oc7, od7, .func (PySem.W.fnOf "joined" "joined" (defArgs s_joined) (defBody s_joined) (defScope s_joined) .none kV7 dc7 pm7 an7 cd7 ct7), sl7⟩) (c7 : PySem.W.codeIn K cd7 "joined" = true) (k7 : PySem.W.keepIn K (.ref f7) = true)
    (a8 : PySem.W.nsIn K mainGlobals "single" = some (some (.ref f8))) (l8 : K.lookup f8 = some ⟨oc8, od8, .func (PySem.W.fnOf "single" "single" (defArgs s_single) (defBody s_single) (defScope s_single) .none kV8 dc8 pm8 an8 cd8 ct8), sl8⟩) (c8 : PySem.W.codeIn K cd8 "single" = true) (k8 : PySem.W.keepIn K (.ref f8) = true)
    (a9 : PySem.W.nsIn K mainGlobals "paired" = some (some (.ref f9))) (l9 : K.lookup f9 = some ⟨oc9, od9, .func (PySem.W.fnOf "paired" "paired" (defArgs s_paired) (defBody s_paired) (defScope s_paired) .none kV9 dc9 pm9 an9 cd9 ct9), sl9⟩) (c9 : PySem.W.codeIn K cd9 "paired" = true) (k9 : PySem.W.keepIn K (.ref f9) = true)
    (a10 : PySem.W.nsIn K mainGlobals "halved" = some (some (.ref f10))) (l10 : K.lookup f10 = some ⟨oc10, od10, .func (PySem.W.fnOf "halved" "halved" (defArgs s_halved) (defBody s_halved) (defScope s_halved) .none kV10 dc10 pm10 an10 cd10 ct10), sl10⟩) (c10 : PySem.W.codeIn K cd10 "halved" = true) (k10 : PySem.W.keepIn K (.ref f10) = true)
    (a11 : PySem.W.nsIn K mainGlobals "kept" = some (some (.ref f11))) (l11 : K.lookup f11 = some ⟨oc11, od11, .func (PySem.W.fnOf "kept" "kept" (defArgs s_kept) (defBody s_kept) (defScope s_kept) .none kV11 dc11 pm11 an11 cd11 ct11), sl11⟩) (c11 : PySem.W.codeIn K cd11 "kept" = true) (k11 : PySem.W.keepIn K (.ref f11) = true)
    (a12 : PySem.W.nsIn K mainGlobals "many_of" = some (some (.ref f12))) (l12 : K.lookup f12 = some ⟨oc12, od12, .func (PySem.W.fnOf "many_of" "many_of" (defArgs s_many_of) (defBody s_many_of) (defScope s_many_of) .none kV12 dc12 pm12 an12 cd12 ct12), sl12⟩) (c12 : PySem.W.codeIn K cd12 "many_of" = true) (k12 : PySem.W.keepIn K (.ref f12) = true)
    (a13 : PySem.W.nsIn K mainGlobals "row_of" = some (some (.ref f13))) (l13 : K.lookup f13 = some ⟨oc13, od13, .func (PySem.W.fnOf "row_of" "row_of" (defArgs s_row_of) (defBody s_row_of) (defScope s_row_of) .none kV13 dc13 pm13 an13 cd13 ct13), sl13⟩) (c13 : PySem.W.codeIn K cd13 "row_of" = true) (k13 : PySem.W.keepIn K (.ref f13) = true)
    (a14 : PySem.W.nsIn K mainGlobals "refuse_place" = some (some (.ref f14))) (l14 : K.lookup f14 = some ⟨oc14, od14, .func (PySem.W.fnOf "refuse_place" "refuse_place" (defArgs s_refuse_place) (defBody s_refuse_place) (defScope s_refuse_place) .none kV14 dc14 pm14 an14 cd14 ct14), sl14⟩) (c14 : PySem.W.codeIn K cd14 "refuse_place" = true) (k14 : PySem.W.keepIn K (.ref f14) = true)
    (a15 : PySem.W.nsIn K mainGlobals "with_put" = some (some (.ref f15))) (l15 : K.lookup f15 = some ⟨oc15, od15, .func (PySem.W.fnOf "with_put" "with_put" (defArgs s_with_put) (defBody s_with_put) (defScope s_with_put) .none kV15 dc15 pm15 an15 cd15 ct15), sl15⟩) (c15 : PySem.W.codeIn K cd15 "with_put" = true) (k15 : PySem.W.keepIn K (.ref f15) = true)
    (a16 : PySem.W.nsIn K mainGlobals "changed" = some (some (.ref f16))) (l16 : K.lookup f16 = some ⟨oc16, od16, .func (PySem.W.fnOf "changed" "changed" (defArgs s_changed) (defBody s_changed) (defScope s_changed) .none kV16 dc16 pm16 an16 cd16 ct16), sl16⟩) (c16 : PySem.W.codeIn K cd16 "changed" = true) (k16 : PySem.W.keepIn K (.ref f16) = true)
    (a17 : PySem.W.nsIn K mainGlobals "known_of" = some (some (.ref f17))) (l17 : K.lookup f17 = some ⟨oc17, od17, .func (PySem.W.fnOf "known_of" "known_of" (defArgs s_known_of) (defBody s_known_of) (defScope s_known_of) .none kV17 dc17 pm17 an17 cd17 ct17), sl17⟩) (c17 : PySem.W.codeIn K cd17 "known_of" = true) (k17 : PySem.W.keepIn K (.ref f17) = true)
    (a18 : PySem.W.nsIn K mainGlobals "known_of_part" = some (some (.ref f18))) (l18 : K.lookup f18 = some ⟨oc18, od18, .func (PySem.W.fnOf "known_of_part" "known_of_part" (defArgs s_known_of_part) (defBody s_known_of_part) (defScope s_known_of_part) .none kV18 dc18 pm18 an18 cd18 ct18), sl18⟩) (c18 : PySem.W.codeIn K cd18 "known_of_part" = true) (k18 : PySem.W.keepIn K (.ref f18) = true)
    (a19 : PySem.W.nsIn K mainGlobals "best_in" = some (some (.ref f19))) (l19 : K.lookup f19 = some ⟨oc19, od19, .func (PySem.W.fnOf "best_in" "best_in" (defArgs s_best_in) (defBody s_best_in) (defScope s_best_in) .none kV19 dc19 pm19 an19 cd19 ct19), sl19⟩) (c19 : PySem.W.codeIn K cd19 "best_in" = true) (k19 : PySem.W.keepIn K (.ref f19) = true)
    (a20 : PySem.W.nsIn K mainGlobals "sum_in" = some (some (.ref f20))) (l20 : K.lookup f20 = some ⟨oc20, od20, .func (PySem.W.fnOf "sum_in" "sum_in" (defArgs s_sum_in) (defBody s_sum_in) (defScope s_sum_in) .none kV20 dc20 pm20 an20 cd20 ct20), sl20⟩) (c20 : PySem.W.codeIn K cd20 "sum_in" = true) (k20 : PySem.W.keepIn K (.ref f20) = true)
    (a21 : PySem.W.nsIn K mainGlobals "best_round" = some (some (.ref f21))) (l21 : K.lookup f21 = some ⟨oc21, od21, .func (PySem.W.fnOf "best_round" "best_round" (defArgs s_best_round) (defBody s_best_round) (defScope s_best_round) .none kV21 dc21 pm21 an21 cd21 ct21), sl21⟩) (c21 : PySem.W.codeIn K cd21 "best_round" = true) (k21 : PySem.W.keepIn K (.ref f21) = true)
    (a22 : PySem.W.nsIn K mainGlobals "paper_of" = some (some (.ref f22))) (l22 : K.lookup f22 = some ⟨oc22, od22, .func (PySem.W.fnOf "paper_of" "paper_of" (defArgs s_paper_of) (defBody s_paper_of) (defScope s_paper_of) .none kV22 dc22 pm22 an22 cd22 ct22), sl22⟩) (c22 : PySem.W.codeIn K cd22 "paper_of" = true) (k22 : PySem.W.keepIn K (.ref f22) = true)
    (a23 : PySem.W.nsIn K mainGlobals "bound_of" = some (some (.ref f23))) (l23 : K.lookup f23 = some ⟨oc23, od23, .func (PySem.W.fnOf "bound_of" "bound_of" (defArgs s_bound_of) (defBody s_bound_of) (defScope s_bound_of) .none kV23 dc23 pm23 an23 cd23 ct23), sl23⟩) (c23 : PySem.W.codeIn K cd23 "bound_of" = true) (k23 : PySem.W.keepIn K (.ref f23) = true)
    (a24 : PySem.W.nsIn K mainGlobals "must_be" = some (some (.ref f24))) (l24 : K.lookup f24 = some ⟨oc24, od24, .func (PySem.W.fnOf "must_be" "must_be" (defArgs s_must_be) (defBody s_must_be) (defScope s_must_be) .none kV24 dc24 pm24 an24 cd24 ct24), sl24⟩) (c24 : PySem.W.codeIn K cd24 "must_be" = true) (k24 : PySem.W.keepIn K (.ref f24) = true)
    (a25 : PySem.W.nsIn K mainGlobals "places_in_best" = some (some (.ref f25))) (l25 : K.lookup f25 = some ⟨oc25, od25, .func (PySem.W.fnOf "places_in_best" "places_in_best" (defArgs s_places_in_best) (defBody s_places_in_best) (defScope s_places_in_best) .none kV25 dc25 pm25 an25 cd25 ct25), sl25⟩) (c25 : PySem.W.codeIn K cd25 "places_in_best" = true) (k25 : PySem.W.keepIn K (.ref f25) = true)
    (a26 : PySem.W.nsIn K mainGlobals "_law_next" = some (some (.ref f26))) (l26 : K.lookup f26 = some ⟨oc26, od26, .func (PySem.W.fnOf "_law_next" "_law_next" (defArgs s_law_next) (defBody s_law_next) (defScope s_law_next) .none kV26 dc26 pm26 an26 cd26 ct26), sl26⟩) (c26 : PySem.W.codeIn K cd26 "_law_next" = true) (k26 : PySem.W.keepIn K (.ref f26) = true)
    (a27 : PySem.W.nsIn K mainGlobals "_law_pots" = some (some (.ref f27))) (l27 : K.lookup f27 = some ⟨oc27, od27, .func (PySem.W.fnOf "_law_pots" "_law_pots" (defArgs s_law_pots) (defBody s_law_pots) (defScope s_law_pots) .none kV27 dc27 pm27 an27 cd27 ct27), sl27⟩) (c27 : PySem.W.codeIn K cd27 "_law_pots" = true) (k27 : PySem.W.keepIn K (.ref f27) = true)
    (a28 : PySem.W.nsIn K mainGlobals "_law_right" = some (some (.ref f28))) (l28 : K.lookup f28 = some ⟨oc28, od28, .func (PySem.W.fnOf "_law_right" "_law_right" (defArgs s_law_right) (defBody s_law_right) (defScope s_law_right) .none kV28 dc28 pm28 an28 cd28 ct28), sl28⟩) (c28 : PySem.W.codeIn K cd28 "_law_right" = true) (k28 : PySem.W.keepIn K (.ref f28) = true)
    (a29 : PySem.W.nsIn K mainGlobals "_law_ends_right" = some (some (.ref f29))) (l29 : K.lookup f29 = some ⟨oc29, od29, .func (PySem.W.fnOf "_law_ends_right" "_law_ends_right" (defArgs s_law_ends_right) (defBody s_law_ends_right) (defScope s_law_ends_right) .none kV29 dc29 pm29 an29 cd29 ct29), sl29⟩) (c29 : PySem.W.codeIn K cd29 "_law_ends_right" = true) (k29 : PySem.W.keepIn K (.ref f29) = true)
    (a30 : PySem.W.nsIn K mainGlobals "law" = some (some (.ref f30))) (l30 : K.lookup f30 = some ⟨oc30, od30, .func (PySem.W.fnOf "law" "law" (defArgs s_law) (defBody s_law) (defScope s_law) .none kV30 dc30 pm30 an30 cd30 ct30), sl30⟩) (c30 : PySem.W.codeIn K cd30 "law" = true) (k30 : PySem.W.keepIn K (.ref f30) = true)
    (z0 : PySem.W.nsIn K mainGlobals "len" = some none)
    (z1 : PySem.W.nsIn K mainGlobals "range" = some none)
    (z2 : PySem.W.nsIn K mainGlobals "isinstance" = some none)
    (z3 : PySem.W.nsIn K mainGlobals "int" = some none)
    (z4 : PySem.W.nsIn K mainGlobals "bool" = some none)
    (z5 : PySem.W.nsIn K mainGlobals "tuple" = some none)
    (z6 : PySem.W.nsIn K mainGlobals "list" = some none)
    (z7 : PySem.W.nsIn K mainGlobals "sum" = some none)
    (z8 : PySem.W.nsIn K mainGlobals "abs" = some none)
    (z9 : PySem.W.nsIn K mainGlobals "min" = some none)
    (z10 : PySem.W.nsIn K mainGlobals "max" = some none)
    (z11 : PySem.W.nsIn K mainGlobals "zip" = some none)
    (z12 : PySem.W.nsIn K mainGlobals "enumerate" = some none)
    (z13 : PySem.W.nsIn K mainGlobals "all" = some none)
    (z14 : PySem.W.nsIn K mainGlobals "str" = some none)
    (cc_BEST : PySem.W.nsIn K mainGlobals "BEST" = some (some (.int 2 ct_BEST)))
    (cc_HEAD : PySem.W.nsIn K mainGlobals "HEAD" = some (some (.int 3 ct_HEAD)))
    (cc_KNOWN : PySem.W.nsIn K mainGlobals "KNOWN" = some (some (.int 0 ct_KNOWN)))
    (cc_LEFT : PySem.W.nsIn K mainGlobals "LEFT" = some (some (.int 1 ct_LEFT)))
    (cc_MANY : PySem.W.nsIn K mainGlobals "MANY" = some (some (.int 0 ct_MANY)))
    (cc_RIGHT : PySem.W.nsIn K mainGlobals "RIGHT" = some (some (.int 2 ct_RIGHT)))
    (cc_ROUND : PySem.W.nsIn K mainGlobals "ROUND" = some (some (.int 5 ct_ROUND)))
    (cc_TAIL : PySem.W.nsIn K mainGlobals "TAIL" = some (some (.int 4 ct_TAIL)))
    (cc_TOTAL : PySem.W.nsIn K mainGlobals "TOTAL" = some (some (.int 1 ct_TOTAL))) :
    ∃ fd : FuncData, (∀ (s : Shared) (v : Value), BindsTo s fd ⟨[v], []⟩ [("script", v)]) ∧ ∀ base : Heap, K.In base → base.Ns mainGlobals mg → FnOk l.prog w K mg base CX0 90 fa fd ["script"] (sp_law K) := by
  have e := hfa.symm.trans (PySem.W.mg_of X G a30)
  cases e
  have Z : Blt mg := ⟨PySem.W.mg_none_of X G z0, PySem.W.mg_none_of X G z1, PySem.W.mg_none_of X G z2, PySem.W.mg_none_of X G z3, PySem.W.mg_none_of X G z4, PySem.W.mg_none_of X G z5, PySem.W.mg_none_of X G z6, PySem.W.mg_none_of X G z7, PySem.W.mg_none_of X G z8, PySem.W.mg_none_of X G z9, PySem.W.mg_none_of X G z10, PySem.W.mg_none_of X G z11, PySem.W.mg_none_of X G z12, PySem.W.mg_none_of X G z13, PySem.W.mg_none_of X G z14⟩
  have F0 := fun_mk (st := s_is_whole) l0 c0 k0
  have b0 := F0.binds (ps := ["thing"]) fun _ _ _ _ _ _ us hl => by obtain ⟨_, rfl⟩ := of1 hl; rfl
  have F1 := fun_mk (st := s_is_stretch) l1 c1 k1
  have b1 := F1.binds (ps := ["stretch", "many"]) fun _ _ _ _ _ _ us hl => by obtain ⟨_, _, rfl⟩ := of2 hl; rfl
  have F2 := fun_mk (st := s_order_of) l2 c2 k2
  have b2 := F2.binds (ps := ["stretch"]) fun _ _ _ _ _ _ us hl => by obtain ⟨_, rfl⟩ := of1 hl; rfl
  have F3 := fun_mk (st := s_better_of) l3 c3 k3
  have b3 := F3.binds (ps := ["one", "other"]) fun _ _ _ _ _ _ us hl => by obtain ⟨_, _, rfl⟩ := of2 hl; rfl
  have F4 := fun_mk (st := s_moved) l4 c4 k4
  have b4 := F4.binds (ps := ["stretch", "places"]) fun _ _ _ _ _ _ us hl => by obtain ⟨_, _, rfl⟩ := of2 hl; rfl
  have F5 := fun_mk (st := s_side_by_side) l5 c5 k5
  have b5 := F5.binds (ps := ["one", "other"]) fun _ _ _ _ _ _ us hl => by obtain ⟨_, _, rfl⟩ := of2 hl; rfl
  have F6 := fun_mk (st := s_joined_round) l6 c6 k6
  have b6 := F6.binds (ps := ["one", "other"]) fun _ _ _ _ _ _ us hl => by obtain ⟨_, _, rfl⟩ := of2 hl; rfl
  have F7 := fun_mk (st := s_joined) l7 c7 k7
  have b7 := F7.binds (ps := ["one", "other"]) fun _ _ _ _ _ _ us hl => by obtain ⟨_, _, rfl⟩ := of2 hl; rfl
  have F8 := fun_mk (st := s_single) l8 c8 k8
  have b8 := F8.binds (ps := ["number"]) fun _ _ _ _ _ _ us hl => by obtain ⟨_, rfl⟩ := of1 hl; rfl
  have F9 := fun_mk (st := s_paired) l9 c9 k9
  have b9 := F9.binds (ps := ["left", "right"]) fun _ _ _ _ _ _ us hl => by obtain ⟨_, _, rfl⟩ := of2 hl; rfl
  have F10 := fun_mk (st := s_halved) l10 c10 k10
  have b10 := F10.binds (ps := ["row", "first", "beyond"]) fun _ _ _ _ _ _ us hl => by obtain ⟨_, _, _, rfl⟩ := of3 hl; rfl
  have F11 := fun_mk (st := s_kept) l11 c11 k11
  have b11 := F11.binds (ps := ["row"]) fun _ _ _ _ _ _ us hl => by obtain ⟨_, rfl⟩ := of1 hl; rfl
  have F12 := fun_mk (st := s_many_of) l12 c12 k12
  have b12 := F12.binds (ps := ["held"]) fun _ _ _ _ _ _ us hl => by obtain ⟨_, rfl⟩ := of1 hl; rfl
  have F13 := fun_mk (st := s_row_of) l13 c13 k13
  have b13 := F13.binds (ps := ["held"]) fun _ _ _ _ _ _ us hl => by obtain ⟨_, rfl⟩ := of1 hl; rfl
  have F14 := fun_mk (st := s_refuse_place) l14 c14 k14
  have b14 := F14.binds (ps := ["held", "place"]) fun _ _ _ _ _ _ us hl => by obtain ⟨_, _, rfl⟩ := of2 hl; rfl
  have F15 := fun_mk (st := s_with_put) l15 c15 k15
  have b15 := F15.binds (ps := ["held", "place", "number"]) fun _ _ _ _ _ _ us hl => by obtain ⟨_, _, _, rfl⟩ := of3 hl; rfl
  have F16 := fun_mk (st := s_changed) l16 c16 k16
  have b16 := F16.binds (ps := ["held", "changes"]) fun _ _ _ _ _ _ us hl => by obtain ⟨_, _, rfl⟩ := of2 hl; rfl
  have F17 := fun_mk (st := s_known_of) l17 c17 k17
  have b17 := F17.binds (ps := ["held", "first", "beyond"]) fun _ _ _ _ _ _ us hl => by obtain ⟨_, _, _, rfl⟩ := of3 hl; rfl
  have F18 := fun_mk (st := s_known_of_part) l18 c18 k18
  have b18 := F18.binds (ps := ["held", "stretch"]) fun _ _ _ _ _ _ us hl => by obtain ⟨_, _, rfl⟩ := of2 hl; rfl
  have F19 := fun_mk (st := s_best_in) l19 c19 k19
  have b19 := F19.binds (ps := ["held", "stretch"]) fun _ _ _ _ _ _ us hl => by obtain ⟨_, _, rfl⟩ := of2 hl; rfl
  have F20 := fun_mk (st := s_sum_in) l20 c20 k20
  have b20 := F20.binds (ps := ["held", "stretch"]) fun _ _ _ _ _ _ us hl => by obtain ⟨_, _, rfl⟩ := of2 hl; rfl
  have F21 := fun_mk (st := s_best_round) l21 c21 k21
  have b21 := F21.binds (ps := ["held"]) fun _ _ _ _ _ _ us hl => by obtain ⟨_, rfl⟩ := of1 hl; rfl
  have F22 := fun_mk (st := s_paper_of) l22 c22 k22
  have b22 := F22.binds (ps := ["row"]) fun _ _ _ _ _ _ us hl => by obtain ⟨_, rfl⟩ := of1 hl; rfl
  have F23 := fun_mk (st := s_bound_of) l23 c23 k23
  have b23 := F23.binds (ps := ["paper"]) fun _ _ _ _ _ _ us hl => by obtain ⟨_, rfl⟩ := of1 hl; rfl
  have F24 := fun_mk (st := s_must_be) l24 c24 k24
  have b24 := F24.binds (ps := ["held", "place"]) fun _ _ _ _ _ _ us hl => by obtain ⟨_, _, rfl⟩ := of2 hl; rfl
  have F25 := fun_mk (st := s_places_in_best) l25 c25 k25
  have b25 := F25.binds (ps := ["held"]) fun _ _ _ _ _ _ us hl => by obtain ⟨_, rfl⟩ := of1 hl; rfl
  have F26 := fun_mk (st := s_law_next) l26 c26 k26
  have b26 := F26.binds (ps := ["pot", "many"]) fun _ _ _ _ _ _ us hl => by obtain ⟨_, _, rfl⟩ := of2 hl; rfl
  have F27 := fun_mk (st := s_law_pots) l27 c27 k27
  have b27 := F27.binds (ps := ["script"]) fun _ _ _ _ _ _ us hl => by obtain ⟨_, rfl⟩ := of1 hl; rfl
  have F28 := fun_mk (st := s_law_right) l28 c28 k28
  have b28 := F28.binds (ps := ["pot", "many", "first", "wide"]) fun _ _ _ _ _ _ us hl => by obtain ⟨_, _, _, _, rfl⟩ := of4 hl; rfl
  have F29 := fun_mk (st := s_law_ends_right) l29 c29 k29
  have b29 := F29.binds (ps := ["pot", "many"]) fun _ _ _ _ _ _ us hl => by obtain ⟨_, _, rfl⟩ := of2 hl; rfl
  have F30 := fun_mk (st := s_law) l30 c30 k30
  have b30 := F30.binds (ps := ["script"]) fun _ _ _ _ _ _ us hl => by obtain ⟨_, rfl⟩ := of1 hl; rfl
  refine ⟨PySem.W.fnOf "law" "law" (defArgs s_law) (defBody s_law) (defScope s_law) .none kV30 dc30 pm30 an30 cd30 ct30, fun s v => .of_eq rfl, fun base KB _ => ?_⟩
  have CC : Cons mg := ⟨⟨_, PySem.W.mg_of X G cc_BEST⟩, ⟨_, PySem.W.mg_of X G cc_HEAD⟩, ⟨_, PySem.W.mg_of X G cc_KNOWN⟩, ⟨_, PySem.W.mg_of X G cc_LEFT⟩, ⟨_, PySem.W.mg_of X G cc_MANY⟩, ⟨_, PySem.W.mg_of X G cc_RIGHT⟩, ⟨_, PySem.W.mg_of X G cc_ROUND⟩, ⟨_, PySem.W.mg_of X G cc_TAIL⟩, ⟨_, PySem.W.mg_of X G cc_TOTAL⟩⟩
  have D_is_whole : Def l.prog w K mg base 6 "is_whole" ["thing"] (sp_whole) := ⟨_, _, ok_whole (k := 5) F0 Z, b0, k0, PySem.W.mg_of X G a0⟩
  have D_is_stretch : Def l.prog w K mg base 7 "is_stretch" ["stretch", "many"] (sp_isstretch) := ⟨_, _, ok_isstretch (k := 6) F1 Z (D_is_whole.mono (by decide)), b1, k1, PySem.W.mg_of X G a1⟩
  have D_order_of : Def l.prog w K mg base 8 "order_of" ["stretch"] (sp_order) := ⟨_, _, ok_order (k := 7) F2 Z, b2, k2, PySem.W.mg_of X G a2⟩
  have D_better_of : Def l.prog w K mg base 10 "better_of" ["one", "other"] (sp_better) := ⟨_, _, ok_better (k := 8) F3 Z (D_order_of.mono (by decide)), b3, k3, PySem.W.mg_of X G a3⟩
  have D_moved : Def l.prog w K mg base 11 "moved" ["stretch", "places"] (sp_moved) := ⟨_, _, ok_moved (k := 10) F4 Z, b4, k4, PySem.W.mg_of X G a4⟩
  have D_side_by_side : Def l.prog w K mg base 12 "side_by_side" ["one", "other"] (sp_side) := ⟨_, _, ok_side (k := 11) F5 Z, b5, k5, PySem.W.mg_of X G a5⟩
  have D_joined_round : Def l.prog w K mg base 13 "joined_round" ["one", "other"] (sp_jround) := ⟨_, _, ok_jround (k := 12) F6 Z CC (D_better_of.mono (by decide)) (D_moved.mono (by decide)) (D_side_by_side.mono (by decide)), b6, k6, PySem.W.mg_of X G a6⟩
  have D_joined : Def l.prog w K mg base 14 "joined" ["one", "other"] (sp_joined) := ⟨_, _, ok_joined (k := 13) F7 Z CC (D_better_of.mono (by decide)) (D_moved.mono (by decide)) (D_side_by_side.mono (by decide)) (D_joined_round.mono (by decide)), b7, k7, PySem.W.mg_of X G a7⟩
  have D_single : Def l.prog w K mg base 15 "single" ["number"] (sp_single) := ⟨_, _, ok_single (k := 14) F8 Z, b8, k8, PySem.W.mg_of X G a8⟩
  have D_paired : Def l.prog w K mg base 16 "paired" ["left", "right"] (sp_paired) := ⟨_, _, ok_paired (k := 15) F9 Z CC (D_joined.mono (by decide)), b9, k9, PySem.W.mg_of X G a9⟩
  have D_halved : Def l.prog w K mg base 30 "halved" ["row", "first", "beyond"] (sp_halved 13) := ⟨_, _, rec_halved (k := 17) F10 Z b10 k10 (PySem.W.mg_of X G a10) (D_single.mono (by decide)) (D_paired.mono (by decide)) 13, b10, k10, PySem.W.mg_of X G a10⟩
  have D_kept : Def l.prog w K mg base 31 "kept" ["row"] (sp_kept) := ⟨_, _, ok_kept (k := 30) F11 Z (D_halved.mono (by decide)), b11, k11, PySem.W.mg_of X G a11⟩
  have D_many_of : Def l.prog w K mg base 32 "many_of" ["held"] (sp_many) := ⟨_, _, ok_many (k := 31) F12 Z CC, b12, k12, PySem.W.mg_of X G a12⟩
  have D_row_of : Def l.prog w K mg base 45 "row_of" ["held"] (sp_rowof 13) := ⟨_, _, rec_rowof (k := 32) F13 Z CC b13 k13 (PySem.W.mg_of X G a13) 13, b13, k13, PySem.W.mg_of X G a13⟩
  have D_refuse_place : Def l.prog w K mg base 46 "refuse_place" ["held", "place"] (sp_rpl) := ⟨_, _, ok_rpl (k := 45) F14 Z (D_is_whole.mono (by decide)) (D_many_of.mono (by decide)), b14, k14, PySem.W.mg_of X G a14⟩
  have D_with_put : Def l.prog w K mg base 60 "with_put" ["held", "place", "number"] (sp_put 13) := ⟨_, _, rec_put (k := 47) F15 Z CC b15 k15 (PySem.W.mg_of X G a15) (D_single.mono (by decide)) (D_paired.mono (by decide)) (D_many_of.mono (by decide)) 13, b15, k15, PySem.W.mg_of X G a15⟩
  have D_changed : Def l.prog w K mg base 61 "changed" ["held", "changes"] (sp_changed) := ⟨_, _, ok_changed (k := 60) F16 Z (D_refuse_place.mono (by decide)) (D_with_put.mono (by decide)), b16, k16, PySem.W.mg_of X G a16⟩
  have D_known_of : Def l.prog w K mg base 75 "known_of" ["held", "first", "beyond"] (sp_known 13) := ⟨_, _, rec_known (k := 62) F17 Z CC b17 k17 (PySem.W.mg_of X G a17) (D_joined.mono (by decide)) (D_many_of.mono (by decide)) 13, b17, k17, PySem.W.mg_of X G a17⟩
  have D_known_of_part : Def l.prog w K mg base 76 "known_of_part" ["held", "stretch"] (sp_kpart) := ⟨_, _, ok_kpart (k := 75) F18 Z (D_is_stretch.mono (by decide)) (D_many_of.mono (by decide)) (D_known_of.mono (by decide)), b18, k18, PySem.W.mg_of X G a18⟩
  have D_best_in : Def l.prog w K mg base 77 "best_in" ["held", "stretch"] (sp_bestin) := ⟨_, _, ok_bestin (k := 76) F19 Z CC (D_moved.mono (by decide)) (D_known_of_part.mono (by decide)), b19, k19, PySem.W.mg_of X G a19⟩
  have D_sum_in : Def l.prog w K mg base 78 "sum_in" ["held", "stretch"] (sp_sumin) := ⟨_, _, ok_sumin (k := 77) F20 Z CC (D_known_of_part.mono (by decide)), b20, k20, PySem.W.mg_of X G a20⟩
  have D_best_round : Def l.prog w K mg base 79 "best_round" ["held"] (sp_bround) := ⟨_, _, ok_bround (k := 78) F21 Z CC (D_better_of.mono (by decide)) (D_many_of.mono (by decide)), b21, k21, PySem.W.mg_of X G a21⟩
  have D_paper_of : Def l.prog w K mg base 80 "paper_of" ["row"] (sp_paper) := ⟨_, _, ok_paper (k := 79) F22 Z, b22, k22, PySem.W.mg_of X G a22⟩
  have D_bound_of : Def l.prog w K mg base 81 "bound_of" ["paper"] (sp_bound) := ⟨_, _, ok_bound (k := 80) F23 Z, b23, k23, PySem.W.mg_of X G a23⟩
  have D_must_be : Def l.prog w K mg base 82 "must_be" ["held", "place"] (sp_must) := ⟨_, _, ok_must (k := 81) F24 Z CC (D_refuse_place.mono (by decide)) (D_many_of.mono (by decide)) (D_known_of.mono (by decide)), b24, k24, PySem.W.mg_of X G a24⟩
  have D_places_in_best : Def l.prog w K mg base 83 "places_in_best" ["held"] (sp_places) := ⟨_, _, ok_places (k := 82) F25 Z (D_row_of.mono (by decide)) (D_paper_of.mono (by decide)) (D_bound_of.mono (by decide)), b25, k25, PySem.W.mg_of X G a25⟩
  have D_law_next : Def l.prog w K mg base 84 "_law_next" ["pot", "many"] (sp_next) := ⟨_, _, ok_next (k := 83) F26 Z, b26, k26, PySem.W.mg_of X G a26⟩
  have D_law_pots : Def l.prog w K mg base 85 "_law_pots" ["script"] (sp_pots1) := ⟨_, _, ok_pots1 (k := 84) F27 Z, b27, k27, PySem.W.mg_of X G a27⟩
  have D_law_right : Def l.prog w K mg base 86 "_law_right" ["pot", "many", "first", "wide"] (sp_right37) := ⟨_, _, ok_right37 (k := 85) F28 Z (D_law_next.mono (by decide)) (D_kept.mono (by decide)) (D_best_in.mono (by decide)) (D_sum_in.mono (by decide)) (D_places_in_best.mono (by decide)) (D_best_round.mono (by decide)) (D_must_be.mono (by decide)) (D_changed.mono (by decide)), b28, k28, PySem.W.mg_of X G a28⟩
  have D_law_ends_right : Def l.prog w K mg base 87 "_law_ends_right" ["pot", "many"] (sp_ends37) := ⟨_, _, ok_ends37 (k := 86) F29 Z (D_law_next.mono (by decide)) (D_kept.mono (by decide)) (D_best_round.mono (by decide)) (D_changed.mono (by decide)) (D_row_of.mono (by decide)), b29, k29, PySem.W.mg_of X G a29⟩
  exact FnOk.mono (k := 90) (ok_law (k := 87) F30 Z (D_law_pots.mono (by decide)) (D_law_next.mono (by decide)) (D_law_right.mono (by decide)) (D_law_ends_right.mono (by decide))) (by decide)
theorem walk {l : PySem.W.OpenLaw} {q : Program} {loose : List Str} {XP : (Str → Option Value) → Heap → Prop} {YP : World → Heap → Prop} {d : DefRec} {K : Params → PySem.W.Frag} (hn : l.most = some 63) (hdf : d.params.defaults = [])
    (hY : ∀ (w : World) (h : Heap), YP w h → (K w.params).In h)
    (F : ∀ (w : World) (mg : Str → Option Value) (fa : Addr) (h : Heap), (K w.params).In h → h.Ns mainGlobals mg → mg d.name = some (.ref fa) →
      ∃ fd : FuncData, (∀ (s : Shared) (u : Value), BindsTo s fd ⟨[u], []⟩ [("script", u)]) ∧ ∀ base : Heap, (K w.params).In base → base.Ns mainGlobals mg → FnOk l.prog w (K w.params) mg base CX0 90 fa fd ["script"] (sp_law (K w.params))) :
    PySem.W.WalkO q loose XP YP l.row.toRowW d [] (fun f vs => PySem.call f vs) :=
  L2.walk_of (n := 63) (k := 90) (x := "script") (CX := fun _ => CX0) (sp := fun w => sp_law (K w.params)) hn (by decide) hdf ⟨rfl, by decide, by decide⟩ hY F (fun _ _ a ns hl _ hS => ⟨a, ns, rfl, hS, hl, fun _ => rfl⟩) fun _ _ _ _ _ z => z
end My
open PySem PySem.W PyProof.Rows
set_option maxRecDepth 100000 in
set_option maxHeartbeats 0 in
theorem PySem.Challenge.cw_topstretch_k37_whole_great_rows_holds : PySem.Challenge.rw_topstretch_k37_whole_great_rows.Holds := by
  w_on; o_law; k_head; (case hw => w_witness2)
  k_fill
  refine My.walk (l := PySem.Challenge.rw_topstretch_k37_whole_great_rows) rfl rfl (fun w h Y => PySem.W.kIn_of Y) ?F
  case F =>
    intro w mg fa h KX G hmg
    refine' My.all_mk KX G hmg ?a0 ?l0 ?c0 ?k0 ?a1 ?l1 ?c1 ?k1 ?a2 ?l2 ?c2 ?k2 ?a3 ?l3 ?c3 ?k3 ?a4 ?l4 ?c4 ?k4 ?a5 ?l5 ?c5 ?k5 ?a6 ?l6 ?c6 ?k6 ?a7 ?l7 ?c7 ?k7 ?a8 ?l8 ?c8 ?k8 ?a9 ?l9 ?c9 ?k9 ?a10 ?l10 ?c10 ?k10 ?a11 ?l11 ?c11 ?k11 ?a12 ?l12 ?c12 ?k12 ?a13 ?l13 ?c13 ?k13 ?a14 ?l14 ?c14 ?k14 ?a15 ?l15 ?c15 ?k15 ?a16 ?l16 ?c16 ?k16 ?a17 ?l17 ?c17 ?k17 ?a18 ?l18 ?c18 ?k18 ?a19 ?l19 ?c19 ?k19 ?a20 ?l20 ?c20 ?k20 ?a21 ?l21 ?c21 ?k21 ?a22 ?l22 ?c22 ?k22 ?a23 ?l23 ?c23 ?k23 ?a24 ?l24 ?c24 ?k24 ?a25 ?l25 ?c25 ?k25 ?a26 ?l26 ?c26 ?k26 ?a27 ?l27 ?c27 ?k27 ?a28 ?l28 ?c28 ?k28 ?a29 ?l29 ?c29 ?k29 ?a30 ?l30 ?c30 ?k30 ?z0 ?z1 ?z2 ?z3 ?z4 ?z5 ?z6 ?z7 ?z8 ?z9 ?z10 ?z11 ?z12 ?z13 ?z14 ?cc_BEST ?cc_HEAD ?cc_KNOWN ?cc_LEFT ?cc_MANY ?cc_RIGHT ?cc_ROUND ?cc_TAIL ?cc_TOTAL
    (case a0 => k_is); (case l0 => k_is); (case c0 => k_is); (case k0 => k_is)
    (case a1 => k_is); (case l1 => k_is); (case c1 => k_is); (case k1 => k_is)
    (case a2 => k_is); (case l2 => k_is); (case c2 => k_is); (case k2 => k_is)
    (case a3 => k_is); (case l3 => k_is); (case c3 => k_is); (case k3 => k_is)
    (case a4 => k_is); (case l4 => k_is); (case c4 => k_is); (case k4 => k_is)
    (case a5 => k_is); (case l5 => k_is); (case c5 => k_is); (case k5 => k_is)
    (case a6 => k_is); (case l6 => k_is); (case c6 => k_is); (case k6 => k_is)
    (case a7 => k_is); (case l7 => k_is); (case c7 => k_is); (case k7 => k_is)
    (case a8 => k_is); (case l8 => k_is); (case c8 => k_is); (case k8 => k_is)
    (case a9 => k_is); (case l9 => k_is); (case c9 => k_is); (case k9 => k_is)
    (case a10 => k_is); (case l10 => k_is); (case c10 => k_is); (case k10 => k_is)
    (case a11 => k_is); (case l11 => k_is); (case c11 => k_is); (case k11 => k_is)
    (case a12 => k_is); (case l12 => k_is); (case c12 => k_is); (case k12 => k_is)
    (case a13 => k_is); (case l13 => k_is); (case c13 => k_is); (case k13 => k_is)
    (case a14 => k_is); (case l14 => k_is); (case c14 => k_is); (case k14 => k_is)
    (case a15 => k_is); (case l15 => k_is); (case c15 => k_is); (case k15 => k_is)
    (case a16 => k_is); (case l16 => k_is); (case c16 => k_is); (case k16 => k_is)
    (case a17 => k_is); (case l17 => k_is); (case c17 => k_is); (case k17 => k_is)
    (case a18 => k_is); (case l18 => k_is); (case c18 => k_is); (case k18 => k_is)
    (case a19 => k_is); (case l19 => k_is); (case c19 => k_is); (case k19 => k_is)
    (case a20 => k_is); (case l20 => k_is); (case c20 => k_is); (case k20 => k_is)
    (case a21 => k_is); (case l21 => k_is); (case c21 => k_is); (case k21 => k_is)
    (case a22 => k_is); (case l22 => k_is); (case c22 => k_is); (case k22 => k_is)
    (case a23 => k_is); (case l23 => k_is); (case c23 => k_is); (case k23 => k_is)
    (case a24 => k_is); (case l24 => k_is); (case c24 => k_is); (case k24 => k_is)
    (case a25 => k_is); (case l25 => k_is); (case c25 => k_is); (case k25 => k_is)
    (case a26 => k_is); (case l26 => k_is); (case c26 => k_is); (case k26 => k_is)
    (case a27 => k_is); (case l27 => k_is); (case c27 => k_is); (case k27 => k_is)
    (case a28 => k_is); (case l28 => k_is); (case c28 => k_is); (case k28 => k_is)
    (case a29 => k_is); (case l29 => k_is); (case c29 => k_is); (case k29 => k_is)
    (case a30 => k_is); (case l30 => k_is); (case c30 => k_is); (case k30 => k_is)
    (case z0 => k_is)
    (case z1 => k_is)
    (case z2 => k_is)
    (case z3 => k_is)
    (case z4 => k_is)
    (case z5 => k_is)
    (case z6 => k_is)
    (case z7 => k_is)
    (case z8 => k_is)
    (case z9 => k_is)
    (case z10 => k_is)
    (case z11 => k_is)
    (case z12 => k_is)
    (case z13 => k_is)
    (case z14 => k_is)
    (case cc_BEST => k_is)
    (case cc_HEAD => k_is)
    (case cc_KNOWN => k_is)
    (case cc_LEFT => k_is)
    (case cc_MANY => k_is)
    (case cc_RIGHT => k_is)
    (case cc_ROUND => k_is)
    (case cc_TAIL => k_is)
    (case cc_TOTAL => k_is)
