import PyProof.Rows.All
import Wide.All
import OpenK.AllK
import Wide.FinOn
import Lean
import PyProof.EqAt
import PyProof.EqKinds
import PyProof.TupleCall
import PySem.Challenge.RW_topstretch_k17_no_room_and_refused
set_option Elab.async false
set_option linter.all false
set_option maxRecDepth 100000
/-! THE HAND LAYER, for ints, bools, texts, own classes, LISTS and tuples (index, slices, in, append, pop ..), calls, loops. Paste it whole ahead of your own text; what your proof does not reach may be deleted. -/
namespace L2
open PySem PySem.Spec PyProof.Rows

/-- a key: an int or a str -/
abbrev Key := Sum Int Str
def keyIs : Key → Value → Bool
  | .inl k, v => Value.isInt k v
  | .inr x, v => Value.isStrOf x v
def keyH (w : World) : Key → Int
  | .inl k => hashInt k
  | .inr x => hashStr w x
theorem keyIs_shape : ∀ {k : Key} {v : Value}, keyIs k v = true → (∃ i t, k = Sum.inl i ∧ v = Value.int i t) ∨ (∃ x t, k = Sum.inr x ∧ v = Value.str x t)
  | .inl i, v, h => by
    obtain ⟨t, e⟩ := Value.isInt_shape (k := i) (v := v) h
    exact .inl ⟨i, t, rfl, e⟩
  | .inr x, v, h => by
    obtain ⟨t, e⟩ := Value.isStrOf_shape (x := x) (v := v) h
    exact .inr ⟨x, t, rfl, e⟩
theorem keyIs_int (i : Int) (t : Tok) : keyIs (.inl i) (.int i t) = true := by simp [keyIs, Value.isInt]
theorem keyIs_str (x : Str) (t : Tok) : keyIs (.inr x) (.str x t) = true := by simp [keyIs, Value.isStrOf]
theorem key_ll (a b : Int) : decide ((Sum.inl a : Key) = Sum.inl b) = (a == b) := by
  by_cases e : a = b
  · subst e; simp
  · have h : ¬ (Sum.inl a : Key) = Sum.inl b := fun q => e (Sum.inl.inj q)
    rw [decide_eq_false h]
    exact (beq_eq_false_iff_ne.mpr e).symm
theorem key_rr (a b : Str) : decide ((Sum.inr a : Key) = Sum.inr b) = decide (a = b) := by
  by_cases e : a = b
  · subst e; simp
  · have h : ¬ (Sum.inr a : Key) = Sum.inr b := fun q => e (Sum.inr.inj q)
    rw [decide_eq_false h, decide_eq_false e]
theorem key_lr (a : Int) (b : Str) : decide ((Sum.inl a : Key) = Sum.inr b) = false := decide_eq_false (fun q => nomatch q)
theorem key_rl (a : Str) (b : Int) : decide ((Sum.inr a : Key) = Sum.inl b) = false := decide_eq_false (fun q => nomatch q)

def mixKind (prog : Program) (w : World) : PySem.KeyKind prog w Key where
  is := keyIs
  hash := keyH w
  inj := fun v a b ha hb => by
    rcases keyIs_shape ha with ⟨i, t, rfl, rfl⟩ | ⟨x, t, rfl, rfl⟩
    · rcases keyIs_shape hb with ⟨j, u, rfl, e⟩ | ⟨y, u, rfl, e⟩
      · injection e with e1 _; rw [e1]
      · exact nomatch e
    · rcases keyIs_shape hb with ⟨j, u, rfl, e⟩ | ⟨y, u, rfl, e⟩
      · exact nomatch e
      · injection e with e1 _; rw [e1]
  byValue := fun k v h => by
    rcases keyIs_shape h with ⟨i, t, rfl, rfl⟩ | ⟨x, t, rfl, rfl⟩ <;> rfl
  pyHash := fun hv h => by
    rcases keyIs_shape hv with ⟨i, t, rfl, rfl⟩ | ⟨x, t, rfl, rfl⟩
    · exact wpAny_pyHash_int h
    · exact wpAny_pyHash_str h
  eqBool := fun hu hv h => by
    rcases keyIs_shape hu with ⟨i, t, rfl, rfl⟩ | ⟨x, t, rfl, rfl⟩
    · rcases keyIs_shape hv with ⟨j, u, rfl, rfl⟩ | ⟨y, u, rfl, rfl⟩
      · rw [key_ll] at h; exact wpAny_eqBool_int h
      · rw [key_lr] at h; exact SeqAt.EqAt.int_str i t y u _ _ _ _ h
    · rcases keyIs_shape hv with ⟨j, u, rfl, rfl⟩ | ⟨y, u, rfl, rfl⟩
      · rw [key_rl] at h; exact SeqAt.EqAt.str_int x t j u _ _ _ _ h
      · rw [key_rr] at h; exact wpAny_eqBool_str h
  «strs» := fun k x t v h => by
    rcases keyIs_shape h with ⟨i, u, rfl, e⟩ | ⟨y, u, rfl, e⟩
    · exact nomatch e
    · injection e with e1 _
      subst e1
      cases v <;> rfl

theorem mixKind_int (prog : Program) (w : World) (i : Int) (t : Tok) : (mixKind prog w).is (.inl i) (.int i t) = true := keyIs_int i t
theorem mixKind_str (prog : Program) (w : World) (x : Str) (t : Tok) : (mixKind prog w).is (.inr x) (.str x t) = true := keyIs_str x t
end L2

namespace L2
open PySem PySem.Spec PyProof.Rows

/-- a value, without the heap -/
inductive V where
  | non | bl (b : Bool) | int (i : Int) | str (x : Str) | byt (b : Array UInt8) | flt (b : UInt64) | ref (a : Addr) | ty (n : String)
  deriving DecidableEq

def RelV : V → Value → Prop
  | .non, u => u = Value.none
  | .bl b, u => u = Value.bool b
  | .int i, u => ∃ t, u = Value.int i t
  | .str x, u => ∃ t, u = Value.str x t
  | .byt b, u => ∃ t, u = Value.bytes b t
  | .flt b, u => ∃ t, u = Value.float b t
  | .ref a, u => u = Value.ref a
  | .ty n, u => u = Value.type n

abbrev Vals : List V → List Value → Prop := Paired RelV
theorem Vals.length {xs : List V} {us : List Value} (r : Vals xs us) : xs.length = us.length := Paired.length r
theorem Vals.get : ∀ {xs : List V} {us : List Value} {i : Nat} {x : V}, Vals xs us → xs[i]? = some x → ∃ u, us[i]? = some u ∧ RelV x u
  | _, _, _, _, .nil, e => by simp at e
  | _, _, 0, _, .cons r _, e => by simp at e; subst e; exact ⟨_, rfl, r⟩
  | _, _, i + 1, x, .cons _ t, e => by
    obtain ⟨u, h1, h2⟩ := Vals.get (i := i) (x := x) t (by simpa using e)
    exact ⟨u, by simpa using h1, h2⟩
theorem Vals.set {x : V} {u : Value} (r : RelV x u) : ∀ {xs : List V} {us : List Value} (i : Nat), Vals xs us → Vals (xs.set i x) (us.set i u)
  | _, _, _, .nil => .nil
  | _, _, 0, .cons _ t => .cons r t
  | _, _, i + 1, .cons q t => .cons q (Vals.set r i t)
theorem Vals.append : ∀ {xs ys : List V} {us ws : List Value}, Vals xs us → Vals ys ws → Vals (xs ++ ys) (us ++ ws)
  | _, _, _, _, .nil, s => s
  | _, _, _, _, .cons r t, s => .cons r (Vals.append t s)
theorem Vals.take : ∀ {xs : List V} {us : List Value} (n : Nat), Vals xs us → Vals (xs.take n) (us.take n)
  | _, _, 0, _ => .nil
  | _, _, _ + 1, .nil => .nil
  | _, _, n + 1, .cons r t => .cons r (Vals.take n t)
theorem Vals.drop : ∀ {xs : List V} {us : List Value} (n : Nat), Vals xs us → Vals (xs.drop n) (us.drop n)
  | _, _, 0, r => r
  | _, _, _ + 1, .nil => .nil
  | _, _, n + 1, .cons _ t => Vals.drop n t
def RelO : Option V → Option Value → Prop
  | some v, some u => RelV v u
  | none, none => True
  | _, _ => False
def KV {κ : Type} : List (κ × V) → List (κ × Value) → Prop := Paired fun (p : κ × V) (q : κ × Value) => p.1 = q.1 ∧ RelV p.2 q.2

/-- a key of a dict (00_mix): an int or a text -/
def kV : Key → V
  | .inl i => .int i
  | .inr x => .str x

/-- what stands at a tracked address -/
inductive HO where
  /-- a list -/
  | lst (xs : List V)
  /-- a tuple (never changes) -/
  | tup (xs : List V)
  /-- a dict whose keys are ints and texts; one whose keys are tuples of ints and texts (the empty one is both) -/
  | dK (kvs : List (Key × V)) | dT (kvs : List (List Key × V))
  /-- a set of ints: its members, its size -/
  | set (S : Int → Bool) (n : Nat)
  /-- an instance of the class at C, its dict at dx, its attributes -/
  | ins (C dx : Addr) (fs : List (Str × V))
  /-- the dict of the instance at x -/
  | own (x : Addr)
  /-- the dict of an exception -/
  | xd (fs : List (Str × V))
  /-- a bound method, f of x -/
  | met (f x : Addr)
  /-- a range object lo, lo + 1, .. below hi -/
  | rng (lo hi : Int)
  /-- a thing that is known to the object (the script; a dict while a loop walks it): read, never written while it is so -/
  | frz (o : Obj) (u : HO)
  /-- a code object's table -/
  | tbl (ps : Array Value)
  /-- any other thing, by what is true of its one object (a def of one's own: SetO a S n := HO.ext fun h => ..) -/
  | ext (φ : Heap → Prop)

abbrev Hp := Addr → Option HO
def upd (H : Hp) (a : Addr) (o : HO) : Hp := fun b => if b = a then some o else H b
theorem upd_same {H : Hp} {a : Addr} {o : HO} : upd H a o a = some o := by unfold upd; rw [if_pos rfl]
theorem upd_ne {H : Hp} {a b : Addr} {o : HO} (h : b ≠ a) : upd H a o b = H b := by unfold upd; rw [if_neg h]
theorem ne_of_none {H : Hp} {a b : Addr} {o : HO} (h : H a = some o) (h' : H b = none) : a ≠ b := by
  intro e; subst e; rw [h] at h'; cases h'

section
variable (P : Program) (w : World)
def ObjOk (H : Hp) (h : Heap) (a : Addr) : HO → Prop
  | .lst xs => xs.length ≤ sizeLine ∧ ∃ (its : List Value) (n : Nat), Vals xs its ∧ h.get? a = some { cls := .type "list", data := .seq its.toArray n }
  | .tup xs => xs.length ≤ sizeLine ∧ ∃ its : List Value, Vals xs its ∧ IsTup h a its.toArray
  | .dK kvs => kvs.length ≤ sizeLine ∧ (a == sysModules) = false ∧ ∃ vs, KV kvs vs ∧ h.DictOf (mixKind P w) a vs
  | .dT kvs => kvs.length ≤ sizeLine ∧ (a == sysModules) = false ∧ ∃ xs : List (List Key × Addr × Value),
      Paired (fun (p : List Key × V) (q : List Key × Addr × Value) => p.1 = q.1 ∧ H q.2.1 = some (.tup (p.1.map kV)) ∧ RelV p.2 q.2.2) kvs xs ∧
      ∃ o es ep, h.get? a = some o ∧ o.ExactDict ∧ o.data = .dict es ep ∧ es.toList = xs.map (entryOfKey (tupleKind (mixKind P w))) ∧ (xs.map (·.1)).Nodup
  | .set S n => h.SetOf (intKind P w) a S n
  | .ins C dx fs => H dx = some (.own a) ∧ fs.length ≤ 1000 ∧ dx ≠ a ∧ h.get? a = some (PySem.W.instObj C dx) ∧
      ∃ mA, h.Ns1 dx mA ∧ (∀ f, RelO (fs.lookup f) (mA f)) ∧ PySem.Within mA (fs.map (·.1))
  | .own _ => ∃ o, h.get? a = some o
  | .xd fs => ∃ mA, h.Ns1 a mA ∧ ∀ f, RelO (fs.lookup f) (mA f)
  | .rng lo hi => ∃ t u v, h.get? a = some { cls := .type "range", data := .fields #[.int lo t, .int hi u, .int 1 v] }
  | .frz o u => h.get? a = some o ∧ ObjOk H h a u
  | .tbl ps => h.get? a = some { cls := .none, data := .fields ps }
  | .met f x => h.get? a = some (PySem.W.methodObj (.ref f) (.ref x))
  | .ext φ => φ h ∧ (∃ o, h.get? a = some o) ∧ ∀ h1 h2 : Heap, φ h1 → (∀ o, h1.get? a = some o → h2.get? a = some o) → φ h2
/-- the abstract heap is held -/
def HOk (H : Hp) (h : Heap) : Prop := ∀ a o, H a = some o → ObjOk P w H h a o
end

section
variable {P : Program} {w : World} {H H' : Hp} {h h' : Heap} {a : Addr} {o : HO}
theorem ObjOk.lt (x : ObjOk P w H h a o) : a < h.objs.size := by
  cases o with
  | lst xs => obtain ⟨_, _, _, _, e⟩ := x; exact Heap.lt_size e
  | tup xs => obtain ⟨_, _, _, p⟩ := x; exact p.lt
  | dK kvs => obtain ⟨_, _, _, _, o, _, _, e, _⟩ := x; exact Heap.lt_size e
  | dT kvs => obtain ⟨_, _, _, _, o, _, _, e, _⟩ := x; exact Heap.lt_size e
  | set S n => obtain ⟨o, _, _, _, e, _⟩ := x; exact Heap.lt_size e
  | ins C dx fs => obtain ⟨_, _, _, e, _⟩ := x; exact Heap.lt_size e
  | own y => obtain ⟨_, e⟩ := x; exact Heap.lt_size e
  | xd fs => obtain ⟨_, ⟨_, _, _, e, _⟩, _⟩ := x; exact Heap.lt_size e
  | rng lo hi => obtain ⟨_, _, _, e⟩ := x; exact Heap.lt_size e
  | frz ob u => obtain ⟨e, _⟩ := x; exact Heap.lt_size e
  | tbl ps => exact Heap.lt_size (show h.get? a = some _ from x)
  | met f y => exact Heap.lt_size (show h.get? a = some _ from x)
  | ext φ => obtain ⟨_, ⟨_, e⟩, _⟩ := x; exact Heap.lt_size e
theorem Paired.mapP {α β : Type} {F G : α → β → Prop} : ∀ {l₁ : List α} {l₂ : List β}, Paired F l₁ l₂ → (∀ a b, F a b → G a b) → Paired G l₁ l₂
  | _, _, .nil, _ => .nil
  | _, _, .cons r t, f => .cons (f _ _ r) (Paired.mapP t f)
/-- what an object's description leans on: its own object, its own dict, the tuples -/
theorem ObjOk.stay (x : ObjOk P w H h a o) (k : ∀ b u, (b = a ∨ H b = some (.own a)) → h.get? b = some u → h'.get? b = some u)
    (ho : ∀ b, H b = some (.own a) → H' b = some (.own a)) (ht : ∀ b xs, H b = some (.tup xs) → H' b = some (.tup xs)) : ObjOk P w H' h' a o := by
  induction o with
  | lst xs => obtain ⟨z, its, n, r, e⟩ := x; exact ⟨z, its, n, r, k _ _ (.inl rfl) e⟩
  | tup xs => obtain ⟨z, its, r, ob, e, c⟩ := x; exact ⟨z, its, r, ob, k _ _ (.inl rfl) e, c⟩
  | dK kvs => obtain ⟨z, y, vs, r, ob, es, ep, e, c⟩ := x; exact ⟨z, y, vs, r, ob, es, ep, k _ _ (.inl rfl) e, c⟩
  | dT kvs =>
    obtain ⟨z, y, xs, r, ob, es, ep, e, c⟩ := x
    exact ⟨z, y, xs, Paired.mapP r fun p q z => ⟨z.1, ht _ _ z.2.1, z.2.2⟩, ob, es, ep, k _ _ (.inl rfl) e, c⟩
  | set S n => obtain ⟨ob, es, ep, t, e, c⟩ := x; exact ⟨ob, es, ep, t, k _ _ (.inl rfl) e, c⟩
  | ins C dx fs =>
    obtain ⟨d, z, ne, e, mA, ⟨od, es, ep, e2, c⟩, r⟩ := x
    exact ⟨ho _ d, z, ne, k _ _ (.inl rfl) e, mA, ⟨od, es, ep, k _ _ (.inr d) e2, c⟩, r⟩
  | own y => obtain ⟨ob, e⟩ := x; exact ⟨ob, k _ _ (.inl rfl) e⟩
  | xd fs => obtain ⟨mA, ⟨od, es, ep, e, c⟩, r⟩ := x; exact ⟨mA, ⟨od, es, ep, k _ _ (.inl rfl) e, c⟩, r⟩
  | rng lo hi => obtain ⟨t, u, v, e⟩ := x; exact ⟨t, u, v, k _ _ (.inl rfl) e⟩
  | frz ob u ih => obtain ⟨e, q⟩ := x; exact ⟨k _ _ (.inl rfl) e, ih q⟩
  | tbl ps =>
    have e : h.get? a = some { cls := .none, data := .fields ps } := x
    show h'.get? a = some { cls := .none, data := .fields ps }
    exact k a _ (.inl rfl) e
  | met f y =>
    have e : h.get? a = some (PySem.W.methodObj (.ref f) (.ref y)) := x
    show h'.get? a = some (PySem.W.methodObj (.ref f) (.ref y))
    exact k a _ (.inl rfl) e
  | ext φ => obtain ⟨p, ⟨o, e⟩, st⟩ := x; exact ⟨st _ _ p fun o q => k _ _ (.inl rfl) q, ⟨o, k _ _ (.inl rfl) e⟩, st⟩
theorem HOk.lt (x : HOk P w H h) (e : H a = some o) : a < h.objs.size := (x a o e).lt
theorem HOk.fresh (x : HOk P w H h) (e : h.objs.size ≤ a) : H a = none := by
  cases q : H a with
  | none => rfl
  | some u => exact absurd (Nat.lt_of_lt_of_le (x.lt q) e) (Nat.lt_irrefl _)
/-- every object of the heap is kept -/
theorem HOk.kept (x : HOk P w H h) (k : ∀ b u, h.get? b = some u → h'.get? b = some u) : HOk P w H h' := fun a o e =>
  (x a o e).stay (fun b u _ q => k b u q) (fun _ q => q) fun _ _ q => q
/-- a new object is laid and tracked -/
theorem HOk.laid (x : HOk P w H h) (k : ∀ b u, h.get? b = some u → h'.get? b = some u) (hp : h.objs.size ≤ a) (new : ObjOk P w (upd H a o) h' a o) : HOk P w (upd H a o) h' := fun b u e => by
  have hn := x.fresh hp
  by_cases hb : b = a
  · subst hb; rw [upd_same] at e; cases e; exact new
  · rw [upd_ne hb] at e
    exact (x b u e).stay (fun c v _ q => k c v q) (fun c q => by rw [upd_ne (ne_of_none q hn)]; exact q) fun c xs q => by rw [upd_ne (ne_of_none q hn)]; exact q
end

/-- what may be read as u: it is u, or a known u -/
def Rd (H : Hp) (a : Addr) (u : HO) : Prop := H a = some u ∨ ∃ o, H a = some (.frz o u)
theorem Rd.ok {P : Program} {w : World} {H : Hp} {h : Heap} {a : Addr} {u : HO} (r : Rd H a u) (x : HOk P w H h) : ObjOk P w H h a u := by
  rcases r with r | ⟨o, r⟩
  · exact x a u r
  · obtain ⟨_, q⟩ := x a _ r
    exact q
/-- what may be written -/
def Mut : Option HO → Prop
  | some (.lst _) => True
  | some (.dK _) => True
  | some (.dT _) => True
  | some (.set _ _) => True
  | some (.ins _ _ _) => True
  | some (.ext _) => True
  | _ => False
section
variable {P : Program} {w : World} {H : Hp} {h h' : Heap} {x e : Addr} {o' : HO}
/-- the object at e is changed: x itself, or the dict of the instance x -/
theorem HOk.write (ok : HOk P w H h) (mu : Mut (H x)) (he : e = x ∨ H e = some (.own x)) (k : ∀ b u, b ≠ e → h.get? b = some u → h'.get? b = some u) (heo : ∃ u, h'.get? e = some u)
    (new : ObjOk P w (upd H x o') h' x o') : HOk P w (upd H x o') h' := fun b u q => by
  have nown : ∀ c y, H c = some (.own y) → c ≠ x := fun c y r z => by subst z; rw [r] at mu; exact mu
  have ntup : ∀ c xs, H c = some (.tup xs) → c ≠ x := fun c xs r z => by subst z; rw [r] at mu; exact mu
  by_cases hb : b = x
  · subst hb; rw [upd_same] at q; cases q; exact new
  · rw [upd_ne hb] at q
    by_cases hbe : b = e
    · have q' : H b = some (.own x) := by
        rcases he with z | z
        · exact absurd (hbe.trans z) hb
        · rw [hbe]; exact z
      rw [q] at q'; cases q'
      obtain ⟨v, hv⟩ := heo
      exact ⟨v, by rw [hbe]; exact hv⟩
    · refine (ok b u q).stay (fun c v hc r => k c v ?_ r) (fun c r => by rw [upd_ne (nown c b r)]; exact r) fun c xs r => by rw [upd_ne (ntup c xs r)]; exact r
      rcases hc with rfl | hc
      · exact hbe
      · rintro rfl
        rcases he with z | z
        · exact nown c b hc z
        · rw [hc] at z; cases z; exact hb rfl
end

/-! ### kept unless tracked; of the frames at fs (the callers') the slots may change (an exception that passes writes there); of the records at ex (iterators) nothing is said -/
structure Un (fs ex : List Addr) (H H' : Hp) (h h' : Heap) : Prop where
  keep : ∀ b o, h.get? b = some o → H b = none → b ∉ fs → b ∉ ex → h'.get? b = some o
  slot : ∀ b o, h.get? b = some o → H b = none → b ∈ fs → b ∉ ex → ∃ sl, h'.get? b = some { o with slots := sl }
  free : ∀ b o, h.get? b = some o → H b = none → b ∉ ex → H' b = none
  there : ∀ b o, h.get? b = some o → b ∉ ex → ∃ o', h'.get? b = some o'
  tups : ∀ b xs, H b = some (.tup xs) → H' b = some (.tup xs)
  frzs : ∀ b o u, H b = some (.frz o u) → H' b = some (.frz o u)
  tbls : ∀ b ps, H b = some (.tbl ps) → ∃ more, H' b = some (.tbl (ps ++ more))
section
variable {fs fs' ex ex' : List Addr} {H H1 H2 : Hp} {h h1 h2 h' : Heap} {a x e : Addr} {o : HO}
theorem Un.any (u : Un fs ex H H1 h h1) {b : Addr} {ob : Obj} (q : h.get? b = some ob) (n : H b = none) (hx : b ∉ ex) : ∃ sl, h1.get? b = some { ob with slots := sl } := by
  by_cases hb : b ∈ fs
  · exact u.slot b ob q n hb hx
  · exact ⟨ob.slots, u.keep b ob q n hb hx⟩
theorem Un.trans (a : Un fs ex H H1 h h1) (b : Un fs ex H1 H2 h1 h2) : Un fs ex H H2 h h2 where
  keep := fun c ob q n hc hx => b.keep c ob (a.keep c ob q n hc hx) (a.free c ob q n hx) hc hx
  slot := fun c ob q n hc hx => by
    obtain ⟨sl, e1⟩ := a.slot c ob q n hc hx
    obtain ⟨sl', e2⟩ := b.slot c _ e1 (a.free c ob q n hx) hc hx
    exact ⟨sl', e2⟩
  free := fun c ob q n hx => by
    obtain ⟨o', e1⟩ := a.there c ob q hx
    exact b.free c o' e1 (a.free c ob q n hx) hx
  there := fun c ob q hx => by
    obtain ⟨o', e1⟩ := a.there c ob q hx
    exact b.there c o' e1 hx
  tups := fun c xs q => b.tups c xs (a.tups c xs q)
  frzs := fun c ob xs q => b.frzs c ob xs (a.frzs c ob xs q)
  tbls := fun c ps q => by
    obtain ⟨m1, e1⟩ := a.tbls c ps q
    obtain ⟨m2, e2⟩ := b.tbls c _ e1
    exact ⟨m1 ++ m2, by rw [e2, Array.append_assoc]⟩
theorem Un.kept (k : ∀ b u, h.get? b = some u → h'.get? b = some u) : Un fs ex H H h h' :=
  ⟨fun b ob q _ _ _ => k b ob q, fun b ob q _ _ _ => ⟨ob.slots, k b ob q⟩, fun _ _ _ n _ => n, fun b ob q _ => ⟨ob, k b ob q⟩, fun _ _ q => q, fun _ _ _ q => q, fun _ ps q => ⟨#[], by rw [q]; simp⟩⟩
theorem Un.refl : Un fs ex H H h h := Un.kept fun _ _ q => q
theorem Un.laid (k : ∀ b u, h.get? b = some u → h'.get? b = some u) (hp : h.objs.size ≤ a) (hn : H a = none) : Un fs ex H (upd H a o) h h' where
  keep := fun b u q _ _ _ => k b u q
  slot := fun b u q _ _ _ => ⟨u.slots, k b u q⟩
  free := fun b u q n _ => by rw [upd_ne (Nat.ne_of_lt (Nat.lt_of_lt_of_le (Heap.lt_size q) hp))]; exact n
  there := fun b u q _ => ⟨u, k b u q⟩
  tups := fun b xs q => by rw [upd_ne (ne_of_none q hn)]; exact q
  frzs := fun b u xs q => by rw [upd_ne (ne_of_none q hn)]; exact q
  tbls := fun b ps q => ⟨#[], by rw [upd_ne (ne_of_none q hn), q]; simp⟩
theorem Un.write (mu : Mut (H x)) (he : e = x ∨ H e = some (.own x)) (k : ∀ b u, b ≠ e → h.get? b = some u → h'.get? b = some u) (heo : ∃ u, h'.get? e = some u) : Un fs ex H (upd H x o) h h' := by
  have hx : ∀ b, H b = none → b ≠ x := fun b n z => by subst z; rw [n] at mu; exact mu
  have hb : ∀ b, H b = none → b ≠ e := fun b n z => by
    subst z
    rcases he with r | r
    · exact hx b n r
    · rw [n] at r; cases r
  have hm : ∀ b u, H b = some u → ¬ Mut (some u) → b ≠ x := fun b u q nm z => by subst z; rw [q] at mu; exact nm mu
  refine ⟨fun b u q n _ _ => k b u (hb b n) q, fun b u q n _ _ => ⟨u.slots, k b u (hb b n) q⟩, fun b u q n _ => by rw [upd_ne (hx b n)]; exact n, fun b u q _ => ?_,
    fun b xs q => by rw [upd_ne (hm b _ q fun z => z)]; exact q, fun b u xs q => by rw [upd_ne (hm b _ q fun z => z)]; exact q, fun b ps q => ⟨#[], by rw [upd_ne (hm b _ q fun z => z), q]; simp⟩⟩
  by_cases hbe : b = e
  · subst hbe; exact heo
  · exact ⟨u, k b u hbe q⟩
theorem Un.mono (u : Un fs ex H H1 h h1) (hs : ∀ b ∈ fs, b ∈ fs') (hx : ∀ b ∈ ex, b ∈ ex') : Un fs' ex' H H1 h h1 :=
  ⟨fun b ob q n hb he => u.keep b ob q n (fun z => hb (hs b z)) fun z => he (hx b z), fun _ _ q n _ he => u.any q n fun z => he (hx _ z), fun b ob q n he => u.free b ob q n fun z => he (hx b z), fun b ob q he => u.there b ob q fun z => he (hx b z), u.tups, u.frzs, u.tbls⟩
end

/-! ### the heap without what is tracked -/
def trk (h : Heap) (H : Hp) : List Addr := (List.range h.objs.size).filter fun a => (H a).isSome
def hidT (h : Heap) (H : Hp) : Heap := PySem.W.hideAll h (trk h H)
theorem hidT_size (h : Heap) (H : Hp) : (hidT h H).objs.size = h.objs.size := PySem.W.hideAll_size _ _
theorem hidT_get {h : Heap} {H : Hp} {b : Addr} {o : Obj} (e : h.get? b = some o) (n : H b = none) : (hidT h H).get? b = some o :=
  PySem.W.hideAll_get _ e fun hm => by
    have q : (H b).isSome = true := (List.mem_filter.mp hm).2
    rw [n] at q; simp at q
theorem of_hidT {h : Heap} {H : Hp} {b : Addr} {o : Obj} (e : (hidT h H).get? b = some o) : h.get? b = some o ∧ H b = none := by
  have e' : h.get? b = some o := PySem.W.of_hideAll (trk h H) e
  refine ⟨e', ?_⟩
  cases q : H b with
  | none => rfl
  | some x =>
    have hm : b ∈ trk h H := List.mem_filter.mpr ⟨List.mem_range.mpr (Heap.lt_size e'), by simp [q]⟩
    have z : (hidT h H).get? b = none := PySem.W.hideAll_none (trk h H) hm
    rw [z] at e; cases e

/-! ### OpenK's ledger, filled with every new object but one -/
def allNews (g h : Heap) (L : Addr) : List (Addr × Obj) := (List.range h.objs.size).filterMap fun a => if a = L ∨ (g.get? a).isSome = true then none else (h.get? a).map fun o => (a, o)
def rest (g h : Heap) (L d : Addr) : List (Addr × Obj) := (allNews g h L).filter fun p => decide (p.1 ≠ d)
end L2

namespace L2
open PySem PySem.Spec PyProof.Rows

/-- the module's facts, over the base: the heap at the law's entry without what is tracked there -/
structure Mod (K : PySem.W.Frag) (mg : Str → Option Value) (base : Heap) : Prop where
  kin : K.In base
  glob : base.Ns mainGlobals mg
  blt : ∃ mb, base.Ns builtinsNs mb ∧ ∀ x : Str, x ≠ "__name__" → mb x = bootBuiltins x
  nolimit : base.NoLimit

/-- the context: a def's body (or a comprehension's block) running. base: fixed through the whole law; s₀, H₀: the entry; outer: the frames whose slots others may change (a def's callers); stack: all frames that run;
   ex: iterators that were made ahead of the entry and are walked here (a comprehension's); fn: the names whose cells were made at the entry (a def: all; a comprehension's block: its own); calm: not within an except suite; pn: pins that every state bears; xe: what is wanted of an exception that leaves the code -/
structure Cx where
  prog : Program
  w : World
  K : PySem.W.Frag
  mg : Str → Option Value
  base : Heap
  A : Around
  N : List Str
  s₀ : Shared
  H₀ : Hp
  env : Env
  outer : List Env
  stack : List Env
  ex : List Addr
  fn : Str → Bool
  calm : Bool
  pn : List (Addr × Obj)
  xe : Value → Shared → Prop
/-- the callers' frames -/
def frs (l : List Env) : List Addr := l.filterMap (·.frame)
abbrev Cx.fs (X : Cx) : List Addr := frs X.outer

def Vis (sc : Scope) (x : Str) : Prop := sc.names.lookup x = some .local ∨ sc.names.lookup x = some .cell ∨ sc.names.lookup x = some .free
def Loc (sc : Scope) (x : Str) : Prop := sc.names.lookup x = some .local ∨ sc.names.lookup x = some .cell
def Look (env : Env) (h : Heap) (m : Str → Option Value) (x : Str) (u : Value) : Prop :=
  (env.kindOf x = some .local ∧ m x = some u) ∨ ((env.kindOf x = some .cell ∨ env.kindOf x = some .free) ∧ ∃ c, env.cells.lookup x = some c ∧ h.IsCell c (some u))

structure Cx.Ok (X : Cx) : Prop where
  mod : Mod X.K X.mg X.base
  kind : X.env.scope.kind = .function
  glob : X.env.globals = mainGlobals
  blt : X.env.builtins = builtinsNs
  above : X.s₀.heap.objs.size ≤ X.env.locals
  inj : ∀ x y c, X.env.cells.lookup x = some c → X.env.cells.lookup y = some c → x = y
  has : ∀ x, (X.env.kindOf x = some .cell ∨ X.env.kindOf x = some .free) → ∃ c, X.env.cells.lookup x = some c
  cab : ∀ x c, X.fn x = true → X.env.cells.lookup x = some c → X.s₀.heap.objs.size ≤ c
  hd : X.calm = true → X.A.handled = none
  frames : X.A.frames = some X.stack
  stk : X.stack = X.outer ∨ (X.stack = X.env :: X.outer ∧ X.env.frame = some X.env.locals)
  exf : ∀ b ∈ X.ex, b ≠ X.env.locals ∧ ∀ x c, X.env.cells.lookup x = some c → c ≠ b
  bs : ∀ b o, X.base.get? b = some o → X.s₀.heap.get? b = some o ∧ X.H₀ b = none
  bsz : X.base.objs.size ≤ X.s₀.heap.objs.size
  noex : ∀ b o, X.base.get? b = some o → b ∉ X.ex
  exfs : ∀ b ∈ X.ex, b ∉ X.fs
  funs : X.s₀.heap.FunFrames X.base X.outer
  frf : ∀ b ∈ X.fs, X.H₀ b = none

structure Inv (X : Cx) (pins : List (Addr × Obj)) (σ : List (Option V)) (H : Hp) (s : Shared) : Prop where
  ok : X.Ok
  os : s.os = X.s₀.os
  bare : AllBare s.gens
  base : Un X.fs X.ex X.H₀ H X.s₀.heap s.heap
  loc : ∃ m, s.heap.Ns X.env.locals m ∧ ∀ (i : Nat) (x : Str) (v : V), X.N[i]? = some x → σ[i]? = some (some v) → Vis X.env.scope x → ∃ u, RelV v u ∧ Look X.env s.heap m x u
  cell : ∀ x c, X.env.cells.lookup x = some c → ∃ v, s.heap.IsCell c v
  free : H X.env.locals = none
  freeC : ∀ x c, X.env.cells.lookup x = some c → H c = none
  pin : ∀ p ∈ X.pn ++ pins, s.heap.get? p.1 = some p.2 ∧ H p.1 = none ∧ p.1 ≠ X.env.locals ∧ p.1 ∉ X.fs ∧ ∀ v, p.2.data ≠ .cell v
  hok : HOk X.prog X.w H s.heap
  len : σ.length = X.N.length

section
variable {X : Cx} {pins : List (Addr × Obj)} {σ : List (Option V)} {H H' : Hp} {s : Shared} {h' : Heap}

theorem Cx.Ok.nofr (ok : X.Ok) {b : Addr} {o : Obj} (e : X.base.get? b = some o) : b ∉ X.fs := fun hb => by
  have := (ok.funs.mem hb).1
  rw [e] at this; cases this
theorem Inv.bs (I : Inv X pins σ H s) : ∀ b o, X.base.get? b = some o → s.heap.get? b = some o ∧ H b = none := fun b o e =>
  ⟨I.base.keep b o (I.ok.bs b o e).1 (I.ok.bs b o e).2 (I.ok.nofr e) (I.ok.noex b o e), I.base.free b o (I.ok.bs b o e).1 (I.ok.bs b o e).2 (I.ok.noex b o e)⟩
theorem Inv.bk (I : Inv X pins σ H s) : ∀ b o, X.base.get? b = some o → s.heap.get? b = some o := fun b o e => (I.bs b o e).1
theorem Inv.mod (I : Inv X pins σ H s) : Mod X.K X.mg X.base := I.ok.mod
theorem Inv.kIn (I : Inv X pins σ H s) : X.K.In s.heap := I.ok.mod.kin.keeps I.bk
theorem Inv.lt (I : Inv X pins σ H s) : X.env.locals < s.heap.objs.size := let ⟨_, hn, _⟩ := I.loc; hn.lt
theorem Inv.sz (I : Inv X pins σ H s) : X.s₀.heap.objs.size ≤ s.heap.objs.size := Nat.le_trans I.ok.above (Nat.le_of_lt I.lt)
theorem Inv.nofs (I : Inv X pins σ H s) {a : Addr} (h : s.heap.objs.size ≤ a) : a ∉ X.fs := fun hb => by
  obtain ⟨_, o, ho, _⟩ := I.ok.funs.mem hb
  exact absurd (Nat.lt_of_lt_of_le (Heap.lt_size ho) (Nat.le_trans I.sz h)) (Nat.lt_irrefl _)
theorem Inv.cne (I : Inv X pins σ H s) : ∀ x c, X.env.cells.lookup x = some c → c ≠ X.env.locals := fun x c e z => by
  obtain ⟨v, o, ho, hd⟩ := I.cell x c e
  obtain ⟨m, ⟨o', es, ep, ho', hd', _⟩, _⟩ := I.loc
  rw [z, ho'] at ho; cases ho; rw [hd'] at hd; cases hd
theorem Inv.funs (I : Inv X pins σ H s) : s.heap.FunFrames X.base X.outer := by
  have all : ∀ (l : List Env), (∀ b ∈ frs l, b ∈ X.fs) → X.s₀.heap.FunFrames X.base l → s.heap.FunFrames X.base l := by
    intro l
    induction l with
    | nil => intro _ _; trivial
    | cons env r ih =>
      intro hs hl
      obtain ⟨hk, ⟨L, o, hf, hn, ho, hd⟩, hr⟩ := hl
      have hL : L ∈ X.fs := hs L (by unfold frs; rw [List.filterMap_cons, hf]; exact List.mem_cons_self)
      obtain ⟨sl, e⟩ := I.base.slot L o ho (I.ok.frf L hL) hL fun z => I.ok.exfs L z hL
      exact ⟨hk, ⟨L, _, hf, hn, e, hd⟩, ih (fun b hb => hs b (by unfold frs; rw [List.filterMap_cons, hf]; exact List.mem_cons_of_mem _ hb)) hr⟩
  exact all X.outer (fun _ hb => hb) I.ok.funs

/-- the frames that run, for a call -/
theorem Inv.stack (I : Inv X pins σ H s) : s.heap.FunFrames X.base X.stack := by
  rcases I.ok.stk with e | ⟨e, hf⟩
  · rw [e]; exact I.funs
  · rw [e]
    obtain ⟨m, hn, _⟩ := I.loc
    refine .cons (by rw [I.ok.kind]; decide) hf hn ?_ I.funs
    exact Heap.get?_none_of_le (Nat.le_trans I.ok.bsz I.ok.above)
theorem Inv.stkSub (I : Inv X pins σ H s) : ∀ b ∈ frs X.stack, b ∈ X.env.locals :: X.fs := fun b hb => by
  rcases I.ok.stk with e | ⟨e, hf⟩
  · rw [e] at hb; exact List.mem_cons_of_mem _ hb
  · rw [e] at hb
    unfold frs at hb
    rw [List.filterMap_cons, hf] at hb
    exact hb
theorem Inv.stkFree (I : Inv X pins σ H s) : ∀ b ∈ frs X.stack, H b = none := fun b hb => by
  rcases List.mem_cons.mp (I.stkSub b hb) with e | hb
  · rw [e]; exact I.free
  · obtain ⟨_, o, ho, _⟩ := I.ok.funs.mem hb
    exact I.base.free b o ho (I.ok.frf b hb) fun z => I.ok.exfs b z hb

/-- THE STEP: the untracked objects but the frame and the records at ch are kept (the callers' frames up to slots), the frame's map is kept, the new abstract heap is held -/
theorem Inv.step {g' : Array GenState} {t' : Nat} {d' : Drawn} {ch : List Addr} (I : Inv X pins σ H s)
    (hch : ∀ b ∈ ch, (b ∈ X.ex ∨ X.s₀.heap.objs.size ≤ b) ∧ b ≠ X.env.locals ∧ (∀ x c, X.env.cells.lookup x = some c → c ≠ b) ∧ ∀ p ∈ X.pn ++ pins, p.1 ≠ b)
    (keep : ∀ b o, b ≠ X.env.locals → b ∉ X.fs → b ∉ ch → s.heap.get? b = some o → H b = none → h'.get? b = some o)
    (slot : ∀ b o, b ≠ X.env.locals → b ∈ X.fs → b ∉ ch → s.heap.get? b = some o → H b = none → ∃ sl, h'.get? b = some { o with slots := sl }) (free : ∀ b o, b ∉ ch → s.heap.get? b = some o → H b = none → H' b = none)
    (there : ∀ b o, b ∉ ch → s.heap.get? b = some o → ∃ o', h'.get? b = some o')
    (tups : ∀ b xs, H b = some (.tup xs) → H' b = some (.tup xs)) (frzs : ∀ b o u, H b = some (.frz o u) → H' b = some (.frz o u)) (tbls : ∀ b ps, H b = some (.tbl ps) → ∃ more, H' b = some (.tbl (ps ++ more)))
    (ns : ∀ m, s.heap.Ns X.env.locals m → h'.Ns X.env.locals m) (hok : HOk X.prog X.w H' h') (hg : AllBare g') :
    Inv X pins σ H' { s with heap := h', gens := g', drawn := d', toks := t' } := by
  have neL : ∀ b o, X.s₀.heap.get? b = some o → b ≠ X.env.locals := fun b o e => Nat.ne_of_lt (Nat.lt_of_lt_of_le (Heap.lt_size e) I.ok.above)
  have neC : ∀ b o, X.s₀.heap.get? b = some o → b ∉ X.ex → b ∉ ch := fun b o e hx hb => by
    rcases (hch b hb).1 with z | z
    · exact hx z
    · exact absurd (Nat.lt_of_lt_of_le (Heap.lt_size e) z) (Nat.lt_irrefl _)
  have cellK : ∀ x c, X.env.cells.lookup x = some c → ∀ v, s.heap.IsCell c v → h'.IsCell c v := fun x c e v ⟨o, ho, hd⟩ => by
    have nch : c ∉ ch := fun z => (hch c z).2.2.1 x c e rfl
    by_cases hc : c ∈ X.fs
    · obtain ⟨sl, q⟩ := slot c o (I.cne x c e) hc nch ho (I.freeC x c e)
      exact ⟨_, q, hd⟩
    · exact ⟨o, keep c o (I.cne x c e) hc nch ho (I.freeC x c e), hd⟩
  refine ⟨I.ok, I.os, hg, ⟨fun b o e n hb hx => ?_, fun b o e n hb hx => ?_, fun b o e n hx => ?_, fun b o e hx => ?_, fun b xs e => tups b xs (I.base.tups b xs e), fun b o xs e => frzs b o xs (I.base.frzs b o xs e), fun b ps e => ?_⟩, ?_, fun x c e => ?_, ?_, fun x c e => ?_, fun p hp => ?_, hok, I.len⟩
  · exact keep b o (neL b o e) hb (neC b o e hx) (I.base.keep b o e n hb hx) (I.base.free b o e n hx)
  · obtain ⟨sl, e1⟩ := I.base.slot b o e n hb hx
    obtain ⟨sl', e2⟩ := slot b _ (neL b o e) hb (neC b o e hx) e1 (I.base.free b o e n hx)
    exact ⟨sl', e2⟩
  · obtain ⟨o', e1⟩ := I.base.there b o e hx
    exact free b o' (neC b o e hx) e1 (I.base.free b o e n hx)
  · obtain ⟨o', e1⟩ := I.base.there b o e hx
    exact there b o' (neC b o e hx) e1
  · obtain ⟨m1, e1⟩ := I.base.tbls b ps e
    obtain ⟨m2, e2⟩ := tbls b _ e1
    exact ⟨m1 ++ m2, by rw [e2, Array.append_assoc]⟩
  · obtain ⟨m, hn, hl⟩ := I.loc
    refine ⟨m, ns m hn, fun i x v e1 e2 e3 => ?_⟩
    obtain ⟨u, r, l⟩ := hl i x v e1 e2 e3
    refine ⟨u, r, ?_⟩
    rcases l with l | ⟨k, c, e, z⟩
    · exact .inl l
    · exact .inr ⟨k, c, e, cellK x c e _ z⟩
  · obtain ⟨v, z⟩ := I.cell x c e
    exact ⟨v, cellK x c e v z⟩
  · obtain ⟨m, ⟨o, _, _, ho, _⟩, _⟩ := I.loc
    exact free _ o (fun z => (hch _ z).2.1 rfl) ho I.free
  · obtain ⟨v, o, ho, hd⟩ := I.cell x c e
    exact free c o (fun z => (hch c z).2.2.1 x c e rfl) ho (I.freeC x c e)
  · obtain ⟨e, n, ne, nf, d⟩ := I.pin p hp
    have nch : p.1 ∉ ch := fun z => (hch p.1 z).2.2.2 p hp rfl
    exact ⟨keep p.1 p.2 ne nf nch e n, free p.1 p.2 nch e n, ne, nf, d⟩
/-- .. where the frame's own object is kept too -/
theorem Inv.un {t' : Nat} (I : Inv X pins σ H s) (u : Un X.fs [] H H' s.heap h') (hok : HOk X.prog X.w H' h') : Inv X pins σ H' { s with heap := h', toks := t' } := by
  obtain ⟨m, ⟨o, es, ep, ho, r⟩, _⟩ := id I.loc
  obtain ⟨sl, hL⟩ := u.any ho I.free (by simp)
  exact I.step (g' := s.gens) (d' := s.drawn) (ch := []) (fun _ z => nomatch z) (fun b o _ hb _ e n => u.keep b o e n hb (by simp)) (fun b o _ hb _ e n => u.slot b o e n hb (by simp)) (fun b o _ e n => u.free b o e n (by simp)) (fun b o _ e => u.there b o e (by simp)) u.tups u.frzs u.tbls (fun m' hm => by
    obtain ⟨o', es', ep', ho', r'⟩ := hm
    rw [ho] at ho'; cases ho'
    exact ⟨_, es', ep', hL, r'⟩) hok I.bare
/-- behind a call (or a comprehension's block): the slots of this frame may have changed too, the records at ch may have turned -/
theorem Inv.call {g' : Array GenState} {t' : Nat} {d' : Drawn} {ch : List Addr} (I : Inv X pins σ H s) (u : Un (frs X.stack) ch H H' s.heap h') (hok : HOk X.prog X.w H' h') (hg : AllBare g')
    (hch : ∀ b ∈ ch, (b ∈ X.ex ∨ X.s₀.heap.objs.size ≤ b) ∧ b ≠ X.env.locals ∧ (∀ x c, X.env.cells.lookup x = some c → c ≠ b) ∧ ∀ p ∈ X.pn ++ pins, p.1 ≠ b) :
    Inv X pins σ H' { s with heap := h', gens := g', drawn := d', toks := t' } := by
  obtain ⟨m, ⟨o, es, ep, ho, r⟩, _⟩ := id I.loc
  obtain ⟨sl, hL⟩ := u.any ho I.free fun z => (hch _ z).2.1 rfl
  exact I.step (ch := ch) hch (fun b o hL hb hc e n => u.keep b o e n (fun z => (List.mem_cons.mp (I.stkSub b z)).elim hL hb) hc) (fun b o _ _ hc e n => u.any e n hc) (fun b o hc e n => u.free b o e n hc) (fun b o hc e => u.there b o e hc) u.tups u.frzs u.tbls (fun m' hm => by
    obtain ⟨o', es', ep', ho', r'⟩ := hm
    rw [ho] at ho'; cases ho'
    exact ⟨_, es', ep', hL, r'⟩) hok hg
/-- an untracked record of ours (an iterator) has turned -/
theorem Inv.turned {t' : Nat} {it : Addr} (I : Inv X pins σ H s) (k : ∀ b o, b ≠ it → s.heap.get? b = some o → h'.get? b = some o) (hn : H it = none) (hL : it ≠ X.env.locals)
    (h1 : it ∈ X.ex ∨ X.s₀.heap.objs.size ≤ it) (h2 : ∀ x c, X.env.cells.lookup x = some c → c ≠ it) (h3 : ∀ p ∈ X.pn ++ pins, p.1 ≠ it) : Inv X pins σ H { s with heap := h', toks := t' } := by
  have nit : ∀ b u, H b = some u → b ≠ it := fun b u e z => by rw [z, hn] at e; cases e
  refine I.step (g' := s.gens) (d' := s.drawn) (ch := [it]) (fun b hb => ?_) (fun b o _ _ hc e _ => k b o (fun z => hc (by simp [z])) e) (fun b o _ _ hc e _ => ⟨o.slots, k b o (fun z => hc (by simp [z])) e⟩) (fun _ _ _ _ n => n)
    (fun b o hc e => ⟨o, k b o (fun z => hc (by simp [z])) e⟩) (fun _ _ e => e) (fun _ _ _ e => e) (fun b ps e => ⟨#[], by rw [e]; simp⟩) (fun m hm => ?_) (fun b u e => ?_) I.bare
  · have e : b = it := by simpa using hb
    subst e
    exact ⟨h1, hL, h2, h3⟩
  · obtain ⟨o, es, ep, ho, r⟩ := hm
    exact ⟨o, es, ep, k _ o (Ne.symm hL) ho, r⟩
  · refine (I.hok b u e).stay (fun c v hc q => k c v ?_ q) (fun _ q => q) fun _ _ q => q
    rcases hc with z | z
    · rw [z]; exact nit b u e
    · exact nit c _ z
theorem Inv.tok (I : Inv X pins σ H s) (t : Nat) : Inv X pins σ H { s with toks := t } := I.un (h' := s.heap) (t' := t) Un.refl I.hok
/-- all objects kept -/
theorem Inv.kept {t' : Nat} (I : Inv X pins σ H s) (k : ∀ b u, s.heap.get? b = some u → h'.get? b = some u) : Inv X pins σ H { s with heap := h', toks := t' } := I.un (Un.kept k) (I.hok.kept k)
/-- a new object laid and tracked -/
theorem Inv.laid {a : Addr} {o : HO} {t' : Nat} (I : Inv X pins σ H s) (k : ∀ b u, s.heap.get? b = some u → h'.get? b = some u) (hp : s.heap.objs.size ≤ a) (new : ObjOk X.prog X.w (upd H a o) h' a o) :
    Inv X pins σ (upd H a o) { s with heap := h', toks := t' } := I.un (Un.laid k hp (I.hok.fresh hp)) (I.hok.laid k hp new)
/-- an object written -/
theorem Inv.write {x e : Addr} {o : HO} {t' : Nat} (I : Inv X pins σ H s) (mu : Mut (H x)) (he : e = x ∨ H e = some (.own x)) (k : ∀ b u, b ≠ e → s.heap.get? b = some u → h'.get? b = some u) (heo : ∃ u, h'.get? e = some u)
    (new : ObjOk X.prog X.w (upd H x o) h' x o) : Inv X pins σ (upd H x o) { s with heap := h', toks := t' } := I.un (Un.write mu he k heo) (I.hok.write mu he k heo new)
theorem Inv.pins_of {pins' : List (Addr × Obj)} (I : Inv X pins σ H s) (h : ∀ p ∈ pins', s.heap.get? p.1 = some p.2 ∧ H p.1 = none ∧ p.1 ≠ X.env.locals ∧ p.1 ∉ X.fs ∧ ∀ v, p.2.data ≠ .cell v) : Inv X pins' σ H s :=
  ⟨I.ok, I.os, I.bare, I.base, I.loc, I.cell, I.free, I.freeC, fun p hp => (List.mem_append.mp hp).elim (fun z => I.pin p (List.mem_append_left _ z)) (h p), I.hok, I.len⟩

theorem nodup_ix {N : List Str} (hN : N.Nodup) {i j : Nat} {x : Str} (a : N[i]? = some x) (b : N[j]? = some x) : i = j := by
  obtain ⟨h1, e1⟩ := List.getElem?_eq_some_iff.mp a
  obtain ⟨h2, e2⟩ := List.getElem?_eq_some_iff.mp b
  exact (List.getElem_inj hN).mp (e1.trans e2.symm)

/-- a name is stored; what changed -/
theorem store_ok2 {M : Model} {A : Around} {E : Value → Shared → Prop} {i : Nat} {x : Str} {v : V} {u : Value} {Q : Unit → Shared → Prop} (I : Inv X pins σ H s) (hN : X.N.Nodup) (hi : X.N[i]? = some x) (hx : Loc X.env.scope x) (r : RelV v u)
    (h : ∀ s', Inv X pins (σ.set i (some v)) H s' → (∃ a, Heap.SameBut a s.heap s'.heap ∧ (a = X.env.locals ∨ X.env.cells.lookup x = some a)) → Q () s') (hf : X.fn x = true ∨ X.env.scope.names.lookup x = some .local := by first | exact .inl rfl | exact .inr rfl | assumption) : wpAny M A (storeName X.env x u) Q E s := by
  obtain ⟨m, hn, hl⟩ := id I.loc
  have hcls : (X.env.scope.kind == .class || (X.env.scope.kind == .module && X.env.locals != X.env.globals)) = false := by rw [I.ok.kind]; rfl
  have hiσ : i < σ.length := by rw [I.len]; exact (List.getElem?_eq_some_iff.mp hi).1
  have cne := I.cne
  have tracked : ∀ {a : Addr} {h' : Heap}, (∃ o, s.heap.get? a = some o ∧ H a = none) → Heap.SameBut a s.heap h' → HOk X.prog X.w H h' := fun {a h'} ha hs b ob e => by
    obtain ⟨_, _, hfree⟩ := ha
    refine (I.hok b ob e).stay (fun c w' hc q => (hs.2 c ?_).trans q) (fun _ q => q) fun _ _ q => q
    rintro rfl
    rcases hc with rfl | hc
    · rw [hfree] at e; cases e
    · rw [hfree] at hc; cases hc
  rcases hx with hk | hk
  · refine wpAny_storeName_local hk hn (fun h' hn' hs => ?_) hcls
    obtain ⟨oL, _, _, hoL, _⟩ := id hn
    refine h _ ⟨I.ok, I.os, I.bare, ⟨fun b o e n hb hx => ?_, fun b o e n hb hx => ?_, I.base.free, fun b o e hx => ?_, I.base.tups, I.base.frzs, I.base.tbls⟩, ⟨_, hn', fun j y v' e1 e2 e3 => ?_⟩, fun y c e => ?_, I.free, I.freeC, fun p hp => ?_, tracked ⟨oL, hoL, I.free⟩ hs, by simpa using I.len⟩ ⟨_, hs, .inl rfl⟩
    · exact (hs.2 b (Nat.ne_of_lt (Nat.lt_of_lt_of_le (Heap.lt_size e) I.ok.above))).trans (I.base.keep b o e n hb hx)
    · obtain ⟨sl, e1⟩ := I.base.slot b o e n hb hx
      exact ⟨sl, (hs.2 b (Nat.ne_of_lt (Nat.lt_of_lt_of_le (Heap.lt_size e) I.ok.above))).trans e1⟩
    · obtain ⟨o', e1⟩ := I.base.there b o e hx
      exact ⟨o', (hs.2 b (Nat.ne_of_lt (Nat.lt_of_lt_of_le (Heap.lt_size e) I.ok.above))).trans e1⟩
    · by_cases hj : j = i
      · subst hj
        rw [hi] at e1; cases e1
        rw [List.getElem?_set_self hiσ] at e2
        cases e2
        exact ⟨u, r, .inl ⟨hk, by simp⟩⟩
      · rw [List.getElem?_set_ne (Ne.symm hj)] at e2
        obtain ⟨u', r', q⟩ := hl j y v' e1 e2 e3
        refine ⟨u', r', ?_⟩
        rcases q with ⟨k, e⟩ | ⟨k, c, e, z⟩
        · refine .inl ⟨k, ?_⟩
          have : y ≠ x := fun e => hj (nodup_ix hN e1 (e ▸ hi))
          simp [this, e]
        · exact .inr ⟨k, c, e, z.sameBut hs (cne y c e)⟩
    · obtain ⟨w', z⟩ := I.cell y c e
      exact ⟨w', z.sameBut hs (cne y c e)⟩
    · obtain ⟨e, n, ne, nf, d⟩ := I.pin p hp
      exact ⟨(hs.2 p.1 ne).trans e, n, ne, nf, d⟩
  · have hfn : X.fn x = true := by
      rcases hf with z | z
      · exact z
      · rw [z] at hk; cases hk
    obtain ⟨c, hc⟩ := I.ok.has x (.inl hk)
    obtain ⟨w', z⟩ := I.cell x c hc
    refine wpAny_storeName_cell I.ok.kind hk hc z (fun h' hc' hs => ?_)
    obtain ⟨oc, hoc, hocd⟩ := id z
    refine h { s with heap := h' } ⟨I.ok, I.os, I.bare, ⟨fun b o e n hb hx => ?_, fun b o e n hb hx => ?_, I.base.free, fun b o e hx => ?_, I.base.tups, I.base.frzs, I.base.tbls⟩, ⟨m, hn.sameBut hs (Ne.symm (cne x c hc)), fun j y v' e1 e2 e3 => ?_⟩, fun y c' e => ?_, I.free, I.freeC, fun p hp => ?_, tracked ⟨oc, hoc, I.freeC x c hc⟩ hs, by simpa using I.len⟩ ⟨c, hs, .inr hc⟩
    · exact (hs.2 b (Nat.ne_of_lt (Nat.lt_of_lt_of_le (Heap.lt_size e) (I.ok.cab x c hfn hc)))).trans (I.base.keep b o e n hb hx)
    · obtain ⟨sl, e1⟩ := I.base.slot b o e n hb hx
      exact ⟨sl, (hs.2 b (Nat.ne_of_lt (Nat.lt_of_lt_of_le (Heap.lt_size e) (I.ok.cab x c hfn hc)))).trans e1⟩
    · obtain ⟨o', e1⟩ := I.base.there b o e hx
      exact ⟨o', (hs.2 b (Nat.ne_of_lt (Nat.lt_of_lt_of_le (Heap.lt_size e) (I.ok.cab x c hfn hc)))).trans e1⟩
    · by_cases hj : j = i
      · subst hj
        rw [hi] at e1; cases e1
        rw [List.getElem?_set_self hiσ] at e2
        cases e2
        exact ⟨u, r, .inr ⟨.inl hk, c, hc, hc'⟩⟩
      · rw [List.getElem?_set_ne (Ne.symm hj)] at e2
        obtain ⟨u', r', q⟩ := hl j y v' e1 e2 e3
        refine ⟨u', r', ?_⟩
        rcases q with q | ⟨k, c', e, z'⟩
        · exact .inl q
        · refine .inr ⟨k, c', e, z'.sameBut hs ?_⟩
          rintro rfl
          exact hj (nodup_ix hN e1 (I.ok.inj _ _ _ e hc ▸ hi))
    · by_cases hcc : c' = c
      · subst hcc; exact ⟨_, hc'⟩
      · obtain ⟨w2, z2⟩ := I.cell y c' e
        exact ⟨w2, z2.sameBut hs hcc⟩
    · obtain ⟨e, n, ne, nf, d⟩ := I.pin p hp
      refine ⟨(hs.2 p.1 ?_).trans e, n, ne, nf, d⟩
      intro q
      rw [q, hoc] at e
      have q' : oc = p.2 := Option.some.inj e
      exact d w' (by rw [← q']; exact hocd)
theorem store_ok {M : Model} {A : Around} {E : Value → Shared → Prop} {i : Nat} {x : Str} {v : V} {u : Value} {Q : Unit → Shared → Prop} (I : Inv X pins σ H s) (hN : X.N.Nodup) (hi : X.N[i]? = some x) (hx : Loc X.env.scope x) (r : RelV v u)
    (h : ∀ s', Inv X pins (σ.set i (some v)) H s' → Q () s') (hf : X.fn x = true ∨ X.env.scope.names.lookup x = some .local := by first | exact .inl rfl | exact .inr rfl | assumption) : wpAny M A (storeName X.env x u) Q E s :=
  store_ok2 I hN hi hx r (fun s' I' _ => h s' I') hf
/-- behind a call or a block, the state as it is -/
theorem Inv.call' {s' : Shared} {ch : List Addr} (I : Inv X pins σ H s) (ho : s'.os = s.os) (u : Un (frs X.stack) ch H H' s.heap s'.heap) (hok : HOk X.prog X.w H' s'.heap) (hg : AllBare s'.gens)
    (hch : ∀ b ∈ ch, (b ∈ X.ex ∨ X.s₀.heap.objs.size ≤ b) ∧ b ≠ X.env.locals ∧ (∀ x c, X.env.cells.lookup x = some c → c ≠ b) ∧ ∀ p ∈ X.pn ++ pins, p.1 ≠ b) : Inv X pins σ H' s' := by
  obtain ⟨h', g', d', t', o'⟩ := s'
  have e : o' = s.os := ho
  subst e
  exact I.call (g' := g') (t' := t') (d' := d') u hok hg hch
end

/-! ### the judgements -/
/-- an exception: its class, its own dict's address (where it has one), the abstract heap behind it -/
abbrev XK := Value → Option Addr → Hp → Prop
abbrev St := List (Option V)
abbrev VK := V → Hp → Prop
/-- an expression's reading; a test's; an argument list's -/
abbrev TE := St → Hp → VK → Prop
abbrev TT := St → Hp → (Bool → Hp → Prop) → Prop
abbrev TA := St → Hp → (List V → Hp → Prop) → Prop
/-- what is wanted behind a statement -/
structure Ends where
  nx : St → Hp → Prop
  rt : VK
  bk : St → Hp → Prop := fun _ _ => False
  ct : St → Hp → Prop := fun _ _ => False
abbrev TS := Ends → St → Hp → Prop

def EP (X : Cx) (pins : List (Addr × Obj)) (σ : St) (Q : VK) (u : Value) (s' : Shared) : Prop := ∃ v H', Inv X pins σ H' s' ∧ RelV v u ∧ Q v H'
def TP (X : Cx) (pins : List (Addr × Obj)) (σ : St) (Q : Bool → Hp → Prop) (b : Bool) (s' : Shared) : Prop := ∃ H', Inv X pins σ H' s' ∧ Q b H'
def AP (X : Cx) (pins : List (Addr × Obj)) (σ : St) (Q : List V → Hp → Prop) (us : List Value) (s' : Shared) : Prop := ∃ vs H', Inv X pins σ H' s' ∧ Vals vs us ∧ Q vs H'
def SP (X : Cx) (pins : List (Addr × Obj)) (D : Ends) (f : Flow) (s' : Shared) : Prop :=
  match f with
  | .next => ∃ σ' H', Inv X pins σ' H' s' ∧ D.nx σ' H'
  | .brk => ∃ σ' H', Inv X pins σ' H' s' ∧ D.bk σ' H'
  | .cont => ∃ σ' H', Inv X pins σ' H' s' ∧ D.ct σ' H'
  | .ret u => ∃ v σ' H', Inv X pins σ' H' s' ∧ RelV v u ∧ D.rt v H'

def PE (X : Cx) (e : Expr) (t : TE) : Prop :=
  ∀ (pins : List (Addr × Obj)) (s : Shared) (σ : St) (H : Hp) (Q : VK), Inv X pins σ H s → t σ H Q → wpAny (model X.prog X.w) X.A (eval e X.env) (EP X pins σ Q) X.xe s
def PT (X : Cx) (e : Expr) (t : TT) : Prop :=
  ∀ (pins : List (Addr × Obj)) (s : Shared) (σ : St) (H : Hp) (Q : Bool → Hp → Prop), Inv X pins σ H s → t σ H Q → wpAny (model X.prog X.w) X.A (isTrue e X.env (eval e X.env)) (TP X pins σ Q) X.xe s
/-- a test whatever its 'whole' is (and, or) -/
def PW (X : Cx) (e : Expr) (t : TT) : Prop :=
  ∀ (whole : Sem Value) (pins : List (Addr × Obj)) (s : Shared) (σ : St) (H : Hp) (Q : Bool → Hp → Prop), Inv X pins σ H s → t σ H Q → wpAny (model X.prog X.w) X.A (isTrue e X.env whole) (TP X pins σ Q) X.xe s
theorem PW.pt {X : Cx} {e : Expr} {t : TT} (h : PW X e t) : PT X e t := h _
/-- an argument list (no star), from the left -/
def PA (X : Cx) (es : List Expr) (t : TA) : Prop :=
  ∀ (pos : Pos) (pins : List (Addr × Obj)) (s : Shared) (σ : St) (H : Hp) (Q : List V → Hp → Prop), Inv X pins σ H s → t σ H Q → wpAny (model X.prog X.w) X.A (spliced (backTo pos (starEach es X.env))) (AP X pins σ Q) X.xe s
def PS (X : Cx) (st : Stmt) (t : TS) : Prop :=
  ∀ (pins : List (Addr × Obj)) (s : Shared) (σ : St) (H : Hp) (D : Ends), Inv X pins σ H s → t D σ H → wpAny (model X.prog X.w) X.A (exec st X.env) (SP X pins D) X.xe s
def PSs (X : Cx) (st : List Stmt) (t : TS) : Prop :=
  ∀ (pins : List (Addr × Obj)) (s : Shared) (σ : St) (H : Hp) (D : Ends), Inv X pins σ H s → t D σ H → wpAny (model X.prog X.w) X.A (execs st X.env) (SP X pins D) X.xe s
/-- weaken the end -/
theorem thn {α : Type} {t : Sem α} {Q Q' : α → Shared → Prop} {M : Model} {A : Around} {E : Value → Shared → Prop} {s : Shared} (h : wpAny M A t Q E s) (hQ : ∀ a s, Q a s → Q' a s) : wpAny M A t Q' E s := wpAny_mono h hQ fun _ _ x => x
end L2

namespace L2
open PySem PySem.Spec PyProof.Rows
section
variable {X : Cx}

/-- two expressions in a row -/
theorem bin {a b : Expr} {ta tb : TE} (ha : PE X a ta) (hb : PE X b tb) {pins : List (Addr × Obj)} {s : Shared} {σ : St} {H : Hp} {R : V → V → Hp → Prop} (I : Inv X pins σ H s) (h : ta σ H fun x H1 => tb σ H1 fun y H2 => R x y H2)
    {α : Type} {Q : α → Shared → Prop} {f : Value → Value → Sem α}
    (hf : ∀ v u s2 x y H2, Inv X pins σ H2 s2 → RelV x v → RelV y u → R x y H2 → wpAny (model X.prog X.w) X.A (f v u) Q X.xe s2) :
    wpAny (model X.prog X.w) X.A (eval a X.env) (fun v s₁ => wpAny (model X.prog X.w) X.A (eval b X.env) (fun u s₂ => wpAny (model X.prog X.w) X.A (f v u) Q X.xe s₂) X.xe s₁) X.xe s := by
  refine thn (ha pins s σ H _ I h) fun v s1 ⟨x, H1, I1, r1, q1⟩ => ?_
  refine thn (hb pins s1 σ H1 _ I1 q1) fun u s2 ⟨y, H2, I2, r2, q2⟩ => ?_
  exact hf v u s2 x y H2 I2 r1 r2 q2

/-! ### names and constants -/
def tVar (i : Nat) : TE := fun σ H Q => ∃ v, σ[i]? = some (some v) ∧ Q v H
def tC (v : V) : TE := fun _ H Q => Q v H
theorem pe_var {i : Nat} {x : Str} {pos : Pos} (hN : X.N[i]? = some x) (hv : Vis X.env.scope x) (hd : (x == ("__debug__" : Str)) = false := by decide) (hcd : (x == ("__classdict__" : Str)) = false := by decide) : PE X (.Name x pos) (tVar i) := by
  intro pins s σ H Q I h
  obtain ⟨v, e, h⟩ := h
  obtain ⟨m, hn, hl⟩ := I.loc
  obtain ⟨u, r, l⟩ := hl i x v hN e hv
  have fin : EP X pins σ Q u s := ⟨v, H, I, r, h⟩
  rcases l with ⟨hk, hm⟩ | ⟨hk, c, hc, hcell⟩
  · exact wpAny_Name (wpAny_loadName_local I.ok.kind hk hn hm fin) hd
  · rcases hk with hk | hk
    · exact wpAny_Name (wpAny_loadName_cell I.ok.kind hk hc hcell fin) hd
    · exact wpAny_Name (wpAny_loadName_free I.ok.kind hk hc hcell fin hcd) hd
theorem pe_int {i j pos} : PE X (.Constant (.int i) j pos) (tC (.int i)) := fun _ _ _ H _ I h => wpAny_Constant_int ⟨.int i, H, I.tok _, ⟨_, rfl⟩, h⟩
theorem pe_bl {b j pos} : PE X (.Constant (.bool b) j pos) (tC (.bl b)) := fun _ _ _ H _ I h => Constant_bool ⟨.bl b, H, I, rfl, h⟩
theorem pe_non {j pos} : PE X (.Constant .none j pos) (tC .non) := fun _ _ _ H _ I h => Constant_none ⟨.non, H, I, rfl, h⟩
theorem pe_str {x j pos} : PE X (.Constant (.str x) j pos) (tC (.str x)) := fun _ _ _ H _ I h => Calls.Constant_str ⟨.str x, H, I.tok _, ⟨_, rfl⟩, h⟩

/-- a global name of the def -/
def Gl (X : Cx) (x : Str) : Prop := X.env.kindOf x = some .globalImplicit
theorem ld_glob {E : Value → Shared → Prop} {pins : List (Addr × Obj)} {s : Shared} {σ : St} {H : Hp} {x : Str} {u : Value} {pos : Pos} {Q : Value → Shared → Prop} (I : Inv X pins σ H s) (hg : Gl X x) (hm : X.mg x = some u) (h : Q u s)
    (hd : (x == ("__debug__" : Str)) = false := by decide) : wpAny (model X.prog X.w) X.A (eval (.Name x pos) X.env) Q E s :=
  Calls.Name_function_global I.ok.kind hg (Calls.loadGlobal_global (by rw [I.ok.glob]; exact I.mod.glob.keeps I.bk) hm h) hd
theorem ld_blt {E : Value → Shared → Prop} {pins : List (Addr × Obj)} {s : Shared} {σ : St} {H : Hp} {x : Str} {u : Value} {pos : Pos} {Q : Value → Shared → Prop} (I : Inv X pins σ H s) (hg : Gl X x) (hm : X.mg x = none) (hv : bootBuiltins x = some u) (h : Q u s)
    (hn : x ≠ "__name__" := by decide) (hd : (x == ("__debug__" : Str)) = false := by decide) : wpAny (model X.prog X.w) X.A (eval (.Name x pos) X.env) Q E s := by
  obtain ⟨mb, h1, h2⟩ := I.mod.blt
  exact Calls.Name_function_global I.ok.kind hg (Calls.loadGlobal_builtin (by rw [I.ok.glob]; exact I.mod.glob.keeps I.bk) hm (by rw [I.ok.blt]; exact h1.keeps I.bk) ((h2 x hn).trans hv) h) hd
/-- a module's constant, a class, a function, as a value -/
theorem pe_glob {x : Str} {v : V} {u : Value} {pos : Pos} (hg : Gl X x) (hm : X.mg x = some u) (r : RelV v u) (hd : (x == ("__debug__" : Str)) = false := by decide) : PE X (.Name x pos) (tC v) :=
  fun _ _ _ H _ I h => ld_glob I hg hm ⟨v, H, I, r, h⟩ hd
theorem pe_bltn {x : Str} {v : V} {u : Value} {pos : Pos} (hg : Gl X x) (hm : X.mg x = none) (hv : bootBuiltins x = some u) (r : RelV v u) (hn : x ≠ "__name__" := by decide) (hd : (x == ("__debug__" : Str)) = false := by decide) : PE X (.Name x pos) (tC v) :=
  fun _ _ _ H _ I h => ld_blt I hg hm hv ⟨v, H, I, r, h⟩ hn hd

/-! ### arithmetic -/
/-- two ints -/
def t2I (ta tb : TE) (k : Int → Int → Hp → Prop) : St → Hp → Prop := fun σ H => ta σ H fun x H1 => tb σ H1 fun y H2 => ∃ i j, x = .int i ∧ y = .int j ∧ k i j H2
def tAdd (ta tb : TE) : TE := fun σ H Q => t2I ta tb (fun i j H2 => Q (.int (i + j)) H2) σ H
def tSub (ta tb : TE) : TE := fun σ H Q => t2I ta tb (fun i j H2 => Q (.int (i - j)) H2) σ H
/-- the left factor below 2^64 -/
def tMul (ta tb : TE) : TE := fun σ H Q => t2I ta tb (fun i j H2 => (-(2 ^ 64) < i ∧ i < 2 ^ 64) ∧ Q (.int (i * j)) H2) σ H
variable {a b : Expr} {ta tb : TE} {pos : Pos}
/-! ### comparisons -/
def PC (X : Cx) (op : CmpOp) (a b : Expr) (t : TE) : Prop :=
  ∀ (pins : List (Addr × Obj)) (s : Shared) (σ : St) (H : Hp) (Q : VK), Inv X pins σ H s → t σ H Q →
    wpAny (model X.prog X.w) X.A (eval a X.env) (fun v s₁ => wpAny (model X.prog X.w) X.A (eval b X.env) (fun u s₂ => wpAny (model X.prog X.w) X.A (compareOp op v u) (EP X pins σ Q) X.xe s₂) X.xe s₁) X.xe s
def tCmp (p : Int → Int → Bool) (ta tb : TE) : TE := fun σ H Q => t2I ta tb (fun i j H2 => Q (.bl (p i j)) H2) σ H
abbrev tLt : TE → TE → TE := tCmp fun i j => decide (i < j)
abbrev tLe : TE → TE → TE := tCmp fun i j => decide (i ≤ j)
abbrev tGt : TE → TE → TE := tCmp fun i j => decide (j < i)
abbrev tGe : TE → TE → TE := tCmp fun i j => decide (j ≤ i)
abbrev tEqI : TE → TE → TE := tCmp fun i j => decide (i = j)
abbrev tNeI : TE → TE → TE := tCmp fun i j => !decide (i = j)
/-- is None -/
def tIsN (ta : TE) : TE := fun σ H Q => ta σ H fun x H1 => Q (.bl (decide (x = .non))) H1
def tNotN (ta : TE) : TE := fun σ H Q => ta σ H fun x H1 => Q (.bl (!decide (x = .non))) H1
/-- a comparison as a value, as a test -/
def tB (t : TE) : TT := fun σ H Q => t σ H fun x H1 => ∃ c, x = .bl c ∧ Q c H1
theorem pt_cmp {op : CmpOp} {t : TE} (h : PC X op a b t) (h1 : behindInMarks op b = false := by first | exact nobehind _ (by decide) (by decide) | rfl) : PT X (.Compare a [op] [b] pos) (tB t) := by
  intro pins s σ H Q I hw
  refine wpAny_isTrue_Compare1 (thn (h pins s σ H _ I hw) fun v s1 h1 => thn h1 fun u s2 h2 => thn h2 fun c s3 ⟨x, H1, I1, r1, q1⟩ => ?_) h1
  obtain ⟨d, rfl, q⟩ := q1
  cases r1
  exact wpAny_truthy_bool ⟨H1, I1, q⟩
/-- an expression whose value is a bool, as a test -/
theorem pt_val {e : Expr} {t : TE} (h : PE X e t) (he : ∀ whole, isTrue e X.env whole = (do let v ← whole; standAt e.pos; holding [v] (truthy v)) := by intro _; rfl) : PT X e (tB t) := by
  intro pins s σ H Q I hw
  refine isTrue_plain (thn (h pins s σ H _ I hw) fun v s1 ⟨x, H1, I1, r1, q1⟩ => ?_) (he _)
  obtain ⟨d, rfl, q⟩ := q1
  cases r1
  exact wpAny_truthy_bool ⟨H1, I1, q⟩

/-! ### and, or, not -/
variable {tA tB' : TT} {rest : List Expr}
def tAnd (t u : TT) : TT := fun σ H Q => t σ H fun c H1 => if c = true then u σ H1 Q else Q false H1
def tOr (t u : TT) : TT := fun σ H Q => t σ H fun c H1 => if c = true then Q true H1 else u σ H1 Q
def tNot (t : TT) : TT := fun σ H Q => t σ H fun c H1 => Q (!c) H1
theorem pw_or1 (ha : PT X a tA) : PW X (.BoolOp .Or [a] pos) tA := by
  intro wh pins s σ H Q I h
  refine isTrue_or (thn (ha pins s σ H Q I h) fun c s1 e => ?_)
  cases c with
  | false => exact isTrue_or_nil e
  | true => exact e
theorem pw_or (ha : PT X a tA) (hb : PW X (.BoolOp .Or (b :: rest) pos) tB') : PW X (.BoolOp .Or (a :: b :: rest) pos) (tOr tA tB') := by
  intro wh pins s σ H Q I h
  refine isTrue_or (thn (ha pins s σ H _ I h) fun c s1 ⟨H1, I1, q1⟩ => ?_)
  cases c with
  | true => exact ⟨H1, I1, q1⟩
  | false => exact hb wh pins s1 σ H1 Q I1 q1
theorem pt_not (ha : PT X a tA) : PT X (.UnaryOp .Not a pos) (tNot tA) := by
  intro pins s σ H Q I h
  exact isTrue_not (ha pins s σ H (fun c H1 => Q (!c) H1) I h)
/-- .. as values (bools) -/
def tAndV (ta tb : TE) : TE := fun σ H Q => ta σ H fun x H1 => ∃ c, x = .bl c ∧ if c = true then tb σ H1 Q else Q (.bl false) H1
def tOrV (ta tb : TE) : TE := fun σ H Q => ta σ H fun x H1 => ∃ c, x = .bl c ∧ if c = true then Q (.bl true) H1 else tb σ H1 Q
def tNotV (ta : TE) : TE := fun σ H Q => ta σ H fun x H1 => ∃ c, x = .bl c ∧ Q (.bl (!c)) H1
theorem pe_one {op} {t : TE} (h : PE X a t) : PE X (.BoolOp op [a] pos) t := fun pins s σ H Q I hw => BoolOp_one (h pins s σ H Q I hw)
theorem pe_and (ha : PE X a ta) (hb : PE X (.BoolOp .And (b :: rest) pos) tb) : PE X (.BoolOp .And (a :: b :: rest) pos) (tAndV ta tb) := by
  intro pins s σ H Q I h
  refine BoolOp_and (thn (ha pins s σ H _ I h) fun v s1 ⟨x, H1, I1, r1, q1⟩ => ?_)
  obtain ⟨c, rfl, q1⟩ := q1
  cases r1
  refine wpAny_truthy_bool ?_
  cases c with
  | true => exact hb pins s1 σ H1 Q I1 q1
  | false => exact ⟨.bl false, H1, I1, rfl, q1⟩
theorem pe_or (ha : PE X a ta) (hb : PE X (.BoolOp .Or (b :: rest) pos) tb) : PE X (.BoolOp .Or (a :: b :: rest) pos) (tOrV ta tb) := by
  intro pins s σ H Q I h
  refine BoolOp_or (thn (ha pins s σ H _ I h) fun v s1 ⟨x, H1, I1, r1, q1⟩ => ?_)
  obtain ⟨c, rfl, q1⟩ := q1
  cases r1
  refine wpAny_truthy_bool ?_
  cases c with
  | false => exact hb pins s1 σ H1 Q I1 q1
  | true => exact ⟨.bl true, H1, I1, rfl, q1⟩
/-- a if t else b -/
def tIf (t : TT) (ta tb : TE) : TE := fun σ H Q => t σ H fun c H1 => if c = true then ta σ H1 Q else tb σ H1 Q
end
end L2

namespace L2
open PySem PySem.Spec PyProof.Rows

/-! ### a list, a tuple that is read: tracked, frozen, or an object of the module -/
def SqL (K : PySem.W.Frag) (H : Hp) (a : Addr) (xs : List V) : Prop :=
  Rd H a (.lst xs) ∨
    ∃ (o : Obj) (its : Array Value) (n : Nat), K.lookup a = some o ∧ o.cls = .type "list" ∧ o.dict = none ∧ o.data = .seq its n ∧ its.size ≤ sizeLine ∧ Vals xs its.toList
def SqT (K : PySem.W.Frag) (H : Hp) (a : Addr) (xs : List V) : Prop :=
  Rd H a (.tup xs) ∨
    ∃ (o : Obj) (its : Array Value) (n : Nat), K.lookup a = some o ∧ o.cls = .type "tuple" ∧ o.data = .seq its n ∧ its.size ≤ sizeLine ∧ Vals xs its.toList
def absV : Value → Option V
  | .none => some .non
  | .bool b => some (.bl b)
  | .int i _ => some (.int i)
  | .str x _ => some (.str x)
  | .bytes b _ => some (.byt b)
  | .float b _ => some (.flt b)
  | .ref a => some (.ref a)
  | .type n => some (.ty n)
  | _ => none
theorem RelV.abs {x : V} {u : Value} (r : RelV x u) : absV u = some x := by
  cases x with
  | non => cases r; rfl
  | bl _ => cases r; rfl
  | int _ => obtain ⟨t, rfl⟩ := r; rfl
  | str _ => obtain ⟨t, rfl⟩ := r; rfl
  | byt _ => obtain ⟨t, rfl⟩ := r; rfl
  | flt _ => obtain ⟨t, rfl⟩ := r; rfl
  | ref _ => cases r; rfl
  | ty _ => cases r; rfl
theorem RelV.inj {x y : V} {u : Value} (r : RelV x u) (q : RelV y u) : x = y := Option.some.inj (r.abs.symm.trans q.abs)
theorem Vals.inj : ∀ {xs ys : List V} {us : List Value}, Vals xs us → Vals ys us → xs = ys
  | _, _, _, .nil, .nil => rfl
  | _, _, _, .cons r t, .cons r' t' => by rw [r.inj r', Vals.inj t t']
section
variable {X : Cx} {pins : List (Addr × Obj)} {σ : St} {H : Hp} {s : Shared} {a : Addr} {xs ys : List V}
theorem SqL.of {K : PySem.W.Frag} (h : H a = some (.lst xs)) : SqL K H a xs := .inl (.inl h)
theorem SqT.of {K : PySem.W.Frag} (h : H a = some (.tup xs)) : SqT K H a xs := .inl (.inl h)
theorem Inv.list (I : Inv X pins σ H s) (h : SqL X.K H a xs) : ∃ its : List Value, Vals xs its ∧ PlainL s.heap a its.toArray ∧ xs.length ≤ sizeLine := by
  rcases h with h | ⟨o, its, n, hk, hc, hd, hs, hz, r⟩
  · obtain ⟨z, its, n, r, e⟩ := h.ok I.hok
    exact ⟨its, r, ⟨_, n, e, rfl, rfl, rfl⟩, z⟩
  · refine ⟨its.toList, r, ⟨o, n, I.kIn a o hk, hc, hd, by simpa using hs⟩, ?_⟩
    have e := r.length
    simp only [Array.length_toList] at e
    (first | lia | omega)
theorem Inv.tuple (I : Inv X pins σ H s) (h : SqT X.K H a xs) : ∃ its : List Value, Vals xs its ∧ IsTup s.heap a its.toArray ∧ xs.length ≤ sizeLine := by
  rcases h with h | ⟨o, its, n, hk, hc, hs, hz, r⟩
  · obtain ⟨z, its, r, p⟩ := h.ok I.hok
    exact ⟨its, r, p, z⟩
  · refine ⟨its.toList, r, ⟨o, I.kIn a o hk, hc, n, by simpa using hs⟩, ?_⟩
    have e := r.length
    simp only [Array.length_toList] at e
    (first | lia | omega)
theorem Inv.list_inj (I : Inv X pins σ H s) (h : SqL X.K H a xs) (h' : SqL X.K H a ys) : xs = ys := by
  obtain ⟨its, r, ⟨o, n, e, _, _, d⟩, _⟩ := I.list h
  obtain ⟨its', r', ⟨o', n', e', _, _, d'⟩, _⟩ := I.list h'
  rw [e] at e'; cases e'
  rw [d] at d'
  injection d' with d1 _
  have : its = its' := by simpa using congrArg Array.toList d1
  subst this
  exact r.inj r'
theorem Inv.tuple_inj (I : Inv X pins σ H s) (h : SqT X.K H a xs) (h' : SqT X.K H a ys) : xs = ys := by
  obtain ⟨its, r, ⟨o, e, _, n, d⟩, _⟩ := I.tuple h
  obtain ⟨its', r', ⟨o', e', _, n', d'⟩, _⟩ := I.tuple h'
  rw [e] at e'; cases e'
  rw [d] at d'
  injection d' with d1 _
  have : its = its' := by simpa using congrArg Array.toList d1
  subst this
  exact r.inj r'
end

/-! ### another wish about exceptions -/
abbrev Cx.wish (X : Cx) (E : Value → Shared → Prop) : Cx := { X with xe := E }
/-- no exception leaves -/
abbrev Cx.nox (X : Cx) : Cx := X.wish fun _ _ => False
theorem Cx.Ok.wish {X : Cx} (ok : X.Ok) (E : Value → Shared → Prop) : (X.wish E).Ok :=
  ⟨ok.mod, ok.kind, ok.glob, ok.blt, ok.above, ok.inj, ok.has, ok.cab, ok.hd, ok.frames, ok.stk, ok.exf, ok.bs, ok.bsz, ok.noex, ok.exfs, ok.funs, ok.frf⟩
theorem Cx.Ok.unwish {X : Cx} {E : Value → Shared → Prop} (ok : (X.wish E).Ok) : X.Ok :=
  ⟨ok.mod, ok.kind, ok.glob, ok.blt, ok.above, ok.inj, ok.has, ok.cab, ok.hd, ok.frames, ok.stk, ok.exf, ok.bs, ok.bsz, ok.noex, ok.exfs, ok.funs, ok.frf⟩
section
variable {X : Cx} {pins : List (Addr × Obj)} {σ : St} {H : Hp} {s : Shared} {E : Value → Shared → Prop}
theorem Inv.wish (I : Inv X pins σ H s) (E : Value → Shared → Prop) : Inv (X.wish E) pins σ H s := ⟨I.ok.wish E, I.os, I.bare, I.base, I.loc, I.cell, I.free, I.freeC, I.pin, I.hok, I.len⟩
theorem Inv.unwish (I : Inv (X.wish E) pins σ H s) : Inv X pins σ H s := ⟨I.ok.unwish, I.os, I.bare, I.base, I.loc, I.cell, I.free, I.freeC, I.pin, I.hok, I.len⟩
theorem SP.unwish {D : Ends} {f : Flow} {s' : Shared} (h : SP (X.wish E) pins D f s') : SP X pins D f s' := by
  cases f with
  | next => obtain ⟨σ', H', I, q⟩ := h; exact ⟨σ', H', I.unwish, q⟩
  | brk => obtain ⟨σ', H', I, q⟩ := h; exact ⟨σ', H', I.unwish, q⟩
  | cont => obtain ⟨σ', H', I, q⟩ := h; exact ⟨σ', H', I.unwish, q⟩
  | ret u => obtain ⟨v, σ', H', I, r, q⟩ := h; exact ⟨v, σ', H', I.unwish, r, q⟩
theorem PSs.nox {st : List Stmt} {t : TS} (h : PSs X.nox st t) : PSs X st t := fun pins s σ H D I hw =>
  wpAny_mono (h pins s σ H D (I.wish _) hw) (fun _ _ q => q.unwish) fun _ _ z => False.elim z
end

/-! ### blocks and small statements -/
section
variable {X : Cx} {st : Stmt} {rest : List Stmt} {t u : TS} {e : Expr} {te : TE} {pos : Pos}
def tNext : TS := fun D σ H => D.nx σ H
def tSeq (t u : TS) : TS := fun D σ H => t { D with nx := u D } σ H
theorem pss_nil : PSs X [] tNext := fun _ _ σ H _ I h => wpAny_execs_nil ⟨σ, H, I, h⟩
theorem pss_cons (h1 : PS X st t) (h2 : PSs X rest u) : PSs X (st :: rest) (tSeq t u) := by
  intro pins s σ H D I h
  refine wpAny_execs_cons (thn (h1 pins s σ H { D with nx := u D } I h) fun f s1 q => ?_)
  cases f with
  | next =>
    obtain ⟨σ', H', I', q⟩ := q
    exact h2 pins s1 σ' H' D I' q
  | ret v => exact q
  | brk => exact q
  | cont => exact q
theorem pss_one (h1 : PS X st t) : PSs X [st] t := by
  intro pins s σ H D I h
  refine wpAny_execs_cons (thn (h1 pins s σ H D I h) fun f s1 q => ?_)
  cases f with
  | next => exact wpAny_execs_nil q
  | ret v => exact q
  | brk => exact q
  | cont => exact q
def tBreak : TS := fun D σ H => D.bk σ H
def tCont : TS := fun D σ H => D.ct σ H
/-- in a def's body nothing is shown -/
theorem Inv.quiet {pins : List (Addr × Obj)} {σ : St} {H : Hp} {s : Shared} (I : Inv X pins σ H s) : interactive X.env = false := by simp [interactive, I.ok.kind]
/-- an expression whose value is dropped -/
def tDrop (te : TE) : TS := fun D σ H => te σ H fun _ H1 => D.nx σ H1
theorem ps_expr (he : PE X e te) (hs : swapsWith e none pos.line X.env = pure false := by rfl) : PS X (.Expr e pos) (tDrop te) := by
  intro pins s σ H D I h
  exact wpAny_Expr_any (thn (he pins s σ H _ I h) fun v s1 ⟨x, H1, I1, r1, q1⟩ => ⟨σ, H1, I1, q1⟩) I.quiet hs
def tRet (te : TE) : TS := fun D σ H => te σ H D.rt
theorem ps_ret (he : PE X e te) : PS X (.Return (some e) pos) (tRet te) := by
  intro pins s σ H D I h
  exact wpAny_Return_some (thn (he pins s σ H _ I h) fun v s1 ⟨x, H1, I1, r1, q1⟩ => ⟨x, σ, H1, I1, r1, q1⟩)
def tRetN : TS := fun D _ H => D.rt .non H
def tIfS (c : TT) (t u : TS) : TS := fun D σ H => c σ H fun b H1 => if b = true then t D σ H1 else u D σ H1
theorem ps_if {c : Expr} {a b : List Stmt} {tc : TT} (hc : PT X c tc) (ha : PSs X a t) (hb : PSs X b u) : PS X (.If c a b pos) (tIfS tc t u) := by
  intro pins s σ H D I h
  refine wpAny_If (thn (hc pins s σ H _ I h) fun d s1 ⟨H1, I1, q1⟩ => ?_)
  cases d with
  | true => exact ha pins s1 σ H1 D I1 q1
  | false => exact hb pins s1 σ H1 D I1 q1
/-- code that the proof never comes to -/
def tNever : TS := fun _ _ _ => False
theorem ps_never : PS X st tNever := fun _ _ _ _ _ _ h => h.elim
theorem pss_never {sts : List Stmt} : PSs X sts tNever := fun _ _ _ _ _ _ h => h.elim
end

/-! ### targets -/
abbrev TG := V → St → Hp → (St → Hp → Prop) → Prop
abbrev TGs := List V → St → Hp → (St → Hp → Prop) → Prop
def PG (X : Cx) (target : Expr) (t : TG) : Prop :=
  ∀ (pins : List (Addr × Obj)) (s : Shared) (σ : St) (H : Hp) (v : V) (u : Value) (Q : St → Hp → Prop), Inv X pins σ H s → RelV v u → t v σ H Q →
    wpAny (model X.prog X.w) X.A (assign target X.env u) (fun _ s' => ∃ σ' H', Inv X pins σ' H' s' ∧ Q σ' H') X.xe s
/-- several targets, one after another -/
def PGs (X : Cx) (ts : List Expr) (t : TGs) : Prop :=
  ∀ (pins : List (Addr × Obj)) (s : Shared) (σ : St) (H : Hp) (vs : List V) (us : List Value) (Q : St → Hp → Prop), Inv X pins σ H s → Vals vs us → t vs σ H Q →
    wpAny (model X.prog X.w) X.A (assignInOrder ((assignEach ts X.env).map (·.2)) us) (fun _ s' => ∃ σ' H', Inv X pins σ' H' s' ∧ Q σ' H') X.xe s
/-- o[i] = v, by values -/
abbrev TSet := V → V → V → Hp → (Hp → Prop) → Prop
def PSet (X : Cx) (t : TSet) : Prop :=
  ∀ (pins : List (Addr × Obj)) (s : Shared) (σ : St) (H : Hp) (o i v : V) (ov iv u : Value) (Q : Hp → Prop), Inv X pins σ H s → RelV o ov → RelV i iv → RelV v u → t o i v H Q →
    wpAny (model X.prog X.w) X.A (setItem ov iv u) (fun _ s' => ∃ H', Inv X pins σ H' s' ∧ Q H') X.xe s
/-- a op= b, by values -/
abbrev TIp := V → V → Hp → VK → Prop
def PIp (X : Cx) (op : Operator) (t : TIp) : Prop :=
  ∀ (pins : List (Addr × Obj)) (s : Shared) (σ : St) (H : Hp) (x y : V) (v u : Value) (Q : VK), Inv X pins σ H s → RelV x v → RelV y u → t x y H Q →
    wpAny (model X.prog X.w) X.A (inplaceOp op v u) (EP X pins σ Q) X.xe s
section
variable {X : Cx} {pos : Pos}
def gName (i : Nat) : TG := fun v σ H Q => Q (σ.set i (some v)) H
theorem pg_name {i : Nat} {x : Str} (hN : X.N.Nodup) (hi : X.N[i]? = some x) (hx : Loc X.env.scope x) (hf : X.fn x = true ∨ X.env.scope.names.lookup x = some .local := by first | exact .inl rfl | exact .inr rfl | assumption) : PG X (.Name x pos) (gName i) := by
  intro pins s σ H v u Q I r h
  exact wpAny_assign_Name (store_ok I hN hi hx r (fun s' I' => ⟨_, H, I', h⟩) hf)
def gNil : TGs := fun vs σ H Q => vs = [] ∧ Q σ H
def gCons (t : TG) (u : TGs) : TGs := fun vs σ H Q => ∃ v r, vs = v :: r ∧ t v σ H fun σ' H' => u r σ' H' Q
theorem pgs_nil : PGs X [] gNil := by
  intro pins s σ H vs us Q I r h
  obtain ⟨e, h⟩ := h
  subst e
  cases r
  exact assignInOrder_nil ⟨σ, H, I, h⟩
theorem pgs_cons {e : Expr} {es : List Expr} {t : TG} {u : TGs} (h1 : PG X e t) (h2 : PGs X es u)
    (hs : (assignEach (e :: es) X.env).map (·.2) = assign e X.env :: (assignEach es X.env).map (·.2) := by rfl) : PGs X (e :: es) (gCons t u) := by
  intro pins s σ H vs us Q I r h
  obtain ⟨v, vr, e1, h⟩ := h
  subst e1
  cases r with
  | cons r rr =>
    rw [hs]
    refine assignInOrder_cons (thn (h1 pins s σ H _ _ _ I r h) fun _ s1 ⟨σ1, H1, I1, q1⟩ => ?_)
    exact h2 pins s1 σ1 H1 _ _ Q I1 rr q1
/-- (a, b, ..) = a tuple of that length -/
def gTup (K : PySem.W.Frag) (n : Nat) (t : TGs) : TG := fun v σ H Q => ∃ a xs, v = .ref a ∧ SqT K H a xs ∧ xs.length = n ∧ t xs σ H Q
theorem pg_tup {es : List Expr} {k : Nat} {t : TGs} {n : Nat} (hc : X.calm = true) (h : PGs X es t)
    (hn : (assignEach es X.env).length = n := by rfl) (hst : (assignEach es X.env).findIdx? (·.1) = none := by rfl) : PG X (.Tuple es k pos) (gTup X.K n t) := by
  intro pins s σ H v u Q I r hw
  obtain ⟨a, xs, e1, hq, hl, hw⟩ := hw
  subst e1
  cases r
  obtain ⟨its, rv, ht, hz⟩ := I.tuple hq
  refine assign_Tuple_tuple (I.ok.hd hc) ht (by simp [hn, ← hl, rv.length]) hst fun h' hx => ?_
  have I1 : Inv X pins σ H { s with heap := h' } := I.kept (t' := s.toks) fun b o e => hx b o (Nat.ne_of_lt (Heap.lt_size e)) e
  exact h pins _ σ H xs _ Q I1 (by simpa using rv) hw
/-- o[i] = .. -/
def gSub (to ti : TE) (t : TSet) : TG := fun v σ H Q => to σ H fun o H1 => ti σ H1 fun i H2 => t o i v H2 fun H3 => Q σ H3
theorem pg_sub {o i : Expr} {to ti : TE} {t : TSet} (ho : PE X o to) (hi : PE X i ti) (hs : PSet X t)
    (ha : ∀ v, assign (.Subscript o i pos) X.env v = (do
      let ov ← holding [v] (eval o X.env)
      let iv ← holding [v, ov] (eval i X.env)
      standAt pos
      holding [v, ov, iv] (setItem ov iv v)
      release [v, ov, iv] []) := by intro _; rfl) : PG X (.Subscript o i pos) (gSub to ti t) := by
  intro pins s σ H v u Q I r h
  rw [ha]
  refine wpAny_bind (wpAny_holding (thn (ho pins s σ H _ I h) fun ov s1 ⟨x, H1, I1, r1, q1⟩ => ?_))
  refine wpAny_bind (wpAny_holding (thn (hi pins s1 σ H1 _ I1 q1) fun iv s2 ⟨y, H2, I2, r2, q2⟩ => ?_))
  refine wpAny_bind (wpAny_standAt (wpAny_bind (wpAny_holding (thn (hs pins s2 σ H2 x y v ov iv u _ I2 r1 r2 r q2) fun _ s3 ⟨H3, I3, q3⟩ => ?_))))
  exact wpAny_release ⟨σ, H3, I3, q3⟩
/-- target = value -/
def tAsg (te : TE) (g : TG) : TS := fun D σ H => te σ H fun x H1 => g x σ H1 D.nx
theorem ps_asg {tg e : Expr} {te : TE} {g : TG} (he : PE X e te) (hg : PG X tg g) (hs : swapsWithSole [tg] e pos.line X.env = pure false := by rfl) (hw : swappedStores [tg] e X.env = pure none := by rfl)
    (h1 : (assignEach [tg] X.env).map (·.2) = [assign tg X.env] := by rfl) : PS X (.Assign [tg] e pos) (tAsg te g) := by
  intro pins s σ H D I h
  refine wpAny_Assign_stores (thn (he pins s σ H _ I h) fun v s1 ⟨x, H1, I1, r1, q1⟩ => ?_) hs hw
  rw [h1]
  exact thn (hg pins s1 σ H1 x v _ I1 r1 q1) fun _ s2 q => q
/-- name = value -/
theorem ps_set {i : Nat} {x : Str} {e : Expr} {te : TE} {pos' : Pos} (hN : X.N.Nodup) (hi : X.N[i]? = some x) (hx : Loc X.env.scope x) (he : PE X e te) (hs : swapsWith e (some (.Name x pos')) pos.line X.env = pure false := by rfl) (hf : X.fn x = true ∨ X.env.scope.names.lookup x = some .local := by first | exact .inl rfl | exact .inr rfl | assumption) :
    PS X (.Assign [.Name x pos'] e pos) (tAsg te (gName i)) := by
  intro pins s σ H D I h
  refine wpAny_Assign_Name (thn (he pins s σ H _ I h) fun v s1 ⟨y, H1, I1, r1, q1⟩ => ?_) hs
  exact store_ok I1 hN hi hx r1 (fun s2 I2 => ⟨_, H1, I2, q1⟩) hf
/-- a, b = x, y with plain local names: stored from the right; the pair itself is not tracked (the opening rows as in PyProof/Rows/TupAssign.lean:23) -/
def tPar (i j : Nat) (ta : TA) : TS := fun D σ H => ta σ H fun vs H1 => ∃ v w, vs = [v, w] ∧ D.nx ((σ.set i (some v)).set j (some w)) H1
/-- name op= e -/
def tAug (i : Nat) (te : TE) (ti : TIp) : TS := fun D σ H => ∃ x, σ[i]? = some (some x) ∧ te σ H fun y H1 => ti x y H1 fun z H2 => D.nx (σ.set i (some z)) H2
theorem ps_aug {i : Nat} {x : Str} {e : Expr} {te : TE} {op : Operator} {ti : TIp} {pos' : Pos} (hN : X.N.Nodup) (hi : X.N[i]? = some x) (hx : Loc X.env.scope x) (he : PE X e te) (ho : PIp X op ti) (hf : X.fn x = true ∨ X.env.scope.names.lookup x = some .local := by first | exact .inl rfl | exact .inr rfl | assumption) :
    PS X (.AugAssign (.Name x pos') op e pos) (tAug i te ti) := by
  intro pins s σ H D I h
  obtain ⟨v, e1, h⟩ := h
  obtain ⟨m, hn, hl⟩ := I.loc
  have vis : Vis X.env.scope x := by rcases hx with k | k; exact .inl k; exact .inr (.inl k)
  obtain ⟨u, r, l⟩ := hl i x v hi e1 vis
  refine wpAny_AugAssign_Name ?_
  have go : wpAny (model X.prog X.w) X.A (eval e X.env) (fun w s₂ => wpAny (model X.prog X.w) X.A (inplaceOp op u w) (fun r s₃ => wpAny (model X.prog X.w) X.A (storeName X.env x r) (fun _ => SP X pins D .next) X.xe s₃) X.xe s₂) X.xe s := by
    refine thn (he pins s σ H _ I h) fun w s1 ⟨y, H1, I1, r1, q1⟩ => ?_
    refine thn (ho pins s1 σ H1 v y u w _ I1 r r1 q1) fun z s2 ⟨zv, H2, I2, r2, q2⟩ => ?_
    exact store_ok I2 hN hi hx r2 (fun s3 I3 => ⟨_, H2, I3, q2⟩) hf
  rcases l with ⟨hk, hm⟩ | ⟨hk, c, hc, hcell⟩
  · exact wpAny_loadName_local I.ok.kind hk hn hm go
  · rcases hk with hk | hk
    · exact wpAny_loadName_cell I.ok.kind hk hc hcell go
    · rcases hx with k | k
      · have : X.env.scope.names.lookup x = some .free := hk
        rw [k] at this; cases this
      · have : X.env.scope.names.lookup x = some .free := hk
        rw [k] at this; cases this
/-- o[i] op= e -/
def tAugS (to ti te : TE) (tget : V → V → Hp → VK → Prop) (tip : TIp) (tset : TSet) : TS := fun D σ H => to σ H fun o H1 => ti σ H1 fun i H2 => tget o i H2 fun x H3 => te σ H3 fun y H4 => tip x y H4 fun z H5 => tset o i z H5 fun H6 => D.nx σ H6
/-- o[i], by values -/
def PGet (X : Cx) (t : V → V → Hp → VK → Prop) : Prop :=
  ∀ (pins : List (Addr × Obj)) (s : Shared) (σ : St) (H : Hp) (o i : V) (ov iv : Value) (Q : VK), Inv X pins σ H s → RelV o ov → RelV i iv → t o i H Q →
    wpAny (model X.prog X.w) X.A (getItem ov iv) (EP X pins σ Q) X.xe s
/-- ints -/
def ipI (f : Int → Int → Int) : TIp := fun x y H Q => ∃ i j, x = .int i ∧ y = .int j ∧ Q (.int (f i j)) H
theorem ip_add : PIp X .Add (ipI fun i j => i + j) := by
  intro pins s σ H x y v u Q I r1 r2 h
  obtain ⟨i, j, e1, e2, q⟩ := h
  subst e1; subst e2
  obtain ⟨t, rfl⟩ := r1
  obtain ⟨t', rfl⟩ := r2
  exact iadd_int ⟨.int _, H, I.tok _, ⟨_, rfl⟩, q⟩
theorem ip_sub : PIp X .Sub (ipI fun i j => i - j) := by
  intro pins s σ H x y v u Q I r1 r2 h
  obtain ⟨i, j, e1, e2, q⟩ := h
  subst e1; subst e2
  obtain ⟨t, rfl⟩ := r1
  obtain ⟨t', rfl⟩ := r2
  exact isub_int ⟨.int _, H, I.tok _, ⟨_, rfl⟩, q⟩
end

/-! ### while -/
section
variable {X : Cx} {pos : Pos}
/-- the invariant W with its measure -/
def tWhile (c : TT) (tb : TS) : TS := fun D σ H => ∃ W : Nat → St → Hp → Prop, (∃ m, W m σ H) ∧ ∀ m σ H, W m σ H →
  c σ H fun b H1 => if b = true then ∃ N : St → Hp → Prop, (∀ σ' H', N σ' H' → ∃ m', m' < m ∧ W m' σ' H') ∧ tb { D with nx := N, ct := N, bk := D.nx } σ H1 else D.nx σ H1
theorem ps_while {c : Expr} {body : List Stmt} {tc : TT} {tb : TS} (hp : PassesOwn (model X.prog X.w) X.A X.env X.xe) (hc : PT X c tc) (hb : PSs X body tb) : PS X (.While c body [] pos) (tWhile tc tb) := by
  intro pins s σ H D I h
  obtain ⟨W, ⟨m0, w0⟩, turn⟩ := h
  refine wpAny_While (codeAny_whileLoop (fun n s' => ∃ σ' H', Inv X pins σ' H' s' ∧ W n σ' H') ?_ m0 ⟨σ, H, I, w0⟩)
  rintro n s1 ⟨σ1, H1, I1, w1⟩
  refine wpAny_passesOwn hp (thn (hc pins s1 σ1 H1 _ I1 (turn n σ1 H1 w1)) fun b s2 ⟨H2, I2, q2⟩ => ?_)
  cases b with
  | true =>
    obtain ⟨N, hN, q2⟩ := q2
    rw [if_pos rfl]
    refine wpAny_passesOwn hp (thn (hb pins s2 σ1 H2 _ I2 q2) fun f s3 q3 => ?_)
    cases f with
    | next =>
      obtain ⟨σ3, H3, I3, n3⟩ := q3
      obtain ⟨m', hm, w3⟩ := hN σ3 H3 n3
      exact ⟨m', hm, σ3, H3, I3, w3⟩
    | cont =>
      obtain ⟨σ3, H3, I3, n3⟩ := q3
      obtain ⟨m', hm, w3⟩ := hN σ3 H3 n3
      exact ⟨m', hm, σ3, H3, I3, w3⟩
    | brk => exact q3
    | ret v => exact q3
  | false =>
    rw [if_neg Bool.false_ne_true]
    exact wpAny_execs_nil ⟨σ1, H2, I2, q2⟩
end

/-! ### what a loop or a comprehension walks -/
/-- at turn i: it yields x (the heap may grow), or it stops -/
structure It where
  go : Nat → Hp → Prop
  yld : Nat → Hp → V → Hp → Prop
  stop : Nat → Hp → Prop
/-- the iterator's own objects may turn: they are not the frame's, not pinned, younger than the entry (or a comprehension's own) -/
def FpOk (X : Cx) (pins : List (Addr × Obj)) (H : Hp) (b : Addr) : Prop :=
  H b = none ∧ b ≠ X.env.locals ∧ b ∉ X.fs ∧ (b ∈ X.ex ∨ X.s₀.heap.objs.size ≤ b) ∧ (∀ x c, X.env.cells.lookup x = some c → c ≠ b) ∧ ∀ p ∈ X.pn ++ pins, p.1 ≠ b
theorem Inv.fpOk {X : Cx} {pins : List (Addr × Obj)} {σ : St} {H H' : Hp} {s : Shared} {b : Addr} (I : Inv X pins σ H s) (hb : s.heap.objs.size ≤ b) (hn : H' b = none) : FpOk X pins H' b := by
  refine ⟨hn, Nat.ne_of_gt (Nat.lt_of_lt_of_le I.lt hb), I.nofs hb, .inr (Nat.le_trans I.sz hb), fun x c e z => ?_, fun p hp z => ?_⟩
  · obtain ⟨v, q⟩ := I.cell x c e
    exact absurd (Nat.lt_of_lt_of_le q.lt (by rw [z]; exact hb)) (Nat.lt_irrefl _)
  · exact absurd (Nat.lt_of_lt_of_le (Heap.lt_size (I.pin p hp).1) (by rw [z]; exact hb)) (Nat.lt_irrefl _)
structure Turn (P : Program) (w : World) (K : PySem.W.Frag) (tg : Expr) (J : It) (fp : List Addr) (it : Addr) (tn : Nat → Heap → Prop) : Prop where
  mem : it ∈ fp
  obj : ∀ i h, tn i h → ∀ b ∈ fp, ∃ o, h.get? b = some o ∧ ∀ v, o.data ≠ .cell v
  keep : ∀ i h h', tn i h → (∀ b ∈ fp, ∀ o, h.get? b = some o → h'.get? b = some o) → tn i h'
  item : ∀ (X : Cx), X.prog = P → X.w = w → X.K = K → X.calm = true → ∀ (i : Nat) (pins : List (Addr × Obj)) (s : Shared) (σ : St) (H : Hp) (E : Value → Shared → Prop), Inv X pins σ H s → (∀ b ∈ fp, FpOk X pins H b) → tn i s.heap → J.go i H →
    wpAny (model P w) X.A (pyNext (.ref it)) (fun r s1 => ∃ u, r = some u ∧
      wpAny (model P w) X.A (letOwnedTupleGo tg (.ref it) u) (fun _ s2 => ∃ x H', Inv X pins σ H' s2 ∧ RelV x u ∧ J.yld i H x H' ∧ tn (i + 1) s2.heap ∧ ∀ b ∈ fp, H' b = none) E s1) E s
  done : ∀ (X : Cx), X.prog = P → X.w = w → X.K = K → X.calm = true → ∀ (i : Nat) (pins : List (Addr × Obj)) (s : Shared) (σ : St) (H : Hp) (E : Value → Shared → Prop), Inv X pins σ H s → (∀ b ∈ fp, FpOk X pins H b) → tn i s.heap → J.stop i H →
    wpAny (model P w) X.A (pyNext (.ref it)) (fun r s1 => r = none ∧ Inv X pins σ H s1) E s
  self : ∀ (A : Around) (i : Nat) (s : Shared) (Q : Value → Shared → Prop) (E : Value → Shared → Prop), tn i s.heap → Q (.ref it) s → wpAny (model P w) A (pyIter (.ref it)) Q E s
abbrev TI := St → Hp → (It → Hp → Prop) → Prop
/-- an iterator has come -/
def PIE (X : Cx) (pins : List (Addr × Obj)) (σ : St) (tg : Expr) (R : It → Hp → Prop) (itv : Value) (s2 : Shared) : Prop :=
  ∃ (it : Addr) (fp : List Addr) (tn : Nat → Heap → Prop) (J : It) (H' : Hp), itv = .ref it ∧ Inv X pins σ H' s2 ∧ Turn X.prog X.w X.K tg J fp it tn ∧ tn 0 s2.heap ∧ (∀ b ∈ fp, FpOk X pins H' b) ∧ R J H'
def PI (X : Cx) (tg iter : Expr) (wi : TI) : Prop :=
  ∀ (pins : List (Addr × Obj)) (s : Shared) (σ : St) (H : Hp) (R : It → Hp → Prop), Inv X pins σ H s → wi σ H R →
    wpAny (model X.prog X.w) X.A (eval iter X.env) (fun v s1 => wpAny (model X.prog X.w) X.A (pyIter v) (PIE X pins σ tg R) X.xe s1) X.xe s

/-- the step ahead of the store is nothing for an iterator that keeps no tuple -/
theorem go_of {M : Model} {A : Around} {E : Value → Shared → Prop} {s : Shared} {tg : Expr} {it : Addr} {u : Value} {o : Obj} {n : String} {vs : Array Value} {Q : Unit → Shared → Prop} (ho : s.heap.get? it = some o) (hc : o.cls = .type n) (hd : o.data = .fields vs)
    (hn : ["enumerate", "zip", "dict_itemiterator", "dict_reverseitemiterator", "odict_iterator", "itertools.zip_longest", "itertools.pairwise"].contains n = false) (hQ : Q () s) : wpAny M A (letOwnedTupleGo tg (.ref it) u) Q E s := by
  unfold letOwnedTupleGo
  cases tg <;> first
    | exact wpAny_pure hQ
    | (cases u <;> first
        | exact wpAny_pure hQ
        | (refine wpAny_bind (wpAny_load ho ?_)
           rw [hc, hd]
           show wpAny M A (if (["enumerate", "zip", "dict_itemiterator", "dict_reverseitemiterator", "odict_iterator", "itertools.zip_longest", "itertools.pairwise"].contains n && vs[0]? == some (rawInt _)) = true then _ else _) Q E s
           rw [if_neg (by intro h; rw [hn, Bool.false_and] at h; cases h)]
           exact wpAny_pure hQ))

/-- the list at a, as it stands at each turn (a loop may append to it) -/
def Itl (K : PySem.W.Frag) (a : Addr) : It :=
  ⟨fun i H => ∃ xs x, SqL K H a xs ∧ xs[i]? = some x, fun i H x H' => H' = H ∧ ∀ xs, SqL K H a xs → xs[i]? = some x, fun i H => ∃ xs, SqL K H a xs ∧ xs.length ≤ i⟩
def Itt (K : PySem.W.Frag) (a : Addr) : It :=
  ⟨fun i H => ∃ xs x, SqT K H a xs ∧ xs[i]? = some x, fun i H x H' => H' = H ∧ ∀ xs, SqT K H a xs → xs[i]? = some x, fun i H => ∃ xs, SqT K H a xs ∧ xs.length ≤ i⟩
/-- lo, lo + 1, .. (n of them) -/
def Itr (lo : Int) (n : Nat) : It := ⟨fun i _ => i < n, fun i H x H' => H' = H ∧ x = .int (lo + i), fun i _ => n ≤ i⟩
theorem turn_list {P : Program} {w : World} {K : PySem.W.Frag} {tg : Expr} (a it : Addr) : Turn P w K tg (Itl K a) [it] it (fun i h => h.IsListIter it a i) where
  mem := by simp
  obj := fun i h st b hb => by
    have e : b = it := by simpa using hb
    subst e
    obtain ⟨o, e, c, d⟩ := st
    exact ⟨o, e, fun v z => by rw [d] at z; cases z⟩
  keep := fun i h h' st k => st.at fun o e => k it (by simp) o e
  item := by
    intro X hP hw hK hc i pins s σ H E I hf st hg
    subst hP hw hK
    obtain ⟨xs, x, hq, hx⟩ := hg
    obtain ⟨its, rv, p, hz⟩ := I.list hq
    obtain ⟨u, hu, ru⟩ := rv.get hx
    obtain ⟨f0, f1, f2, f3, f4, f5⟩ := hf it (by simp)
    refine wpAny_pyNext_list_item st p.isList (x := u) (by simpa using hu) fun h' st' sb => ?_
    have I1 : Inv X pins σ H { s with heap := h' } := I.turned (t' := s.toks) (fun b o hb e => (sb.2 b hb).trans e) f0 f1 f3 f4 f5
    obtain ⟨o, e, c, d⟩ := id st'
    exact ⟨u, rfl, go_of (s := { s with heap := h' }) e c d (by decide) ⟨x, H, I1, ru, ⟨rfl, fun ys hy => by rw [I.list_inj hy hq]; exact hx⟩, st', fun b hb => (hf b hb).1⟩⟩
  done := by
    intro X hP hw hK hc i pins s σ H E I hf st hg
    subst hP hw hK
    obtain ⟨xs, hq, hx⟩ := hg
    obtain ⟨its, rv, p, hz⟩ := I.list hq
    obtain ⟨f0, f1, f2, f3, f4, f5⟩ := hf it (by simp)
    have hl := rv.length
    exact wpAny_pyNext_list_end (I.ok.hd hc) st p.isList (by simp; (first | lia | omega)) fun h' eb => ⟨rfl, I.turned (t' := s.toks) (fun b o hb e => eb b o hb e) f0 f1 f3 f4 f5⟩
  self := fun _ _ _ _ _ st h => wpAny_pyIter_listiter st h
theorem turn_range {P : Program} {w : World} {K : PySem.W.Frag} {tg : Expr} (it : Addr) (lo : Int) (n : Nat) : Turn P w K tg (Itr lo n) [it] it (fun i h => IsRangeIter h it (lo + (i : Nat) * 1) ((n : Int) - (i : Nat)) 1) where
  mem := by simp
  obj := fun i h st b hb => by
    have e : b = it := by simpa using hb
    subst e
    exact ⟨_, st, fun v z => by
      have z' : Data.fields _ = Data.cell v := z
      cases z'⟩
  keep := fun i h h' st k => k it (by simp) _ st
  item := by
    intro X hP hw hK hc i pins s σ H E I hf st hg
    subst hP hw hK
    obtain ⟨f0, f1, f2, f3, f4, f5⟩ := hf it (by simp)
    have W := Walks.range (prog := X.prog) (w := X.w) (I.ok.hd hc) it lo 1 n
    refine W.item i s _ _ hg st fun v h' tk hv st' kk => ?_
    obtain ⟨t, rfl⟩ := hv
    have I1 : Inv X pins σ H { s with heap := h', toks := tk } := I.turned (fun b o hb e => kk b o (by simpa using hb) e) f0 f1 f3 f4 f5
    refine ⟨_, rfl, go_of (s := { s with heap := h', toks := tk }) (n := "range_iterator") st' rfl rfl (by decide) ⟨.int (lo + i), H, I1, ⟨t, ?_⟩, ⟨rfl, rfl⟩, st', fun b hb => (hf b hb).1⟩⟩
    rw [Int.mul_one]
  done := by
    intro X hP hw hK hc i pins s σ H E I hf st hg
    subst hP hw hK
    obtain ⟨f0, f1, f2, f3, f4, f5⟩ := hf it (by simp)
    exact wpAny_pyNext_range_end (I.ok.hd hc) st (by have : n ≤ i := hg; (first | lia | omega)) fun h' eb => ⟨rfl, I.turned (t' := s.toks) (fun b o hb e => eb b o hb e) f0 f1 f3 f4 f5⟩
  self := fun _ _ _ _ _ st h => wpAny_pyIter_rangeiter st h
end L2

namespace L2
open PySem PySem.Spec PyProof.Rows
section
variable {X : Cx} {tg : Expr}
def iList (K : PySem.W.Frag) (tl : TE) : TI := fun σ H R => tl σ H fun x H1 => ∃ a, x = .ref a ∧ (∃ xs, SqL K H1 a xs) ∧ R (Itl K a) H1
def iTup (K : PySem.W.Frag) (tl : TE) : TI := fun σ H R => tl σ H fun x H1 => ∃ a, x = .ref a ∧ (∃ xs, SqT K H1 a xs) ∧ R (Itt K a) H1
theorem pi_list {l : Expr} {tl : TE} (hl : PE X l tl) : PI X tg l (iList X.K tl) := by
  intro pins s σ H R I h
  refine thn (hl pins s σ H _ I h) fun v s1 ⟨x, H1, I1, r1, q1⟩ => ?_
  obtain ⟨a, e, ⟨xs, hq⟩, q⟩ := q1
  subst e
  cases r1
  obtain ⟨its, rv, p, hz⟩ := I1.list hq
  refine wpAny_pyIter_list p.isList ?_
  refine ⟨s1.heap.objs.size, [s1.heap.objs.size], _, _, H1, rfl, I1.kept (t' := s1.toks) fun b o e => Heap.get?_push_of_some _ e, turn_list a _, ⟨_, Heap.get?_push_size _ rfl, rfl, rfl⟩, fun b hb => ?_, q⟩
  have e : b = s1.heap.objs.size := by simpa using hb
  subst e
  exact I1.fpOk (Nat.le_refl _) (I1.hok.fresh (Nat.le_refl _))
/-- a range object just made, walked -/
theorem range_it {pins : List (Addr × Obj)} {σ : St} {H : Hp} {s : Shared} {R : It → Hp → Prop} {E : Value → Shared → Prop} {lo hi : Int} {t u v : Tok} {tk : Nat} (I : Inv X pins σ H s) (h1 : -(2 ^ 62) ≤ lo) (h2 : lo < 2 ^ 62) (h3 : -(2 ^ 62) ≤ hi) (h4 : hi < 2 ^ 62)
    (q : R (Itr lo (hi - lo).toNat) H) : wpAny (model X.prog X.w) X.A (pyIter (.ref s.heap.objs.size)) (PIE X pins σ tg R) E { s with heap := s.heap.push { cls := .type "range", data := .fields #[.int lo t, .int hi u, .int 1 v] }, toks := tk } := by
  refine wpAny_pyIter_range (IsRange.new ..) (small_one h1 h2 h3 h4) ?_
  have I1 : Inv X pins σ H { s with heap := s.heap.push { cls := .type "range", data := .fields #[.int lo t, .int hi u, .int 1 v] }, toks := tk } := I.kept fun b o e => Heap.get?_push_of_some _ e
  refine ⟨(s.heap.push { cls := .type "range", data := .fields #[.int lo t, .int hi u, .int 1 v] }).objs.size, [(s.heap.push { cls := .type "range", data := .fields #[.int lo t, .int hi u, .int 1 v] }).objs.size], _, _, H, rfl,
    I1.kept (t' := tk) fun b o e => Heap.get?_push_of_some _ e, turn_range _ lo (hi - lo).toNat, ?_, fun b hb => ?_, q⟩
  · have e1 : lo + ((0 : Nat) : Int) * 1 = lo := by simp
    have e2 : (((hi - lo).toNat : Nat) : Int) - ((0 : Nat) : Int) = Builtin.Range.rangeSize lo hi 1 := by rw [rangeSize_one]; split <;> (first | lia | omega)
    show IsRangeIter _ _ (lo + ((0 : Nat) : Int) * 1) ((((hi - lo).toNat : Nat) : Int) - ((0 : Nat) : Int)) 1
    rw [e1, e2]
    exact Heap.get?_push_size _ rfl
  · have e : b = (s.heap.push { cls := .type "range", data := .fields #[.int lo t, .int hi u, .int 1 v] }).objs.size := by simpa using hb
    subst e
    exact I1.fpOk (Nat.le_refl _) (I1.hok.fresh (Nat.le_refl _))
def iRng1 (ta : TA) : TI := fun σ H R => ta σ H fun vs H1 => ∃ j : Int, vs = [.int j] ∧ -(2 ^ 62) ≤ j ∧ j < 2 ^ 62 ∧ R (Itr 0 j.toNat) H1
def iRng2 (ta : TA) : TI := fun σ H R => ta σ H fun vs H1 => ∃ i j : Int, vs = [.int i, .int j] ∧ (-(2 ^ 62) ≤ i ∧ i < 2 ^ 62 ∧ -(2 ^ 62) ≤ j ∧ j < 2 ^ 62) ∧ R (Itr i (j - i).toNat) H1
theorem pi_range1 {a : Expr} {ta : TA} {p pos : Pos} (hg : Gl X "range") (hm : X.mg "range" = none) (ha : PA X [a] ta) (hs : starEach [a] X.env = [(false, eval a X.env)] := by rfl) : PI X tg (.Call (.Name "range" p) [a] [] pos) (iRng1 ta) := by
  intro pins s σ H R I h
  refine Call_ (ld_blt I hg hm boot_range (PyProof.Rows.callWith_type1 (thn (ha pos pins s σ H _ I h) fun us s1 ⟨vs, H1, I1, r1, q1⟩ => ?_) hs rfl))
  obtain ⟨j, e, q1, q2, q⟩ := q1
  subst e
  cases r1 with
  | cons r rr =>
    cases rr
    obtain ⟨t, rfl⟩ := r
    exact call_range_1 (range_it I1 (by (first | lia | omega)) (by (first | lia | omega)) q1 q2 (by simpa using q))
theorem pi_range2 {a b : Expr} {ta : TA} {p pos : Pos} (hg : Gl X "range") (hm : X.mg "range" = none) (ha : PA X [a, b] ta) (hs : starEach [a, b] X.env = [(false, eval a X.env), (false, eval b X.env)] := by rfl) (hs2 : starEach [b] X.env = [(false, eval b X.env)] := by rfl) :
    PI X tg (.Call (.Name "range" p) [a, b] [] pos) (iRng2 ta) := by
  intro pins s σ H R I h
  refine Call_ (ld_blt I hg hm boot_range (PyProof.Rows.callWith_type1 (thn (ha pos pins s σ H _ I h) fun us s1 ⟨vs, H1, I1, r1, q1⟩ => ?_) (by rw [hs, hs2]) (by rw [hs2]; rfl)))
  obtain ⟨i, j, e, ⟨q1, q2, q3, q4⟩, q⟩ := q1
  subst e
  cases r1 with
  | cons r rr =>
    cases rr with
    | cons r' rr =>
      cases rr
      obtain ⟨t, rfl⟩ := r
      obtain ⟨t', rfl⟩ := r'
      exact call_range_2 (range_it I1 q1 q2 q3 q4 q)

/-! ### for -/
/-- W: the invariant by the turn and a measure; N: what the body is to reach -/
def tFor (wi : TI) (g : TG) (tb : TS) : TS := fun D σ H => wi σ H fun J H1 => ∃ W : Nat → Nat → St → Hp → Prop, (∃ m, W 0 m σ H1) ∧ ∀ i m σ H, W i m σ H →
  (J.stop i H ∧ D.nx σ H) ∨ (J.go i H ∧ ∃ N : St → Hp → Prop, (∀ σ' H', N σ' H' → ∃ m', m' < m ∧ W (i + 1) m' σ' H') ∧ ∀ x H', J.yld i H x H' → g x σ H' fun σ2 H2 => tb { D with nx := N, ct := N, bk := D.nx } σ2 H2)
/-- the records at fp as they stand -/
def pinsAt (fp : List Addr) (h : Heap) : List (Addr × Obj) := fp.filterMap fun b => (h.get? b).map fun o => (b, o)
theorem mem_pinsAt {fp : List Addr} {h : Heap} {b : Addr} {o : Obj} (hb : b ∈ fp) (e : h.get? b = some o) : (b, o) ∈ pinsAt fp h := List.mem_filterMap.mpr ⟨b, hb, by rw [e]; rfl⟩
theorem of_pinsAt {fp : List Addr} {h : Heap} {p : Addr × Obj} (hp : p ∈ pinsAt fp h) : p.1 ∈ fp ∧ h.get? p.1 = some p.2 := by
  obtain ⟨b, hb, e⟩ := List.mem_filterMap.mp hp
  cases q : h.get? b with
  | none => rw [q] at e; cases e
  | some o =>
    rw [q] at e
    have e' : (b, o) = p := Option.some.inj e
    subst e'
    exact ⟨hb, q⟩
theorem Inv.pinned {pins : List (Addr × Obj)} {σ : St} {H : Hp} {s : Shared} {fp : List Addr} (I : Inv X pins σ H s) (hf : ∀ b ∈ fp, FpOk X pins H b) (ho : ∀ b ∈ fp, ∃ o, s.heap.get? b = some o ∧ ∀ v, o.data ≠ .cell v) : Inv X (pins ++ pinsAt fp s.heap) σ H s :=
  I.pins_of fun p hp => (List.mem_append.mp hp).elim (fun z => I.pin p (List.mem_append_right _ z)) fun z => by
    obtain ⟨hb, e⟩ := of_pinsAt z
    obtain ⟨f0, f1, f2, _⟩ := hf p.1 hb
    obtain ⟨o, e', d⟩ := ho p.1 hb
    rw [e] at e'; cases e'
    exact ⟨e, f0, f1, f2, d⟩
theorem Inv.unpinned {pins pl : List (Addr × Obj)} {σ : St} {H : Hp} {s : Shared} (I : Inv X (pins ++ pl) σ H s) : Inv X pins σ H s := I.pins_of fun p hp => I.pin p (List.mem_append_right _ (List.mem_append_left _ hp))
theorem ps_for {iter : Expr} {body : List Stmt} {wi : TI} {g : TG} {tb : TS} {pos : Pos} (hp : PassesOwn (model X.prog X.w) X.A X.env X.xe) (hc : X.calm = true) (hi : PI X tg iter wi) (hg : PG X tg g) (hb : PSs X body tb)
    (hs : ∀ x, foldedSetIterable iter X.env x = pure x := by intro _; rfl) : PS X (.For tg iter body [] pos) (tFor wi g tb) := by
  intro pins s σ H D I h
  refine wpAny_For (thn (hi pins s σ H _ I h) fun v s1 h1 => thn h1 fun itv s2 h2 => ?_) hs
  obtain ⟨it, fp, tn, J, H2, e, I2, T, st2, f2, W, ⟨m0, w0⟩, turn⟩ := h2
  subst e
  -- what stays true of the iterator's objects through the loop
  have stat : ∀ {H' : Hp}, (∀ b ∈ fp, H' b = none) → ∀ b ∈ fp, FpOk X pins H' b := fun hn b hb => ⟨hn b hb, (f2 b hb).2⟩
  refine codeAny_forLoop_any (fun n s' => ∃ i σ' H', Inv X pins σ' H' s' ∧ tn i s'.heap ∧ (∀ b ∈ fp, H' b = none) ∧ W i n σ' H') ?_ m0 ⟨0, σ, H2, I2, st2, fun b hb => (f2 b hb).1, w0⟩
  rintro n s3 ⟨i, σ3, H3, I3, st3, fr3, w3⟩
  rcases turn i n σ3 H3 w3 with ⟨stop, qn⟩ | ⟨go, N, hN, step⟩
  · refine wpAny_passesOwn hp (thn (T.done X rfl rfl rfl hc i pins s3 σ3 H3 X.xe I3 (stat fr3) st3 stop) fun r s4 ⟨hr, I4⟩ => ?_)
    subst hr
    exact wpAny_execs_nil ⟨σ3, H3, I4, qn⟩
  · refine wpAny_passesOwn hp (thn (T.item X rfl rfl rfl hc i pins s3 σ3 H3 X.xe I3 (stat fr3) st3 go) fun r s4 ⟨u, hr, h4⟩ => ?_)
    subst hr
    refine wpAny_passesOwn hp (thn h4 fun _ s5 ⟨x, H5, I5, r5, y5, st5, fr5⟩ => ?_)
    have I5' := I5.pinned (stat fr5) (T.obj _ _ st5)
    refine wpAny_passesOwn hp (thn (hg _ s5 σ3 H5 x u _ I5' r5 (step x H5 y5)) fun _ s6 ⟨σ6, H6, I6, q6⟩ => ?_)
    refine wpAny_passesOwn hp (thn (hb _ s6 σ6 H6 _ I6 q6) fun f s7 q7 => ?_)
    have again : ∀ {σ7 : St} {H7 : Hp}, Inv X (pins ++ pinsAt fp s5.heap) σ7 H7 s7 → N σ7 H7 → ∃ m, m < n ∧ ∃ i σ' H', Inv X pins σ' H' s7 ∧ tn i s7.heap ∧ (∀ b ∈ fp, H' b = none) ∧ W i m σ' H' := fun {σ7 H7} I7 n7 => by
      obtain ⟨m', hm, w7⟩ := hN σ7 H7 n7
      refine ⟨m', hm, i + 1, σ7, H7, I7.unpinned, T.keep _ _ _ st5 fun b hb o e => (I7.pin (b, o) (List.mem_append_right _ (List.mem_append_right _ (mem_pinsAt hb e)))).1, fun b hb => ?_, w7⟩
      obtain ⟨o, e, d⟩ := T.obj _ _ st5 b hb
      exact (I7.pin (b, o) (List.mem_append_right _ (List.mem_append_right _ (mem_pinsAt hb e)))).2.1
    cases f with
    | next => obtain ⟨σ7, H7, I7, n7⟩ := q7; exact again I7 n7
    | cont => obtain ⟨σ7, H7, I7, n7⟩ := q7; exact again I7 n7
    | brk => obtain ⟨σ7, H7, I7, q7⟩ := q7; exact ⟨σ7, H7, I7.unpinned, q7⟩
    | ret v => obtain ⟨x7, σ7, H7, I7, r7, q7⟩ := q7; exact ⟨x7, σ7, H7, I7.unpinned, r7, q7⟩
end

/-! ### the forms one uses -/
/-- over a list that the body leaves as it is -/
theorem for_list {K : PySem.W.Frag} {a : Addr} {xs : List V} {g : TG} {tb : TS} {D : Ends} {σ : St} {H : Hp} (Pv : Nat → St → Hp → Prop) (h0 : Pv 0 σ H) (hl : ∀ i σ H, i ≤ xs.length → Pv i σ H → SqL K H a xs)
    (hs : ∀ i x σ H, xs[i]? = some x → Pv i σ H → g x σ H fun σ2 H2 => tb { D with nx := Pv (i + 1), ct := Pv (i + 1), bk := D.nx } σ2 H2) (hd : ∀ σ H, Pv xs.length σ H → D.nx σ H) :
    ∃ W : Nat → Nat → St → Hp → Prop, (∃ m, W 0 m σ H) ∧ ∀ i m σ H, W i m σ H →
      ((Itl K a).stop i H ∧ D.nx σ H) ∨ ((Itl K a).go i H ∧ ∃ N : St → Hp → Prop, (∀ σ' H', N σ' H' → ∃ m', m' < m ∧ W (i + 1) m' σ' H') ∧ ∀ x H', (Itl K a).yld i H x H' → g x σ H' fun σ2 H2 => tb { D with nx := N, ct := N, bk := D.nx } σ2 H2) := by
  refine ⟨fun i m σ H => m = xs.length - i ∧ i ≤ xs.length ∧ Pv i σ H, ⟨xs.length, by simp, Nat.zero_le _, h0⟩, ?_⟩
  rintro i m σ H ⟨rfl, hi, p⟩
  have q := hl i σ H hi p
  by_cases hlt : i < xs.length
  · refine .inr ⟨⟨xs, xs[i], q, by simp [hlt]⟩, Pv (i + 1), fun σ' H' p' => ⟨xs.length - (i + 1), by (first | lia | omega), rfl, hlt, p'⟩, fun x H' y => ?_⟩
    obtain ⟨e, y⟩ := y
    subst e
    exact hs i x σ _ (y xs q) p
  · have e : i = xs.length := by (first | lia | omega)
    subst e
    exact .inl ⟨⟨xs, q, Nat.le_refl _⟩, hd σ H p⟩
theorem for_range {lo : Int} {n : Nat} {g : TG} {tb : TS} {D : Ends} {σ : St} {H : Hp} (Pv : Nat → St → Hp → Prop) (h0 : Pv 0 σ H)
    (hs : ∀ i σ H, i < n → Pv i σ H → g (.int (lo + i)) σ H fun σ2 H2 => tb { D with nx := Pv (i + 1), ct := Pv (i + 1), bk := D.nx } σ2 H2) (hd : ∀ σ H, Pv n σ H → D.nx σ H) :
    ∃ W : Nat → Nat → St → Hp → Prop, (∃ m, W 0 m σ H) ∧ ∀ i m σ H, W i m σ H →
      ((Itr lo n).stop i H ∧ D.nx σ H) ∨ ((Itr lo n).go i H ∧ ∃ N : St → Hp → Prop, (∀ σ' H', N σ' H' → ∃ m', m' < m ∧ W (i + 1) m' σ' H') ∧ ∀ x H', (Itr lo n).yld i H x H' → g x σ H' fun σ2 H2 => tb { D with nx := N, ct := N, bk := D.nx } σ2 H2) := by
  refine ⟨fun i m σ H => m = n - i ∧ i ≤ n ∧ Pv i σ H, ⟨n, by simp, Nat.zero_le _, h0⟩, ?_⟩
  rintro i m σ H ⟨rfl, hi, p⟩
  by_cases hlt : i < n
  · refine .inr ⟨hlt, Pv (i + 1), fun σ' H' p' => ⟨n - (i + 1), by (first | lia | omega), rfl, hlt, p'⟩, fun x H' y => ?_⟩
    obtain ⟨e, y⟩ := y
    subst e y
    exact hs i σ _ hlt p
  · have e : i = n := by (first | lia | omega)
    subst e
    exact .inl ⟨Nat.le_refl _, hd σ H p⟩
end L2

namespace L2
open PySem PySem.Spec PyProof.Rows

abbrev R2 := V → V → Hp → VK → Prop
/-- a two-place operation on values: f is binaryOp op, inplaceOp op or compareOp op -/
def OpR (X : Cx) (f : Value → Value → Sem Value) (r : R2) : Prop :=
  ∀ (pins : List (Addr × Obj)) (s : Shared) (σ : St) (H : Hp) (x y : V) (v u : Value) (Q : VK), Inv X pins σ H s → RelV x v → RelV y u → r x y H Q →
    wpAny (model X.prog X.w) X.A (f v u) (EP X pins σ Q) X.xe s
/-- a one-place operation -/
def UnR (X : Cx) (f : Value → Sem Value) (r : V → Hp → VK → Prop) : Prop :=
  ∀ (pins : List (Addr × Obj)) (s : Shared) (σ : St) (H : Hp) (x : V) (v : Value) (Q : VK), Inv X pins σ H s → RelV x v → r x H Q →
    wpAny (model X.prog X.w) X.A (f v) (EP X pins σ Q) X.xe s
/-- a call of a value that is known (a builtin, a type) with values -/
def CallR (X : Cx) (f : Value) (r : List V → Hp → VK → Prop) : Prop :=
  ∀ (pins : List (Addr × Obj)) (s : Shared) (σ : St) (H : Hp) (xs : List V) (us : List Value) (Q : VK), Inv X pins σ H s → Vals xs us → r xs H Q →
    wpAny (model X.prog X.w) X.A (call f us) (EP X pins σ Q) X.xe s
/-- a value's truth -/
def TruR (X : Cx) (r : V → Hp → (Bool → Hp → Prop) → Prop) : Prop :=
  ∀ (pins : List (Addr × Obj)) (s : Shared) (σ : St) (H : Hp) (x : V) (v : Value) (Q : Bool → Hp → Prop), Inv X pins σ H s → RelV x v → r x H Q →
    wpAny (model X.prog X.w) X.A (truthy v) (TP X pins σ Q) X.xe s

def tOp (r : R2) (ta tb : TE) : TE := fun σ H Q => ta σ H fun x H1 => tb σ H1 fun y H2 => r x y H2 Q
def tUn (r : V → Hp → VK → Prop) (ta : TE) : TE := fun σ H Q => ta σ H fun x H1 => r x H1 Q
/-- ints in, under C, and a value out -/
def rI (C : Int → Int → Prop) (g : Int → Int → V) : R2 := fun x y H Q => ∃ i j, x = .int i ∧ y = .int j ∧ C i j ∧ Q (g i j) H
def rI0 (g : Int → Int → V) : R2 := fun x y H Q => ∃ i j, x = .int i ∧ y = .int j ∧ Q (g i j) H
def rU (g : Int → V) : V → Hp → VK → Prop := fun x H Q => ∃ i, x = .int i ∧ Q (g i) H

section
variable {X : Cx} {a b c : Expr} {ta tb tc : TE} {pos : Pos}

theorem binT (ha : PE X a ta) (hb : PE X b tb) {pins : List (Addr × Obj)} {s : Shared} {σ : St} {H : Hp} {R : V → V → Hp → Prop} (I : Inv X pins σ H s)
    (h : ta σ H fun x H1 => tb σ H1 fun y H2 => R x y H2) {Q : Value → Shared → Prop} {f : Value → Value → Sem Value}
    (hf : ∀ v u s2 x y H2, Inv X pins σ H2 s2 → RelV x v → RelV y u → R x y H2 → wpAny (model X.prog X.w) X.A (f v u) Q X.xe s2) :
    wpAny (model X.prog X.w) X.A (eval a X.env) (fun v s₁ => wpAny (model X.prog X.w) X.A (eval b X.env) (fun u s₂ => wpAny (model X.prog X.w) X.A (f v u) Q X.xe s₂) X.xe s₁) X.xe s := by
  refine thn (ha pins s σ H _ I h) fun v s1 ⟨x, H1, I1, r1, q1⟩ => ?_
  refine thn (hb pins s1 σ H1 _ I1 q1) fun u s2 ⟨y, H2, I2, r2, q2⟩ => ?_
  exact hf v u s2 x y H2 I2 r1 r2 q2

theorem pe_op {op : Operator} {r : R2} (ho : OpR X (binaryOp op) r) (ha : PE X a ta) (hb : PE X b tb) : PE X (.BinOp a op b pos) (tOp r ta tb) := by
  intro pins s σ H Q I h
  exact wpAny_BinOp (binT ha hb I h fun v u s2 x y H2 I2 rx ry q => ho pins s2 σ H2 x y v u Q I2 rx ry q)
theorem pe_un {op : UnaryOp} {r : V → Hp → VK → Prop} (ho : UnR X (unaryOp op) r) (ha : PE X a ta) : PE X (.UnaryOp op a pos) (tUn r ta) := by
  intro pins s σ H Q I h
  exact UnaryOp_ (thn (ha pins s σ H _ I h) fun v s1 ⟨x, H1, I1, r1, q1⟩ => ho pins s1 σ H1 x v Q I1 r1 q1)
/-! ### ints -/
theorem opI {f : Value → Value → Sem Value} {C : Int → Int → Prop} {g : Int → Int → Int}
    (rule : ∀ (i j : Int) (t u : Tok) (s : Shared) (Q : Value → Shared → Prop) (E : Value → Shared → Prop), C i j → Q (.int (g i j) s.toks) { s with toks := s.toks + 1 } → wpAny (model X.prog X.w) X.A (f (.int i t) (.int j u)) Q E s) :
    OpR X f (rI C fun i j => .int (g i j)) := by
  intro pins s σ H x y v u Q I rx ry h
  obtain ⟨i, j, rfl, rfl, hc, q⟩ := h
  obtain ⟨t, rfl⟩ := rx
  obtain ⟨t', rfl⟩ := ry
  exact rule i j t t' s _ _ hc ⟨.int (g i j), H, I.tok _, ⟨_, rfl⟩, q⟩
theorem opI0 {f : Value → Value → Sem Value} {g : Int → Int → Int}
    (rule : ∀ (i j : Int) (t u : Tok) (s : Shared) (Q : Value → Shared → Prop) (E : Value → Shared → Prop), Q (.int (g i j) s.toks) { s with toks := s.toks + 1 } → wpAny (model X.prog X.w) X.A (f (.int i t) (.int j u)) Q E s) :
    OpR X f (rI0 fun i j => .int (g i j)) := by
  intro pins s σ H x y v u Q I rx ry h
  obtain ⟨i, j, rfl, rfl, q⟩ := h
  obtain ⟨t, rfl⟩ := rx
  obtain ⟨t', rfl⟩ := ry
  exact rule i j t t' s _ _ ⟨.int (g i j), H, I.tok _, ⟨_, rfl⟩, q⟩
theorem opB0 {f : Value → Value → Sem Value} {g : Int → Int → Bool}
    (rule : ∀ (i j : Int) (t u : Tok) (s : Shared) (Q : Value → Shared → Prop) (E : Value → Shared → Prop), Q (.bool (g i j)) s → wpAny (model X.prog X.w) X.A (f (.int i t) (.int j u)) Q E s) :
    OpR X f (rI0 fun i j => .bl (g i j)) := by
  intro pins s σ H x y v u Q I rx ry h
  obtain ⟨i, j, rfl, rfl, q⟩ := h
  obtain ⟨t, rfl⟩ := rx
  obtain ⟨t', rfl⟩ := ry
  exact rule i j t t' s _ _ ⟨.bl (g i j), H, I, rfl, q⟩

def CDiv (i j : Int) : Prop := 0 < j ∧ j < 1073741824
def CDivN (i j : Int) : Prop := j ≠ 0 ∧ j.natAbs < 1073741824
def CPow (i j : Int) : Prop := 0 ≤ j ∧ j ≤ 1000000 ∧ i.natAbs < 2 ^ 64
def CMul (i j : Int) : Prop := (-(2 ^ 64) < i ∧ i < 2 ^ 64) ∨ (-(2 ^ 64) < j ∧ j < 2 ^ 64)
theorem CMul.ok {i j : Int} (h : CMul i j) : IntMulOk i j := by
  rcases h with ⟨h1, h2⟩ | ⟨h1, h2⟩
  · exact .of_left (intBits_le_64 h1 h2)
  · exact .of_right (intBits_le_64 h1 h2)
theorem op_add : OpR X (binaryOp .Add) (rI0 fun i j => .int (i + j)) := opI0 fun _ _ _ _ _ _ _ q => add_int q
theorem op_sub : OpR X (binaryOp .Sub) (rI0 fun i j => .int (i - j)) := opI0 fun _ _ _ _ _ _ _ q => sub_int q
theorem op_mul : OpR X (binaryOp .Mult) (rI CMul fun i j => .int (i * j)) := opI fun _ _ _ _ _ _ _ hc q => mul_int q hc.ok
/-- // by a positive divisor -/
theorem op_fdiv : OpR X (binaryOp .FloorDiv) (rI CDiv fun i j => .int (i / j)) := opI fun i j _ _ _ _ _ hc q => by
  have h1 : (0 : Int) < j := hc.1
  have h2 : j < 1073741824 := hc.2
  exact floordiv_int (by (first | lia | omega)) (by rw [Int.fdiv_eq_ediv_of_nonneg i (by (first | lia | omega))]; exact q) (.inl (PyProof.noPylong_small (by (first | lia | omega))))
/-- % by a positive divisor of any size -/
theorem op_mod : OpR X (binaryOp .Mod) (rI (fun _ j => 0 < j) fun i j => .int (i % j)) := opI fun i j _ _ _ _ _ hc q => by
  have h1 : (0 : Int) < j := hc
  exact mod_int' (by (first | lia | omega)) (by rw [Int.fmod_eq_emod_of_nonneg i (by (first | lia | omega))]; exact q)
theorem op_pow : OpR X (binaryOp .Pow) (rI CPow fun i j => .int (i ^ j.toNat)) := opI fun _ _ _ _ _ _ _ hc q => pow_int_small hc.1 hc.2.1 hc.2.2 q
theorem unI {f : Value → Sem Value} {g : Int → Int}
    (rule : ∀ (i : Int) (t : Tok) (s : Shared) (Q : Value → Shared → Prop) (E : Value → Shared → Prop), Q (.int (g i) s.toks) { s with toks := s.toks + 1 } → wpAny (model X.prog X.w) X.A (f (.int i t)) Q E s) :
    UnR X f (rU fun i => .int (g i)) := by
  intro pins s σ H x v Q I rx h
  obtain ⟨i, rfl, q⟩ := h
  obtain ⟨t, rfl⟩ := rx
  exact rule i t s _ _ ⟨.int (g i), H, I.tok _, ⟨_, rfl⟩, q⟩
theorem un_neg : UnR X (unaryOp .USub) (rU fun i => .int (-i)) := unI fun _ _ _ _ _ q => neg_int q
/-! ### bools among ints: n += (a < b) -/
end

/-! ### comparisons -/
/-- the scalars that == tells apart as data does -/
def scal : V → V → Bool
  | .non, .non => true | .non, .int _ => true | .int _, .non => true | .non, .bl _ => true | .bl _, .non => true | .non, .str _ => true | .str _, .non => true
  | .int _, .int _ => true | .bl _, .bl _ => true | .str _, .str _ => true | .byt _, .byt _ => true
  | .int _, .str _ => true | .str _, .int _ => true | .bl _, .str _ => true | .str _, .bl _ => true
  | _, _ => false
def rEq : R2 := fun x y H Q => scal x y = true ∧ Q (.bl (decide (x = y))) H
def rNe : R2 := fun x y H Q => scal x y = true ∧ Q (.bl (!decide (x = y))) H

theorem dec_int {i j : Int} : decide (V.int i = V.int j) = (i == j) := by
  rw [Bool.eq_iff_iff]
  simp
theorem dec_bl {i j : Bool} : decide (V.bl i = V.bl j) = (i == j) := by
  rw [Bool.eq_iff_iff]
  simp
theorem dec_str {i j : Str} : decide (V.str i = V.str j) = (i == j) := by
  rw [Bool.eq_iff_iff]
  simp
theorem dec_byt {i j : Array UInt8} : decide (V.byt i = V.byt j) = (i.toList == j.toList) := by
  rw [Bool.eq_iff_iff]
  cases i
  cases j
  simp

section
variable {X : Cx} {a b c : Expr} {ta tb tc : TE} {pos : Pos}
theorem fin_bl {pins : List (Addr × Obj)} {σ : St} {H : Hp} {s : Shared} {Q : VK} {k k' : Bool} (I : Inv X pins σ H s) (q : Q (.bl k) H) (e : k = k') : EP X pins σ Q (.bool k') s := by
  subst e
  exact ⟨.bl k, H, I, rfl, q⟩
theorem op_eq : OpR X (compareOp .Eq) rEq := by
  intro pins s σ H x y v u Q I rx ry h
  obtain ⟨hs, q⟩ := h
  cases x with
  | non =>
    cases rx
    cases y with
    | non => cases ry; exact PySem.EqNone.eq_none_none (fin_bl I q (by simp))
    | bl j => cases ry; exact PySem.EqNone.eq_none_bool (fin_bl I q (by simp))
    | int j => obtain ⟨t', rfl⟩ := ry; exact PySem.EqNone.eq_none_int (fin_bl I q (by simp))
    | str j => obtain ⟨t', rfl⟩ := ry; exact PySem.EqNone.eq_none_str (fin_bl I q (by simp))
    | _ => exact absurd (show false = true from hs) Bool.false_ne_true
  | bl i =>
    cases rx
    cases y with
    | non => cases ry; exact PySem.EqNone.eq_bool_none (fin_bl I q (by simp))
    | bl j => cases ry; exact eq_bool (fin_bl I q dec_bl)
    | str j => obtain ⟨t', rfl⟩ := ry; exact PySem.EqMixed.eq_bool_str (fin_bl I q (by simp))
    | _ => exact absurd (show false = true from hs) Bool.false_ne_true
  | int i =>
    obtain ⟨t, rfl⟩ := rx
    cases y with
    | non => cases ry; exact PySem.EqNone.eq_int_none (fin_bl I q (by simp))
    | int j => obtain ⟨t', rfl⟩ := ry; exact eq_int (fin_bl I q dec_int)
    | str j => obtain ⟨t', rfl⟩ := ry; exact PySem.EqMixed.eq_int_str (fin_bl I q (by simp))
    | _ => exact absurd (show false = true from hs) Bool.false_ne_true
  | str i =>
    obtain ⟨t, rfl⟩ := rx
    cases y with
    | non => cases ry; exact PySem.EqNone.eq_str_none (fin_bl I q (by simp))
    | bl j => cases ry; exact PySem.EqMixed.eq_str_bool (fin_bl I q (by simp))
    | int j => obtain ⟨t', rfl⟩ := ry; exact PySem.EqMixed.eq_str_int (fin_bl I q (by simp))
    | str j => obtain ⟨t', rfl⟩ := ry; exact eq_str (fin_bl I q dec_str)
    | _ => exact absurd (show false = true from hs) Bool.false_ne_true
  | byt i =>
    obtain ⟨t, rfl⟩ := rx
    cases y with
    | byt j => obtain ⟨t', rfl⟩ := ry; exact PySem.W.eq_bytes (fin_bl I q dec_byt)
    | _ => exact absurd (show false = true from hs) Bool.false_ne_true
  | _ => cases y <;> exact absurd (show false = true from hs) Bool.false_ne_true
theorem op_ne : OpR X (compareOp .NotEq) rNe := by
  intro pins s σ H x y v u Q I rx ry h
  obtain ⟨hs, q⟩ := h
  cases x with
  | non =>
    cases rx
    cases y with
    | non => cases ry; exact PySem.EqNone.ne_none_none (fin_bl I q (by simp))
    | bl j => cases ry; exact PySem.EqNone.ne_none_bool (fin_bl I q (by simp))
    | int j => obtain ⟨t', rfl⟩ := ry; exact PySem.EqNone.ne_none_int (fin_bl I q (by simp))
    | str j => obtain ⟨t', rfl⟩ := ry; exact PySem.EqNone.ne_none_str (fin_bl I q (by simp))
    | _ => exact absurd (show false = true from hs) Bool.false_ne_true
  | bl i =>
    cases rx
    cases y with
    | non => cases ry; exact PySem.EqNone.ne_bool_none (fin_bl I q (by simp))
    | bl j => cases ry; exact ne_bool (fin_bl I q (congrArg not dec_bl))
    | str j => obtain ⟨t', rfl⟩ := ry; exact PySem.EqMixed.ne_bool_str (fin_bl I q (by simp))
    | _ => exact absurd (show false = true from hs) Bool.false_ne_true
  | int i =>
    obtain ⟨t, rfl⟩ := rx
    cases y with
    | non => cases ry; exact PySem.EqNone.ne_int_none (fin_bl I q (by simp))
    | int j => obtain ⟨t', rfl⟩ := ry; exact ne_int (fin_bl I q (congrArg not dec_int))
    | str j => obtain ⟨t', rfl⟩ := ry; exact PySem.EqMixed.ne_int_str (fin_bl I q (by simp))
    | _ => exact absurd (show false = true from hs) Bool.false_ne_true
  | str i =>
    obtain ⟨t, rfl⟩ := rx
    cases y with
    | non => cases ry; exact PySem.EqNone.ne_str_none (fin_bl I q (by simp))
    | bl j => cases ry; exact PySem.EqMixed.ne_str_bool (fin_bl I q (by simp))
    | int j => obtain ⟨t', rfl⟩ := ry; exact PySem.EqMixed.ne_str_int (fin_bl I q (by simp))
    | str j => obtain ⟨t', rfl⟩ := ry; exact ne_str (fin_bl I q (congrArg not dec_str))
    | _ => exact absurd (show false = true from hs) Bool.false_ne_true
  | byt i =>
    obtain ⟨t, rfl⟩ := rx
    cases y with
    | byt j => obtain ⟨t', rfl⟩ := ry; exact PySem.W.ne_bytes (fin_bl I q (congrArg not dec_byt))
    | _ => exact absurd (show false = true from hs) Bool.false_ne_true
  | _ => cases y <;> exact absurd (show false = true from hs) Bool.false_ne_true

theorem op_lt : OpR X (compareOp .Lt) (rI0 fun i j => .bl (decide (i < j))) := opB0 fun _ _ _ _ _ _ _ q => lt_int q
theorem op_gt : OpR X (compareOp .Gt) (rI0 fun i j => .bl (decide (j < i))) := opB0 fun _ _ _ _ _ _ _ q => gt_int q
theorem op_ge : OpR X (compareOp .GtE) (rI0 fun i j => .bl (decide (j ≤ i))) := opB0 fun _ _ _ _ _ _ _ q => ge_int q
/-- is None, is not None: the right side a value none -/
theorem op_isN : OpR X (compareOp .Is) (fun x y H Q => y = .non ∧ Q (.bl (decide (x = .non))) H) := by
  intro pins s σ H x y v u Q I rx ry h
  obtain ⟨rfl, q⟩ := h
  cases ry
  refine is_none_gen (fin_bl I q ?_)
  cases x <;> first
    | (cases rx; rfl)
    | (obtain ⟨t, rfl⟩ := rx; rfl)
theorem op_notN : OpR X (compareOp .IsNot) (fun x y H Q => y = .non ∧ Q (.bl (!decide (x = .non))) H) := by
  intro pins s σ H x y v u Q I rx ry h
  obtain ⟨rfl, q⟩ := h
  cases ry
  refine isnot_none_gen (fin_bl I q ?_)
  cases x <;> first
    | (cases rx; rfl)
    | (obtain ⟨t, rfl⟩ := rx; rfl)

/-- is, is not of two objects that are tracked lists or instances -/
def isObj : HO → Bool
  | .lst _ => true
  | .ins _ _ _ => true
  | _ => false
theorem nomark (b : Expr) {op : CmpOp} (h : op ≠ .In := by decide) (h2 : op ≠ .NotIn := by decide) : behindInMarks op b = false := by
  have e1 : (op == CmpOp.In) = false := by cases op <;> first | rfl | exact absurd rfl h
  have e2 : (op == CmpOp.NotIn) = false := by cases op <;> first | rfl | exact absurd rfl h2
  cases b <;> simp [behindInMarks, e1, e2]
/-- a comparison as a value; hm: nomark b, or (for in, not in) by with_unfolding_all rfl -/
theorem pe_cmpR {op : CmpOp} {r : R2} (ho : OpR X (compareOp op) r) (ha : PE X a ta) (hb : PE X b tb) (hm : behindInMarks op b = false) : PE X (.Compare a [op] [b] pos) (tOp r ta tb) := by
  intro pins s σ H Q I h
  exact wpAny_Compare1 (binT ha hb I h fun v u s2 x y H2 I2 rx ry q => ho pins s2 σ H2 x y v u Q I2 rx ry q) hm
/-- a reading of a value as a test -/
def tTest (t : TE) : TT := fun σ H Q => t σ H fun x H' => ∃ k, x = .bl k ∧ Q k H'
theorem pt_cmpR {op : CmpOp} {r : R2} (ho : OpR X (compareOp op) r) (ha : PE X a ta) (hb : PE X b tb) (hm : behindInMarks op b = false) : PT X (.Compare a [op] [b] pos) (tTest (tOp r ta tb)) := by
  intro pins s σ H Q I h
  refine wpAny_isTrue_Compare1 (thn (ha pins s σ H _ I h) fun v s1 ⟨x, H1, I1, r1, q1⟩ => thn (hb pins s1 σ H1 _ I1 q1) fun u s2 ⟨y, H2, I2, r2, q2⟩ =>
    thn (ho pins s2 σ H2 x y v u _ I2 r1 r2 q2) fun c s3 ⟨z, H3, I3, r3, k, e, q3⟩ => ?_) hm
  subst e
  cases r3
  exact wpAny_truthy_bool ⟨H3, I3, q3⟩
/-- a op1 b op2 c -/
def tChain (r r' : R2) (ta tb tc : TE) : TE := fun σ H Q => ta σ H fun x H1 => tb σ H1 fun y H2 => r x y H2 fun z H3 => ∃ k, z = .bl k ∧
  (if k = true then tc σ H3 fun w' H4 => r' y w' H4 Q else Q (.bl false) H3)
/-! ### truth -/
/-- a value's truth by the abstract heap -/
def TruV (K : PySem.W.Frag) (x : V) (H : Hp) (k : Bool) : Prop :=
  match x with
  | .non => k = false
  | .bl b => k = b
  | .int i => k = (i != 0)
  | .str y => y.length ≤ sizeLine ∧ k = ((y.length : Int) != 0)
  | .byt y => y.size ≤ sizeLine ∧ k = ((y.size : Int) != 0)
  | .ref p => (∃ xs, SqL K H p xs ∧ k = !xs.isEmpty) ∨ (∃ xs, SqT K H p xs ∧ k = !xs.isEmpty) ∨ ∃ kvs, H p = some (.dK kvs) ∧ k = !kvs.isEmpty
  | _ => False
theorem line63 : (sizeLine : Nat) < 2 ^ 63 := by rw [sizeLine_eq]; decide
/-! ### strs and bytes -/
def PlainIxT (b : Expr) : Prop := ∀ o i, subscripted b false o i = operate [o, i] (getItem o i)
/-! ### scalar builtins, by CallR -/
theorem vals1 {x : V} {us : List Value} (r : Vals [x] us) : ∃ u, us = [u] ∧ RelV x u := by
  cases r with
  | cons r1 r2 => cases r2; exact ⟨_, rfl, r1⟩
theorem vals2 {x y : V} {us : List Value} (r : Vals [x, y] us) : ∃ u w', us = [u, w'] ∧ RelV x u ∧ RelV y w' := by
  cases r with
  | cons r1 r2 =>
    cases r2 with
    | cons r3 r4 => cases r4; exact ⟨_, _, rfl, r1, r3⟩
theorem call_abs : CallR X (.builtin "abs") (fun xs H Q => ∃ i, xs = [.int i] ∧ Q (.int (if i < 0 then -i else i)) H) := by
  intro pins s σ H xs us Q I r h
  obtain ⟨i, rfl, q⟩ := h
  obtain ⟨u, rfl, t, rfl⟩ := vals1 r
  exact call_abs_int fun u tk => ⟨.int (if i < 0 then -i else i), H, I.tok _, ⟨_, rfl⟩, q⟩
theorem call_max2 (hc : X.calm = true) : CallR X (.builtin "max") (fun xs H Q => ∃ i j, xs = [.int i, .int j] ∧ Q (.int (if j > i then j else i)) H) := by
  intro pins s σ H xs us Q I r h
  obtain ⟨i, j, rfl, q⟩ := h
  obtain ⟨u, w', rfl, ⟨t, rfl⟩, ⟨t', rfl⟩⟩ := vals2 r
  refine max_two_ints (I.ok.hd hc) fun h' tk k => ⟨_, H, I.kept k, ?_, q⟩
  by_cases hj : j > i
  · rw [if_pos hj, if_pos hj]; exact ⟨_, rfl⟩
  · rw [if_neg hj, if_neg hj]; exact ⟨_, rfl⟩
theorem call_min2 (hc : X.calm = true) : CallR X (.builtin "min") (fun xs H Q => ∃ i j, xs = [.int i, .int j] ∧ Q (.int (if j < i then j else i)) H) := by
  intro pins s σ H xs us Q I r h
  obtain ⟨i, j, rfl, q⟩ := h
  obtain ⟨u, w', rfl, ⟨t, rfl⟩, ⟨t', rfl⟩⟩ := vals2 r
  refine min_two_ints (I.ok.hd hc) fun h' tk k => ⟨_, H, I.kept k, ?_, q⟩
  by_cases hj : j < i
  · rw [if_pos hj, if_pos hj]; exact ⟨_, rfl⟩
  · rw [if_neg hj, if_neg hj]; exact ⟨_, rfl⟩
theorem call_int1 : CallR X (.type "int") (fun xs H Q => (∃ i, xs = [.int i] ∧ Q (.int i) H) ∨ ∃ k, xs = [.bl k] ∧ Q (.int (if k then 1 else 0)) H) := by
  intro pins s σ H xs us Q I r h
  rcases h with ⟨i, rfl, q⟩ | ⟨k, rfl, q⟩
  · obtain ⟨u, rfl, t, rfl⟩ := vals1 r
    exact call_int_int ⟨.int i, H, I, ⟨_, rfl⟩, q⟩
  · obtain ⟨u, rfl, r1⟩ := vals1 r
    cases r1
    exact call_int_bool ⟨.int (if k then 1 else 0), H, I.tok _, ⟨_, rfl⟩, q⟩
/-- len of a str, a bytes, a list, a tuple -/
def LenV (K : PySem.W.Frag) (x : V) (H : Hp) (n : Nat) : Prop :=
  match x with
  | .str y => y.length ≤ sizeLine ∧ n = y.length
  | .byt y => y.size ≤ sizeLine ∧ n = y.size
  | .ref p => (∃ xs, SqL K H p xs ∧ n = xs.length) ∨ ∃ xs, SqT K H p xs ∧ n = xs.length
  | _ => False
end
end L2

namespace L2
open PySem PySem.Spec PyProof.Rows

/-! ### an instance, its attributes a map -/
structure ObjM (h : Heap) (x dx C : Addr) (mA : Str → Option Value) : Prop where
  obj : h.get? x = some (PySem.W.instObj C dx)
  ns : h.Ns1 dx mA
  ne : dx ≠ x

section
variable {prog : Program} {w : World} {A : Around} {E : Value → Shared → Prop} {s : Shared} {K : PySem.W.Frag} {x dx C f : Addr} {mA : Str → Option Value} {name : Str} {v : Value}

end

/-! ### the attributes as a list of pairs -/
def putF (f : Str) (v : V) : List (Str × V) → List (Str × V)
  | [] => [(f, v)]
  | (g, x) :: r => if g = f then (g, v) :: r else (g, x) :: putF f v r
theorem RelO.some_of {v : V} {o : Option Value} (r : RelO (some v) o) : ∃ u, o = some u ∧ RelV v u := by
  cases o with
  | none => exact (show False from r).elim
  | some u => exact ⟨u, rfl, r⟩
section
variable {P : Program} {w : World} {H H' : Hp} {h h' : Heap} {a C dx : Addr} {fs fs' : List (Str × V)}
end

/-! ### what of the text a class must have -/
structure Cls (K : PySem.W.Frag) (C : Addr) : Prop where
  pg : PySem.W.plainGet K C Str.empty = true
  hd : PySem.W.hasDictIn K C = true
  po : PySem.W.plainOver K C = true
  sa : PySem.W.findIn K (.ref C) "__setattr__" = some (some (.builtin "object.__setattr__"))
/-- no class of it has the name -/
def NoAttr (K : PySem.W.Frag) (C : Addr) (f : Str) : Prop := PySem.W.findIn K (.ref C) f = some none
/-- a constant of the class -/
structure Con (K : PySem.W.Frag) (C : Addr) (f : Str) (v : V) (u : Value) : Prop where
  at_ : PySem.W.findIn K (.ref C) f = some (some u)
  rel : RelV v u
  get : PySem.W.specialIn K u "__get__" = some none
  cp : PySem.W.copiedNames.contains f = false
/-- a method: a plain def of the class or of one above it -/
structure Meth (K : PySem.W.Frag) (C : Addr) (m : Str) (f : Addr) : Prop where
  at_ : PySem.W.findIn K (.ref C) m = some (some (.ref f))
  fn : PySem.W.isFn K (.ref f) = true
  kp : PySem.W.keepIn K (.ref f) = true

section
variable {X : Cx} {pins : List (Addr × Obj)} {σ : St} {H : Hp} {s : Shared} {a C dx : Addr} {fs : List (Str × V)} {f : Str} {v : V} {A : Around} {E : Value → Shared → Prop}

end

/-! ### readings and rules -/
/-- e.f, an attribute of the instance -/
def tFld (K : PySem.W.Frag) (ta : TE) (f : Str) : TE := fun σ H Q => ta σ H fun x H1 => ∃ a C dx fs v, x = .ref a ∧ H1 a = some (.ins C dx fs) ∧ Cls K C ∧ NoAttr K C f ∧ fs.lookup f = some v ∧ Q v H1
/-- e.f, a constant of the class -/
def tCon (K : PySem.W.Frag) (ta : TE) (f : Str) : TE := fun σ H Q => ta σ H fun x H1 => ∃ a C dx fs v u, x = .ref a ∧ H1 a = some (.ins C dx fs) ∧ Cls K C ∧ Con K C f v u ∧ fs.lookup f = none ∧ Q v H1
/-- e.f = value -/
def sFld (K : PySem.W.Frag) (ta tv : TE) (f : Str) : TS := fun D σ H => tv σ H fun y H1 => ta σ H1 fun x H2 => ∃ a C dx fs, x = .ref a ∧ H2 a = some (.ins C dx fs) ∧ Cls K C ∧ NoAttr K C f ∧ fs.length < 1000 ∧
  D.nx σ (upd H2 a (.ins C dx (putF f y fs)))
/-- an augmented operator on two values -/
def InOp (X : Cx) (op : Operator) (rd : V → V → Hp → VK → Prop) : Prop :=
  ∀ (pins : List (Addr × Obj)) (s : Shared) (σ : St) (H : Hp) (x y : V) (u v : Value) (Q : VK), Inv X pins σ H s → RelV x u → RelV y v → rd x y H Q → wpAny (model X.prog X.w) X.A (inplaceOp op u v) (EP X pins σ Q) X.xe s
/-- e.f op= value -/
def sFldAug (K : PySem.W.Frag) (ta tv : TE) (rd : V → V → Hp → VK → Prop) (f : Str) : TS := fun D σ H => ta σ H fun x H1 => ∃ a C dx fs v, x = .ref a ∧ H1 a = some (.ins C dx fs) ∧ Cls K C ∧ NoAttr K C f ∧ fs.lookup f = some v ∧
  tv σ H1 fun y H2 => rd v y H2 fun z H3 => ∃ dx' fs', H3 a = some (.ins C dx' fs') ∧ fs'.length < 1000 ∧ D.nx σ (upd H3 a (.ins C dx' (putF f z fs')))

section
variable {X : Cx} {o e value : Expr} {f : Str} {pos pos' tpos : Pos} {ta tv : TE}
def rAdd : V → V → Hp → VK → Prop := fun x y H Q => ∃ i j, x = .int i ∧ y = .int j ∧ Q (.int (i + j)) H
def rSub : V → V → Hp → VK → Prop := fun x y H Q => ∃ i j, x = .int i ∧ y = .int j ∧ Q (.int (i - j)) H
end

/-! ### isinstance -/
section
variable {X : Cx} {pins : List (Addr × Obj)} {σ : St} {H : Hp} {s : Shared} {A : Around} {E : Value → Shared → Prop} {Q : Value → Shared → Prop} {c : Value} {b : Bool}
/-- the type of a value, as the fragment's deciders take it; for an instance its class -/
inductive TyOf (K : PySem.W.Frag) (H : Hp) : V → Value → Prop where
  | non : TyOf K H .non (.type "NoneType")
  | bl (x : Bool) : TyOf K H (.bl x) (.type "bool")
  | int (i : Int) : TyOf K H (.int i) (.type "int")
  | str (x : Str) : TyOf K H (.str x) (.type "str")
  | flt (x : UInt64) : TyOf K H (.flt x) (.type "float")
  | lst {a : Addr} {xs : List V} (e : H a = some (.lst xs)) : TyOf K H (.ref a) (.type "list")
  | frz {a : Addr} {o : Obj} {xs : List V} (e : H a = some (.frz o (.lst xs))) : TyOf K H (.ref a) (.type "list")
  | tup {a : Addr} {xs : List V} (e : H a = some (.tup xs)) : TyOf K H (.ref a) (.type "tuple")
  | dK {a : Addr} {kvs : List (Key × V)} (e : H a = some (.dK kvs)) : TyOf K H (.ref a) (.type "dict")
  | dT {a : Addr} {kvs : List (List Key × V)} (e : H a = some (.dT kvs)) : TyOf K H (.ref a) (.type "dict")
  | ins {a C dx : Addr} {fs : List (Str × V)} (e : H a = some (.ins C dx fs)) (cl : Cls K C) (ha : PySem.W.findIn K (.ref C) "__class__" = some (some (.builtin "object.__class__")))
      (hn : PySem.W.specialIn K (.builtin "object.__class__") "__get__" = some (some (.builtin "getset_descriptor.__get__"))) (htk : PySem.W.takesIn K (.builtin "object.__class__") = some true)
      (hm : PySem.W.mroIn K C (.type "object") = some true) : TyOf K H (.ref a) (.ref C)
end
end L2

namespace L2
open PySem PySem.Spec PyProof.Rows

/-! ### room -/
structure Room (k : Nat) (A : Around) : Prop where
  hd : A.handled = none
  dp : A.depth + 3 * k + 5 < recursionLimit
  un : A.units + 16 * k + 200 < cLine
theorem Room.mono {j k : Nat} {A : Around} (r : Room k A) (h : j ≤ k) : Room j A := ⟨r.hd, by have := r.dp; (first | lia | omega), by have := r.un; (first | lia | omega)⟩
theorem Room.deeper {k : Nat} {A : Around} (r : Room (k + 1) A) (env : Env) : Room k (A.deeper env) :=
  ⟨r.hd, by have := r.dp; show A.depth + 1 + 3 * k + 5 < _; (first | lia | omega), by have := r.un; show A.units + 3 + 16 * k + 200 < _; (first | lia | omega)⟩
theorem Room.depth {k : Nat} {A : Around} (r : Room k A) : A.depth < recursionLimit := by have := r.dp; (first | lia | omega)
theorem Room.units {k : Nat} {A : Around} (r : Room k A) : A.units + 64 < cLine := by have := r.un; (first | lia | omega)
/-! ### argument lists and displays -/
def tNil : TA := fun _ H Q => Q [] H
def tCons (ta : TE) (tr : TA) : TA := fun σ H Q => ta σ H fun x H1 => tr σ H1 fun xs H2 => Q (x :: xs) H2
section
variable {X : Cx} {e : Expr} {es : List Expr} {te : TE} {t : TA} {pos : Pos}
theorem pa_nil : PA X [] tNil := fun _ _ _ _ H Q I h => Calls.spliced_nil ⟨[], H, I, .nil, h⟩
theorem pa_cons (ha : PE X e te) (hr : PA X es t) (hs : starEach (e :: es) X.env = (false, eval e X.env) :: starEach es X.env := by rfl) : PA X (e :: es) (tCons te t) := by
  intro pos pins s σ H Q I h
  rw [hs]
  show wpAny _ _ (spliced ((false, eval e X.env) :: backTo pos (starEach es X.env))) _ _ s
  refine Calls.spliced_cons (thn (ha pins s σ H _ I h) fun u s1 ⟨x, H1, I1, r1, q1⟩ => ?_)
  exact thn (hr pos pins s1 σ H1 _ I1 q1) fun us s2 ⟨xs, H2, I2, r2, q2⟩ => ⟨x :: xs, H2, I2, .cons r1 r2, q2⟩

/-- a tuple, a list of written items -/
def tTup (t : TA) : TE := fun σ H Q => t σ H fun xs H1 => xs.length ≤ sizeLine ∧ ∀ p, H1 p = none → Q (.ref p) (upd H1 p (.tup xs))
def tLst (t : TA) : TE := fun σ H Q => t σ H fun xs H1 => xs.length ≤ sizeLine ∧ ∀ p, H1 p = none → Q (.ref p) (upd H1 p (.lst xs))
theorem pe_tup {x1} (h : PA X es t) : PE X (.Tuple es x1 pos) (tTup t) := by
  intro pins s σ H Q I hq
  refine wpAny_Tuple_spliced (thn (h pos pins s σ H _ I hq) fun us s1 ⟨xs, H1, I1, r, z, q⟩ => ⟨by rw [← r.length]; exact z, ?_⟩)
  have hf : H1 s1.heap.objs.size = none := I1.hok.fresh (Nat.le_refl _)
  refine ⟨.ref s1.heap.objs.size, upd H1 s1.heap.objs.size (.tup xs), I1.laid (t' := s1.toks) (fun b u e => Heap.get?_push_of_some _ e) (Nat.le_refl _) ?_, rfl, q _ hf⟩
  exact ⟨z, us, r, ⟨_, Heap.get?_push_size _ rfl, rfl, _, rfl⟩⟩
theorem pe_lst (h : PA X es t) : PE X (.List es pos) (tLst t) := by
  intro pins s σ H Q I hq
  refine wpAny_List_spliced (thn (h pos pins s σ H _ I hq) fun us s1 ⟨xs, H1, I1, r, z, q⟩ => ⟨by rw [← r.length]; exact z, ?_⟩)
  have hf : H1 s1.heap.objs.size = none := I1.hok.fresh (Nat.le_refl _)
  refine ⟨.ref s1.heap.objs.size, upd H1 s1.heap.objs.size (.lst xs), I1.laid (t' := s1.toks) (fun b u e => Heap.get?_push_of_some _ e) (Nat.le_refl _) ?_, rfl, q _ hf⟩
  exact ⟨z, us, 0, r, Heap.get?_push_size _ rfl⟩
end

/-! ### what a def promises -/
/-- a def's promise: the bound arguments in the parameters' order, the heap, the wanted end, the wanted exception -/
abbrev Sp := List V → Hp → VK → XK → Prop
/-- how an exception lies behind a call (file 08 gives it): the callers' frames, abstract heap and state ahead of the call, the wish, the exception, the state -/
abbrev CXT := List Env → Hp → Shared → XK → Value → Shared → Prop

/-- the state at a call -/
structure Env0 (P : Program) (w : World) (K : PySem.W.Frag) (mg : Str → Option Value) (base : Heap) (A : Around) (outer : List Env) (s : Shared) (H : Hp) : Prop where
  frames : A.frames = some outer
  mod : Mod K mg base
  bs : ∀ b o, base.get? b = some o → s.heap.get? b = some o ∧ H b = none
  bsz : base.objs.size ≤ s.heap.objs.size
  funs : s.heap.FunFrames base outer
  frf : ∀ b ∈ frs outer, H b = none
  hok : HOk P w H s.heap
  bare : AllBare s.gens
/-- a call's end -/
def CE (outer : List Env) (P : Program) (w : World) (H : Hp) (s : Shared) (Q : VK) (u : Value) (s' : Shared) : Prop :=
  ∃ v H', s'.os = s.os ∧ AllBare s'.gens ∧ Un (frs outer) [] H H' s.heap s'.heap ∧ HOk P w H' s'.heap ∧ RelV v u ∧ Q v H'
def CR (CX : CXT) (outer : List Env) (P : Program) (w : World) (H : Hp) (s : Shared) (Q : VK) (E : XK) (r : Result) (s' : Shared) : Prop :=
  match r with
  | .ok (.ret u) => CE outer P w H s Q u s'
  | .ok _ => False
  | .error e => CX outer H s E e s'
structure FnOk (P : Program) (w : World) (K : PySem.W.Frag) (mg : Str → Option Value) (base : Heap) (CX : CXT) (k : Nat) (f : Addr) (fd : FuncData) (ps : List Str) (sp : Sp) : Prop where
  len : ∀ vs H Q E, sp vs H Q E → vs.length = ps.length
  run : ∀ (A : Around) (outer : List Env) (s : Shared) (H : Hp) (args : Args) (us : List Value) (vs : List V) (Q : VK) (E : XK), Room k A → Env0 P w K mg base A outer s H → BindsTo s fd args (ps.zip us) → Vals vs us → sp vs H Q E →
    codeAny (model P w) A (.call (.ref f) args) (CR CX outer P w H s Q E) s
theorem FnOk.mono {P : Program} {w : World} {K : PySem.W.Frag} {mg : Str → Option Value} {base : Heap} {CX : CXT} {j k : Nat} {f : Addr} {fd : FuncData} {ps : List Str} {sp : Sp} (F : FnOk P w K mg base CX j f fd ps sp) (h : j ≤ k) :
    FnOk P w K mg base CX k f fd ps sp := ⟨F.len, fun A outer s H args us vs Q E hr => F.run A outer s H args us vs Q E (hr.mono h)⟩
section
variable {X : Cx} {pins : List (Addr × Obj)} {σ : St} {H : Hp} {s s' : Shared}
/-- from a body: what a callee wants -/
theorem Inv.env0 (I : Inv X pins σ H s) : Env0 X.prog X.w X.K X.mg X.base X.A X.stack s H :=
  ⟨I.ok.frames, I.ok.mod, I.bs, Nat.le_trans I.ok.bsz I.sz, I.stack, I.stkFree, I.hok, I.bare⟩
/-- behind a call -/
theorem Inv.after {Q : VK} {u : Value} (I : Inv X pins σ H s) (h : CE X.stack X.prog X.w H s Q u s') : EP X pins σ Q u s' := by
  obtain ⟨v, H', os, bare, un, hok, r, q⟩ := h
  obtain ⟨hh, g, d, t, os'⟩ := s'
  obtain rfl : os' = s.os := os
  exact ⟨v, H', I.call (h' := hh) (g' := g) (d' := d) (t' := t) (ch := []) un hok bare (fun b z => absurd z (by simp)), r, q⟩
end

/-! ### calls -/
/-- f(..): the written arguments, then the defaults dvs; E: what is wanted of an exception -/
def tCall (sp : Sp) (dvs : List V) (E : XK) (t : TA) : TE := fun σ H Q => t σ H fun vs H1 => sp (vs ++ dvs) H1 Q E
/-- o.m(..) of an instance of the class at C -/
def tMeth (C : Addr) (m : Str) (sp : Sp) (dvs : List V) (E : XK) (ta : TE) (t : TA) : TE := fun σ H Q => ta σ H fun x H1 => ∃ a dx fs, x = .ref a ∧ H1 a = some (.ins C dx fs) ∧ fs.lookup m = none ∧
  t σ H1 fun vs H2 => sp (x :: (vs ++ dvs)) H2 Q E
/-- C(..): a new instance and its dict, then __init__ -/
def tMake (C : Addr) (sp : Sp) (dvs : List V) (E : XK) (t : TA) : TE := fun σ H Q => t σ H fun vs H1 => ∀ x dx, H1 x = none → H1 dx = none → dx ≠ x →
  sp (.ref x :: (vs ++ dvs)) (upd (upd H1 dx (.own x)) x (.ins C dx [])) (fun v H2 => v = .non ∧ Q (.ref x) H2) E

/-- how the parameters are bound: us the positional arguments, kw the keywords' values by name, ds the defaults that fill up -/
def Binds (K : PySem.W.Frag) (fd : FuncData) (ps : List Str) (ds : List Value) : Prop :=
  ∀ (s : Shared) (us : List Value), K.In s.heap → (us ++ ds).length = ps.length → BindsTo s fd ⟨us, []⟩ (ps.zip (us ++ ds))
/-- every parameter is given -/
theorem Binds.all {K : PySem.W.Frag} {fd : FuncData} {ps : List Str} (h : ∀ us : List Value, us.length = ps.length → bindArgs fd ⟨us, []⟩ = pure (ps.zip us)) : Binds K fd ps [] := fun s us _ hl => by
  rw [List.append_nil] at hl ⊢
  exact .of_eq (h us hl)

/-- an exception of a callee reaches what this body wants of exceptions -/
def Passes (CX : CXT) (X : Cx) (E : XK) : Prop := ∀ (pins : List (Addr × Obj)) (σ : St) (H : Hp) (s : Shared) (e : Value) (s' : Shared), Inv X pins σ H s → CX X.stack H s E e s' → X.xe e s'

section
variable {X : Cx} {CX : CXT} {k : Nat} {f C : Addr} {fd : FuncData} {ps : List Str} {sp : Sp} {dvs : List V} {ds : List Value} {E : XK} {x m : Str} {p pos apos : Pos} {e o : Expr} {es : List Expr} {ta : TE} {t : TA}

/-- the callee runs -/
theorem run_fn {pins : List (Addr × Obj)} {σ : St} {H : Hp} {s : Shared} {Q : VK} {us : List Value} {vs : List V} (F : FnOk X.prog X.w X.K X.mg X.base CX k f fd ps sp) (hr : Room k X.A) (hb : Binds X.K fd ps ds) (hd : Vals dvs ds) (hx : Passes CX X E)
    (I : Inv X pins σ H s) (r : Vals vs us) (h : sp (vs ++ dvs) H Q E) : wpAny (model X.prog X.w) X.A (call (.ref f) us) (EP X pins σ Q) X.xe s := by
  have r2 : Vals (vs ++ dvs) (us ++ ds) := r.append hd
  have hl : (us ++ ds).length = ps.length := by rw [← r2.length]; exact F.len _ _ _ _ h
  refine wpAny_call (codeAny_mono (F.run X.A X.stack s H ⟨us, []⟩ (us ++ ds) (vs ++ dvs) Q E hr I.env0 (hb s us I.kIn hl) r2 h) fun r s' hq => ?_)
  cases r with
  | error e => exact hx pins σ H s e s' I hq
  | ok fl =>
    cases fl with
    | ret u => exact I.after hq
    | next => exact False.elim hq
    | brk => exact False.elim hq
    | cont => exact False.elim hq

theorem pe_call (F : FnOk X.prog X.w X.K X.mg X.base CX k f fd ps sp) (hr : Room k X.A) (hg : Gl X x) (hm : X.mg x = some (.ref f)) (hk : PySem.W.keepIn X.K (.ref f) = true) (hb : Binds X.K fd ps ds) (hd : Vals dvs ds) (hx : Passes CX X E)
    (ha : PA X (e :: es) t) (hdb : (x == ("__debug__" : Str)) = false := by decide) (he : starEach (e :: es) X.env = (false, eval e X.env) :: starEach es X.env := by rfl) (hpl : (backTo pos (starEach es X.env)).any (·.1) = false := by rfl) :
    PE X (.Call (.Name x p) (e :: es) [] pos) (tCall sp dvs E t) := by
  intro pins s σ H Q I h
  refine wpAny_Call_Name_kw (ld_glob I hg hm ?_ hdb)
  refine PySem.W.callWith_K (h₀ := X.base) I.ok.mod.kin hk (thn (ha pos pins s σ H _ I h) fun us s1 ⟨vs, H1, I1, r, q⟩ => ⟨I1.kIn, ?_⟩) he hpl
  exact run_fn F hr hb hd hx I1 r q
/-- what a class must have to be made -/
structure Mk (K : PySem.W.Frag) (C f : Addr) : Prop where
  makes : PySem.W.makesIn K C = true
  init : PySem.W.findIn K (.ref C) "__init__" = some (some (.ref f))
  fn : PySem.W.isFn K (.ref f) = true
  kp : PySem.W.keepIn K (.ref C) = true

end

/-! ### keywords -/
/-- the values of the keywords, from the left -/
def PK (X : Cx) (kws : List Keyword) (t : TA) : Prop :=
  ∀ (pos : Pos) (pins : List (Addr × Obj)) (s : Shared) (σ : St) (H : Hp) (Q : List V → Hp → Prop), Inv X pins σ H s → t σ H Q → wpAny (model X.prog X.w) X.A (evalAll ((backToKw pos (keywordEach kws X.env)).map (·.2))) (AP X pins σ Q) X.xe s
section
variable {X : Cx} {CX : CXT} {k : Nat} {f C : Addr} {fd : FuncData} {ps ks : List Str} {sp : Sp} {E : XK} {x m : Str} {p pos apos kpos : Pos} {e o : Expr} {es : List Expr} {kws : List Keyword} {te ta : TE} {t tk : TA} {nm : Option Str}
/-- how a call with keywords binds: g puts the positional values us and the keywords' values ws (names ks) in the parameters' order, defaults among them -/
structure KBinds (K : PySem.W.Frag) (fd : FuncData) (ps ks : List Str) (g : List Value → List Value → List Value) (gV : List V → List V → List V) : Prop where
  to : ∀ (s : Shared) (us ws : List Value), K.In s.heap → (g us ws).length = ps.length → BindsTo s fd ⟨us, ks.zip ws⟩ (ps.zip (g us ws))
  rel : ∀ {vs : List V} {us : List Value} {zs : List V} {ws : List Value}, Vals vs us → Vals zs ws → Vals (gV vs zs) (g us ws)
def tCallK (sp : Sp) (gV : List V → List V → List V) (E : XK) (t tk : TA) : TE := fun σ H Q => t σ H fun vs H1 => tk σ H1 fun zs H2 => sp (gV vs zs) H2 Q E
variable {g : List Value → List Value → List Value} {gV : List V → List V → List V}
end

/-! ### a def's body keeps its promise -/
/-- names: the parameters first -/
structure FnScope (N P : List Str) (sc : Scope) : Prop where
  kind : sc.kind = .function
  co : sc.isCoroutine = false
  gen : sc.isGenerator = false
  nd : N.Nodup
  pre : N.take P.length = P
  par : ∀ x ∈ P, sc.names.lookup x = some .local ∨ sc.names.lookup x = some .cell
  nofree : ∀ y ∈ sc.names, y.2 ≠ .free

theorem bindL_out {kindOf : Str → Option NameKind} {x : Str} : ∀ {binds : List (Str × Value)} {m : Str → Option Value}, (∀ v, (x, v) ∉ binds) → bindL kindOf binds m x = m x
  | [], _, _ => rfl
  | (n, v) :: r, m, h => by
    unfold bindL
    rw [bindL_out fun w hw => h w (List.mem_cons_of_mem _ hw)]
    split
    · have : x ≠ n := by rintro rfl; exact h v List.mem_cons_self
      simp [this]
    · rfl
theorem bindC_out {kindOf : Str → Option NameKind} {x : Str} : ∀ {binds : List (Str × Value)} {m : Str → Option Value}, (∀ v, (x, v) ∉ binds) → bindC kindOf binds m x = m x
  | [], _, _ => rfl
  | (n, v) :: r, m, h => by
    unfold bindC
    rw [bindC_out fun w hw => h w (List.mem_cons_of_mem _ hw)]
    split
    · rfl
    · have : x ≠ n := by rintro rfl; exact h v List.mem_cons_self
      simp [this]
theorem bindL_get {kindOf : Str → Option NameKind} {x : Str} {v : Value} : ∀ {P : List Str} {vs : List Value} {i : Nat} {m : Str → Option Value}, P.Nodup → P[i]? = some x → vs[i]? = some v → kindOf x = some .local →
    bindL kindOf (P.zip vs) m x = some v
  | [], _, _, _, _, h, _, _ => by simp at h
  | _ :: _, [], _, _, _, _, h, _ => by simp at h
  | p :: P, w :: vs, 0, m, nd, h1, h2, hk => by
    simp at h1 h2; subst h1; subst h2
    show bindL kindOf ((p, w) :: P.zip vs) m p = _
    unfold bindL
    rw [bindL_out fun v hv => (List.nodup_cons.mp nd).1 (List.of_mem_zip hv).1, if_pos hk]
    simp
  | p :: P, w :: vs, i + 1, m, nd, h1, h2, hk => by
    show bindL kindOf ((p, w) :: P.zip vs) m x = _
    unfold bindL
    exact bindL_get (i := i) (List.nodup_cons.mp nd).2 (by simpa using h1) (by simpa using h2) hk
theorem bindC_get {kindOf : Str → Option NameKind} {x : Str} {v : Value} : ∀ {P : List Str} {vs : List Value} {i : Nat} {m : Str → Option Value}, P.Nodup → P[i]? = some x → vs[i]? = some v → kindOf x ≠ some .local →
    bindC kindOf (P.zip vs) m x = some v
  | [], _, _, _, _, h, _, _ => by simp at h
  | _ :: _, [], _, _, _, _, h, _ => by simp at h
  | p :: P, w :: vs, 0, m, nd, h1, h2, hk => by
    simp at h1 h2; subst h1; subst h2
    show bindC kindOf ((p, w) :: P.zip vs) m p = _
    unfold bindC
    rw [bindC_out fun v hv => (List.nodup_cons.mp nd).1 (List.of_mem_zip hv).1, if_neg hk]
    simp
  | p :: P, w :: vs, i + 1, m, nd, h1, h2, hk => by
    show bindC kindOf ((p, w) :: P.zip vs) m x = _
    unfold bindC
    exact bindC_get (i := i) (List.nodup_cons.mp nd).2 (by simpa using h1) (by simpa using h2) hk

/-- the names' values at the entry -/
def start (N : List Str) (vs : List V) : St := vs.map some ++ List.replicate (N.length - vs.length) none

/-- the context of a def's body, at its entry; an exception leaves the frame, then lies as CX says -/
def cxOf (CX : CXT) (P : Program) (w : World) (K : PySem.W.Frag) (mg : Str → Option Value) (base : Heap) (N : List Str) (qual : Str) (scope : Scope) (f : Addr) (cd : Value) (A : Around) (outer : List Env) (s : Shared) (H : Hp) (E : XK) : Cx where
  prog := P
  w := w
  K := K
  mg := mg
  base := base
  A := A.deeper (envOfC qual scope s.heap.objs.size f cd)
  N := N
  s₀ := s
  H₀ := H
  env := envOfC qual scope s.heap.objs.size f cd
  outer := outer
  stack := envOfC qual scope s.heap.objs.size f cd :: outer
  ex := []
  calm := true
  fn := fun _ => true
  pn := []
  xe := fun e s' => wpAny (model P w) (A.deeper (envOfC qual scope s.heap.objs.size f cd)) (leaving (envOfC qual scope s.heap.objs.size f cd) e) (fun _ s'' => CX outer H s E e s'') (fun e' s'' => CX outer H s E e' s'') s'

theorem cell_has {sc : Scope} {n : Nat} {x : Str} (h : sc.names.lookup x = some .cell) : ∃ c, (cellsFrom n sc.names []).lookup x = some c := by
  have q := PySem.W.cellsFrom_some sc.names n [] (.inl h)
  exact Option.isSome_iff_exists.mp q

theorem inv_start {CX : CXT} {P : Program} {w : World} {K : PySem.W.Frag} {mg : Str → Option Value} {base : Heap} {N ps : List Str} {qual : Str} {scope : Scope} {f : Addr} {cd : Value} {A : Around} {outer : List Env} {s s1 : Shared} {H : Hp} {E : XK} {us : List Value} {vs : List V}
    (S : FnScope N ps scope) (hd : A.handled = none) (e0 : Env0 P w K mg base A outer s H) (hl : vs.length = ps.length) (r : Vals vs us)
    (x : InCallC s s.heap.objs.size (bindL (envOfC qual scope s.heap.objs.size f cd).kindOf (ps.zip us) fun _ => none) (cellsFrom (s.heap.objs.size + 1) scope.names []) (bindC (envOfC qual scope s.heap.objs.size f cd).kindOf (ps.zip us) fun _ => none) s1) :
    Inv (cxOf CX P w K mg base N qual scope f cd A outer s H E) [] (start N vs) H s1 := by
  have hpl : ps.length ≤ N.length := by have := congrArg List.length S.pre; rw [List.length_take] at this; (first | lia | omega)
  obtain ⟨h1, tk, rfl, hk⟩ := x.done
  have noA : ∀ b : Addr, b ∉ (cxOf CX P w K mg base N qual scope f cd A outer s H E).ex := fun b z => absurd (show b ∈ ([] : List Addr) from z) (by simp)
  refine ⟨⟨e0.mod, S.kind, rfl, rfl, Nat.le_refl _, fun y z c h1 h2 => ?_, fun y hy => ?_, fun y c _ h => ?_, fun _ => hd, Around.frames_deeper e0.frames, .inr ⟨rfl, rfl⟩, fun b z => absurd z (noA b), e0.bs, e0.bsz, fun b _ _ => noA b, fun b z => absurd z (noA b), e0.funs, e0.frf⟩,
    rfl, e0.bare, Un.kept hk, ⟨_, x.toInCall.ns, fun i y v h1 h2 h3 => ?_⟩, fun y c h => ⟨_, x.cell y c h⟩, e0.hok.fresh (Nat.le_refl _), fun y c h => ?_, fun p hp => absurd (show p ∈ ([] : List (Addr × Obj)) from hp) (by simp), e0.hok.kept hk, ?_⟩
  · exact name_of_addr x.apart (PySem.mem_of_lookup h1) (PySem.mem_of_lookup h2)
  · have hy : scope.names.lookup y = some .cell ∨ scope.names.lookup y = some .free := hy
    rcases hy with hy | hy
    · exact cell_has hy
    · exact absurd rfl (S.nofree _ (PySem.mem_of_lookup hy))
  · exact Nat.le_of_lt (x.above y c (PySem.mem_of_lookup h))
  · have hi : i < vs.length := by
      unfold start at h2
      by_cases hi : i < vs.length
      · exact hi
      · rw [List.getElem?_append_right (by simpa using hi)] at h2
        rw [List.getElem?_replicate] at h2
        split at h2 <;> cases h2
    have ha : vs[i]? = some v := by
      unfold start at h2
      rw [List.getElem?_append_left (by simpa using hi), List.getElem?_map] at h2
      cases e : vs[i]? with
      | none => rw [e] at h2; cases h2
      | some a => rw [e] at h2; cases h2; rfl
    obtain ⟨u, hu, rv⟩ := r.get ha
    have hp : ps[i]? = some y := by
      rw [← S.pre, List.getElem?_take_of_lt (by (first | lia | omega))]; exact h1
    have ndP : ps.Nodup := by rw [← S.pre]; exact S.nd.sublist (List.take_sublist _ _)
    refine ⟨u, rv, ?_⟩
    rcases S.par y (List.mem_of_getElem? hp) with k | k
    · exact .inl ⟨k, bindL_get ndP hp hu k⟩
    · obtain ⟨c, e⟩ := cell_has (n := s.heap.objs.size + 1) k
      refine .inr ⟨.inl k, c, e, ?_⟩
      have q := x.cell y c e
      rw [bindC_get ndP hp hu (by show scope.names.lookup y ≠ _; rw [k]; decide)] at q
      exact q
  · exact e0.hok.fresh (Nat.le_of_lt (x.above y c (PySem.mem_of_lookup h)))
  · unfold start
    show _ = N.length
    rw [List.length_append, List.length_map, List.length_replicate]
    (first | lia | omega)

/-- THE RULE: a def (or a method) of the text, by its body. The body's reading t is chosen for each entry; it is run at the parameters' values -/
theorem fn_of {CX : CXT} {P : Program} {w : World} {K : PySem.W.Frag} {mg : Str → Option Value} {base : Heap} {k : Nat} {f : Addr} {name qual : Str} {params : Arguments} {body : List Stmt} {scope : Scope} {dV kV doc pm cdv ct oc : Value} {an od : Option Addr}
    {osl : Array (Option Value)} {N ps : List Str} {sp : Sp} (lk : K.lookup f = some ⟨oc, od, .func (PySem.W.fnOf name qual params body scope dV kV doc pm an cdv ct), osl⟩) (hcd : PySem.W.codeIn K cdv qual = true) (S : FnScope N ps scope)
    (len : ∀ vs H Q E, sp vs H Q E → vs.length = ps.length)
    (hbody : ∀ (A : Around) (outer : List Env) (s : Shared) (H : Hp) (vs : List V) (Q : VK) (E : XK), Room k (A.deeper (envOfC qual scope s.heap.objs.size f cdv)) → sp vs H Q E →
      ∃ t, PSs (cxOf CX P w K mg base N qual scope f cdv A outer s H E) body t ∧ t { nx := fun _ H' => Q .non H', rt := Q } (start N vs) H) :
    FnOk P w K mg base CX (k + 1) f (PySem.W.fnOf name qual params body scope dV kV doc pm an cdv ct) ps sp := by
  refine ⟨len, fun A outer s H args us vs Q E hr e0 hb r hsp => ?_⟩
  have hl := len _ _ _ _ hsp
  have KX : K.In s.heap := e0.mod.kin.keeps fun b o e => (e0.bs b o e).1
  have lim : s.heap.NoLimit := e0.mod.nolimit.keeps fun b o e => (e0.bs b o e).1
  have hkind : ∀ y ∈ ps.zip us, scope.names.lookup y.1 = some .local ∨ (scope.names.lookup y.1 = some .cell ∧ ((cellsFrom (s.heap.objs.size + 1) scope.names []).lookup y.1).isSome = true) := fun ⟨n, v⟩ hy => by
    rcases S.par n (List.of_mem_zip hy).1 with q | q
    · exact .inl q
    · exact .inr ⟨q, PySem.W.cellsFrom_some _ _ _ (.inl q)⟩
  refine codeAny_call_function hr.depth (KX _ _ lk) rfl S.co S.gen rfl (PySem.W.codeRec_of KX hcd) (hb _ _ _ _ ?_)
  refine wpAny_newFunctionEnv_cells S.kind hkind fun env he s1 x => ?_
  subst he
  refine ⟨lim.keeps x.toInCall.keep, codeAny_func ?_⟩
  obtain ⟨t, ht, hq⟩ := hbody A outer s H vs Q E (hr.deeper _) hsp
  have I : Inv (cxOf CX P w K mg base N qual scope f cdv A outer s H E) [] (start N vs) H s1 := inv_start S hr.hd e0 hl r x
  refine wpAny_mono (ht [] s1 (start N vs) H _ I hq) (fun fl s' hs => ?_) fun e s' hs => hs
  have fin : ∀ {σ' : St} {H' : Hp} {v : V} {u : Value}, Inv (cxOf CX P w K mg base N qual scope f cdv A outer s H E) [] σ' H' s' → RelV v u → Q v H' → CE outer P w H s Q u s' :=
    fun {σ' H' v u} J rv q => ⟨v, H', J.os, J.bare, J.base, J.hok, rv, q⟩
  cases fl with
  | ret u =>
    obtain ⟨v, σ', H', J, rv, q⟩ := hs
    exact fin J rv q
  | next =>
    obtain ⟨σ', H', J, q⟩ := hs
    exact fin (v := V.non) (u := Value.none) J rfl q
  | brk =>
    obtain ⟨_, _, _, q⟩ := hs
    exact False.elim q
  | cont =>
    obtain ⟨_, _, _, q⟩ := hs
    exact False.elim q
end L2

namespace L2
open PySem PySem.Spec PyProof.Rows
section
variable {X : Cx} {x : Str} {p pos : Pos} {e : Expr} {es : List Expr} {t : TA} {id T : String} {r : List V → Hp → VK → Prop}

def tCB (r : List V → Hp → VK → Prop) (t : TA) : TE := fun σ H Q => t σ H fun vs H1 => r vs H1 Q
/-- f(e, ..), f a built-in function -/
theorem pe_callB (hc : CallR X (.builtin id) r) (hg : Gl X x) (hm : X.mg x = none) (hv : bootBuiltins x = some (.builtin id)) (ha : PA X (e :: es) t) (hn : x ≠ "__name__" := by decide) (hdb : (x == ("__debug__" : Str)) = false := by decide)
    (he : starEach (e :: es) X.env = (false, eval e X.env) :: starEach es X.env := by rfl) (hpl : (backTo pos (starEach es X.env)).any (·.1) = false := by rfl) : PE X (.Call (.Name x p) (e :: es) [] pos) (tCB r t) := by
  intro pins s σ H Q I h
  refine wpAny_Call_Name_kw (ld_blt I hg hm hv ?_ hn hdb)
  exact PyProof.Rows.callWith_builtin1 (thn (ha pos pins s σ H _ I h) fun us s1 ⟨vs, H1, I1, r1, q1⟩ => hc pins s1 σ H1 vs us Q I1 r1 q1) he hpl
/-- T(e, ..), T a built-in type -/
theorem pe_callTy (hc : CallR X (.type T) r) (hg : Gl X x) (hm : X.mg x = none) (hv : bootBuiltins x = some (.type T)) (ha : PA X (e :: es) t) (hn : x ≠ "__name__" := by decide) (hdb : (x == ("__debug__" : Str)) = false := by decide)
    (he : starEach (e :: es) X.env = (false, eval e X.env) :: starEach es X.env := by rfl) (hpl : (backTo pos (starEach es X.env)).any (·.1) = false := by rfl) : PE X (.Call (.Name x p) (e :: es) [] pos) (tCB r t) := by
  intro pins s σ H Q I h
  refine wpAny_Call_Name_kw (ld_blt I hg hm hv ?_ hn hdb)
  exact PyProof.Rows.callWith_type1 (thn (ha pos pins s σ H _ I h) fun us s1 ⟨vs, H1, I1, r1, q1⟩ => hc pins s1 σ H1 vs us Q I1 r1 q1) he hpl
end
end L2

namespace HT
open PySem PyProof.Rows

/-- t < u of tuples of ints -/
def lexLt : List Int → List Int → Bool
  | [], [] => false
  | [], _ :: _ => true
  | _ :: _, [] => false
  | x :: xs, y :: ys => if x = y then lexLt xs ys else decide (x < y)
section
open PySem.SeqAt
open PySem.AutoSeq1 (wpAny_loadPart')
open PySem.MeetsSeq PySem.MeetsSeq2 PySem.MeetsSeq3

end

section
variable {prog : Program} {w : World} {A : Around} {E : Value → Shared → Prop} {s : Shared}

/-! ### t[a:b], not the whole -/
/-- a slice's bound as a place among n (d where it is left out) -/
def sIx (n d : Nat) : Option Int → Nat
  | none => d
  | some v => if v < 0 then (v + (n : Int)).toNat else min v.toNat n
theorem sIx_none (n d : Nat) : sIx n d none = d := rfl
theorem sIx_nat (n d k : Nat) : sIx n d (some (k : Int)) = min k n := by
  show (if (k : Int) < 0 then ((k : Int) + (n : Int)).toNat else min (k : Int).toNat n) = min k n
  rw [if_neg (by (first | lia | omega)), Int.toNat_natCast]
end
end HT

namespace L2
open PySem PySem.Spec PyProof.Rows

/-! ### the parts of a slice -/
abbrev TO := St → Hp → (Option Int → Hp → Prop) → Prop
/-- a slice's part (left out, or an int) -/
def PO (X : Cx) (e : Option Expr) (t : TO) : Prop :=
  ∀ (pins : List (Addr × Obj)) (s : Shared) (σ : St) (H : Hp) (Q : Option Int → Hp → Prop), Inv X pins σ H s → t σ H Q →
    wpAny (model X.prog X.w) X.A (evalPart e X.env) (fun u s' => ∃ o H', Inv X pins σ H' s' ∧ IsPart u o ∧ Q o H') X.xe s
def tNoPart : TO := fun _ H Q => Q none H
def tPart (t : TE) : TO := fun σ H Q => t σ H fun x H1 => ∃ i, x = .int i ∧ Q (some i) H1

section
variable {X : Cx} {e : Expr} {te : TE} {lo hi : Option Expr} {tl th : TO} {pos p2 : Pos}

theorem po_none : PO X none tNoPart := by
  intro pins s σ H Q I h
  rw [evalPart_none]
  exact wpAny_pure ⟨none, H, I, .none, h⟩
theorem po_some (h : PE X e te) : PO X (some e) (tPart te) := by
  intro pins s σ H Q I hw
  rw [evalPart_some]
  refine thn (h pins s σ H _ I hw) fun u s1 ⟨x, H1, I1, r1, q1⟩ => ?_
  obtain ⟨i, rfl, q⟩ := q1
  obtain ⟨t, rfl⟩ := r1
  exact ⟨some i, H1, I1, .int i t, q⟩

/-- what a slice of a value is, by values: the slice object stands at sl -/
def SlR (X : Cx) (r : V → Option Int → Option Int → Hp → VK → Prop) : Prop :=
  ∀ (pins : List (Addr × Obj)) (s : Shared) (σ : St) (H : Hp) (x : V) (v vl vu : Value) (lo hi : Option Int) (sl : Addr) (Q : VK), Inv X pins σ H s → RelV x v → s.heap.IsSliceOf sl vl vu .none → IsPart vl lo → IsPart vu hi → r x lo hi H Q →
    ∃ T id, typeLookup (.type T) "__getitem__" = pure (some (.builtin id)) ∧ s.TypeIs v T ∧ wpAny (model X.prog X.w) X.A (getItem v (.ref sl)) (EP X pins σ Q) X.xe s
def tSl (r : V → Option Int → Option Int → Hp → VK → Prop) (te : TE) (tl th : TO) : TE := fun σ H Q => te σ H fun x H1 => tl σ H1 fun l H2 => th σ H2 fun u H3 => r x l u H3 Q
/-- a[lo:hi], any a -/
theorem pe_slice {r : V → Option Int → Option Int → Hp → VK → Prop} (hr : SlR X r) (he : PE X e te) (hl : PO X lo tl) (hu : PO X hi th) : PE X (.Subscript e (.Slice lo hi none p2) pos) (tSl r te tl th) := by
  intro pins s σ H Q I h
  refine Subscript_ (thn (he pins s σ H _ I h) fun v s1 ⟨x, H1, I1, r1, q1⟩ => ?_)
  refine wpAny_Slice (thn (hl pins s1 σ H1 _ I1 q1) fun vl s2 ⟨l, H2, I2, pl, q2⟩ => thn (hu pins s2 σ H2 _ I2 q2) fun vu s3 ⟨u, H3, I3, pu, q3⟩ => ?_)
  rw [evalPart_none]
  refine wpAny_pure ?_
  have I4 : Inv X pins σ H3 { s3 with heap := s3.heap.push { cls := .type "slice", data := .fields #[vl, vu, .none] } } := I3.kept (t' := s3.toks) fun b ob q => Heap.get?_push_of_some _ q
  obtain ⟨T, id, hT, ht, hg⟩ := hr pins { s3 with heap := s3.heap.push { cls := .type "slice", data := .fields #[vl, vu, .none] } } σ H3 x v vl vu l u s3.heap.objs.size Q I4 r1 (Heap.IsSliceOf.new ..) pl pu q3
  show wpAny (model X.prog X.w) X.A (subscriptTail e (.Slice lo hi none p2) v (.ref s3.heap.objs.size)) (EP X pins σ Q) X.xe { s3 with heap := s3.heap.push { cls := .type "slice", data := .fields #[vl, vu, .none] } }
  exact tail_any (ops := [.ref s3.heap.objs.size, v]) ht hT hg (by with_unfolding_all rfl)

/-- the items of xs[lo:hi] -/
def cutV (xs : List V) (lo hi : Option Int) : List V := (xs.drop (HT.sIx xs.length 0 lo)).take (HT.sIx xs.length xs.length hi - HT.sIx xs.length 0 lo)
theorem cutV_length (xs : List V) (lo hi : Option Int) : (cutV xs lo hi).length ≤ xs.length := by
  unfold cutV
  rw [List.length_take, List.length_drop]
  (first | lia | omega)
/-- t[lo:hi], not the whole of it (the whole would be t itself) -/
def rSlT (K : PySem.W.Frag) : V → Option Int → Option Int → Hp → VK → Prop := fun x lo hi H Q => ∃ a xs, x = .ref a ∧ SqT K H a xs ∧
  ¬ (HT.sIx xs.length 0 lo = 0 ∧ HT.sIx xs.length xs.length hi = xs.length) ∧ ∀ p, H p = none → Q (.ref p) (upd H p (.tup (cutV xs lo hi)))
/-! ### t < u, t + u -/
def rLtT (K : PySem.W.Frag) : R2 := fun x y H Q => ∃ a b ns ms, x = .ref a ∧ y = .ref b ∧ SqT K H a (ns.map V.int) ∧ SqT K H b (ms.map V.int) ∧ Q (.bl (HT.lexLt ns ms)) H
/-- t + u, t not empty: u empty gives t itself -/
def rCatT (K : PySem.W.Frag) : R2 := fun x y H Q => ∃ a b xs ys, x = .ref a ∧ y = .ref b ∧ SqT K H a xs ∧ SqT K H b ys ∧ xs ≠ [] ∧ xs.length + ys.length ≤ sizeLine ∧
  (ys = [] → Q (.ref a) H) ∧ (ys ≠ [] → ∀ p, H p = none → Q (.ref p) (upd H p (.tup (xs ++ ys))))
end
end L2

namespace L2
open PySem PySem.Spec PyProof.Rows

/-! ### places -/
/-- the place that an index of any sign means -/
def ixN (n : Nat) (i : Int) : Option Nat := if 0 ≤ i then (if i < n then some i.toNat else none) else if -(n : Int) ≤ i then some (i + n).toNat else none
def atI {α : Type} (xs : List α) (i : Int) : Option α := (ixN xs.length i).bind fun j => xs[j]?
theorem ixN_seq {n : Nat} {i : Int} {j : Nat} (h : ixN n i = some j) : seqIndex? i n = some j ∧ j < n ∧ -(n : Int) ≤ i ∧ i < n := by
  unfold ixN at h
  by_cases h0 : 0 ≤ i
  · rw [if_pos h0] at h
    by_cases h1 : i < n
    · rw [if_pos h1] at h
      have e : i.toNat = j := Option.some.inj h
      exact ⟨by rw [seqIndex_of h0 h1, e], by (first | lia | omega), by (first | lia | omega), h1⟩
    · rw [if_neg h1] at h; cases h
  · rw [if_neg h0] at h
    by_cases h1 : -(n : Int) ≤ i
    · rw [if_pos h1] at h
      have e : (i + n).toNat = j := Option.some.inj h
      exact ⟨by rw [seqIndex_neg (by (first | lia | omega)) h1, e], by (first | lia | omega), h1, by (first | lia | omega)⟩
    · rw [if_neg h1] at h; cases h
theorem atI_get {α : Type} {xs : List α} {i : Int} {v : α} (h : atI xs i = some v) : ∃ j, seqIndex? i xs.length = some j ∧ xs[j]? = some v ∧ j < xs.length ∧ -(xs.length : Int) ≤ i ∧ i < xs.length := by
  unfold atI at h
  cases e : ixN xs.length i with
  | none => rw [e] at h; cases h
  | some j =>
    rw [e] at h
    obtain ⟨h1, h2, h3, h4⟩ := ixN_seq e
    exact ⟨j, h1, h, h2, h3, h4⟩
theorem atI_nat {α : Type} {xs : List α} {j : Nat} {v : α} (h : xs[j]? = some v) : atI xs (j : Int) = some v := by
  have hj : j < xs.length := (List.getElem?_eq_some_iff.mp h).1
  have e : ixN xs.length (j : Int) = some j := by
    unfold ixN
    rw [if_pos (by (first | lia | omega)), if_pos (by (first | lia | omega))]; simp
  unfold atI; rw [e]; exact h
/-! ### what may be subscripted -/
/-- what stands as an index of a plain subscript -/
def PlainIx (b : Expr) : Prop := ∀ o i, subscripted b false o i = operate [o, i] (getItem o i)
/-- a subscript by values -/
def IxR (X : Cx) (r : R2) : Prop :=
  ∀ (value slice : Expr) (pins : List (Addr × Obj)) (s : Shared) (σ : St) (H : Hp) (x y : V) (v u : Value) (Q : VK), Inv X pins σ H s → RelV x v → RelV y u → r x y H Q →
    subscripted slice false v u = operate [v, u] (getItem v u) → wpAny (model X.prog X.w) X.A (subscriptTail value slice v u) (EP X pins σ Q) X.xe s
/-- a call of a builtin's method by values: the receiver, the arguments -/
def MtR (X : Cx) (id : String) (r : V → List V → Hp → VK → Prop) : Prop :=
  ∀ (pins : List (Addr × Obj)) (s : Shared) (σ : St) (H : Hp) (x : V) (xs : List V) (v : Value) (us : List Value) (Q : VK), Inv X pins σ H s → RelV x v → Vals xs us → r x xs H Q →
    wpAny (model X.prog X.w) X.A (call (.builtin id) (v :: us)) (EP X pins σ Q) X.xe s
section
variable {X : Cx} {a b : Expr} {ta tb : TE} {pos : Pos}
/-- a[b] -/
theorem pe_ix {r : R2} (hr : IxR X r) (ha : PE X a ta) (hb : PE X b tb) (hs : PlainIx b) : PE X (.Subscript a b pos) (tOp r ta tb) := by
  intro pins s σ H Q I h
  exact Subscript_ (binT ha hb I h fun v u s2 x y H2 I2 rx ry q => hr a b pins s2 σ H2 x y v u Q I2 rx ry q (hs _ _))

def rIxL (K : PySem.W.Frag) : R2 := fun x y H Q => ∃ p xs i v, x = .ref p ∧ y = .int i ∧ SqL K H p xs ∧ atI xs i = some v ∧ Q v H
def rIxT (K : PySem.W.Frag) : R2 := fun x y H Q => ∃ p xs i v, x = .ref p ∧ y = .int i ∧ SqT K H p xs ∧ atI xs i = some v ∧ Q v H
def rIxS : R2 := fun x y H Q => ∃ z i c, x = .str z ∧ y = .int i ∧ z.length ≤ sizeLine ∧ atI z.cps.toList i = some c ∧ Q (.str ⟨#[c]⟩) H
theorem ix_list : IxR X (rIxL X.K) := by
  intro value slice pins s σ H x y v u Q I rx ry h hs
  obtain ⟨p, xs, i, z, rfl, rfl, hq, he, q⟩ := h
  cases rx
  obtain ⟨t, rfl⟩ := ry
  obtain ⟨its, r, pl, hz⟩ := I.list hq
  obtain ⟨j, h1, h2, h3, h4, h5⟩ := atI_get he
  obtain ⟨w, ew, rw'⟩ := r.get h2
  have hl := r.length
  have hn := line63
  have fin : EP X pins σ Q w s := ⟨z, H, I, rw', q⟩
  by_cases h0 : 0 ≤ i
  · have hj : i.toNat = j := by
      rw [seqIndex_of h0 h5] at h1
      exact Option.some.inj h1
    exact item_listR pl.isList h0 (by (first | lia | omega)) (by rw [hj]; simpa using ew) fin hs
  · have hj : (i + (its.toArray.size : Int)).toNat = j := by
      rw [seqIndex_neg (by (first | lia | omega)) h4] at h1
      rw [List.size_toArray, ← hl]
      exact Option.some.inj h1
    exact subscriptTail_builtinR (x := w) pl.isList.typeIs slot_list_getitem.lookup
      (wpAny_getItem_list_neg (Q := fun r s' => r = w ∧ EP X pins σ Q r s') pl.isList (by (first | lia | omega)) (by rw [List.size_toArray] <;> (first | lia | omega)) (by (first | lia | omega)) (by rw [hj]; simpa using ew) ⟨rfl, fin⟩) hs
/-- list, tuple or str -/
def rIx (K : PySem.W.Frag) : R2 := fun x y H Q => rIxL K x y H Q ∨ rIxT K x y H Q ∨ rIxS x y H Q
/-! ### xs[i] = v, any sign -/
/-- the list's object behind a store -/
theorem mapSeq_set (its : List Value) (n j : Nat) (u : Value) : Obj.mapSeq (·.setIfInBounds j u) { cls := .type "list", data := .seq its.toArray n } = { cls := .type "list", data := .seq (its.set j u).toArray n } := by
  simp [Obj.mapSeq]
theorem Inv.lst {pins : List (Addr × Obj)} {σ : St} {H : Hp} {s : Shared} {p : Addr} {xs : List V} (I : Inv X pins σ H s) (h : H p = some (.lst xs)) :
    ∃ (its : List Value) (n : Nat), Vals xs its ∧ s.heap.get? p = some { cls := .type "list", data := .seq its.toArray n } ∧ xs.length ≤ sizeLine := by
  obtain ⟨z, its, n, r, e⟩ := I.hok p _ h
  exact ⟨its, n, r, e, z⟩
/-- the list at p is written by an update of its object -/
theorem Inv.lstUpd {pins : List (Addr × Obj)} {σ : St} {H : Hp} {s : Shared} {p : Addr} {xs ys : List V} {its its' : List Value} {n n' : Nat} {f : Obj → Obj} (I : Inv X pins σ H s) (h : H p = some (.lst xs))
    (ho : s.heap.get? p = some { cls := .type "list", data := .seq its.toArray n }) (hf : f { cls := .type "list", data := .seq its.toArray n } = { cls := .type "list", data := .seq its'.toArray n' }) (r : Vals ys its') (hz : ys.length ≤ sizeLine) (t : Nat) :
    Inv X pins σ (upd H p (.lst ys)) { s with heap := s.heap.update p f, toks := t } := by
  have e : (s.heap.update p f).get? p = some { cls := .type "list", data := .seq its'.toArray n' } := by
    rw [Heap.get?_update_self f ho (by rw [hf] <;> rfl), hf]
  refine I.write (x := p) (e := p) (by rw [h]; trivial) (.inl rfl) (fun b u hb q => (Heap.get?_update_other _ _ (Ne.symm hb)).trans q) ⟨_, e⟩ ?_
  exact ⟨hz, its', n', r, e⟩
def rSetL : V → V → V → Hp → (Hp → Prop) → Prop := fun o i v H Q => ∃ p xs k j, o = .ref p ∧ i = .int k ∧ H p = some (.lst xs) ∧ ixN xs.length k = some j ∧ Q (upd H p (.lst (xs.set j v)))
theorem set_list : PSet X rSetL := by
  intro pins s σ H o i v ov iv u Q I ro ri rv h
  obtain ⟨p, xs, k, j, rfl, rfl, hp, hj, q⟩ := h
  cases ro
  obtain ⟨t, rfl⟩ := ri
  obtain ⟨its, n, r, ho, hz⟩ := I.lst hp
  obtain ⟨h1, h2, h3, h4⟩ := ixN_seq hj
  have hl := r.length
  have hn := line63
  have I' : Inv X pins σ (upd H p (.lst (xs.set j v))) { s with heap := s.heap.update p (Obj.mapSeq (·.setIfInBounds j u)) } :=
    I.lstUpd hp ho (mapSeq_set its n j u) (r.set rv j) (by rw [List.length_set]; exact hz) s.toks
  by_cases h0 : 0 ≤ k
  · have hk : k.toNat = j := by
      rw [seqIndex_of h0 h4] at h1
      exact Option.some.inj h1
    exact PySem.W.ki_setAt ho h0 (by (first | lia | omega)) (by rw [List.size_toArray, ← hl]; exact h4) (by rw [hk]; exact ⟨_, I', q⟩)
  · have hk : (k + (its.toArray.size : Int)).toNat = j := by
      rw [seqIndex_neg (by (first | lia | omega)) h3] at h1
      rw [List.size_toArray, ← hl]
      exact Option.some.inj h1
    exact PySem.W.ki_setBack ho (by (first | lia | omega)) (by rw [List.size_toArray, ← hl]; exact h3) (by (first | lia | omega)) (by rw [hk]; exact ⟨_, I', q⟩)

/-! ### slices -/
theorem slice_bounds (lo hi : Option Int) (n : Nat) : (sliceBounds lo hi none n).1 = ((HT.sIx n 0 lo : Nat) : Int) ∧ (sliceBounds lo hi none n).2.1 = ((HT.sIx n n hi : Nat) : Int) ∧ (sliceBounds lo hi none n).2.2 = 1 := by
  refine ⟨?_, ?_, rfl⟩
  · cases lo with
    | none => simp [sliceBounds, HT.sIx]
    | some i =>
      simp only [sliceBounds, HT.sIx, Option.getD_none, show (1 : Int) > 0 by decide, if_true]
      by_cases h : i < 0
      · simp only [h, if_true] <;> (first | lia | omega)
      · simp only [h, if_false] <;> (first | lia | omega)
  · cases hi with
    | none => simp [sliceBounds, HT.sIx]
    | some i =>
      simp only [sliceBounds, HT.sIx, Option.getD_none, show (1 : Int) > 0 by decide, if_true]
      by_cases h : i < 0
      · simp only [h, if_true] <;> (first | lia | omega)
      · simp only [h, if_false] <;> (first | lia | omega)
theorem slicePick_cut (its : List Value) (lo hi : Option Int) : slicePick its.toArray lo hi none = ((its.drop (HT.sIx its.length 0 lo)).take (HT.sIx its.length its.length hi - HT.sIx its.length 0 lo)).toArray := by
  obtain ⟨h1, h2, h3⟩ := slice_bounds lo hi its.toArray.size
  unfold slicePick
  rw [h1, h2, h3]
  simp only [sliceRange_one, pick_run, List.size_toArray] <;> rfl
/-- xs[lo:hi] of a list: a new list -/
def rSlL (K : PySem.W.Frag) : V → Option Int → Option Int → Hp → VK → Prop := fun x lo hi H Q => ∃ a xs, x = .ref a ∧ SqL K H a xs ∧ ∀ p, H p = none → Q (.ref p) (upd H p (.lst (cutV xs lo hi)))
theorem sl_list : SlR X (rSlL X.K) := by
  intro pins s σ H x v vl vu lo hi sl Q I rx hs pl pu h
  obtain ⟨a, xs, rfl, hx, q⟩ := h
  cases rx
  obtain ⟨its, r, ht, hz⟩ := I.list hx
  have hlen := r.length
  refine ⟨"list", _, slot_list_getitem.lookup, ht.isList.typeIs, ?_⟩
  refine wpAny_getItem_list_slice ht.isList hs pl pu .none (by simp) ?_ (by rw [List.size_toArray] <;> (first | lia | omega))
  rw [slicePick_cut, ← hlen]
  refine ⟨.ref s.heap.objs.size, _, I.laid (t' := s.toks) (o := .lst (cutV xs lo hi)) (fun b ob q => Heap.get?_push_of_some _ q) (Nat.le_refl _) ?_, rfl, q _ (I.hok.fresh (Nat.le_refl _))⟩
  exact ⟨Nat.le_trans (cutV_length xs lo hi) hz, _, 0, (r.drop (HT.sIx xs.length 0 lo)).take (HT.sIx xs.length xs.length hi - HT.sIx xs.length 0 lo), Heap.get?_push_size _ rfl⟩

/-! ### in, not in: flat items -/
def flatV : V → Bool
  | .non => true
  | .bl _ => true
  | .int _ => true
  | .str _ => true
  | _ => false
/-- == of flat values -/
def eqV : V → V → Bool
  | .non, .non => true
  | .bl a, .bl b => a == b
  | .bl a, .int b => (if a then 1 else 0) == b
  | .int a, .bl b => a == (if b then 1 else 0)
  | .int a, .int b => a == b
  | .str a, .str b => a == b
  | _, _ => false
theorem eqAt_V {A : Around} {s : Shared} {y x : V} {u v : Value} (ry : RelV y u) (rx : RelV x v) (fy : flatV y = true) (fx : flatV x = true) : SeqAt.EqAt A s u v (eqV y x) := by
  cases y with
  | non =>
    cases ry
    cases x with
    | non => cases rx; exact SeqAt.EqAt.same _
    | bl b => cases rx; exact SeqAt.EqAt.none_bool b
    | int b => obtain ⟨t, rfl⟩ := rx; exact SeqAt.EqAt.none_int b t
    | str b => obtain ⟨t, rfl⟩ := rx; exact SeqAt.EqAt.none_str b t
    | _ => exact absurd (show false = true from fx) Bool.false_ne_true
  | bl a =>
    cases ry
    cases x with
    | non => cases rx; exact SeqAt.EqAt.bool_none a
    | bl b => cases rx; exact SeqAt.EqAt.bool_bool a b
    | int b => obtain ⟨t, rfl⟩ := rx; exact SeqAt.EqAt.bool_int a b t
    | str b => obtain ⟨t, rfl⟩ := rx; exact SeqAt.EqAt.bool_str a b t
    | _ => exact absurd (show false = true from fx) Bool.false_ne_true
  | int a =>
    obtain ⟨t', rfl⟩ := ry
    cases x with
    | non => cases rx; exact SeqAt.EqAt.int_none a t'
    | bl b => cases rx; exact SeqAt.EqAt.int_bool a t' b
    | int b => obtain ⟨t, rfl⟩ := rx; exact SeqAt.EqAt.int_int a t' b t
    | str b => obtain ⟨t, rfl⟩ := rx; exact SeqAt.EqAt.int_str a t' b t
    | _ => exact absurd (show false = true from fx) Bool.false_ne_true
  | str a =>
    obtain ⟨t', rfl⟩ := ry
    cases x with
    | non => cases rx; exact SeqAt.EqAt.str_none a t'
    | bl b => cases rx; exact SeqAt.EqAt.str_bool a t' b
    | int b => obtain ⟨t, rfl⟩ := rx; exact SeqAt.EqAt.str_int a t' b t
    | str b => obtain ⟨t, rfl⟩ := rx; exact SeqAt.EqAt.str_str a t' b t
    | _ => exact absurd (show false = true from fx) Bool.false_ne_true
  | _ => exact absurd (show false = true from fy) Bool.false_ne_true
/-- the items' answers, read off the values (a value's own answer does not lean on its token) -/
def eqU (x : V) (u : Value) : Bool := match u with
  | .none => eqV .non x
  | .bool b => eqV (.bl b) x
  | .int i _ => eqV (.int i) x
  | .str z _ => eqV (.str z) x
  | _ => false
def inV (x : V) (xs : List V) : Bool := xs.any fun y => eqV y x
/-- x in a list or tuple of flat items -/
def rIn (K : PySem.W.Frag) (neg : Bool) : R2 := fun x y H Q => ∃ p xs, y = .ref p ∧ (SqL K H p xs ∨ SqT K H p xs) ∧ flatV x = true ∧ xs.all flatV = true ∧ Q (.bl (if neg then !inV x xs else inV x xs)) H
/-! ### len, list(x), tuple(x) of any list or tuple that is read -/
theorem call_len_seq : CallR X (.builtin "len") (fun xs H Q => ∃ p ys, xs = [.ref p] ∧ (SqL X.K H p ys ∨ SqT X.K H p ys) ∧ Q (.int ys.length) H) := by
  intro pins s σ H xs us Q I r h
  obtain ⟨p, ys, rfl, hq, q⟩ := h
  obtain ⟨u, rfl, rx⟩ := vals1 r
  cases rx
  have hn := line63
  rcases hq with hq | hq
  · obtain ⟨its, r', pl, hz⟩ := I.list hq
    have hlen := r'.length
    exact Calls.call_len_list pl.isList (by simp only [List.size_toArray] <;> (first | lia | omega)) ⟨.int ys.length, H, I.tok _, ⟨s.toks + 1, by rw [List.size_toArray, hlen]⟩, q⟩
  · obtain ⟨its, r', pl, hz⟩ := I.tuple hq
    have hlen := r'.length
    exact len_tuple pl (by simp only [List.size_toArray] <;> (first | lia | omega)) ⟨.int ys.length, H, I.tok _, ⟨s.toks + 1, by rw [List.size_toArray, hlen]⟩, q⟩
theorem call_list_of : CallR X (.type "list") (fun xs H Q => ∃ p ys, xs = [.ref p] ∧ (SqL X.K H p ys ∨ SqT X.K H p ys) ∧ ∀ l, H l = none → Q (.ref l) (upd H l (.lst ys))) := by
  intro pins s σ H xs us Q I r h
  obtain ⟨p, ys, rfl, hq, q⟩ := h
  obtain ⟨u, rfl, rx⟩ := vals1 r
  cases rx
  have fin : ∀ (its : List Value), Vals ys its → ys.length ≤ sizeLine → ∀ (h' : Heap) (c' : Nat), (∀ b o', s.heap.get? b = some o' → h'.get? b = some o') →
      h'.get? s.heap.objs.size = some { cls := .type "list", dict := none, data := .seq its.toArray c', slots := #[] } → EP X pins σ Q (.ref s.heap.objs.size) { s with heap := h' } := fun its r' hz h' c' kp e =>
    ⟨.ref s.heap.objs.size, _, I.laid (t' := s.toks) kp (Nat.le_refl _) (show ObjOk X.prog X.w _ h' _ (.lst ys) from ⟨hz, its, c', r', e⟩), rfl, q _ (I.hok.fresh (Nat.le_refl _))⟩
  rcases hq with hq | hq
  · obtain ⟨its, r', pl, hz⟩ := I.list hq
    have hlen := r'.length
    obtain ⟨o, ho, hc, n, hd⟩ := pl.isList
    exact call_list_seq p (.inl rfl) ho hc hd (fun h' c' kp e => fin its r' hz h' c' kp e) (by simp only [List.size_toArray] <;> (first | lia | omega))
  · obtain ⟨its, r', pl, hz⟩ := I.tuple hq
    have hlen := r'.length
    obtain ⟨o, ho, hc, n, hd⟩ := pl
    exact call_list_seq p (.inr rfl) ho hc hd (fun h' c' kp e => fin its r' hz h' c' kp e) (by simp only [List.size_toArray] <;> (first | lia | omega))
/-! ### the call of a builtin's method: o.m(..) -/
/-- the value is of that builtin type -/
def tyV (K : PySem.W.Frag) (T : String) (x : V) (H : Hp) : Prop := match x with
  | .str _ => T = "str"
  | .int _ => T = "int"
  | .ref p => (T = "list" ∧ ∃ xs, SqL K H p xs) ∨ (T = "tuple" ∧ ∃ o, K.lookup p = some o ∧ o.cls = .type "tuple" ∧ o.dict = none) ∨
      (T = "dict" ∧ ((∃ kvs, H p = some (.dK kvs)) ∨ ∃ kvs, H p = some (.dT kvs))) ∨ (T = "set" ∧ ∃ S n, H p = some (.set S n))
  | _ => False
theorem tyV_is {pins : List (Addr × Obj)} {σ : St} {H : Hp} {s : Shared} {T : String} {x : V} {v : Value} (I : Inv X pins σ H s) (r : RelV x v) (ty : tyV X.K T x H) :
    s.TypeIs v T ∧ ∀ a, v = .ref a → ∃ ob, s.heap.get? a = some ob ∧ ob.dict = none := by
  cases x with
  | str z =>
    obtain ⟨t, rfl⟩ := r
    cases (show T = "str" from ty)
    exact ⟨typeIs_str s z t, fun _ e => nomatch e⟩
  | int i =>
    obtain ⟨t, rfl⟩ := r
    cases (show T = "int" from ty)
    exact ⟨typeIs_int s i t, fun _ e => nomatch e⟩
  | ref p =>
    cases r
    rcases ty with ⟨rfl, xs, hq⟩ | ⟨rfl, o, hk, hc, hd⟩ | ⟨rfl, hk⟩ | ⟨rfl, S, n, hk⟩
    · obtain ⟨its, _, pl, _⟩ := I.list hq
      refine ⟨pl.isList.typeIs, fun a e => ?_⟩
      cases e
      obtain ⟨o, n, e, c, hd, _⟩ := pl
      exact ⟨o, e, hd⟩
    · refine ⟨⟨o, I.kIn p o hk, hc⟩, fun a e => ?_⟩
      cases e
      exact ⟨o, I.kIn _ o hk, hd⟩
    · have z : ∃ o, s.heap.get? p = some o ∧ o.ExactDict := by
        rcases hk with ⟨kvs, hk⟩ | ⟨kvs, hk⟩
        · obtain ⟨_, _, _, _, o, _, _, e, ex, _⟩ := I.hok p _ hk
          exact ⟨o, e, ex⟩
        · obtain ⟨_, _, _, _, o, _, _, e, ex, _⟩ := I.hok p _ hk
          exact ⟨o, e, ex⟩
      obtain ⟨o, e, ex⟩ := z
      refine ⟨⟨o, e, ex.1⟩, fun a e2 => ?_⟩
      cases e2
      exact ⟨o, e, ex.2.1⟩
    · obtain ⟨o, _, _, _, e, ex, _⟩ := I.hok p _ hk
      refine ⟨⟨o, e, ex.1⟩, fun a e2 => ?_⟩
      cases e2
      exact ⟨o, e, ex.2.1⟩
  | _ => exact False.elim ty
def tBM0 (K : PySem.W.Frag) (T : String) (r : V → List V → Hp → VK → Prop) (to : TE) : TE := fun σ H Q => to σ H fun x H1 => tyV K T x H1 ∧ r x [] H1 Q
def tBM (K : PySem.W.Frag) (T : String) (r : V → List V → Hp → VK → Prop) (to : TE) (t : TA) : TE := fun σ H Q => to σ H fun x H1 => tyV K T x H1 ∧ t σ H1 fun xs H2 => r x xs H2 Q
variable {o e : Expr} {es : List Expr} {to : TE} {t : TA} {name : Str} {apos cpos : Pos} {T id : String} {r : V → List V → Hp → VK → Prop}
theorem pe_bm (pa : PlainAttrs T) (slot : Slot T name id) (hty : typeOf (.builtin id) = pure (.type "method_descriptor")) (hm : MtR X id r) (ho : PE X o to) (ha : PA X (e :: es) t)
    (hbase : attributeBase o name X.env (eval o X.env) = eval o X.env := by rfl)
    (hfew : ((backTo cpos (starEach (e :: es) X.env)).all (fun x => !x.1) && (backToKw cpos (keywordEach [] X.env)).all (fun x => x.1.isSome)
      && decide ((e :: es).length + ([] : List Keyword).length + (if ([] : List Keyword).isEmpty then 0 else 1) < 30)) = true := by rfl)
    (hline : (apos.endLine == cpos.line) = true := by rfl) (hs : starEach (e :: es) X.env = (false, eval e X.env) :: starEach es X.env := by rfl) (hplain : (backTo cpos (starEach es X.env)).any (·.1) = false := by rfl) :
    PE X (.Call (.Attribute o name apos) (e :: es) [] cpos) (tBM X.K T r to t) := by
  intro pins s σ H Q I h
  refine wpAny_Call_method_late hbase hfew hline rfl (thn (ho pins s σ H _ I h) fun v s1 ⟨x, H1, I1, r1, ty, q1⟩ => ?_)
  obtain ⟨h1, h2⟩ := tyV_is I1 r1 ty
  refine ⟨T, id, pa, slot, hty, h1, h2, ?_⟩
  have hA := ha cpos pins s1 σ H1 _ I1 q1
  rw [hs] at hA ⊢
  refine Calls.callWith_builtin (by show (false || (backTo cpos (starEach es X.env)).any (·.1)) = false; rw [hplain] <;> rfl) (Calls.evalArgs_plain ?_)
  exact thn hA fun us s2 ⟨vs, H2, I2, r2, q2⟩ => hm pins s2 σ H2 x vs v us Q I2 r1 r2 q2
/- xs.append(e), list.index on a module's tuple .. are MtR facts of 06m -/
end
end L2

namespace L2
open PySem PySem.Spec PyProof.Rows

def MtM (X : Cx) (id : String) (r : V → List V → Hp → VK → Prop) : Prop :=
  ∀ (pins : List (Addr × Obj)) (s : Shared) (σ : St) (H : Hp) (x : V) (xs : List V) (v : Value) (us : List Value) (Q : VK), Inv X pins σ H s → RelV x v → Vals xs us → r x xs H Q →
    wpAny (model X.prog X.w) X.A (call (.builtin id) (v :: us)) (EP X pins σ Q) X.xe s

/-! ### lists of values -/
theorem Vals.one : ∀ {x : V} {us : List Value}, Vals [x] us → ∃ u, us = [u] ∧ RelV x u
  | _, _, .cons r .nil => ⟨_, rfl, r⟩
theorem Vals.reverse {xs : List V} {us : List Value} (h : Vals xs us) : Vals xs.reverse us.reverse := by
  induction h with
  | nil => exact .nil
  | cons r t ih => rw [List.reverse_cons, List.reverse_cons]; exact Vals.append ih (.cons r .nil)
theorem Vals.rep {xs : List V} {us : List Value} (h : Vals xs us) : ∀ k : Nat, Vals (List.replicate k xs).flatten (List.replicate k us).flatten
  | 0 => .nil
  | k + 1 => by
    rw [List.replicate_succ, List.replicate_succ, List.flatten_cons, List.flatten_cons]
    exact Vals.append h (Vals.rep h k)
theorem foldl_rep (its : List Value) : ∀ (k : Nat) (acc : List Value),
    List.foldl (fun x1 x2 => x1 ++ x2) acc.toArray (List.replicate k its.toArray) = (acc ++ (List.replicate k its).flatten).toArray
  | 0, acc => by simp
  | k + 1, acc => by
    have e : acc.toArray ++ its.toArray = (acc ++ its).toArray := by simp
    have e2 : (acc ++ its) ++ (List.replicate k its).flatten = acc ++ (List.replicate (k + 1) its).flatten := by
      rw [List.replicate_succ, List.flatten_cons, List.append_assoc]
    rw [← e2, ← foldl_rep its k (acc ++ its), ← e, List.replicate_succ, List.foldl_cons]

section
variable {X : Cx} {pins : List (Addr × Obj)} {σ : St} {H : Hp} {s : Shared} {l b : Addr} {xs ys zs : List V}

/-! ### the two steps: a tracked list is rewritten, a new list is laid -/
theorem Inv.lset {its its' : List Value} {n : Nat} {f : Array Value → Array Value} {t' : Nat} (I : Inv X pins σ H s) (hH : H l = some (.lst xs))
    (e : s.heap.get? l = some { cls := .type "list", data := .seq its.toArray n }) (hf : f its.toArray = its'.toArray) (hv : Vals ys its') (hz : ys.length ≤ sizeLine) :
    Inv X pins σ (upd H l (.lst ys)) { s with heap := s.heap.update l (Obj.mapSeq f), toks := t' } := by
  have q := PySem.IsL.update e f
  rw [hf] at q
  refine I.write (x := l) (e := l) (by rw [hH]; exact trivial) (.inl rfl) (fun b' u hb hu => (Heap.get?_update_other s.heap (Obj.mapSeq f) (Ne.symm hb)).trans hu) ⟨_, q⟩ ?_
  exact ⟨hz, its', _, hv, q⟩
theorem Inv.lnew {its : List Value} {t' : Nat} (I : Inv X pins σ H s) (hv : Vals ys its) (hz : ys.length ≤ sizeLine) :
    Inv X pins σ (upd H s.heap.objs.size (.lst ys)) { s with heap := s.heap.push { cls := .type "list", data := .seq its.toArray }, toks := t' } :=
  I.laid (fun _ _ q => Heap.get?_push_of_some _ q) (Nat.le_refl _) ⟨hz, its, 0, hv, Heap.get?_push_size _ rfl⟩
theorem Inv.fresh (I : Inv X pins σ H s) : H s.heap.objs.size = none := I.hok.fresh (Nat.le_refl _)
theorem Inv.lstM (I : Inv X pins σ H s) (hH : H l = some (.lst xs)) : xs.length ≤ sizeLine ∧ ∃ (its : List Value) (n : Nat), Vals xs its ∧ xs.length = its.length ∧ s.heap.get? l = some { cls := .type "list", data := .seq its.toArray n } := by
  obtain ⟨z, its, n, r, e⟩ := I.hok l _ hH
  exact ⟨z, its, n, r, r.length, e⟩

theorem notLongL {n : Nat} (h : n ≤ sizeLine) : Builtin.List.listTooLong n = false := by
  unfold Builtin.List.listTooLong
  exact decide_eq_false (by (first | lia | omega))
end

section
variable {X : Cx}

/-! ### methods -/
def rAppend : V → List V → Hp → VK → Prop := fun x vs H Q => ∃ l xs y, x = .ref l ∧ vs = [y] ∧ H l = some (.lst xs) ∧ xs.length < sizeLine ∧ Q .non (upd H l (.lst (xs ++ [y])))
theorem mt_append : MtM X "list.append" rAppend := by
  intro pins s σ H x vs v us Q I rx rv h
  obtain ⟨l, xs, y, rfl, rfl, hH, hz, q⟩ := h
  cases rx
  obtain ⟨u, rfl, ru⟩ := rv.one
  obtain ⟨z, its, n, r, hl, e⟩ := I.lstM hH
  refine call_meets F.slot_list_append ⟨_, e, rfl⟩ F.entry_list_append (F.args_list_append_2 _ _) (PySem.list_append l its.toArray n u (by rw [List.size_toArray]; (first | lia | omega))) ⟨e, ?_⟩
  refine ⟨.non, _, I.lset (its' := its ++ [u]) hH e (by simp) (r.append (.cons ru .nil)) ?_, rfl, q⟩
  rw [List.length_append, List.length_singleton]
  (first | lia | omega)

def rExtend : V → List V → Hp → VK → Prop := fun x vs H Q => ∃ l b xs zs, x = .ref l ∧ vs = [.ref b] ∧ H l = some (.lst xs) ∧ H b = some (.lst zs) ∧ xs.length + zs.length ≤ sizeLine ∧ Q .non (upd H l (.lst (xs ++ zs)))
theorem mt_extend : MtM X "list.extend" rExtend := by
  intro pins s σ H x vs v us Q I rx rv h
  obtain ⟨l, b, xs, zs, rfl, rfl, hH, hB, hz, q⟩ := h
  cases rx
  obtain ⟨u, rfl, ru⟩ := rv.one
  cases ru
  obtain ⟨z, its, n, r, hl, e⟩ := I.lstM hH
  obtain ⟨z2, its2, n2, r2, hl2, e2⟩ := I.lstM hB
  have hsz : its.toArray.size + its2.toArray.size ≤ sizeLine := by rw [List.size_toArray, List.size_toArray]; (first | lia | omega)
  have hlong : ¬ (!its.toArray.isEmpty && Builtin.List.listTooLong (its.toArray.size + its2.toArray.size)) = true := by
    rw [notLongL hsz, Bool.and_false]
    exact Bool.false_ne_true
  refine call_meets F.slot_list_extend ⟨_, e, rfl⟩ F.entry_list_extend (F.args_list_extend_2 _ _)
    (AutoSeq1.list_extend_list_list_0 l its.toArray n b its2.toArray n2 hlong (by rw [List.size_toArray]; (first | lia | omega)) (by (first | lia | omega))) ⟨e, e2, ?_⟩
  refine ⟨.non, _, I.lset (its' := its ++ its2) hH e (by simp) (r.append r2) ?_, rfl, q⟩
  rw [List.length_append]
  (first | lia | omega)

def rPop : V → List V → Hp → VK → Prop := fun x vs H Q => ∃ l xs y, x = .ref l ∧ vs = [] ∧ H l = some (.lst xs) ∧ xs[xs.length - 1]? = some y ∧ Q y (upd H l (.lst xs.dropLast))
def rPopAt : V → List V → Hp → VK → Prop := fun x vs H Q => ∃ l xs i k y, x = .ref l ∧ vs = [.int i] ∧ H l = some (.lst xs) ∧ -(2 ^ 63) ≤ i ∧ i < 2 ^ 63 ∧ seqIndex? i xs.length = some k ∧ xs[k]? = some y ∧ Q y (upd H l (.lst (xs.eraseIdx k)))
def rReverse : V → List V → Hp → VK → Prop := fun x vs H Q => ∃ l xs, x = .ref l ∧ vs = [] ∧ H l = some (.lst xs) ∧ Q .non (upd H l (.lst xs.reverse))
def rClear : V → List V → Hp → VK → Prop := fun x vs H Q => ∃ l xs, x = .ref l ∧ vs = [] ∧ H l = some (.lst xs) ∧ Q .non (upd H l (.lst []))
/-! ### list + list, list += list, list * int -/
def rCat : R2 := fun x y H Q => ∃ l b xs zs, x = .ref l ∧ y = .ref b ∧ H l = some (.lst xs) ∧ H b = some (.lst zs) ∧ xs.length + zs.length ≤ sizeLine ∧ ∀ p, H p = none → Q (.ref p) (upd H p (.lst (xs ++ zs)))
theorem op_cat : OpR X (binaryOp .Add) rCat := by
  intro pins s σ H x y v u Q I rx ry h
  obtain ⟨l, b, xs, zs, rfl, rfl, hH, hB, hz, q⟩ := h
  cases rx
  cases ry
  obtain ⟨z, its, n, r, hl, e⟩ := I.lstM hH
  obtain ⟨z2, its2, n2, r2, hl2, e2⟩ := I.lstM hB
  refine PySem.P.add_list e e2 ?_ (by rw [List.size_toArray, List.size_toArray]; (first | lia | omega))
  have ea : its.toArray ++ its2.toArray = (its ++ its2).toArray := by simp
  rw [ea]
  exact ⟨.ref _, _, I.lnew (t' := s.toks) (r.append r2) (by rw [List.length_append]; (first | lia | omega)), rfl, q _ I.fresh⟩
/-- a list times an int (a negative one is nothing) -/
def rRep : R2 := fun x y H Q => ∃ l k xs, x = .ref l ∧ y = .int k ∧ H l = some (.lst xs) ∧ -(2 ^ 63) ≤ k ∧ k < 2 ^ 63 ∧ xs.length * k.toNat ≤ sizeLine ∧
  ∀ p, H p = none → Q (.ref p) (upd H p (.lst (List.replicate k.toNat xs).flatten))
theorem len_rep {α : Type} (xs : List α) (k : Nat) : (List.replicate k xs).flatten.length = k * xs.length := by
  induction k with
  | zero => simp
  | succ k ih => rw [List.replicate_succ, List.flatten_cons, List.length_append, ih, Nat.succ_mul, Nat.add_comm]
theorem op_rep : OpR X (binaryOp .Mult) rRep := by
  intro pins s σ H x y v u Q I rx ry h
  obtain ⟨l, k, xs, rfl, rfl, hH, h1, h2, hz, q⟩ := h
  cases rx
  obtain ⟨t, rfl⟩ := ry
  obtain ⟨z, its, n, r, hl, e⟩ := I.lstM hH
  have hlen : its.toArray.size * k.toNat ≤ sizeLine := by rw [List.size_toArray, ← hl]; exact hz
  have hcap : ¬ its.toArray.size * k.toNat > (2 ^ 63 - 1) / 8 := by
    have : (sizeLine : Nat) ≤ (2 ^ 63 - 1) / 8 := by decide
    (first | lia | omega)
  have hfit : ¬ (!Builtin.List.listFitsIndex k) = true := by
    rw [fitsIndex_both h1 h2]
    exact Bool.false_ne_true
  have hlong : ¬ Builtin.List.listTooLong (its.toArray.size * k.toNat) = true := by
    rw [notLongL hlen]
    exact Bool.false_ne_true
  have hnew : List.foldl (fun x1 x2 => x1 ++ x2) #[] (List.replicate (if its.toArray.isEmpty = true then 0 else k.toNat) its.toArray) = (List.replicate k.toNat its).flatten.toArray := by
    have f0 : ∀ m : Nat, List.foldl (fun x1 x2 => x1 ++ x2) #[] (List.replicate m its.toArray) = (List.replicate m its).flatten.toArray := fun m => by
      have := foldl_rep its m []
      rw [List.nil_append] at this
      exact this
    rw [f0]
    cases its with
    | nil => simp
    | cons a r' => rw [if_neg (by simp)]
  refine wpAny_binaryOp_repeat_ref (T := "list") (U := "int") (by decide) ⟨_, e, rfl⟩ (fun s' => typeIs_int s' k t) noFill_list_mul F.fills_int_mul F.slot_int_rmul repeat_list F.slot_int_index.lookup
    (call_meets F.slot_int_rmul (typeIs_int s k t) F.entry_int_rmul (F.args_int_rmul_2 _ _) (int___rmul___int_list k t l its.toArray n)
      ⟨e, rfl, ⟨_, e, rfl⟩, call_meets F.slot_list_mul ⟨_, e, rfl⟩ F.entry_list_mul (F.args_list_mul_2 _ _) (AutoListH.list___mul___list_int_3 l its.toArray n k t hfit hcap hlong) ⟨e, ?_⟩⟩)
  rw [hnew]
  exact ⟨.ref _, _, I.lnew (t' := s.toks) (r.rep k.toNat) (by rw [len_rep, Nat.mul_comm]; exact hz), rfl, q _ I.fresh⟩

/-! ### del xs[i] -/
end

/-! ### xs[a:b] = ys -/
section
variable {prog : Program} {w : World} {A : Around} {E : Value → Shared → Prop} {s : Shared}
end

section
variable {X : Cx}
end
end L2

namespace Att
open PySem PySem.W PySem.Calls PyProof.Rows

/-! ### the script -/
theorem ints_of_wellAll {P : Params} {h : Heap} : ∀ (ns : List Int) (vs : List Value), WellAll P h vs (ns.map WData.int) → IntsAre vs ns := by
  intro ns
  induction ns with
  | nil =>
    intro vs w
    rw [List.map_nil] at w
    cases w
    exact .nil
  | cons n ns ih =>
    intro vs w
    rw [List.map_cons] at w
    cases w with
    | cons a b =>
      cases a
      exact .cons _ _ (ih _ b)

theorem script_of {l : OpenLaw} {n : Nat} (hn : l.most = some n) {P : Params} {h : Heap} {args : List WData} {vals : List Value}
    (hpre : l.row.toRowW.claim.pre args = true) (hwl : WellAll P h vals args) :
    ∃ a vs ns, vals = [Value.ref a] ∧ args = [WData.list (ns.map WData.int)] ∧ h.get? a = some { cls := .type "list", data := .seq vs.toArray } ∧ IntsAre vs ns ∧ ns.length ≤ n := by
  have hsh : WShape.hasAll [] args [.list .int] = true := (pre_splitW hpre).1
  have hc : l.pre.holds [] { args := args } = true := (pre_splitW hpre).2
  obtain ⟨d, r, rfl, h1, h2⟩ := hasAllW_cons hsh
  obtain rfl := hasAllW_nil h2
  obtain ⟨xs, rfl, h3⟩ := hasW_list h1
  obtain ⟨ns, rfl⟩ := items_int h3
  have hlen : ns.length ≤ n := by
    unfold OpenLaw.pre at hc
    have h4 : (WTm.not (.lt (.lit (.int (n : Int))) (.len (.arg 0)))).holds [] { args := [.list (ns.map .int)] } = true := by
      have h4 := (holds_andW hc).1
      rw [hn] at h4
      exact h4
    have h5 := condW_of h4 (w_not (w_lt w_lit (w_len_list (w_arg rfl))))
    rw [List.length_map] at h5
    refine Nat.le_of_not_lt fun q => ?_
    have q' : (n : Int) < ((ns.length : Nat) : Int) := by (first | lia | omega)
    first
      | (rw [decide_eq_true q'] at h5; exact absurd h5 (by decide))
      | (simp at h5; (first | lia | omega))
  cases hwl with
  | cons w1 w2 =>
    cases w2
    cases w1 with
    | list ho hall => exact ⟨_, _, ns, rfl, rfl, ho, ints_of_wellAll ns _ hall, hlen⟩

theorem post_true (l : OpenLaw) (args : List WData) : l.row.toRowW.claim.post args (.bool true) args = true :=
  postW_of (r := l.row.toRowW) (X := (true == true))
    (show WShape.has [] (.bool true) .bool = true by first | rfl | decide | simp [WShape.has, WShape.arms, WShape.armsAll])
    (show (WTm.eq .res (.lit (.bool true))).value [] { args := args, res := some (.bool true), after := args } = some (.bool (true == true)) from w_eq_bool (w_res rfl) w_lit) rfl

/-! ### the attachment: holds_open's last premise (the goal 'hc' behind k_head) from a wpAny of the law's body -/
/-- the same from a codeAny of the CALL (for a layer whose function contracts speak of calls) -/
theorem attach_call {l : OpenLaw} {n : Nat} {q : Program} {loose : List Str} {XP : (Str → Option Value) → Heap → Prop} {YP : World → Heap → Prop} {d : DefRec}
    (hn : l.most = some n) (hdf : d.params.defaults = [])
    (call : ∀ (w : World) (s₀ s₁ : Shared) (mg mb : Str → Option Value) (fa : Addr) (o : Obj) (pm cd doc : Value) (a : Addr) (vs : List Value) (ns : List Int),
      Ground q loose [] XP w s₀ mg mb s₁.heap → YP w s₁.heap →
      s₁.heap.get? fa = some o → o.data = .func (docDef d.name d.params d.body d.scope pm cd doc) → s₁.heap.CodeRec cd d.name → mg d.name = some (.ref fa) →
      s₁.heap.get? a = some { cls := .type "list", data := .seq vs.toArray } → IntsAre vs ns → ns.length ≤ n → s₁.gens = #[] →
      codeAny (model l.prog w) callerA (.call (.ref fa) ⟨[.ref a], []⟩) (fun r s' => r = .ok (.ret (.bool true)) ∧ OldK s₁.heap s'.heap ∧ s'.os = s₁.os ∧ AllBare s'.gens) s₁) :
    WalkO q loose XP YP l.row.toRowW d [] (fun f vs => PySem.call f vs) := by
  intro w s₀ s₁ mg mb G Y fa o pm cd doc dV kV ho hd hcd hD hmg hg args vals as hpre hlay hrd hwl hlo
  obtain rfl : dV = .none := Dflts.none hD hdf
  obtain rfl : kV = .none := Dflts.noKw hD
  obtain ⟨a, vs, ns, rfl, rfl, hobj, hints, hlen⟩ := script_of hn hpre hwl
  refine enter_call (codeAny_mono (call w s₀ s₁ mg mb fa o pm cd doc a vs ns G Y ho (fd_plain hd) hcd hmg hobj hints hlen hg) fun r s' hq => ?_)
  obtain ⟨rfl, h2, h3, h4⟩ := hq
  exact ⟨.inl ⟨.bool true, .bool true, [], rfl, fun _ => rfl, .bool true, post_true l _, fun _ => ⟨List.Pairwise.nil, fun _ hm => (nomatch hm)⟩⟩, h2, h3, h4⟩

/-! ### rules over ANY heap (no ledger) from facts about the written part K: the library's own take a ledger (News) for what they write -/
section
variable {prog : Program} {w : World} {A : Around} {E : Value → Shared → Prop} {s : Shared} {K : Frag}

/-! the whole heap as the ledger: makes every rule that writes through a ledger a rule over any heap -/
def noObjs (h : Heap) : Heap := { h with objs := #[] }
def ledger (h : Heap) (L d : Addr) : List (Addr × Obj) := (List.range h.objs.size).filterMap fun a => if a = L ∨ a = d then none else (h.get? a).map fun o => (a, o)
end
end Att

namespace L2
open PySem PySem.Spec PyProof.Rows

theorem vals_ints : ∀ {vs : List Value} {ns : List Int}, IntsAre vs ns → Vals (ns.map V.int) vs
  | _, _, .nil => .nil
  | _, _, .cons n t h => .cons ⟨t, rfl⟩ (vals_ints h)

/-- nothing is tracked but the script, known to the object (or it is an object of the module) -/
def Only (H : Hp) : Prop := ∀ b, H b = none ∨ ∃ o xs, H b = some (.frz o (.lst xs))

/-- THE HEAD: the law's promise, at the heap behind the top. F, the promise of the law's def, may use that base is part of the heap (so K.In base, base.Ns mainGlobals mg stand in Mod) -/
theorem law_call {P : Program} {w : World} {K : PySem.W.Frag} {mg mb : Str → Option Value} {CX : CXT} {k : Nat} {fa a : Addr} {fd : FuncData} {x : Str} {sp : Sp} {s₁ : Shared} {vs : List Value} {ns : List Int}
    (KX : K.In s₁.heap) (hns : s₁.heap.Ns mainGlobals mg) (hb : s₁.heap.Ns builtinsNs mb) (hbb : ∀ x : Str, x ≠ "__name__" → mb x = bootBuiltins x) (hlim : s₁.heap.NoLimit) (hg : s₁.gens = #[])
    (ha : s₁.heap.get? a = some { cls := .type "list", data := .seq vs.toArray }) (hi : IntsAre vs ns) (hl : ns.length ≤ sizeLine) (hr : Room k callerA)
    (F : ∀ base : Heap, K.In base → base.Ns mainGlobals mg → FnOk P w K mg base CX k fa fd [x] sp) (hbind : ∀ (s : Shared) (u : Value), BindsTo s fd ⟨[u], []⟩ [(x, u)])
    (hsp : ∀ H : Hp, Only H → SqL K H a (ns.map V.int) → sp [.ref a] H (fun v _ => v = .bl true) fun _ _ _ => False)
    (hCX : ∀ H e s', CX [] H s₁ (fun _ _ _ => False) e s' → False) :
    codeAny (model P w) callerA (.call (.ref fa) ⟨[.ref a], []⟩) (fun r s' => r = .ok (.ret (.bool true)) ∧ OldK s₁.heap s'.heap ∧ s'.os = s₁.os ∧ AllBare s'.gens) s₁ := by
  have rv := vals_ints hi
  have lenV := hi.length
  -- from an abstract heap in which nothing but the script may be tracked
  have core : ∀ H : Hp, Only H → SqL K H a (ns.map V.int) → HOk P w H s₁.heap → (∀ b, H b ≠ none → b = a) → (H a ≠ none → K.lookup a = none) →
      codeAny (model P w) callerA (.call (.ref fa) ⟨[.ref a], []⟩) (fun r s' => r = .ok (.ret (.bool true)) ∧ OldK s₁.heap s'.heap ∧ s'.os = s₁.os ∧ AllBare s'.gens) s₁ := by
    intro H hO hS hok hA hK
    have base_of : ∀ {b : Addr} {o : Obj}, s₁.heap.get? b = some o → H b = none → (hidT s₁.heap H).get? b = some o := fun e n => hidT_get e n
    have noA : ∀ {b : Addr} {o : Obj} {es : Array DictEntry} {ep : Nat}, s₁.heap.get? b = some o → o.data = .dict es ep → H b = none := fun {b o es ep} e d => by
      cases q : H b with
      | none => rfl
      | some u =>
        have e' : b = a := hA b (by rw [q]; simp)
        subst e'
        rw [ha] at e; cases e
        have d' : Data.seq vs.toArray _ = Data.dict es ep := d
        cases d'
    have nsK : ∀ {b : Addr} {m : Str → Option Value}, s₁.heap.Ns b m → (hidT s₁.heap H).Ns b m := fun {b m} ⟨o, es, ep, e, d, r⟩ => ⟨o, es, ep, base_of e (noA e d), d, r⟩
    have hKb : K.In (hidT s₁.heap H) := fun b o e => base_of (KX b o e) (by
      cases q : H b with
      | none => rfl
      | some u =>
        have e' : b = a := hA b (by rw [q]; simp)
        subst e'
        rw [hK (by rw [q]; simp)] at e; cases e)
    have hM : Mod K mg (hidT s₁.heap H) := ⟨hKb, nsK hns, ⟨mb, nsK hb, hbb⟩, let ⟨mc, h1, h2⟩ := hlim; ⟨mc, nsK h1, h2⟩⟩
    have e0 : Env0 P w K mg (hidT s₁.heap H) callerA [] s₁ H := ⟨rfl, hM, fun b o e => of_hidT e, Nat.le_of_eq (hidT_size _ _), trivial, fun b hb => absurd (show b ∈ ([] : List Addr) from hb) (by simp), hok, .of_eq hg⟩
    refine codeAny_mono ((F _ hKb (nsK hns)).run callerA [] s₁ H ⟨[.ref a], []⟩ [.ref a] [.ref a] _ _ hr e0 (hbind s₁ (.ref a)) (.cons rfl .nil) (hsp H hO hS)) fun r s' h => ?_
    cases r with
    | error e => exact (hCX H e s' h).elim
    | ok fl =>
      cases fl with
      | next => exact False.elim h
      | brk => exact False.elim h
      | cont => exact False.elim h
      | ret u =>
        obtain ⟨v, H', os, bare, un, hok', r', q⟩ := h
        have q' : v = .bl true := q
        subst q'
        obtain rfl : u = Value.bool true := r'
        refine ⟨rfl, OldK.of_keep fun b o e => ?_, os, bare⟩
        cases q : H b with
        | none => exact un.keep b o e q (by intro z; exact absurd (show b ∈ ([] : List Addr) from z) (by simp)) (by simp)
        | some u =>
          rcases hO b with z | ⟨ob, xs, z⟩
          · rw [q] at z; cases z
          · have z2 := un.frzs b ob _ z
            obtain ⟨e1, _⟩ := hok b _ z
            obtain ⟨e2, _⟩ := hok' b _ z2
            rw [e] at e1; cases e1
            exact e2
  cases hk : K.lookup a with
  | some o =>
    -- the script is one of the module's own objects
    have e := KX a o hk
    rw [ha] at e
    cases e
    refine core (fun _ => none) (fun _ => .inl rfl) (.inr ⟨_, vs.toArray, _, hk, rfl, rfl, rfl, by rw [List.size_toArray, lenV]; exact hl, by simpa using rv⟩) (fun b u z => by have z' : (none : Option HO) = some u := z; cases z') (fun b z => absurd rfl z) fun z => absurd rfl z
  | none =>
    refine core (fun b => if b = a then some (.frz { cls := .type "list", data := .seq vs.toArray } (.lst (ns.map V.int))) else none) (fun b => ?_) (.inl (.inr ⟨{ cls := .type "list", data := .seq vs.toArray }, if_pos rfl⟩)) (fun b u z => ?_) (fun b z => ?_) fun _ => hk
    · by_cases hb : b = a
      · exact .inr ⟨_, _, if_pos hb⟩
      · exact .inl (if_neg hb)
    · by_cases hb : b = a
      · have z' := (if_pos hb).symm.trans z
        cases z'
        subst hb
        exact ⟨ha, by rw [List.length_map]; exact hl, vs, _, rv, ha⟩
      · have z' := (if_neg hb).symm.trans z
        cases z'
    · by_cases hb : b = a
      · exact hb
      · exact absurd (if_neg hb) z
end L2

namespace L2
open PySem PySem.Spec PyProof.Rows

abbrev KOf {K : PySem.W.Frag} {h : Heap} (_ : K.In h) : PySem.W.Frag := K

/-- the goal that k_head leaves (case hc), from the law's promise. F gives the function object fd (K's own) once, then the promise over every base -/
theorem walk_of {l : PySem.W.OpenLaw} {n k : Nat} {q : Program} {loose : List Str} {XP : (Str → Option Value) → Heap → Prop} {YP : World → Heap → Prop} {d : DefRec} {K : Params → PySem.W.Frag} {CX : World → CXT} {sp : World → Sp} {x : Str}
    (hn : l.most = some n) (hn2 : n ≤ sizeLine) (hdf : d.params.defaults = []) (hr : Room k callerA)
    (hY : ∀ (w : World) (h : Heap), YP w h → (K w.params).In h)
    (F : ∀ (w : World) (mg : Str → Option Value) (fa : Addr) (h : Heap), (K w.params).In h → h.Ns mainGlobals mg → mg d.name = some (.ref fa) →
      ∃ fd : FuncData, (∀ (s : Shared) (u : Value), BindsTo s fd ⟨[u], []⟩ [(x, u)]) ∧
        ∀ base : Heap, (K w.params).In base → base.Ns mainGlobals mg → FnOk l.prog w (K w.params) mg base (CX w) k fa fd [x] (sp w))
    (hsp : ∀ (w : World) (H : Hp) (a : Addr) (ns : List Int), ns.length ≤ n → Only H → SqL (K w.params) H a (ns.map V.int) → sp w [.ref a] H (fun v _ => v = .bl true) fun _ _ _ => False)
    (hCX : ∀ (w : World) (H : Hp) (s : Shared) (e : Value) (s' : Shared), CX w [] H s (fun _ _ _ => False) e s' → False) :
    PySem.W.WalkO q loose XP YP l.row.toRowW d [] (fun f vs => PySem.call f vs) := by
  refine Att.attach_call hn hdf fun w s₀ s₁ mg mb fa o pm cd doc a vs ns G Y ho hd hcd hmg hobj hints hlen hg => ?_
  have KX := hY w _ Y
  obtain ⟨fd, hb, hF⟩ := F w mg fa _ KX G.T.g hmg
  exact law_call KX G.T.g G.T.b G.T.builtins G.T.nolimit hg hobj hints (Nat.le_trans hlen hn2) hr hF hb (fun H hO hS => hsp w H a ns hlen hO hS) fun H e s' => hCX w H s₁ e s'
end L2

/- THE LAST THEOREM (shape; LID, My.* are yours):
   My.Adr: a structure of the addresses that your layer names (classes, functions); My.Txt K t: a structure (Prop) of the equations over K;
   My.txt_mk : {K} {implicit addresses ..} (e1 : nsIn K mainGlobals "law" = some (some (.ref f))) (e2 : K.lookup f = some ⟨oc, od, .func (fnOf "law" "law" params body scope dV kV doc pm an cdv ct), sl⟩) (e3 : codeIn K cdv "law" = true) .. : ∃ t, My.Txt K t

set_option maxRecDepth 100000 in
set_option maxHeartbeats 0 in
theorem PySem.Challenge.cw_LID_holds : PySem.Challenge.rw_LID.Holds := by
  w_on; o_law; k_head; (case hw => w_witness2)
  k_fill
  refine L2.walk_of (l := PySem.Challenge.rw_LID) (n := 63) (k := 40) (x := "script") (CX := fun w => ..) (sp := fun _ => My.sp_law) rfl (by decide) rfl ⟨rfl, by decide, by decide⟩ (fun w h Y => PySem.W.kIn_of Y) ?F ?S ?C
  case F =>
    intro w mg fa h KX G hmg
    have T : ∃ t, My.Txt (L2.KOf KX) t := by
      dsimp only [L2.KOf]                          -- K must stand as «<heap const> w.params» for k_is
      refine' My.txt_mk ?e1 ?e2 ?e3 ..
      (case e1 => PySem.W.k_is)                    -- in the order: a name -> its address -> its object -> its parts
      (case e2 => PySem.W.k_is)
      ..
    obtain ⟨t, T⟩ := T
    have e0 := hmg.symm.trans (PySem.W.mg_of KX G T.law)
    cases e0                                       -- fa is the law's own address
    exact ⟨_, fun s u => .of_eq rfl, fun base kb nb => My.law_fn T kb nb⟩     -- if «.of_eq rfl» comes too early: refine' ⟨_, ?b, fun base kb nb => My.law_fn T kb nb⟩; exact fun s u => .of_eq rfl
  case S => exact fun w H a ns hl hO hS => ..
  case C => exact ..
(the tactic k_is has no namespace: write k_is) -/

/-! SHORT WORDS over the layer: a def of the text, its body, what a loop and a test want. -/
namespace L2
open PySem PySem.Spec PyProof.Rows

/-! ### the text by places -/
/-- the j-th statement of a class's body -/
def inClass (s : Stmt) (j : Nat) : Stmt := match s with
  | .ClassDef _ _ _ body _ _ _ _ _ _ _ => body.getD j (.Pass ⟨0, 0, 0, 0⟩)
  | _ => .Pass ⟨0, 0, 0, 0⟩
def defArgs (s : Stmt) : Arguments := match s with
  | .FunctionDef _ a _ _ _ _ _ _ _ _ => a
  | _ => { posonlyargs := [], args := [], vararg := none, kwonlyargs := [], kw_defaults := [], kwarg := none, defaults := [] }
def defBody (s : Stmt) : List Stmt := match s with
  | .FunctionDef _ _ b _ _ _ _ _ _ _ => b
  | _ => []
def defScope (s : Stmt) : Scope := match s with
  | .FunctionDef _ _ _ _ _ _ sc _ _ _ => sc
  | _ => { kind := .function, names := [], isGenerator := false, isCoroutine := false }

/-! ### no exception leaves a def -/
abbrev CX0 : CXT := fun _ _ _ _ _ _ => False
abbrev E0 : XK := fun _ _ _ => False
theorem pass0 {X : Cx} : Passes CX0 X E0 := fun _ _ _ _ _ _ _ h => h.elim

/-! ### a def (or method) of the text as it stands behind the top -/
structure Fun (K : PySem.W.Frag) (x qual : Str) (st : Stmt) (f : Addr) (fd : FuncData) : Prop where
  ex : ∃ (oc : Value) (od : Option Addr) (kV doc pm : Value) (an : Option Addr) (cdv ct : Value) (osl : Array (Option Value)),
    fd = PySem.W.fnOf x qual (defArgs st) (defBody st) (defScope st) .none kV doc pm an cdv ct ∧ K.lookup f = some ⟨oc, od, .func fd, osl⟩ ∧ PySem.W.codeIn K cdv qual = true
  kp : PySem.W.keepIn K (.ref f) = true
section
variable {P : Program} {w : World} {K : PySem.W.Frag} {mg : Str → Option Value} {base : Heap}
/-- THE RULE for a def: its body as a term of rules, and the reading of that term -/
theorem Fun.ok {x qual : Str} {st : Stmt} {f : Addr} {fd : FuncData} {N ps : List Str} {k : Nat} {sp : Sp} (F : Fun K x qual st f fd) (S : FnScope N ps (defScope st)) (len : ∀ vs H Q E, sp vs H Q E → vs.length = ps.length)
    (hbody : ∀ (cdv : Value) (A : Around) (outer : List Env) (s : Shared) (H : Hp) (vs : List V) (Q : VK) (E : XK), Room k (A.deeper (envOfC qual (defScope st) s.heap.objs.size f cdv)) → sp vs H Q E →
      ∃ t, PSs (cxOf CX0 P w K mg base N qual (defScope st) f cdv A outer s H E).nox (defBody st) t ∧ t { nx := fun _ H' => Q .non H', rt := Q } (start N vs) H) : FnOk P w K mg base CX0 (k + 1) f fd ps sp := by
  obtain ⟨oc, od, kV, doc, pm, an, cdv, ct, osl, rfl, lk, hcd⟩ := F.ex
  refine fn_of lk hcd S len fun A outer s H vs Q E hr hsp => ?_
  obtain ⟨t, h, q⟩ := hbody cdv A outer s H vs Q E hr hsp
  exact ⟨t, h.nox, q⟩
/-- how its arguments bind (no defaults): h is «fun _ _ _ _ _ _ us hl => match us, hl with | [_, _], _ => rfl», one _ a parameter -/
theorem Fun.binds {x qual : Str} {st : Stmt} {f : Addr} {fd : FuncData} {ps : List Str} (F : Fun K x qual st f fd)
    (h : ∀ (kV doc pm : Value) (an : Option Addr) (cdv ct : Value) (us : List Value), us.length = ps.length → bindArgs (PySem.W.fnOf x qual (defArgs st) (defBody st) (defScope st) .none kV doc pm an cdv ct) ⟨us, []⟩ = pure (ps.zip us)) : Binds K fd ps [] := by
  obtain ⟨oc, od, kV, doc, pm, an, cdv, ct, osl, rfl, lk, hcd⟩ := F.ex
  exact .all (h kV doc pm an cdv ct)
theorem fun_mk {x qual : Str} {st : Stmt} {f : Addr} {oc : Value} {od an : Option Addr} {osl : Array (Option Value)} {kV doc pm cdv ct : Value} (l : K.lookup f = some ⟨oc, od, .func (PySem.W.fnOf x qual (defArgs st) (defBody st) (defScope st) .none kV doc pm an cdv ct), osl⟩)
    (c : PySem.W.codeIn K cdv qual = true) (k : PySem.W.keepIn K (.ref f) = true) : Fun K x qual st f (PySem.W.fnOf x qual (defArgs st) (defBody st) (defScope st) .none kV doc pm an cdv ct) := ⟨⟨oc, od, kV, doc, pm, an, cdv, ct, osl, rfl, l, c⟩, k⟩
end
theorem hu_of {A : Around} {k : Nat} (hr : Room k A) : A.units + 1 < cLine := Nat.lt_of_le_of_lt (Nat.add_le_add_left (by decide : 1 ≤ 64) _) hr.units
/-! ### expressions in short: the name that stands in the i-th slot -/
section
variable {X : Cx}
theorem pv (i : Nat) {x : Str} {pos : Pos} (hN : X.N[i]? = some x := by rfl) (hv : Vis X.env.scope x := by first | exact Or.inl rfl | exact Or.inr (Or.inl rfl) | exact Or.inr (Or.inr rfl)) (hd : (x == ("__debug__" : Str)) = false := by decide)
    (hcd : (x == ("__classdict__" : Str)) = false := by decide) : PE X (.Name x pos) (tVar i) := pe_var hN hv hd hcd
end

/-! ### tests -/
theorem iteF {A B : Prop} (h : B) : if false = true then A else B := by
  rw [if_neg Bool.false_ne_true]
  exact h
theorem iteT {A B : Prop} (h : A) : if true = true then A else B := by
  rw [if_pos rfl]
  exact h
/-! ### heaps -/
/-- all that was tracked is as it was -/
def Same (H H' : Hp) : Prop := ∀ b o, H b = some o → H' b = some o
theorem Same.refl (H : Hp) : Same H H := fun _ _ h => h
theorem Same.trans {H H1 H2 : Hp} (a : Same H H1) (b : Same H1 H2) : Same H H2 := fun c o h => b c o (a c o h)
theorem Same.free {H H' : Hp} (e : Same H H') {l : Addr} (h : H' l = Option.none) : H l = Option.none := by
  cases q : H l with
  | none => rfl
  | some o =>
    rw [e l o q] at h
    cases h
theorem Same.seq {K : PySem.W.Frag} {H H' : Hp} {a : Addr} {xs : List V} (e : Same H H') (h : SqL K H a xs) : SqL K H' a xs := by
  rcases h with (h | ⟨o, h⟩) | h
  · exact .inl (.inl (e _ _ h))
  · exact .inl (.inr ⟨o, e _ _ h⟩)
  · exact .inr h

end L2
section
namespace L2
open PySem PySem.Spec PyProof.Rows

/-! ### lists of pairs as tables -/
section
variable {κ : Type} [DecidableEq κ]
def valV (kvs : List (κ × V)) (k : κ) : Option V := (kvs.find? fun kv => decide (kv.1 = k)).map (·.2)
/-- in its place, or at the end -/
def putK (kvs : List (κ × V)) (k : κ) (v : V) : List (κ × V) :=
  if (kvs.any fun kv => decide (kv.1 = k)) = true then kvs.map (fun kv => if kv.1 = k then (kv.1, v) else kv) else kvs ++ [(k, v)]
def dropK (kvs : List (κ × V)) (k : κ) : List (κ × V) := kvs.filter fun kv => decide (kv.1 ≠ k)

theorem valV_pos {p : κ × V} {r : List (κ × V)} {k : κ} (e : p.1 = k) : valV (p :: r) k = some p.2 := by simp [valV, List.find?_cons, e]
theorem valV_neg {p : κ × V} {r : List (κ × V)} {k : κ} (e : ¬ p.1 = k) : valV (p :: r) k = valV r k := by simp [valV, List.find?_cons, e]
theorem length_putK (kvs : List (κ × V)) (k : κ) (v : V) : (putK kvs k v).length ≤ kvs.length + 1 := by
  unfold putK
  split
  · rw [List.length_map]; (first | lia | omega)
  · rw [List.length_append, List.length_cons, List.length_nil]; (first | lia | omega)
/-- raw tables of the same keys -/
theorem KV.val {kvs : List (κ × V)} {vs : List (κ × Value)} (r : KV kvs vs) (k : κ) : RelO (valV kvs k) (valueAt vs k) := by
  unfold KV at r
  induction r with
  | nil => exact True.intro
  | @cons p q ps qs h t ih =>
    obtain ⟨h1, h2⟩ := h
    by_cases e : p.1 = k
    · have e' : q.1 = k := h1.symm.trans e
      have b : valueAt (q :: qs) k = some q.2 := by simp [valueAt, List.find?_cons, e']
      rw [valV_pos e, b]; exact h2
    · have e' : ¬ q.1 = k := fun z => e (h1.trans z)
      have b : valueAt (q :: qs) k = valueAt qs k := by simp [valueAt, List.find?_cons, e']
      rw [valV_neg e, b]; exact ih
theorem KV.any {kvs : List (κ × V)} {vs : List (κ × Value)} (r : KV kvs vs) (k : κ) : (kvs.any fun kv => decide (kv.1 = k)) = vs.any fun kv => decide (kv.1 = k) := by
  unfold KV at r
  induction r with
  | nil => rfl
  | cons h t ih => rw [List.any_cons, List.any_cons, ih, h.1]
theorem KV.repl {kvs : List (κ × V)} {vs : List (κ × Value)} (r : KV kvs vs) (k : κ) {y : V} {u : Value} (ry : RelV y u) :
    KV (kvs.map fun kv => if kv.1 = k then (kv.1, y) else kv) (vs.map fun kv => if kv.1 = k then (kv.1, u) else kv) := by
  unfold KV at r ⊢
  induction r with
  | nil => exact .nil
  | @cons p q ps qs h t ih =>
    rw [List.map_cons, List.map_cons]
    refine .cons ?_ ih
    obtain ⟨h1, h2⟩ := h
    by_cases e : p.1 = k
    · rw [if_pos e, if_pos (h1.symm.trans e)]; exact ⟨h1, ry⟩
    · rw [if_neg e, if_neg (fun z => e (h1.trans z))]; exact ⟨h1, h2⟩
theorem KV.put {kvs : List (κ × V)} {vs : List (κ × Value)} (r : KV kvs vs) (k : κ) {y : V} {u : Value} (ry : RelV y u) : KV (putK kvs k y) (stored vs k u) := by
  unfold putK stored
  rw [r.any k]
  by_cases e : (vs.any fun kv => decide (kv.1 = k)) = true
  · rw [if_pos e, if_pos e]; exact r.repl k ry
  · rw [if_neg e, if_neg e]; exact Paired.snoc r ⟨rfl, ry⟩
end


/-! ### a tracked dict, its keys ints and texts or tuples of these -/
theorem kV_is {P : Program} {w : World} {k : Key} {u : Value} (r : RelV (kV k) u) : (mixKind P w).is k u = true := by
  cases k with
  | inl i => obtain ⟨t, e⟩ := (show ∃ t, u = Value.int i t from r); subst e; exact mixKind_int P w i t
  | inr x => obtain ⟨t, e⟩ := (show ∃ t, u = Value.str x t from r); subst e; exact mixKind_str P w x t
theorem items_are {P : Program} {w : World} : ∀ {ks : List Key} {us : List Value}, Vals (ks.map kV) us → ItemsAre (mixKind P w) ks us
  | [], _, r => by rw [List.map_nil] at r; cases r; exact .nil
  | k :: ks, _, r => by
    rw [List.map_cons] at r
    cases r with
    | cons h t => exact .cons (kV_is h) (items_are t)

/-- raw entries of a dict with tuple keys -/
abbrev KT (H : Hp) : List (List Key × V) → List (List Key × Addr × Value) → Prop := Paired fun p q => p.1 = q.1 ∧ H q.2.1 = some (.tup (p.1.map kV)) ∧ RelV p.2 q.2.2
theorem KT.val {H : Hp} {kvs : List (List Key × V)} {xs : List (List Key × Addr × Value)} (r : KT H kvs xs) (k : List Key) : RelO (valV kvs k) ((atKey xs k).map (·.2)) := by
  induction r with
  | nil => exact True.intro
  | @cons p q ps qs h t ih =>
    obtain ⟨h1, _, h2⟩ := h
    by_cases e : p.1 = k
    · have e' : q.1 = k := h1.symm.trans e
      have b : atKey (q :: qs) k = some q.2 := by simp [atKey, List.find?_cons, e']
      rw [valV_pos e, b]; exact h2
    · have e' : ¬ q.1 = k := fun z => e (h1.trans z)
      have b : atKey (q :: qs) k = atKey qs k := by simp [atKey, List.find?_cons, e']
      rw [valV_neg e, b]; exact ih
section
variable {P : Program} {w : World} {H : Hp} {h : Heap} {a : Addr}
theorem rd_of {u : HO} (ok : HOk P w H h) (e : Rd H a u) : ObjOk P w H h a u := e.ok ok
theorem dk_rd {kvs : List (Key × V)} (ok : HOk P w H h) (e : Rd H a (.dK kvs)) : kvs.length ≤ sizeLine ∧ (a == sysModules) = false ∧ ∃ vs, KV kvs vs ∧ h.DictOf (mixKind P w) a vs :=
  show ObjOk P w H h a (.dK kvs) from rd_of ok e
theorem dk_of {kvs : List (Key × V)} (ok : HOk P w H h) (e : H a = some (.dK kvs)) : kvs.length ≤ sizeLine ∧ (a == sysModules) = false ∧ ∃ vs, KV kvs vs ∧ h.DictOf (mixKind P w) a vs := dk_rd ok (.inl e)
/-- a tracked tuple of ints and texts is a key -/
theorem key_of {ks : List Key} (ok : HOk P w H h) (e : H a = some (.tup (ks.map kV))) : (tupleKind (mixKind P w)).is h ks a := by
  obtain ⟨_, its, r, o, h1, h2, n, h3⟩ := (show ObjOk P w H h a (.tup (ks.map kV)) from ok a _ e)
  exact ⟨o, its.toArray, n, h1, h2, h3, by simpa using items_are r⟩
theorem dt_rd {kvs : List (List Key × V)} (ok : HOk P w H h) (e : Rd H a (.dT kvs)) : kvs.length ≤ sizeLine ∧ (a == sysModules) = false ∧
    ∃ xs, KT H kvs xs ∧ h.DictOfH (tupleKind (mixKind P w)) a xs := by
  obtain ⟨z, y, xs, r, o, es, ep, h1, h2, h3, h4, h5⟩ := (show ObjOk P w H h a (.dT kvs) from rd_of ok e)
  refine ⟨z, y, xs, r, o, es, ep, h1, h2, h3, h4, fun x hx => ?_, h5⟩
  have all : ∀ {l : List (List Key × V)} {m : List (List Key × Addr × Value)}, KT H l m → ∀ x ∈ m, (tupleKind (mixKind P w)).is h x.1 x.2.1 := by
    intro l m q
    induction q with
    | nil => intro x hx; exact nomatch hx
    | @cons p q ps qs hq t ih =>
      intro x hx
      rcases List.mem_cons.mp hx with e | hx
      · subst e
        exact key_of ok (by rw [← hq.1]; exact hq.2.1)
      · exact ih x hx
  exact all r x hx
end

/-- what the dict at a holds at the key y -/
def DGet (H : Hp) (a : Addr) (y : V) (r : Option V) : Prop :=
  (∃ kvs k, Rd H a (.dK kvs) ∧ y = kV k ∧ r = valV kvs k) ∨ ∃ kvs k b, Rd H a (.dT kvs) ∧ y = .ref b ∧ H b = some (.tup (k.map kV)) ∧ r = valV kvs k
/-- the heap behind a[y] = v -/
def DPut (H : Hp) (a : Addr) (y v : V) (H' : Hp) : Prop :=
  (∃ kvs k, H a = some (.dK kvs) ∧ y = kV k ∧ kvs.length < sizeLine ∧ H' = upd H a (.dK (putK kvs k v))) ∨
  ∃ kvs k b, H a = some (.dT kvs) ∧ y = .ref b ∧ H b = some (.tup (k.map kV)) ∧ kvs.length < sizeLine ∧ H' = upd H a (.dT (putK kvs k v))
theorem DGet.k {H : Hp} {a : Addr} {kvs : List (Key × V)} {k : Key} (e : H a = some (.dK kvs)) : DGet H a (kV k) (valV kvs k) := .inl ⟨kvs, k, .inl e, rfl, rfl⟩
section
variable {X : Cx} {pins : List (Addr × Obj)} {σ : St} {H : Hp} {s : Shared} {a : Addr} {y v : V} {u r : Value} {o : Option V} {A : Around} {E : Value → Shared → Prop}

theorem Inv.big (I : Inv X pins σ H s) : sysModules < s.heap.objs.size := by
  have h : mainGlobals < s.heap.objs.size := (I.mod.glob.keeps I.bk).lt
  exact Nat.lt_trans (by decide) h

/-- d[y], there -/
theorem d_getItem {Q : Value → Shared → Prop} (hu : A.units + 1 < cLine) (I : Inv X pins σ H s) (g : DGet H a y (some v)) (ry : RelV y u) (h : ∀ w' s', Inv X pins σ H s' → RelV v w' → Q w' s') :
    wpAny (model X.prog X.w) A (getItem (.ref a) u) Q E s := by
  rcases g with ⟨kvs, k, e, ey, l⟩ | ⟨kvs, k, b, e, ey, eb, l⟩
  · subst ey
    obtain ⟨z, hd, vs, rel, dd⟩ := dk_rd I.hok e
    obtain ⟨w', hw, rw'⟩ := RelO.some_of (v := v) (o := valueAt vs k) (by rw [l]; exact rel.val k)
    exact wpAny_getItem_of (kV_is ry) dd.mapOf hw (h w' _ (I.tok _) rw')
  · subst ey
    cases (show u = Value.ref b from ry)
    obtain ⟨z, hd, xs, rel, dd⟩ := dt_rd I.hok e
    obtain ⟨w', hw, rw'⟩ := RelO.some_of (v := v) (o := (atKey xs k).map (·.2)) (by rw [l]; exact rel.val k)
    obtain ⟨p, hp, hp2⟩ := Option.map_eq_some_iff.mp hw
    refine wpAny_getItem_heap (tupleKind_room_in1 hu) (key_of I.hok eb) dd hp ?_
    rw [hp2]
    exact h w' _ (I.tok _) rw'
/-- a dict's object is replaced -/
theorem d_write {h' : Heap} {t' : Nat} {ob : HO} (I : Inv X pins σ H s) (mu : Mut (H a)) (hs : Heap.SameBut a s.heap h') (he : ∃ q, h'.get? a = some q) (new : ObjOk X.prog X.w (upd H a ob) h' a ob) :
    Inv X pins σ (upd H a ob) { s with heap := h', toks := t' } :=
  I.write (x := a) (e := a) mu (.inl rfl) (fun b q hb z => (hs.2 b hb).trans z) he new
theorem dk_new {P : Program} {w : World} {H' : Hp} {h' : Heap} {kvs : List (Key × V)} {vs : List (Key × Value)} (z : kvs.length ≤ sizeLine) (hd : (a == sysModules) = false) (rel : KV kvs vs) (dd : h'.DictOf (mixKind P w) a vs) :
    ObjOk P w H' h' a (.dK kvs) := ⟨z, hd, vs, rel, dd⟩
end

section
variable {X : Cx} {pins : List (Addr × Obj)} {σ : St} {H : Hp} {s : Shared} {a : Addr} {kvs : List (Key × V)} {k : Key} {u : Value} {A : Around} {E : Value → Shared → Prop}
end


/-! ### readings and rules -/
/-- the element of a subscription, not a slice -/
def NoSl (i : Expr) : Prop := ∀ ov iv, subscripted i false ov iv = operate [ov, iv] (getItem ov iv)
theorem subD_of {prog : Program} {w : World} {A : Around} {E : Value → Shared → Prop} {s : Shared} {env : Env} {value slice : Expr} {pos : Pos} {T id : String} {Q : Value → Shared → Prop}
    (hl : typeLookup (.type T) "__getitem__" = pure (some (.builtin id))) (hs : NoSl slice)
    (h : wpAny (model prog w) A (eval value env) (fun o s₁ => wpAny (model prog w) A (eval slice env) (fun i s₂ => s₂.TypeIs o T ∧ wpAny (model prog w) A (getItem o i) Q E s₂) E s₁) E s) :
    wpAny (model prog w) A (eval (.Subscript value slice pos) env) Q E s := by
  refine Subscript_ (wpAny_mono h (fun o s₁ h₁ => wpAny_mono h₁ (fun i s₂ h₂ => ?_) fun _ _ x => x) fun _ _ x => x)
  obtain ⟨hT, h₂⟩ := h₂
  unfold subscriptTail
  refine wpAny_bind ?_
  rw [getitemInPython_of_ne hT.not_modules]
  refine wpAny_bind (wpAny_specialOf hT hl ?_)
  have fin : wpAny (model prog w) A (subscripted slice false o i) (fun r s₃ => wpAny (model prog w) A (letTemporaryGo value o r >>= fun _ => pure r) Q E s₃) E s₂ := by
    rw [hs o i]
    exact wpAny_operating (wpAny_mono h₂ (fun r s₃ h₃ => wpAny_bind (wpAny_letTemporaryGo (wpAny_pure h₃))) fun _ _ x => x)
  first
    | exact wpAny_pure (wpAny_bind fin)
    | exact wpAny_bind (wpAny_pure (wpAny_bind fin))
    | exact wpAny_bind fin

theorem dict_typeIs {X : Cx} {pins : List (Addr × Obj)} {σ : St} {H : Hp} {s : Shared} {a : Addr} {y : V} {o : Option V} (I : Inv X pins σ H s) (g : DGet H a y o) : s.TypeIs (.ref a) "dict" := by
  rcases g with ⟨kvs, k, e, _, _⟩ | ⟨kvs, k, b, e, _, _, _⟩
  · obtain ⟨_, _, vs, _, dd⟩ := dk_rd I.hok e
    exact dd.typeIs
  · obtain ⟨_, _, xs, _, dd⟩ := dt_rd I.hok e
    exact dd.typeIs
/-- d[y] -/
def tDGet (td ty : TE) : TE := fun σ H Q => td σ H fun x H1 => ty σ H1 fun y H2 => ∃ a v, x = .ref a ∧ DGet H2 a y (some v) ∧ Q v H2
/-- y in d, y not in d -/
def tDIn (ty td : TE) : TE := fun σ H Q => ty σ H fun y H1 => td σ H1 fun x H2 => ∃ a o, x = .ref a ∧ DGet H2 a y o ∧ Q (.bl o.isSome) H2
def tDNotIn (ty td : TE) : TE := fun σ H Q => ty σ H fun y H1 => td σ H1 fun x H2 => ∃ a o, x = .ref a ∧ DGet H2 a y o ∧ Q (.bl (!o.isSome)) H2
/-- d[y] = v -/
def sDPut (td ty tv : TE) : TS := fun D σ H => tv σ H fun v H1 => td σ H1 fun x H2 => ty σ H2 fun y H3 => ∃ a H4, x = .ref a ∧ DPut H3 a y v H4 ∧ D.nx σ H4
/-- d[y] op= v -/
def sDAug (td ty tv : TE) (rd : V → V → Hp → VK → Prop) : TS := fun D σ H => td σ H fun x H1 => ty σ H1 fun y H2 => ∃ a v, x = .ref a ∧ DGet H2 a y (some v) ∧
  tv σ H2 fun y2 H3 => rd v y2 H3 fun z H4 => ∃ H5, DPut H4 a y z H5 ∧ D.nx σ H5
/-- del d[y] -/
def sDDel (td ty : TE) : TS := fun D σ H => td σ H fun x H1 => ty σ H1 fun y H2 => ∃ a kvs k, x = .ref a ∧ H2 a = some (.dK kvs) ∧ y = kV k ∧ (valV kvs k).isSome = true ∧ D.nx σ (upd H2 a (.dK (dropK kvs k)))

section
variable {X : Cx} {o i e value : Expr} {pos pos' tpos : Pos} {td ty tv : TE}
theorem pe_dget (hu : X.A.units + 1 < cLine) (ho : PE X o td) (hi : PE X i ty) (hs : NoSl i) : PE X (.Subscript o i pos) (tDGet td ty) := by
  intro pins s σ H Q I h
  refine subD_of PySem.F.slot_dict_getitem.lookup hs (thn (ho pins s σ H _ I h) fun u s1 ⟨x, H1, I1, rx, q1⟩ => thn (hi pins s1 σ H1 _ I1 q1) fun iv s2 ⟨y, H2, I2, ry, a, v, ex, g, q2⟩ => ?_)
  subst ex
  obtain rfl : u = Value.ref a := rx
  exact ⟨dict_typeIs I2 g, d_getItem hu I2 g ry fun w' s3 I3 rw' => ⟨v, H2, I3, rw', q2⟩⟩
end


/-! ### displays -/
theorem dk_empty {P : Program} {w : World} {H : Hp} (h : Heap) (hb : sysModules < h.objs.size) : ObjOk P w H (h.push { cls := .type "dict", data := .dict #[] }) h.objs.size (.dK []) :=
  ⟨Nat.zero_le _, beq_eq_false_iff_ne.mpr (Ne.symm (Nat.ne_of_lt hb)), [], .nil, Heap.DictOf.new h⟩
/-- {}, to be a dict of the kind that is wanted -/
def tDNewK : TE := fun _ H Q => ∀ p, H p = none → Q (.ref p) (upd H p (.dK []))
def tDNewT : TE := fun _ H Q => ∀ p, H p = none → Q (.ref p) (upd H p (.dT []))
section
variable {X : Cx} {pos : Pos}
end

/-- the pairs of a display, from the left -/
def tPairs : List (TE × TE) → St → Hp → (List (V × V) → Hp → Prop) → Prop
  | [], _, H, Q => Q [] H
  | (tk, tv) :: r, σ, H, Q => tk σ H fun x H1 => tv σ H1 fun y H2 => tPairs r σ H2 fun ps H3 => Q ((x, y) :: ps) H3
abbrev VV : List (V × V) → List (Value × Value) → Prop := Paired fun p q => RelV p.1 q.1 ∧ RelV p.2 q.2
def PPs (X : Cx) (pos : Pos) (keys : List (Option Expr)) (values : List Expr) (trs : List (TE × TE)) : Prop :=
  ∀ (pins : List (Addr × Obj)) (s : Shared) (σ : St) (H : Hp) (Q : List (V × V) → Hp → Prop), Inv X pins σ H s → tPairs trs σ H Q →
    wpAny (model X.prog X.w) X.A (evalPairs (pairTrees keys values X.env pos)) (fun vs s' => ∃ ps H', Inv X pins σ H' s' ∧ VV ps vs ∧ Q ps H') X.xe s
theorem pps_nil {X : Cx} {pos : Pos} : PPs X pos [] [] [] := fun pins s σ H Q I h => pairTrees_nil_walk ⟨[], H, I, .nil, h⟩
theorem pps_cons {X : Cx} {pos : Pos} {k v : Expr} {ks : List (Option Expr)} {vs : List Expr} {tk tv : TE} {trs : List (TE × TE)} (hk : PE X k tk) (hv : PE X v tv) (hr : PPs X pos ks vs trs) :
    PPs X pos (some k :: ks) (v :: vs) ((tk, tv) :: trs) := fun pins s σ H Q I h =>
  pairTrees_cons_walk (thn (hk pins s σ H _ I h) fun u s1 ⟨x, H1, I1, rx, q1⟩ => thn (hv pins s1 σ H1 _ I1 q1) fun w2 s2 ⟨y, H2, I2, ry, q2⟩ =>
    thn (hr pins s2 σ H2 _ I2 q2) fun ws s3 ⟨ps, H3, I3, rel, q3⟩ => ⟨(x, y) :: ps, H3, I3, .cons ⟨rx, ry⟩ rel, q3⟩)

def mergeK (kvs more : List (Key × V)) : List (Key × V) := more.foldl (fun acc kv => putK acc kv.1 kv.2) kvs
theorem KV.merge : ∀ {more : List (Key × V)} {rs : List (Key × Value)} {kvs : List (Key × V)} {vs : List (Key × Value)}, KV more rs → KV kvs vs → KV (mergeK kvs more) (merged vs rs) := by
  intro more rs kvs vs r
  unfold KV at r
  induction r generalizing kvs vs with
  | nil => intro q; exact q
  | @cons p q ps qs h t ih =>
    intro r0
    have e : KV (putK kvs p.1 p.2) (stored vs q.1 q.2) := by
      have := r0.put p.1 h.2
      rw [← h.1]; exact this
    exact ih e
theorem length_mergeK : ∀ (more kvs : List (Key × V)), (mergeK kvs more).length ≤ kvs.length + more.length
  | [], kvs => by show kvs.length ≤ kvs.length + 0; (first | lia | omega)
  | p :: r, kvs => by
    have h1 := length_mergeK r (putK kvs p.1 p.2)
    have h2 := length_putK kvs p.1 p.2
    show (mergeK (putK kvs p.1 p.2) r).length ≤ _
    rw [List.length_cons]; (first | lia | omega)
theorem carries_of {P : Program} {w : World} : ∀ {kvs : List (Key × V)} {ws : List (Value × Value)}, VV (kvs.map fun kv => (kV kv.1, kv.2)) ws → ∃ rs, Carries (mixKind P w) ws rs ∧ KV kvs rs
  | [], _, r => by rw [List.map_nil] at r; cases r; exact ⟨[], True.intro, .nil⟩
  | p :: kvs, _, r => by
    rw [List.map_cons] at r
    cases r with
    | @cons a b as bs h t =>
      obtain ⟨rs, c, q⟩ := carries_of (P := P) (w := w) t
      obtain ⟨b1, b2⟩ := b
      exact ⟨(p.1, b2) :: rs, ⟨kV_is h.1, rfl, c⟩, .cons ⟨rfl, h.2⟩ q⟩
/-- {k: v, ..} with keys ints and texts; the new dict stands empty while the pairs are made -/
def tDisp (trs : List (TE × TE)) : TE := fun σ H Q => ∀ p, H p = none → tPairs trs σ (upd H p (.dK [])) fun ps H2 => H2 p = some (.dK []) ∧ ∃ kvs : List (Key × V), ps = kvs.map (fun kv => (kV kv.1, kv.2)) ∧ kvs.length ≤ 15 ∧ Q (.ref p) (upd H2 p (.dK (mergeK [] kvs)))
theorem pe_disp {X : Cx} {pos : Pos} {keys : List (Option Expr)} {values : List Expr} {trs : List (TE × TE)} (h : PPs X pos keys values trs) (hall : keys.all (·.isSome) = true) (hl : keys.length = values.length) (h0 : keys ≠ [])
    (h15 : keys.length ≤ 15) : PE X (.Dict keys values pos) (tDisp trs) := by
  intro pins s σ H Q I q
  have hn := I.hok.fresh (Nat.le_refl s.heap.objs.size)
  have I1 := I.laid (a := s.heap.objs.size) (o := .dK []) (h' := s.heap.push { cls := .type "dict", data := .dict #[] }) (t' := s.toks) (fun _ _ q => Heap.get?_push_of_some _ q) (Nat.le_refl _) (dk_empty s.heap I.big)
  refine wpAny_Dict_walk (knd := mixKind X.prog X.w) hall hl h0 h15 (thn (h pins _ σ _ _ I1 (q _ hn)) fun ws s2 ⟨ps, H2, I2, rel, e, kvs, ep, lk, q2⟩ => ?_)
  subst ep
  obtain ⟨rs, c, rk⟩ := carries_of (P := X.prog) (w := X.w) rel
  obtain ⟨z, hd, vs0, r0, dd⟩ := dk_of I2.hok e
  cases r0
  refine ⟨rs, c, dd, fun h' dd' hs => ⟨.ref s.heap.objs.size, _, ?_, rfl, q2⟩⟩
  have hz : (mergeK [] kvs).length ≤ sizeLine := by
    have h1 := length_mergeK kvs []
    rw [List.length_nil] at h1
    rw [sizeLine_eq]; (first | lia | omega)
  have he : ∃ q, h'.get? s.heap.objs.size = some q := let ⟨q, _, _, hq, _⟩ := dd'; ⟨q, hq⟩
  exact d_write I2 (by rw [e]; exact True.intro) hs he (dk_new hz hd (rk.merge .nil) dd')


/-! ### methods -/
/-- a method call o.m(e) of a built-in, with one argument: what must be seen of the text -/
structure M1 (X : Cx) (o : Expr) (m : Str) (apos : Pos) (e : Expr) (cpos : Pos) : Prop where
  base : attributeBase o m X.env (eval o X.env) = eval o X.env
  few : ((backTo cpos (starEach [e] X.env)).all (fun x => !x.1) && (backToKw cpos (keywordEach [] X.env)).all (fun x => x.1.isSome)
    && decide (([e] : List Expr).length + ([] : List Keyword).length + (if ([] : List Keyword).isEmpty then 0 else 1) < 30)) = true
  line : (apos.endLine == cpos.line) = true
  trees : backTo cpos (starEach [e] X.env) = [(false, eval e X.env)]
structure M2 (X : Cx) (o : Expr) (m : Str) (apos : Pos) (e f : Expr) (cpos : Pos) : Prop where
  base : attributeBase o m X.env (eval o X.env) = eval o X.env
  few : ((backTo cpos (starEach [e, f] X.env)).all (fun x => !x.1) && (backToKw cpos (keywordEach [] X.env)).all (fun x => x.1.isSome)
    && decide (([e, f] : List Expr).length + ([] : List Keyword).length + (if ([] : List Keyword).isEmpty then 0 else 1) < 30)) = true
  line : (apos.endLine == cpos.line) = true
  trees : backTo cpos (starEach [e, f] X.env) = [(false, eval e X.env), (false, eval f X.env)]

/-- a is a dict, whatever its keys -/
def IsD (H : Hp) (a : Addr) : Prop := (∃ kvs, Rd H a (.dK kvs)) ∨ ∃ kvs, Rd H a (.dT kvs)
section
variable {X : Cx} {pins : List (Addr × Obj)} {σ : St} {H : Hp} {s : Shared} {a : Addr} {y d : V} {u r : Value} {o : Option V} {A : Around} {E : Value → Shared → Prop}
end

def tDGet1 (td ty : TE) : TE := fun σ H Q => td σ H fun x H1 => ∃ a, x = .ref a ∧ IsD H1 a ∧ ty σ H1 fun y H2 => ∃ o, DGet H2 a y o ∧ Q (o.getD .non) H2
def tDGet2 (td ty tx : TE) : TE := fun σ H Q => td σ H fun x H1 => ∃ a, x = .ref a ∧ IsD H1 a ∧ ty σ H1 fun y H2 => tx σ H2 fun z H3 => ∃ o, DGet H3 a y o ∧ Q (o.getD z) H3
/-- d.pop(k): there; d.pop(k, x): there or not -/
def tDPop1 (td ty : TE) : TE := fun σ H Q => td σ H fun x H1 => ∃ a, x = .ref a ∧ IsD H1 a ∧ ty σ H1 fun y H2 => ∃ kvs k v, H2 a = some (.dK kvs) ∧ y = kV k ∧ valV kvs k = some v ∧ Q v (upd H2 a (.dK (dropK kvs k)))
def tDPop2 (td ty tx : TE) : TE := fun σ H Q => td σ H fun x H1 => ∃ a, x = .ref a ∧ IsD H1 a ∧ ty σ H1 fun y H2 => tx σ H2 fun z H3 => ∃ kvs k, H3 a = some (.dK kvs) ∧ y = kV k ∧
  (∀ v, valV kvs k = some v → Q v (upd H3 a (.dK (dropK kvs k)))) ∧ (valV kvs k = none → Q z H3)
section
variable {X : Cx} {o e f : Expr} {apos cpos : Pos} {td ty tx : TE}
end

/-! ### dict(d): a copy -/
section
variable {X : Cx} {pins : List (Addr × Obj)} {σ : St} {H : Hp} {s : Shared} {a : Addr} {kvs : List (Key × V)} {A : Around} {E : Value → Shared → Prop}
end


section
variable {X : Cx} {pins : List (Addr × Obj)} {σ : St} {H : Hp} {s : Shared} {a : Addr} {y : V} {u : Value} {A : Around} {E : Value → Shared → Prop}
end
end L2
namespace L2
open PySem PySem.Spec PyProof.Rows
/-! ### a dict's pairs: keys that differ -/
section
variable {κ : Type} [DecidableEq κ]
end
end L2
end
section
set_option Elab.async false
set_option linter.all false
set_option maxRecDepth 100000
set_option maxHeartbeats 4000000
namespace L2
open PySem PySem.Spec PyProof.Rows

/-! ### a list comprehension of one clause -/
def clOf (env : Env) : List (Str × NameKind) → List (Str × Addr) → List (Str × Addr)
  | [], acc => acc
  | (n, k) :: r, acc => clOf env r (if k == .free then (match env.cells.lookup n with | some c => (n, c) :: acc | none => acc) else acc)
theorem clOf_sub {env : Env} {x : Str} {c : Addr} : ∀ (ns : List (Str × NameKind)) (acc : List (Str × Addr)), (∀ x c, acc.lookup x = some c → env.cells.lookup x = some c) → (clOf env ns acc).lookup x = some c → env.cells.lookup x = some c
  | [], acc, h, e => h x c e
  | (n, k) :: r, acc, h, e => by
    refine clOf_sub r _ (fun y d => ?_) e
    split
    · cases q : env.cells.lookup n with
      | none => exact h y d
      | some d' =>
        intro z
        rw [List.lookup_cons] at z
        cases b : y == n with
        | true =>
          rw [b] at z
          have b' : y = n := eq_of_beq b
          rw [b', q]; exact z
        | false => rw [b] at z; exact h y d z
    · exact h y d
theorem clOf_mono {env : Env} {x : Str} : ∀ (ns : List (Str × NameKind)) (acc : List (Str × Addr)), (∃ c, acc.lookup x = some c) → ∃ c, (clOf env ns acc).lookup x = some c
  | [], acc, h => h
  | (n, k) :: r, acc, h => by
    refine clOf_mono r _ ?_
    obtain ⟨c, h⟩ := h
    split
    · cases q : env.cells.lookup n with
      | none => exact ⟨c, h⟩
      | some d' =>
        show ∃ c, List.lookup x ((n, d') :: acc) = some c
        rw [List.lookup_cons]
        cases b : x == n with
        | true => exact ⟨d', rfl⟩
        | false => exact ⟨c, h⟩
    · exact ⟨c, h⟩
theorem clOf_has {env : Env} {x : Str} {c : Addr} (hc : env.cells.lookup x = some c) : ∀ (ns : List (Str × NameKind)) (acc : List (Str × Addr)), (x, NameKind.free) ∈ ns → ∃ c, (clOf env ns acc).lookup x = some c
  | [], acc, h => by cases h
  | (n, k) :: r, acc, h => by
    rcases List.mem_cons.mp h with h | h
    · cases h
      refine clOf_mono r _ ?_
      rw [if_pos (by rfl), hc]
      exact ⟨c, by simp⟩
    · exact clOf_has hc r _ h
theorem lookup_relabel {env : Env} {x : Str} : ∀ (names : List (Str × NameKind)),
    (names.map fun (n, k) => if (k == NameKind.free && env.scope.kind == .function && env.kindOf n == some .cell) then (n, NameKind.cell) else (n, k)).lookup x
      = (names.lookup x).map fun k => if (k == NameKind.free && env.scope.kind == .function && env.kindOf x == some .cell) then NameKind.cell else k
  | [] => rfl
  | (n, k) :: r => by
    have ih := lookup_relabel (env := env) (x := x) r
    show List.lookup x ((if (k == NameKind.free && env.scope.kind == .function && env.kindOf n == some .cell) = true then (n, NameKind.cell) else (n, k)) :: _) = _
    rw [List.lookup_cons (k := n)]
    cases hx : x == n with
    | true =>
      have e : x = n := eq_of_beq hx
      subst e
      split <;> simp_all [List.lookup_cons]
    | false =>
      split <;> simp only [List.lookup_cons, hx] <;> exact ih

/-- the block's context -/
def blk (X : Cx) (N' : List Str) (scope : Scope) (C : Addr) (s : Shared) (H : Hp) (fp : List Addr) : Cx where
  prog := X.prog
  w := X.w
  K := X.K
  mg := X.mg
  base := X.base
  A := X.A
  N := N'
  s₀ := s
  H₀ := H
  env := compEnvC scope (clOf X.env scope.names []) C X.env
  outer := X.stack
  stack := X.stack
  ex := fp
  calm := X.calm
  fn := fun _ => false
  pn := []
  xe := fun _ _ => False

/-- the tests of a clause -/
def PTs (X : Cx) (ifs : List Expr) (t : TT) : Prop :=
  ∀ (pins : List (Addr × Obj)) (s : Shared) (σ : St) (H : Hp) (Q : Bool → Hp → Prop), Inv X pins σ H s → t σ H Q →
    wpAny (model X.prog X.w) X.A (forIn ifs true fun c r => if r = true then do let ok ← isTrue c X.env (eval c X.env); pure (ForInStep.yield ok) else pure (ForInStep.yield r)) (TP X pins σ Q) X.xe s
def tTrue : TT := fun _ H Q => Q true H
theorem pts_nil {X : Cx} : PTs X [] tTrue := fun _ _ _ H _ I h => wpAny_tests_nil ⟨H, I, h⟩
def subSt (σ : St) (ix : List (Option Nat)) : St := ix.map fun o => o.bind fun j => (σ[j]?).join
def CompW (J : It) (g : TG) (tc : TT) (te : TE) (τ0 : St) (H1 : Hp) (acc : Addr) (Q : VK) : Prop :=
  ∃ W : Nat → Nat → St → List V → Hp → Prop, (∃ m, W 0 m τ0 [] (upd H1 acc (.lst []))) ∧ ∀ i m τ ys H, W i m τ ys H → H acc = some (.lst ys) ∧
    ((J.stop i H ∧ Q (.ref acc) H) ∨ (J.go i H ∧ ys.length < sizeLine ∧ ∀ x H', J.yld i H x H' → g x τ H' fun τ2 H2 => tc τ2 H2 fun b H3 =>
      if b = true then te τ2 H3 fun y H4 => H4 acc = some (.lst ys) ∧ ∃ m', m' < m ∧ W (i + 1) m' τ2 (ys ++ [y]) (upd H4 acc (.lst (ys ++ [y]))) else ∃ m', m' < m ∧ W (i + 1) m' τ2 ys H3))
def tComp (wi : TI) (g : TG) (tc : TT) (te : TE) (ix : List (Option Nat)) : TE := fun σ H Q => wi σ H fun J H1 => ∀ acc, H1 acc = none → CompW J g tc te (subSt σ ix) H1 acc Q

theorem comp_loop {prog : Program} {w : World} {A : Around} {R : Result → Shared → Prop} {s : Shared} {elt target iter : Expr} {ifs : List Expr} {scope : Scope} {pos : Pos} {it acc : Value} {env : Env} (I : Nat → Shared → Prop)
    (turn : ∀ n s, I n s → wpAny (model prog w) A (pyNext it) (fun r s₁ => match r with
      | none => R (.ok .next) s₁
      | some v => wpAny (model prog w) A (letOwnedTupleGo target it v) (fun _ s₀ => wpAny (model prog w) A (assign target env v) (fun _ s₂ =>
          wpAny (model prog w) A (forIn ifs true fun c r => if r = true then do let ok ← isTrue c env (eval c env); pure (ForInStep.yield ok) else pure (ForInStep.yield r)) (fun ok s₃ =>
            if ok = true then wpAny (model prog w) A (eval elt env) (fun x s₄ =>
              wpAny (model prog w) A (call (.builtin "list.append") [acc, x]) (fun _ s₅ => ∃ m, m < n ∧ I m s₅) (fun _ _ => False) s₄) (fun _ _ => False) s₃
            else ∃ m, m < n ∧ I m s₃) (fun _ _ => False) s₂) (fun _ _ => False) s₀) (fun _ _ => False) s₁) (fun _ _ => False) s)
    (n : Nat) (h : I n s) :
    codeAny (model prog w) A (.compLoop (.ListComp elt [⟨target, iter, ifs, 0⟩] scope pos) 0 it acc env) R s := by
  refine codeAny_loop rfl I (fun n s hI => ?_) n h
  show wpAny _ A ((compTurn (.ListComp elt [⟨target, iter, ifs, 0⟩] scope pos) 0 it acc env).onRaise (fun x => do noteFrame x env; theTreesLotGoes x)) _ _ s
  refine wpAny_noted ?_
  rw [compTurn_list]
  refine wpAny_bind (wpAny_standAt (wpAny_bind (wpAny_mono (turn n s hI) (fun r s₁ h₁ => ?_) fun _ _ z => z.elim)))
  cases r with
  | none => exact wpAny_pure h₁
  | some v =>
    refine wpAny_bind (wpAny_mono h₁ (fun _ s₀ h₀' => ?_) fun _ _ z => z.elim)
    refine wpAny_bind (wpAny_mono h₀' (fun _ s₂ h₂ => wpAny_bind (wpAny_mono h₂ (fun ok s₃ h₃ => ?_) fun _ _ z => z.elim)) fun _ _ z => z.elim)
    cases ok with
    | false => exact wpAny_pure ⟨rfl, h₃⟩
    | true =>
      exact wpAny_bind (wpAny_bind (wpAny_mono h₃ (fun x s₄ h₄ => wpAny_bind (wpAny_mono h₄ (fun _ s₅ h₅ => wpAny_pure (wpAny_pure ⟨rfl, h₅⟩)) fun _ _ z => z.elim)) fun _ _ z => z.elim))

section
variable {X : Cx} {elt tg iter : Expr} {ifs : List Expr} {scope : Scope} {pos : Pos} {wi : TI} {g : TG} {tc : TT} {te : TE} {N' : List Str} {ix : List (Option Nat)}

/-- the block's entry -/
theorem blk_start {pins : List (Addr × Obj)} {σ : St} {H : Hp} {s : Shared} {h₁ : Heap} {t' : Nat} {fp : List Addr} {m : Str → Option Value}
    (hkind : scope.kind = .function) (hcell : ∀ y ∈ scope.names, y.2 ≠ .cell)
    (hfr : ∀ y ∈ scope.names, y.2 = .free → X.env.kindOf y.1 = some .cell ∨ X.env.kindOf y.1 = some .free)
    (hlen : ix.length = N'.length)
    (hix : ∀ (i j : Nat) (x : Str), ix[i]? = some (some j) → N'[i]? = some x → X.N[j]? = some x ∧ scope.names.lookup x = some .free)
    (I : Inv X pins σ H s) (hf : ∀ b ∈ fp, FpOk X pins H b) (hob : ∀ b ∈ fp, ∃ o, s.heap.get? b = some o)
    (hn : h₁.Ns s.heap.objs.size m) (hk : ∀ b o, s.heap.get? b = some o → h₁.get? b = some o) :
    Inv (blk X N' scope s.heap.objs.size s H fp) [] (subSt σ ix) H { s with heap := h₁, toks := t' } := by
  have kinds : ∀ x, scope.names.lookup x = some .free → (relabel scope X.env).names.lookup x = some .cell ∨ (relabel scope X.env).names.lookup x = some .free := fun x e => by
    have q := lookup_relabel (env := X.env) (x := x) scope.names
    rw [e] at q
    show List.lookup x (scope.names.map _) = _ ∨ List.lookup x (scope.names.map _) = _
    rw [q]
    simp only [Option.map_some]
    split
    · exact .inl rfl
    · exact .inr rfl
  have kinds' : ∀ x, ((relabel scope X.env).names.lookup x = some .cell ∨ (relabel scope X.env).names.lookup x = some .free) → scope.names.lookup x = some .free := fun x e => by
    have q := lookup_relabel (env := X.env) (x := x) scope.names
    have e' : List.lookup x (scope.names.map fun (n, k) => if (k == NameKind.free && X.env.scope.kind == .function && X.env.kindOf n == some .cell) then (n, NameKind.cell) else (n, k)) = some .cell ∨
      List.lookup x (scope.names.map fun (n, k) => if (k == NameKind.free && X.env.scope.kind == .function && X.env.kindOf n == some .cell) then (n, NameKind.cell) else (n, k)) = some .free := e
    rw [q] at e'
    cases z : scope.names.lookup x with
    | none => rw [z] at e'; rcases e' with e' | e' <;> simp at e'
    | some k =>
      rw [z] at e'
      simp only [Option.map_some, Option.some.injEq] at e'
      cases k with
      | free => rfl
      | cell => exact absurd rfl (hcell _ (PySem.mem_of_lookup z))
      | _ =>
        rcases e' with e' | e'
        · simp at e'
        · simp at e'
  have sub : ∀ x c, (clOf X.env scope.names []).lookup x = some c → X.env.cells.lookup x = some c := fun x c e => clOf_sub scope.names [] (fun _ _ z => by simp at z) e
  have has : ∀ x, scope.names.lookup x = some .free → ∃ c, (clOf X.env scope.names []).lookup x = some c := fun x e => by
    obtain ⟨c, hc⟩ := I.ok.has x (hfr (x, .free) (PySem.mem_of_lookup e) rfl)
    exact clOf_has hc scope.names [] (PySem.mem_of_lookup e)
  have cellK : ∀ c v, s.heap.IsCell c v → h₁.IsCell c v := fun c v ⟨o, ho, hd⟩ => ⟨o, hk c o ho, hd⟩
  refine ⟨⟨I.ok.mod, hkind, I.ok.glob, I.ok.blt, Nat.le_refl _, fun x y c h1 h2 => I.ok.inj x y c (sub x c h1) (sub y c h2), fun x hx => has x (kinds' x hx), fun x c z _ => Bool.noConfusion z, I.ok.hd, I.ok.frames, .inl rfl, fun b hb => ?_, fun b o e => ⟨(I.bs b o e).1, (I.bs b o e).2⟩,
    Nat.le_trans I.ok.bsz I.sz, fun b o e hb => ?_, fun b hb hz => ?_, I.stack, I.stkFree⟩, rfl, I.bare, Un.kept hk, ⟨m, hn, fun i x v h1 h2 h3 => ?_⟩, fun x c e => ?_, ?_, fun x c e => I.freeC x c (sub x c e), fun p hp => absurd (show p ∈ ([] : List (Addr × Obj)) from hp) (by simp), I.hok.kept hk, ?_⟩
  · obtain ⟨o, ho⟩ := hob b hb
    exact ⟨Nat.ne_of_lt (Heap.lt_size ho), fun x c e => (hf b hb).2.2.2.2.1 x c (sub x c e)⟩
  · obtain ⟨_, _, _, f3, _⟩ := hf b hb
    rcases f3 with z | z
    · exact I.ok.noex b o e z
    · exact absurd (Nat.lt_of_lt_of_le (Heap.lt_size (I.ok.bs b o e).1) z) (Nat.lt_irrefl _)
  · obtain ⟨_, f1, f2, _⟩ := hf b hb
    rcases List.mem_cons.mp (I.stkSub b hz) with z | z
    · exact f1 z
    · exact f2 z
  · -- a name of the block: a free one
    have h2' : (ix[i]?.map fun o : Option Nat => o.bind fun j => (σ[j]?).join) = some (some v) := by rw [← List.getElem?_map]; exact h2
    cases q : ix[i]? with
    | none => rw [q] at h2'; cases h2'
    | some o =>
      rw [q] at h2'
      cases o with
      | none => cases h2'
      | some j =>
        have h2'' : (σ[j]?).join = some v := by simpa using h2'
        have hj : σ[j]? = some (some v) := by
          cases z : σ[j]? with
          | none => rw [z] at h2''; cases h2''
          | some y => rw [z] at h2''; simp at h2''; rw [h2'']
        obtain ⟨e1, e2⟩ := hix i j x q h1
        obtain ⟨m', hn', hl⟩ := I.loc
        have kk := hfr (x, .free) (PySem.mem_of_lookup e2) rfl
        have vis : Vis X.env.scope x := by
          rcases kk with z | z
          · exact .inr (.inl z)
          · exact .inr (.inr z)
        obtain ⟨u, r, lk⟩ := hl j x v e1 hj vis
        refine ⟨u, r, .inr ⟨kinds x e2, ?_⟩⟩
        rcases lk with ⟨z, _⟩ | ⟨_, c, hc, hv⟩
        · rcases kk with z' | z' <;> (rw [z] at z'; cases z')
        · obtain ⟨c', hc'⟩ := has x e2
          have : c' = c := by
            have := sub x c' hc'
            rw [hc] at this
            exact (Option.some.inj this).symm
          subst this
          exact ⟨c', hc', cellK _ _ hv⟩
  · obtain ⟨v, z⟩ := I.cell x c (sub x c e)
    exact ⟨v, cellK c v z⟩
  · exact I.hok.fresh (Nat.le_refl _)
  · show (ix.map _).length = N'.length
    rw [List.length_map, hlen]

theorem Inv.letgo {pins : List (Addr × Obj)} {σ : St} {H : Hp} {s : Shared} {C : Addr} {h' : Heap} (I : Inv X pins σ H s) (f : FpOk X pins H C) (sb : Heap.SameBut C s.heap h') : Inv X pins σ H { s with heap := h' } := by
  have ne : ∀ b, b ∉ [C] → b ≠ C := fun b hb z => hb (by rw [z]; exact List.mem_singleton.mpr rfl)
  have U : Un (frs X.stack) [C] H H s.heap h' := ⟨fun b o e _ _ hx => (sb.2 b (ne b hx)).trans e, fun b o e _ _ hx => ⟨o.slots, (sb.2 b (ne b hx)).trans e⟩, fun _ _ _ n _ => n, fun b o e hx => ⟨o, (sb.2 b (ne b hx)).trans e⟩, fun _ _ z => z, fun _ _ _ z => z, fun _ ps z => ⟨#[], by rw [Array.append_empty]; exact z⟩⟩
  have hok : HOk X.prog X.w H h' := fun b ob e => by
    refine (I.hok b ob e).stay (fun c w' hc z => (sb.2 c ?_).trans z) (fun _ z => z) fun _ _ z => z
    rintro rfl
    rcases hc with rfl | hc
    · rw [f.1] at e; cases e
    · rw [f.1] at hc; cases hc
  exact I.call' (s' := { s with heap := h' }) (ch := [C]) rfl U hok I.bare (fun b hb => by
    obtain rfl := List.mem_singleton.mp hb
    exact ⟨f.2.2.2.1, f.2.1, f.2.2.2.2.1, f.2.2.2.2.2⟩)

theorem comp_core {ipos : Pos} {use : Option (Value → Sem Unit)} {QQ : Value → Shared → Prop} {pins : List (Addr × Obj)} {s : Shared} {σ : St} {H : Hp} {Q : VK} (hc : X.calm = true) (hkind : scope.kind = .function) (hcell : ∀ y ∈ scope.names, y.2 ≠ .cell) (hnames : ∀ y ∈ scope.names, y.2 = .local → scope.names.lookup y.1 = some .local)
    (hfr : ∀ y ∈ scope.names, y.2 = .free → X.env.kindOf y.1 = some .cell ∨ X.env.kindOf y.1 = some .free)
    (hclos : closureFor scope X.env = pure (clOf X.env scope.names []))
    (hlen : ix.length = N'.length)
    (hix : ∀ (i j : Nat) (x : Str), ix[i]? = some (some j) → N'[i]? = some x → X.N[j]? = some x ∧ scope.names.lookup x = some .free)
    (hi : PI X tg iter wi) (hg : ∀ C s H fp, PG (blk X N' scope C s H fp) tg g) (ht : ∀ C s H fp, PTs (blk X N' scope C s H fp) ifs tc) (he : ∀ C s H fp, PE (blk X N' scope C s H fp) elt te)
    (hs : ∀ x, foldedSetIterable iter X.env x = pure x) (I : Inv X pins σ H s) (h : tComp wi g tc te ix σ H Q)
    (post : ∀ (a C : Addr) (H' : Hp) (s6 : Shared) (m' : Str → Option Value), Inv X pins σ H' s6 → FpOk X pins H' C → s6.heap.Ns C m' → Q (.ref a) H' → compPost (model X.prog X.w) X.A X.xe use QQ (.ref a) C (.ok .next) s6) :
    wpAny (model X.prog X.w) X.A (comprehension (.ListComp elt [⟨tg, iter, ifs, 0⟩] scope pos) scope X.env ipos (newList []) false (eval iter X.env) use) QQ X.xe s := by
  refine wpAny_comprehension_free (use := use) rfl hs hclos hkind hnames ?_
  refine thn (hi pins s σ H _ I h) fun v s1 h1 => thn h1 fun itv s2 h2 => ?_
  obtain ⟨it, fp, tn, J, H2, e, I2, T, st2, f2, q2⟩ := h2
  subst e
  have hfresh : H2 s2.heap.objs.size = none := I2.hok.fresh (Nat.le_refl _)
  obtain ⟨W, ⟨m0, w0⟩, turn⟩ := q2 s2.heap.objs.size hfresh
  refine wpAny_newObj_type (wpAny_newFunctionEnv hcell (by intro y hy; simp at hy) (fun h₁ hns₁ hsb₁ => ?_) hkind)
  dsimp only at hns₁ hsb₁ ⊢
  generalize hP : s2.heap.push { cls := .type "list", dict := none, data := .seq ([] : List Value).toArray } = P3 at hns₁ hsb₁ ⊢
  have hPs : P3.objs.size = s2.heap.objs.size + 1 := by rw [← hP, Heap.size_push]
  have up3 : ∀ b o, s2.heap.get? b = some o → P3.get? b = some o := fun b o e => by rw [← hP]; exact Heap.get?_push_of_some _ e
  have I3 : Inv X pins σ (upd H2 s2.heap.objs.size (.lst [])) { s2 with heap := P3 } := by
    refine I2.laid (t' := s2.toks) up3 (Nat.le_refl _) ?_
    refine ⟨by show 0 ≤ sizeLine; exact Nat.zero_le _, [], 0, .nil, ?_⟩
    rw [← hP]
    exact Heap.get?_push_size _ rfl
  have old : ∀ b o, P3.get? b = some o → h₁.get? b = some o := fun b o e => hsb₁.extBut b o (Nat.ne_of_lt (Heap.lt_size e)) (Heap.get?_push_of_some _ e)
  have hob : ∀ b ∈ fp, ∃ o, P3.get? b = some o := fun b hb => by
    obtain ⟨o, ho, _⟩ := T.obj _ _ st2 b hb
    exact ⟨o, up3 b o ho⟩
  have f3 : ∀ b ∈ fp, FpOk X pins (upd H2 s2.heap.objs.size (.lst [])) b := fun b hb => by
    obtain ⟨o, ho, _⟩ := T.obj _ _ st2 b hb
    refine ⟨?_, (f2 b hb).2⟩
    rw [upd_ne (Nat.ne_of_lt (Heap.lt_size ho))]
    exact (f2 b hb).1
  have I4 := blk_start (t' := s2.toks + ([] : List (Str × Value)).length) (ix := ix) (N' := N') hkind hcell hfr hlen hix I3 f3 hob hns₁ old
  have st4 : tn 0 h₁ := T.keep _ _ _ st2 fun b hb o e => old b o (up3 b o e)
  -- the loop
  have fpok : ∀ {H' : Hp}, (∀ b ∈ fp, H' b = none) → ∀ b ∈ fp, FpOk (blk X N' scope P3.objs.size { s2 with heap := P3 } (upd H2 s2.heap.objs.size (.lst [])) fp) [] H' b := fun hn b hb => by
    obtain ⟨o, ho⟩ := hob b hb
    obtain ⟨_, f1, f2', f3', f4, f5⟩ := f3 b hb
    refine ⟨hn b hb, Nat.ne_of_lt (Heap.lt_size ho), fun hz => ?_, .inl hb, fun x c e => f4 x c (clOf_sub scope.names [] (fun _ _ z => by simp at z) e), fun p hp => absurd (show p ∈ ([] : List (Addr × Obj)) from hp) (by simp)⟩
    rcases List.mem_cons.mp (I3.stkSub b hz) with z | z
    · exact f1 z
    · exact f2' z
  have fin : ∀ {τ : St} {H' : Hp} {s6 : Shared}, Inv (blk X N' scope P3.objs.size { s2 with heap := P3 } (upd H2 s2.heap.objs.size (.lst [])) fp) [] τ H' s6 → Q (.ref s2.heap.objs.size) H' →
      compPost (model X.prog X.w) X.A X.xe use QQ (.ref s2.heap.objs.size) P3.objs.size (.ok .next) s6 := fun {τ H' s6} J q => by
    obtain ⟨m', hn', _⟩ := id J.loc
    have U0 : Un (frs X.stack) fp H2 (upd H2 s2.heap.objs.size (.lst [])) s2.heap P3 := Un.laid up3 (Nat.le_refl _) hfresh
    have U1 : Un (frs X.stack) fp H2 H' s2.heap s6.heap := U0.trans J.base
    exact post _ _ H' s6 m' (I2.call' (s' := s6) (ch := fp) J.os U1 J.hok J.bare (fun b hb => ⟨(f2 b hb).2.2.2.1, (f2 b hb).2.1, (f2 b hb).2.2.2.2.1, (f2 b hb).2.2.2.2.2⟩)) (I2.fpOk (by rw [hPs]; exact Nat.le_succ _) J.free) hn' q
  have loop : codeAny (model X.prog X.w) X.A (.compLoop (.ListComp elt [⟨tg, iter, ifs, 0⟩] scope pos) 0 (.ref it) (.ref s2.heap.objs.size) (compEnvC scope (clOf X.env scope.names []) P3.objs.size X.env))
      (compPost (model X.prog X.w) X.A X.xe use QQ (.ref s2.heap.objs.size) P3.objs.size) { s2 with heap := h₁, toks := s2.toks + ([] : List (Str × Value)).length } := by
    refine comp_loop (fun n s' => ∃ i τ ys H', Inv (blk X N' scope P3.objs.size { s2 with heap := P3 } (upd H2 s2.heap.objs.size (.lst [])) fp) [] τ H' s' ∧ tn i s'.heap ∧ (∀ b ∈ fp, H' b = none) ∧ W i n τ ys H') ?_ m0
      ⟨0, _, [], _, I4, st4, fun b hb => (f3 b hb).1, w0⟩
    rintro n s5 ⟨i, τ, ys, H5, I5, st5, fr5, w5⟩
    obtain ⟨hacc, alt⟩ := turn i n τ ys H5 w5
    rcases alt with ⟨stop, qn⟩ | ⟨go, hsz, step⟩
    · refine thn (T.done (blk X N' scope P3.objs.size { s2 with heap := P3 } (upd H2 s2.heap.objs.size (.lst [])) fp) rfl rfl rfl hc i [] s5 τ H5 (fun _ _ => False) I5 (fpok fr5) st5 stop) fun r s6 ⟨hr, I6⟩ => ?_
      subst hr
      exact fin I6 qn
    · refine thn (T.item (blk X N' scope P3.objs.size { s2 with heap := P3 } (upd H2 s2.heap.objs.size (.lst [])) fp) rfl rfl rfl hc i [] s5 τ H5 (fun _ _ => False) I5 (fpok fr5) st5 go) fun r s6 ⟨u, hr, h6⟩ => ?_
      subst hr
      refine thn h6 fun _ s7 ⟨x, H7, I7, r7, y7, st7, fr7⟩ => ?_
      have I7' := I7.pinned (fpok fr7) (T.obj _ _ st7)
      have again : ∀ {τ9 : St} {H9 : Hp} {s9 : Shared} {ys9 : List V} {m9 : Nat}, Inv (blk X N' scope P3.objs.size { s2 with heap := P3 } (upd H2 s2.heap.objs.size (.lst [])) fp) ([] ++ pinsAt fp s7.heap) τ9 H9 s9 → m9 < n → W (i + 1) m9 τ9 ys9 H9 →
          ∃ m, m < n ∧ ∃ i τ ys H', Inv (blk X N' scope P3.objs.size { s2 with heap := P3 } (upd H2 s2.heap.objs.size (.lst [])) fp) [] τ H' s9 ∧ tn i s9.heap ∧ (∀ b ∈ fp, H' b = none) ∧ W i m τ ys H' := fun {τ9 H9 s9 ys9 m9} I9 hm w9 => by
        refine ⟨m9, hm, i + 1, τ9, ys9, H9, I9.unpinned, T.keep _ _ _ st7 fun b hb o e => (I9.pin (b, o) (List.mem_append_right _ (List.mem_append_right _ (mem_pinsAt hb e)))).1, fun b hb => ?_, w9⟩
        obtain ⟨o, e, d⟩ := T.obj _ _ st7 b hb
        exact (I9.pin (b, o) (List.mem_append_right _ (List.mem_append_right _ (mem_pinsAt hb e)))).2.1
      refine thn (hg P3.objs.size _ _ fp _ s7 τ H7 x u _ I7' r7 (step x H7 y7)) fun _ s8 ⟨τ8, H8, I8, q8⟩ => ?_
      refine thn (ht P3.objs.size _ _ fp _ s8 τ8 H8 _ I8 q8) fun b s9 ⟨H9, I9, q9⟩ => ?_
      cases b with
      | false =>
        simp only [Bool.false_eq_true, if_false] at q9 ⊢
        obtain ⟨m9, hm, w9⟩ := q9
        exact again I9 hm w9
      | true =>
        simp only [if_true] at q9 ⊢
        refine thn (he P3.objs.size _ _ fp _ s9 τ8 H9 _ I9 q9) fun y s10 ⟨yv, H10, I10, r10, ha10, m10, hm, w10⟩ => ?_
        refine thn (mt_append (X := blk X N' scope P3.objs.size { s2 with heap := P3 } (upd H2 s2.heap.objs.size (.lst [])) fp) _ s10 τ8 H10 (.ref s2.heap.objs.size) [yv] (.ref s2.heap.objs.size) [y] (fun _ H11 => H11 = upd H10 s2.heap.objs.size (.lst (ys ++ [yv]))) I10 rfl (.cons r10 .nil)
          ⟨s2.heap.objs.size, ys, yv, rfl, rfl, ha10, hsz, rfl⟩) fun _ s11 ⟨_, H11, I11, _, e11⟩ => ?_
        subst e11
        exact again I11 hm w10
  exact codeAny_compStart_list loop (T.self _ 0 _ _ _ st4 loop)

theorem pe_comp (hc : X.calm = true) (hkind : scope.kind = .function) (hcell : ∀ y ∈ scope.names, y.2 ≠ .cell) (hnames : ∀ y ∈ scope.names, y.2 = .local → scope.names.lookup y.1 = some .local)
    (hfr : ∀ y ∈ scope.names, y.2 = .free → X.env.kindOf y.1 = some .cell ∨ X.env.kindOf y.1 = some .free)
    (hclos : closureFor scope X.env = pure (clOf X.env scope.names []))
    (hlen : ix.length = N'.length)
    (hix : ∀ (i j : Nat) (x : Str), ix[i]? = some (some j) → N'[i]? = some x → X.N[j]? = some x ∧ scope.names.lookup x = some .free)
    (hi : PI X tg iter wi) (hg : ∀ C s H fp, PG (blk X N' scope C s H fp) tg g) (ht : ∀ C s H fp, PTs (blk X N' scope C s H fp) ifs tc) (he : ∀ C s H fp, PE (blk X N' scope C s H fp) elt te)
    (hs : ∀ x, foldedSetIterable iter X.env x = pure x := by intro _; rfl) : PE X (.ListComp elt [⟨tg, iter, ifs, 0⟩] scope pos) (tComp wi g tc te ix) := by
  intro pins s σ H Q I h
  rw [eval_ListComp]
  show wpAny _ X.A (comprehension (.ListComp elt [⟨tg, iter, ifs, 0⟩] scope pos) scope X.env (firstIterPos [⟨tg, iter, ifs, 0⟩] pos) (newList []) false (eval iter X.env) none) _ _ s
  exact comp_core (ipos := firstIterPos [⟨tg, iter, ifs, 0⟩] pos) (use := none) (QQ := EP X pins σ Q) hc hkind hcell hnames hfr hclos hlen hix hi hg ht he hs I h fun a C H' s6 m' I6 f hn q => ⟨m', hn, fun h' sb => ⟨.ref a, H', I6.letgo f sb, rfl, q⟩⟩
end
end L2
end
section
set_option Elab.async false
set_option linter.all false
set_option maxRecDepth 100000
set_option maxHeartbeats 4000000
namespace L2
open PySem PySem.Spec PyProof.Rows

/-! ### the next item of a list's or a tuple's iterator (k: a list) -/
def ItAt (k : Bool) (h : Heap) (it a : Addr) (i : Nat) : Prop := match k with
  | true => h.IsListIter it a i
  | false => h.IsTupleIter it a i
def SeAt (k : Bool) (h : Heap) (a : Addr) (its : Array Value) : Prop := match k with
  | true => h.IsList a its
  | false => h.IsTuple a its
section
variable {prog : Program} {w : World} {A : Around} {E : Value → Shared → Prop} {s : Shared}
/-! ### zip of two -/
end
/-- zip(a, b), both tuples (of lists the library has it) -/
abbrev zH1 (h : Heap) (a : Addr) : Heap := h.push { cls := .type "tuple_iterator", data := .fields #[.ref a, .int 0 0] }
abbrev zH2 (h : Heap) (a b : Addr) : Heap := (zH1 h a).push { cls := .type "tuple_iterator", data := .fields #[.ref b, .int 0 0] }
abbrev zH3 (h : Heap) (a b : Addr) : Heap := (zH2 h a b).push { cls := .type "tuple", data := .seq #[.ref h.objs.size, .ref (zH1 h a).objs.size] }
abbrev zH4 (h : Heap) (a b : Addr) : Heap := (zH3 h a b).push { cls := .type "tuple", data := .seq #[.none, .none] }
abbrev zH5 (h : Heap) (a b : Addr) : Heap := (zH4 h a b).push { cls := .type "zip", data := .fields #[.none, .bool false, .bool false, .ref (zH2 h a b).objs.size, .ref (zH3 h a b).objs.size] }
/-! ### as things that a loop walks -/
def Sq (k : Bool) (K : PySem.W.Frag) (H : Hp) (a : Addr) (xs : List V) : Prop := match k with
  | true => SqL K H a xs
  | false => SqT K H a xs
/-- the pairs -/
def Itz (K : PySem.W.Frag) (k1 k2 : Bool) (a b : Addr) : It :=
  ⟨fun i H => ∃ xs ys x y, Sq k1 K H a xs ∧ Sq k2 K H b ys ∧ xs[i]? = some x ∧ ys[i]? = some y,
   fun i H v H' => ∃ p, H p = none ∧ v = .ref p ∧ ∀ xs ys, Sq k1 K H a xs → Sq k2 K H b ys → ∃ x y, xs[i]? = some x ∧ ys[i]? = some y ∧ H' = upd H p (.tup [x, y]),
   fun i H => ∃ xs ys, Sq k1 K H a xs ∧ Sq k2 K H b ys ∧ (xs.length ≤ i ∨ ys.length ≤ i)⟩
end L2
end
section
set_option Elab.async false
set_option linter.all false
set_option maxRecDepth 100000
set_option maxHeartbeats 4000000
namespace L2
open PySem PySem.Spec PyProof.Rows

section
variable {X : Cx}
/-! ### zip(a, b), enumerate(a) in a loop's head -/
def iZip (K : PySem.W.Frag) (ta : TA) : TI := fun σ H R => ta σ H fun vs H1 => ∃ k a b xs ys, vs = [.ref a, .ref b] ∧ Sq k K H1 a xs ∧ Sq k K H1 b ys ∧ R (Itz K k k a b) H1
/-! ### isinstance -/
/-- isinstance(x, T), T a built-in type -/
def rIsi (K : PySem.W.Frag) : List V → Hp → VK → Prop := fun xs H Q => ∃ x T t b, xs = [x, .ty T] ∧ TyOf K H x t ∧ PySem.W.kitOne K t (.type T) = some b ∧ Q (.bl b) H
/-- isinstance(x, (T, ..)) -/
def rIsiT (K : PySem.W.Frag) : List V → Hp → VK → Prop := fun xs H Q => ∃ (x : V) (p : Addr) (Ts : List String) (t : Value) (b : Bool), xs = [x, .ref p] ∧ SqT K H p (Ts.map V.ty) ∧ TyOf K H x t ∧ PySem.W.kitAny K t (Ts.map Value.type) = some b ∧ Q (.bl b) H
/-! ### sum, max, min of a list of ints -/
/-! ### == and != of lists and tuples -/
/-- how two things compare (n deep) -/
inductive EqD (K : PySem.W.Frag) (H : Hp) : Nat → V → V → Bool → Prop
  | flat {x y : V} (fx : flatV x = true) (fy : flatV y = true) : EqD K H 0 x y (eqV x y)
  | tup {n : Nat} {a b : Addr} {xs ys : List V} {e : Nat → Bool} (ha : SqT K H a xs) (hb : SqT K H b ys) (h : ∀ (j : Nat) x y, xs[j]? = some x → ys[j]? = some y → EqD K H n x y (e j)) :
      EqD K H (n + 1) (.ref a) (.ref b) ((List.range (min xs.length ys.length)).all e && xs.length == ys.length)
  | lst {n : Nat} {a b : Addr} {xs ys : List V} {e : Nat → Bool} (ha : SqL K H a xs) (hb : SqL K H b ys) (hl : xs.length = ys.length) (h : ∀ (j : Nat) x y, xs[j]? = some x → ys[j]? = some y → EqD K H n x y (e j)) :
      EqD K H (n + 1) (.ref a) (.ref b) ((List.range xs.length).all e)
  | len {n : Nat} {a b : Addr} {xs ys : List V} (ha : SqL K H a xs) (hb : SqL K H b ys) (hl : xs.length ≠ ys.length) : EqD K H (n + 1) (.ref a) (.ref b) false
theorem all_range {n : Nat} {e : Nat → Bool} (h : ∀ j, j < n → e j = true) : (List.range n).all e = true := List.all_eq_true.mpr fun j hj => h j (List.mem_range.mp hj)
theorem EqD.same {pins : List (Addr × Obj)} {σ : St} {H : Hp} {s : Shared} (I : Inv X pins σ H s) {n : Nat} {x y : V} {b : Bool} (h : EqD X.K H n x y b) : x = y → b = true := by
  induction h with
  | @flat x y fx fy =>
    rintro rfl
    cases x <;> first | rfl | exact beq_self_eq_true _ | exact absurd (show false = true from fx) Bool.false_ne_true
  | @tup n a b xs ys e ha hb h ih =>
    intro z
    cases z
    have q := I.tuple_inj ha hb
    subst q
    rw [Bool.and_eq_true]
    refine ⟨all_range fun j hj => ?_, beq_self_eq_true _⟩
    have hj' : j < xs.length := by (first | lia | omega)
    exact ih j xs[j] xs[j] (List.getElem?_eq_getElem hj') (List.getElem?_eq_getElem hj') rfl
  | @lst n a b xs ys e ha hb hl h ih =>
    intro z
    cases z
    have q := I.list_inj ha hb
    subst q
    refine all_range fun j hj => ?_
    exact ih j xs[j] xs[j] (List.getElem?_eq_getElem hj) (List.getElem?_eq_getElem hj) rfl
  | @len n a b xs ys ha hb hl =>
    intro z
    cases z
    exact absurd (congrArg List.length (I.list_inj ha hb)) hl
theorem Vals.at {xs : List V} {us : List Value} (r : Vals xs us) {j : Nat} (h : j < us.length) : ∃ x, xs[j]? = some x ∧ RelV x us[j] := by
  have h' : j < xs.length := by rw [r.length]; exact h
  obtain ⟨u, e, q⟩ := r.get (List.getElem?_eq_getElem h')
  rw [List.getElem?_eq_getElem h] at e
  cases e
  exact ⟨_, List.getElem?_eq_getElem h', q⟩
theorem EqD.at {pins : List (Addr × Obj)} {σ : St} {H : Hp} {s : Shared} (I : Inv X pins σ H s) {n : Nat} {x y : V} {b : Bool} (h : EqD X.K H n x y b) :
    ∀ {A : Around} {u v : Value}, RelV x u → RelV y v → A.units + n < cLine → SeqAt.EqAt A s u v b := by
  induction h with
  | @flat x y fx fy => intro A u v rx ry _; exact eqAt_V rx ry fx fy
  | @tup n a b xs ys e ha hb h ih =>
    intro A u v rx ry hu
    cases rx
    cases ry
    by_cases hab : a = b
    · have z := (EqD.tup (n := n) ha hb h).same I (by rw [hab])
      rw [z, hab]
      exact SeqAt.EqAt.same _
    · obtain ⟨ia, ra, pa, _⟩ := I.tuple ha
      obtain ⟨ib, rb, pb, _⟩ := I.tuple hb
      have q := SeqAt.RcAt.tuples (A := A) (e := e) (show s.heap.IsTuple a ia.toArray from pa) (show s.heap.IsTuple b ib.toArray from pb) (by (first | lia | omega)) fun j h1 h2 => by
        have h1' : j < ia.length := by simpa using h1
        have h2' : j < ib.length := by simpa using h2
        obtain ⟨x, ex, rx⟩ := ra.at h1'
        obtain ⟨y, ey, ry⟩ := rb.at h2'
        have := ih j x y ex ey (A := A.in1) (u := ia[j]) (v := ib[j]) rx ry (by show A.units + 1 + n < cLine; (first | lia | omega))
        simpa using this
      have la := ra.length
      have lb := rb.length
      have q' := SeqAt.EqAt.of_refs hab q
      simpa [la, lb] using q'
  | @lst n a b xs ys e ha hb hl h ih =>
    intro A u v rx ry hu
    cases rx
    cases ry
    by_cases hab : a = b
    · have z := (EqD.lst (n := n) ha hb hl h).same I (by rw [hab])
      rw [z, hab]
      exact SeqAt.EqAt.same _
    · obtain ⟨ia, ra, pa, _⟩ := I.list ha
      obtain ⟨ib, rb, pb, _⟩ := I.list hb
      have la := ra.length
      have lb := rb.length
      have q := SeqAt.RcAt.lists (A := A) (e := e) pa.isList pb.isList (by simp; (first | lia | omega)) (by (first | lia | omega)) fun j h1 h2 => by
        have h1' : j < ia.length := by simpa using h1
        have h2' : j < ib.length := by simpa using h2
        obtain ⟨x, ex, rx⟩ := ra.at h1'
        obtain ⟨y, ey, ry⟩ := rb.at h2'
        have := ih j x y ex ey (A := A.in1) (u := ia[j]) (v := ib[j]) rx ry (by show A.units + 1 + n < cLine; (first | lia | omega))
        simpa using this
      have q' := SeqAt.EqAt.of_refs hab q
      simpa [la, lb] using q'
  | @len n a b xs ys ha hb hl =>
    intro A u v rx ry hu
    cases rx
    cases ry
    have hab : a ≠ b := fun z => by subst z; exact hl (congrArg List.length (I.list_inj ha hb))
    obtain ⟨ia, ra, pa, _⟩ := I.list ha
    obtain ⟨ib, rb, pb, _⟩ := I.list hb
    have la := ra.length
    have lb := rb.length
    exact SeqAt.EqAt.of_refs hab (SeqAt.RcAt.lists_lengths pa.isList pb.isList (by simp; (first | lia | omega)) (by (first | lia | omega)))
def rEqD (K : PySem.W.Frag) (neg : Bool) : R2 := fun x y H Q => ∃ n b, EqD K H (n + 1) x y b ∧ n ≤ 50 ∧ Q (.bl (if neg then !b else b)) H
theorem op_eqD {k : Nat} (hr : Room k X.A) : OpR X (compareOp .Eq) (rEqD X.K false) := by
  intro pins s σ H x y v u Q I rx ry h
  obtain ⟨n, b, h, hn, q⟩ := h
  have hu := hr.units
  have fin : ∀ {b : Bool} {u v : Value}, SeqAt.RcAt X.A s u v b → Q (.bl b) H → wpAny (model X.prog X.w) X.A (compareOp .Eq u v) (EP X pins σ Q) X.xe s := fun {b _ _} z q => z _ _ _ _ ⟨.bl b, H, I, rfl, q⟩
  cases h with
  | @tup n a b xs ys e ha hb h =>
    cases rx
    cases ry
    obtain ⟨ia, ra, pa, _⟩ := I.tuple ha
    obtain ⟨ib, rb, pb, _⟩ := I.tuple hb
    have la := ra.length
    have lb := rb.length
    refine fin (SeqAt.RcAt.tuples (A := X.A) (e := e) (show s.heap.IsTuple a ia.toArray from pa) (show s.heap.IsTuple b ib.toArray from pb) (by (first | lia | omega)) fun j h1 h2 => ?_) (by simpa [la, lb] using q)
    have h1' : j < ia.length := by simpa using h1
    have h2' : j < ib.length := by simpa using h2
    obtain ⟨x, ex, rx⟩ := ra.at h1'
    obtain ⟨y, ey, ry⟩ := rb.at h2'
    have := (h j x y ex ey).at I (A := X.A.in1) (u := ia[j]) (v := ib[j]) rx ry (by show X.A.units + 1 + n < cLine; (first | lia | omega))
    simpa using this
  | @lst n a b xs ys e ha hb hl h =>
    cases rx
    cases ry
    obtain ⟨ia, ra, pa, _⟩ := I.list ha
    obtain ⟨ib, rb, pb, _⟩ := I.list hb
    have la := ra.length
    have lb := rb.length
    refine fin (SeqAt.RcAt.lists (A := X.A) (e := e) pa.isList pb.isList (by simp; (first | lia | omega)) (by (first | lia | omega)) fun j h1 h2 => ?_) (by simpa [la, lb] using q)
    have h1' : j < ia.length := by simpa using h1
    have h2' : j < ib.length := by simpa using h2
    obtain ⟨x, ex, rx⟩ := ra.at h1'
    obtain ⟨y, ey, ry⟩ := rb.at h2'
    have := (h j x y ex ey).at I (A := X.A.in1) (u := ia[j]) (v := ib[j]) rx ry (by show X.A.units + 1 + n < cLine; (first | lia | omega))
    simpa using this
  | @len n a b xs ys ha hb hl =>
    cases rx
    cases ry
    obtain ⟨ia, ra, pa, _⟩ := I.list ha
    obtain ⟨ib, rb, pb, _⟩ := I.list hb
    have la := ra.length
    have lb := rb.length
    exact fin (SeqAt.RcAt.lists_lengths pa.isList pb.isList (by simp; (first | lia | omega)) (by (first | lia | omega))) (by simpa using q)
theorem op_neD {k : Nat} (hr : Room k X.A) : OpR X (compareOp .NotEq) (rEqD X.K true) := by
  intro pins s σ H x y v u Q I rx ry h
  obtain ⟨n, b, h, hn, q⟩ := h
  have hu := hr.units
  have fin : ∀ {b : Bool} {u v : Value}, SeqAt.RcNeAt X.A s u v b → Q (.bl b) H → wpAny (model X.prog X.w) X.A (compareOp .NotEq u v) (EP X pins σ Q) X.xe s := fun {b _ _} z q => z _ _ _ _ ⟨.bl b, H, I, rfl, q⟩
  cases h with
  | @tup n a b xs ys e ha hb h =>
    cases rx
    cases ry
    obtain ⟨ia, ra, pa, _⟩ := I.tuple ha
    obtain ⟨ib, rb, pb, _⟩ := I.tuple hb
    have la := ra.length
    have lb := rb.length
    refine fin (SeqAt.RcNeAt.tuples (A := X.A) (e := e) (show s.heap.IsTuple a ia.toArray from pa) (show s.heap.IsTuple b ib.toArray from pb) (by (first | lia | omega)) fun j h1 h2 => ?_) (by simpa [la, lb] using q)
    have h1' : j < ia.length := by simpa using h1
    have h2' : j < ib.length := by simpa using h2
    obtain ⟨x, ex, rx⟩ := ra.at h1'
    obtain ⟨y, ey, ry⟩ := rb.at h2'
    have := (h j x y ex ey).at I (A := X.A.in1) (u := ia[j]) (v := ib[j]) rx ry (by show X.A.units + 1 + n < cLine; (first | lia | omega))
    simpa using this
  | @lst n a b xs ys e ha hb hl h =>
    cases rx
    cases ry
    obtain ⟨ia, ra, pa, _⟩ := I.list ha
    obtain ⟨ib, rb, pb, _⟩ := I.list hb
    have la := ra.length
    have lb := rb.length
    refine fin (SeqAt.RcNeAt.lists (A := X.A) (e := e) pa.isList pb.isList (by simp; (first | lia | omega)) (by (first | lia | omega)) fun j h1 h2 => ?_) (by simpa [la, lb] using q)
    have h1' : j < ia.length := by simpa using h1
    have h2' : j < ib.length := by simpa using h2
    obtain ⟨x, ex, rx⟩ := ra.at h1'
    obtain ⟨y, ey, ry⟩ := rb.at h2'
    have := (h j x y ex ey).at I (A := X.A.in1) (u := ia[j]) (v := ib[j]) rx ry (by show X.A.units + 1 + n < cLine; (first | lia | omega))
    simpa using this
  | @len n a b xs ys ha hb hl =>
    cases rx
    cases ry
    obtain ⟨ia, ra, pa, _⟩ := I.list ha
    obtain ⟨ib, rb, pb, _⟩ := I.list hb
    have la := ra.length
    have lb := rb.length
    exact fin (SeqAt.RcNeAt.lists_lengths pa.isList pb.isList (by simp; (first | lia | omega)) (by (first | lia | omega))) (by simpa using q)
end
/-- lists of ints -/
theorem EqD.ints {K : PySem.W.Frag} {H : Hp} {a b : Addr} {ns ms : List Int} (ha : SqL K H a (ns.map V.int)) (hb : SqL K H b (ms.map V.int)) : EqD K H 1 (.ref a) (.ref b) (decide (ns = ms)) := by
  by_cases hl : ns.length = ms.length
  · have q := EqD.lst (n := 0) (e := fun j => ns.getD j 0 == ms.getD j 0) ha hb (by simpa using hl) fun j x y ex ey => by
      rw [List.getElem?_map] at ex ey
      cases e1 : ns[j]? with
      | none => rw [e1] at ex; cases ex
      | some i =>
        cases e2 : ms[j]? with
        | none => rw [e2] at ey; cases ey
        | some i' =>
          rw [e1] at ex; rw [e2] at ey
          cases ex; cases ey
          have z := EqD.flat (K := K) (H := H) (x := V.int i) (y := V.int i') rfl rfl
          have z2 : (ns.getD j 0 == ms.getD j 0) = eqV (V.int i) (V.int i') := by rw [List.getD_eq_getElem?_getD, List.getD_eq_getElem?_getD, e1, e2]; rfl
          rw [z2]
          exact z
    have e : (List.range (ns.map V.int).length).all (fun j => ns.getD j 0 == ms.getD j 0) = decide (ns = ms) := by
      rw [List.length_map, Bool.eq_iff_iff, decide_eq_true_iff, List.all_eq_true]
      constructor
      · intro h
        refine List.ext_getElem hl fun j h1 h2 => ?_
        have := h j (List.mem_range.mpr h1)
        rw [List.getD_eq_getElem?_getD, List.getD_eq_getElem?_getD, List.getElem?_eq_getElem h1, List.getElem?_eq_getElem h2] at this
        simpa using this
      · rintro rfl j _
        exact beq_self_eq_true _
    rw [← e]
    exact q
  · have q := EqD.len (n := 0) ha hb (by simpa using hl)
    rw [decide_eq_false (fun z => hl (congrArg List.length z))]
    exact q
section
variable {X : Cx} {a b c d : Expr} {ta tb tc td : TE} {pos : Pos}
/-! ### a op b op c op d -/
def tChain3 (r r' r'' : R2) (ta tb tc td : TE) : TE := fun σ H Q => ta σ H fun x H1 => tb σ H1 fun y H2 => r x y H2 fun z H3 => ∃ k, z = .bl k ∧
  (if k = true then tc σ H3 fun w' H4 => r' y w' H4 fun z' H5 => ∃ k', z' = .bl k' ∧ (if k' = true then td σ H5 fun w'' H6 => r'' w' w'' H6 Q else Q (.bl false) H5) else Q (.bl false) H3)
end
end L2
end
section
set_option Elab.async false
set_option linter.all false
set_option maxRecDepth 100000
set_option maxHeartbeats 4000000
namespace L2
open PySem PySem.Spec PyProof.Rows

/-! ### a def as its callers know it -/
structure Def (P : Program) (w : World) (K : PySem.W.Frag) (mg : Str → Option Value) (base : Heap) (k : Nat) (x : Str) (ps : List Str) (sp : Sp) : Prop where
  ex : ∃ (f : Addr) (fd : FuncData), FnOk P w K mg base CX0 k f fd ps sp ∧ Binds K fd ps [] ∧ PySem.W.keepIn K (.ref f) = true ∧ mg x = some (.ref f)
theorem Def.mono {P : Program} {w : World} {K : PySem.W.Frag} {mg : Str → Option Value} {base : Heap} {j k : Nat} {x : Str} {ps : List Str} {sp : Sp} (D : Def P w K mg base j x ps sp) (h : j ≤ k) : Def P w K mg base k x ps sp := by
  obtain ⟨f, fd, F, b, kp, m⟩ := D.ex
  exact ⟨f, fd, F.mono h, b, kp, m⟩
theorem pe_def {X : Cx} {k : Nat} {x : Str} {ps : List Str} {sp : Sp} {p pos : Pos} {e : Expr} {es : List Expr} {t : TA} (D : Def X.prog X.w X.K X.mg X.base k x ps sp) (hr : Room k X.A) (hg : Gl X x) (ha : PA X (e :: es) t)
    (hdb : (x == ("__debug__" : Str)) = false := by decide) (he : starEach (e :: es) X.env = (false, eval e X.env) :: starEach es X.env := by rfl) (hpl : (backTo pos (starEach es X.env)).any (·.1) = false := by rfl) : PE X (.Call (.Name x p) (e :: es) [] pos) (tCall sp [] E0 t) := by
  obtain ⟨f, fd, F, b, kp, m⟩ := D.ex
  exact pe_call F hr hg m kp b .nil pass0 ha hdb he hpl
/-- names that the text leaves to the built-ins -/
structure Blt (mg : Str → Option Value) : Prop where
  len_ : mg "len" = none
  range_ : mg "range" = none
  isinstance_ : mg "isinstance" = none
  int_ : mg "int" = none
  bool_ : mg "bool" = none
  tuple_ : mg "tuple" = none
  list_ : mg "list" = none
  sum_ : mg "sum" = none
  abs_ : mg "abs" = none
  min_ : mg "min" = none
  max_ : mg "max" = none
  zip_ : mg "zip" = none
  enumerate_ : mg "enumerate" = none
  all_ : mg "all" = none
  str_ : mg "str" = none

/-! ### a comprehension, its scope looked at by program -/
def okCell (ns : List (Str × NameKind)) : Bool := ns.all fun y => (y.2 != .cell) && (y.2 != .local || ns.lookup y.1 == some .local)
def okFree (fs ns : List (Str × NameKind)) : Bool := ns.all fun y => y.2 != .free || (fs.lookup y.1 == some .cell || fs.lookup y.1 == some .free)
def okIx (N XN : List Str) (ns : List (Str × NameKind)) (ix : List (Option Nat)) : Bool := (List.range ix.length).all fun i => match ix[i]?, N[i]? with
  | some (some j), some x => XN[j]? == some x && ns.lookup x == some .free
  | _, _ => true
theorem okIx_of {N XN : List Str} {ns : List (Str × NameKind)} {ix : List (Option Nat)} (h : okIx N XN ns ix = true) (i j : Nat) (x : Str) (h1 : ix[i]? = some (some j)) (h2 : N[i]? = some x) : XN[j]? = some x ∧ ns.lookup x = some .free := by
  have hi : i < ix.length := by
    obtain ⟨q, _⟩ := List.getElem?_eq_some_iff.mp h1
    exact q
  have q := List.all_eq_true.mp h i (List.mem_range.mpr hi)
  rw [h1, h2] at q
  simp only [Bool.and_eq_true, beq_iff_eq] at q
  exact q
section
variable {X : Cx} {elt tg iter : Expr} {ifs : List Expr} {scope : Scope} {pos : Pos} {wi : TI} {g : TG} {tc : TT} {te : TE} {N' : List Str} {ix : List (Option Nat)}
theorem pe_lc (hc : X.calm = true) (hkind : scope.kind = .function) (h1 : okCell scope.names = true) (h2 : okFree X.env.scope.names scope.names = true)
    (hclos : closureFor scope X.env = pure (clOf X.env scope.names [])) (hlen : ix.length = N'.length) (h3 : okIx N' X.N scope.names ix = true)
    (hi : PI X tg iter wi) (hg : ∀ C s H fp, PG (blk X N' scope C s H fp) tg g) (ht : ∀ C s H fp, PTs (blk X N' scope C s H fp) ifs tc) (he : ∀ C s H fp, PE (blk X N' scope C s H fp) elt te)
    (hs : ∀ x, foldedSetIterable iter X.env x = pure x := by intro _; rfl) : PE X (.ListComp elt [⟨tg, iter, ifs, 0⟩] scope pos) (tComp wi g tc te ix) := by
  refine pe_comp hc hkind (fun y hy => ?_) (fun y hy hl => ?_) (fun y hy hf => ?_) hclos hlen (okIx_of h3) hi hg ht he hs
  · have q := List.all_eq_true.mp h1 y hy
    simp only [Bool.and_eq_true, bne_iff_ne, ne_eq] at q
    exact q.1
  · have q := List.all_eq_true.mp h1 y hy
    rw [hl] at q
    simp only [Bool.and_eq_true, Bool.or_eq_true, bne_self_eq_false, Bool.false_eq_true, false_or, beq_iff_eq] at q
    exact q.2
  · have q := List.all_eq_true.mp h2 y hy
    rw [hf] at q
    simp only [Bool.or_eq_true, bne_self_eq_false, Bool.false_eq_true, false_or, beq_iff_eq] at q
    exact q
end

/-! ### short words for readings -/
theorem ifD {c A B : Prop} {_ : Decidable c} (h1 : c → A) (h2 : ¬ c → B) : if decide c = true then A else B := by
  by_cases h : c
  · rw [if_pos (decide_eq_true h)]; exact h1 h
  · rw [if_neg (by rw [decide_eq_true_iff]; exact h)]; exact h2 h
theorem ifN {c A B : Prop} {_ : Decidable c} (h1 : ¬ c → A) (h2 : c → B) : if (!decide c) = true then A else B := by
  by_cases h : c
  · rw [decide_eq_true h]; exact iteF (h2 h)
  · rw [decide_eq_false h]; exact iteT (h1 h)
theorem dec_ints {i j : Int} : decide (V.int i = V.int j) = decide (i = j) := by
  by_cases h : i = j
  · subst h; simp
  · rw [decide_eq_false h, decide_eq_false (fun z => h (V.int.inj z))]
theorem ifI {i j : Int} {A B : Prop} (h1 : i = j → A) (h2 : i ≠ j → B) : if decide (V.int i = V.int j) = true then A else B := by
  rw [dec_ints]; exact ifD h1 h2
theorem ifIN {i j : Int} {A B : Prop} (h1 : i ≠ j → A) (h2 : i = j → B) : if (!decide (V.int i = V.int j)) = true then A else B := by
  rw [dec_ints]; exact ifN h1 h2
theorem Same.new {H : Hp} {p : Addr} (h : H p = none) (o : HO) : Same H (upd H p o) := fun b u q => by rw [upd_ne (ne_of_none q h)]; exact q
/-- an own list is changed: what was there ahead of it stays -/
theorem Same.upd {H H' : Hp} {p : Addr} {o : HO} (e : Same H H') (h : H p = none) : Same H (upd H' p o) := fun b u q => by rw [upd_ne (ne_of_none q h)]; exact e b u q
theorem atI_ok {ns : List Int} {k : Int} (h0 : 0 ≤ k) (h : k < (ns.length : Int)) : atI (ns.map V.int) k = some (.int (ns.getD k.toNat 0)) := by
  have hk : k.toNat < ns.length := by (first | lia | omega)
  have ek : k = ((k.toNat : Nat) : Int) := by (first | lia | omega)
  have q : atI (ns.map V.int) ((k.toNat : Nat) : Int) = some (.int (ns.getD k.toNat 0)) := atI_nat (by rw [List.getElem?_map, List.getElem?_eq_getElem hk, List.getD_eq_getElem?_getD, List.getElem?_eq_getElem hk] <;> rfl)
  rw [← ek] at q
  exact q
theorem cPow {i j : Int} (h : (decide (0 ≤ j) && (decide (j ≤ 1000000) && decide (i.natAbs < 2 ^ 64))) = true) : CPow i j := by
  simp only [Bool.and_eq_true, decide_eq_true_eq] at h
  exact h
theorem cDiv {i j : Int} (h : (decide (0 < j) && decide (j < 1073741824)) = true) : CDiv i j := by
  simp only [Bool.and_eq_true, decide_eq_true_eq] at h
  exact h
theorem cMulR {i j : Int} (h : (decide (-(2 ^ 64) < j) && decide (j < 2 ^ 64)) = true) : CMul i j := by
  simp only [Bool.and_eq_true, decide_eq_true_eq] at h
  exact .inr h
theorem cMulL' {i j : Int} (h : -1000000000000 < i) (h' : i < 1000000000000) : CMul i j := .inl ⟨by (first | lia | omega), by (first | lia | omega)⟩
theorem cPos {j : Int} (h : decide (0 < j) = true) : 0 < j := of_decide_eq_true h
/-- an if without an else: what holds behind it, both ways -/
theorem ifJ {c : Prop} {_ : Decidable c} {t : TS} {D : Ends} {σ : St} {H : Hp} (I : St → Hp → Prop) (tail : ∀ σ' H', I σ' H' → D.nx σ' H') (h0 : ¬ c → I σ H) (hA : ∀ R : St → Hp → Prop, (∀ σ' H', I σ' H' → R σ' H') → c → t { D with nx := R } σ H) :
    if decide c = true then t D σ H else tNext D σ H := by
  by_cases h : c
  · rw [if_pos (decide_eq_true h)]; exact hA D.nx tail h
  · rw [if_neg (by rw [decide_eq_true_iff]; exact h)]; exact tail _ _ (h0 h)
theorem pick {ns : List Int} {k : Int} (h0 : 0 ≤ k) (h : k < (ns.length : Int)) : ∃ d, d ∈ ns ∧ atI (ns.map V.int) k = some (.int d) := by
  refine ⟨_, ?_, atI_ok h0 h⟩
  have hk : k.toNat < ns.length := by (first | lia | omega)
  rw [List.getD_eq_getElem?_getD, List.getElem?_eq_getElem hk]
  exact List.getElem_mem hk
theorem mod_lt {a b : Int} (h : 0 < b) : 0 ≤ a % b ∧ a % b < b := ⟨Int.emod_nonneg a (by (first | lia | omega)), Int.emod_lt_of_pos a h⟩
theorem small {n : Nat} (h : n ≤ 100000) : n < sizeLine := Nat.lt_of_le_of_lt h (by decide)
/-! ### rules that name the written part, within a comprehension's block -/
section
variable {X : Cx} {N' : List Str} {scope : Scope} {C : Addr} {s : Shared} {H : Hp} {fp : List Addr} {pos : Pos}
end
/-! ### isinstance of the built-in kinds -/
section
variable {K : PySem.W.Frag}
end
/-! ### a comprehension over a thing of n items -/
def Nx (n i : Nat) (P : Prop) : Prop := ∃ m', m' < n - i ∧ m' = n - (i + 1) ∧ i + 1 ≤ n ∧ P
theorem Nx.mk {n i : Nat} {P : Prop} (h : i < n) (p : P) : Nx n i P := ⟨n - (i + 1), by (first | lia | omega), rfl, h, p⟩
theorem comp_by {J : It} {n : Nat} {g : TG} {tc : TT} {te : TE} {τ0 : St} {H1 : Hp} {Q : VK} {acc : Addr} (Pv : Nat → St → List V → Hp → Prop) (h0 : Pv 0 τ0 [] (upd H1 acc (.lst []))) (hn : n ≤ 100000)
    (hacc : ∀ i τ zs H, Pv i τ zs H → H acc = some (.lst zs) ∧ zs.length ≤ i) (hgo : ∀ i τ zs H, i < n → Pv i τ zs H → J.go i H) (hstop : ∀ τ zs H, Pv n τ zs H → J.stop n H ∧ Q (.ref acc) H)
    (hs : ∀ i τ zs H x H', i < n → Pv i τ zs H → J.yld i H x H' → g x τ H' fun τ2 H2 => tc τ2 H2 fun b H3 => if b = true then te τ2 H3 fun y H4 => H4 acc = some (.lst zs) ∧ Nx n i (Pv (i + 1) τ2 (zs ++ [y]) (upd H4 acc (.lst (zs ++ [y])))) else Nx n i (Pv (i + 1) τ2 zs H3)) :
    CompW J g tc te τ0 H1 acc Q := by
  refine ⟨fun i m τ ys H => m = n - i ∧ i ≤ n ∧ Pv i τ ys H, ⟨n, by simp, Nat.zero_le _, h0⟩, ?_⟩
  rintro i m τ ys H ⟨rfl, hi, p⟩
  obtain ⟨ha, hl⟩ := hacc i τ ys H p
  refine ⟨ha, ?_⟩
  by_cases hlt : i < n
  · exact .inr ⟨hgo i τ ys H hlt p, small (by (first | lia | omega)), fun x H' y => hs i τ ys H x H' hlt p y⟩
  · have e : i = n := by (first | lia | omega)
    subst e
    exact .inl (hstop τ ys H p)
end L2
end
section
set_option Elab.async false
set_option linter.all false
set_option maxRecDepth 100000
set_option maxHeartbeats 4000000
namespace L2
open PySem PySem.Spec PyProof.Rows
/-! ### enumerate(a) in a loop's head -/
def Ite (K : PySem.W.Frag) (a : Addr) : It :=
  ⟨fun i H => ∃ xs x, SqL K H a xs ∧ xs[i]? = some x,
   fun i H v H' => ∃ p, H p = none ∧ v = .ref p ∧ ∀ xs, SqL K H a xs → ∃ x, xs[i]? = some x ∧ H' = upd H p (.tup [.int i, x]),
   fun i H => ∃ xs, SqL K H a xs ∧ xs.length ≤ i⟩
section
variable {X : Cx}
def iEnum (K : PySem.W.Frag) (ta : TA) : TI := fun σ H R => ta σ H fun vs H1 => ∃ a xs, vs = [.ref a] ∧ SqL K H1 a xs ∧ R (Ite K a) H1
end
end L2
end
section
set_option Elab.async false
set_option linter.all false
set_option maxRecDepth 100000
set_option maxHeartbeats 4000000
namespace L2
open PySem PySem.Spec PyProof.Rows
section
variable {X : Cx}
/-! ### xs.count(k) of a list of ints -/
def rCount (K : PySem.W.Frag) : V → List V → Hp → VK → Prop := fun x vs H Q => ∃ (p : Addr) (ns : List Int) (k : Int), x = .ref p ∧ vs = [.int k] ∧ SqL K H p (ns.map V.int) ∧ Q (.int (ns.count k : Nat)) H
/-! ### all(list of bools) -/
end
end L2
end
section
set_option Elab.async false
set_option linter.all false
set_option maxRecDepth 100000
set_option maxHeartbeats 4000000
namespace L2
open PySem PySem.Spec PyProof.Rows
/-! ### is, is not of bools -/
section
variable {X : Cx}
end
/-! ### range(a, b, -1) -/
/-- hi, hi - 1, .. (n of them) -/
def Itd (hi : Int) (n : Nat) : It := ⟨fun i _ => i < n, fun i H x H' => H' = H ∧ x = .int (hi - i), fun i _ => n ≤ i⟩
theorem turn_down {P : Program} {w : World} {K : PySem.W.Frag} {tg : Expr} (it : Addr) (hi : Int) (n : Nat) : Turn P w K tg (Itd hi n) [it] it (fun i h => IsRangeIter h it (hi + (i : Nat) * (-1)) ((n : Int) - (i : Nat)) (-1)) where
  mem := by simp
  obj := fun i h st b hb => by
    have e : b = it := by simpa using hb
    subst e
    exact ⟨_, st, fun v z => by
      have z' : Data.fields _ = Data.cell v := z
      cases z'⟩
  keep := fun i h h' st k => k it (by simp) _ st
  item := by
    intro X hP hw hK hc i pins s σ H E I hf st hg
    subst hP hw hK
    obtain ⟨f0, f1, f2, f3, f4, f5⟩ := hf it (by simp)
    have W := Walks.range (prog := X.prog) (w := X.w) (I.ok.hd hc) it hi (-1) n
    refine W.item i s _ _ hg st fun v h' tk hv st' kk => ?_
    obtain ⟨t, rfl⟩ := hv
    have I1 : Inv X pins σ H { s with heap := h', toks := tk } := I.turned (fun b o hb e => kk b o (by simpa using hb) e) f0 f1 f3 f4 f5
    refine ⟨_, rfl, go_of (s := { s with heap := h', toks := tk }) (n := "range_iterator") st' rfl rfl (by decide) ⟨.int (hi - i), H, I1, ⟨t, ?_⟩, ⟨rfl, rfl⟩, st', fun b hb => (hf b hb).1⟩⟩
    congr 1
    (first | lia | omega)
  done := by
    intro X hP hw hK hc i pins s σ H E I hf st hg
    subst hP hw hK
    obtain ⟨f0, f1, f2, f3, f4, f5⟩ := hf it (by simp)
    exact wpAny_pyNext_range_end (I.ok.hd hc) st (by have : n ≤ i := hg; (first | lia | omega)) fun h' eb => ⟨rfl, I.turned (t' := s.toks) (fun b o hb e => eb b o hb e) f0 f1 f3 f4 f5⟩
  self := fun _ _ _ _ _ st h => wpAny_pyIter_rangeiter st h
theorem size_down (a b : Int) : Builtin.Range.rangeSize a b (-1) = ((a - b).toNat : Int) := by
  unfold Builtin.Range.rangeSize
  rw [if_neg (by decide)]
  split <;> simp <;> (first | lia | omega)
theorem small_down {a b : Int} (ha : -(2 ^ 62) ≤ a) (ha' : a < 2 ^ 62) (hb : -(2 ^ 62) ≤ b) (hb' : b < 2 ^ 62) : Builtin.Range.small a b (-1) = true := by
  unfold Builtin.Range.small
  rw [size_down]
  simp only [Builtin.Range.rangeFitsLong, Bool.and_eq_true, Bool.or_eq_true, decide_eq_true_eq, beq_iff_eq, show ¬ (-1 : Int) > 0 by decide, if_false]
  (first | lia | omega)
section
variable {X : Cx} {tg : Expr}
theorem range_itd {pins : List (Addr × Obj)} {σ : St} {H : Hp} {s : Shared} {R : It → Hp → Prop} {E : Value → Shared → Prop} {lo hi : Int} {t u v : Tok} {tk : Nat} (I : Inv X pins σ H s) (h1 : -(2 ^ 62) ≤ lo) (h2 : lo < 2 ^ 62) (h3 : -(2 ^ 62) ≤ hi) (h4 : hi < 2 ^ 62)
    (q : R (Itd hi (hi - lo).toNat) H) : wpAny (model X.prog X.w) X.A (pyIter (.ref s.heap.objs.size)) (PIE X pins σ tg R) E { s with heap := s.heap.push { cls := .type "range", data := .fields #[.int hi t, .int lo u, .int (-1) v] }, toks := tk } := by
  refine wpAny_pyIter_range (IsRange.new ..) (small_down h3 h4 h1 h2) ?_
  have I1 : Inv X pins σ H { s with heap := s.heap.push { cls := .type "range", data := .fields #[.int hi t, .int lo u, .int (-1) v] }, toks := tk } := I.kept fun b o e => Heap.get?_push_of_some _ e
  refine ⟨(s.heap.push { cls := .type "range", data := .fields #[.int hi t, .int lo u, .int (-1) v] }).objs.size, [(s.heap.push { cls := .type "range", data := .fields #[.int hi t, .int lo u, .int (-1) v] }).objs.size], _, _, H, rfl,
    I1.kept (t' := tk) fun b o e => Heap.get?_push_of_some _ e, turn_down _ hi (hi - lo).toNat, ?_, fun b hb => ?_, q⟩
  · have e1 : hi + ((0 : Nat) : Int) * (-1) = hi := by simp
    have e2 : (((hi - lo).toNat : Nat) : Int) - ((0 : Nat) : Int) = Builtin.Range.rangeSize hi lo (-1) := by rw [size_down]; simp
    show IsRangeIter _ _ (hi + ((0 : Nat) : Int) * (-1)) ((((hi - lo).toNat : Nat) : Int) - ((0 : Nat) : Int)) (-1)
    rw [e1, e2]
    exact Heap.get?_push_size _ rfl
  · have e : b = (s.heap.push { cls := .type "range", data := .fields #[.int hi t, .int lo u, .int (-1) v] }).objs.size := by simpa using hb
    subst e
    exact I1.fpOk (Nat.le_refl _) (I1.hok.fresh (Nat.le_refl _))
def iRng3 (ta : TA) : TI := fun σ H R => ta σ H fun vs H1 => ∃ i j : Int, vs = [.int i, .int j, .int (-1)] ∧ (-(2 ^ 62) ≤ i ∧ i < 2 ^ 62 ∧ -(2 ^ 62) ≤ j ∧ j < 2 ^ 62) ∧ R (Itd i (i - j).toNat) H1
theorem pi_range3 {a b c : Expr} {ta : TA} {p pos : Pos} (hg : Gl X "range") (hm : X.mg "range" = none) (ha : PA X [a, b, c] ta) (hs : starEach [a, b, c] X.env = [(false, eval a X.env), (false, eval b X.env), (false, eval c X.env)] := by rfl) (hs2 : starEach [b, c] X.env = [(false, eval b X.env), (false, eval c X.env)] := by rfl) :
    PI X tg (.Call (.Name "range" p) [a, b, c] [] pos) (iRng3 ta) := by
  intro pins s σ H R I h
  refine Call_ (ld_blt I hg hm boot_range (PyProof.Rows.callWith_type1 (thn (ha pos pins s σ H _ I h) fun us s1 ⟨vs, H1, I1, r1, q1⟩ => ?_) (by rw [hs, hs2]) (by rw [hs2]; rfl)))
  obtain ⟨i, j, e, ⟨q1, q2, q3, q4⟩, q⟩ := q1
  subst e
  cases r1 with
  | cons r rr =>
    cases rr with
    | cons r' rr =>
      cases rr with
      | cons r'' rr =>
        cases rr
        obtain ⟨t, rfl⟩ := r
        obtain ⟨t', rfl⟩ := r'
        obtain ⟨t'', rfl⟩ := r''
        exact call_range_3 (by decide) (range_itd I1 q3 q4 q1 q2 q) (Or.inl (PyProof.noPylong_small (by (first | lia | omega))))
end
theorem for_down {hi : Int} {n : Nat} {g : TG} {tb : TS} {D : Ends} {σ : St} {H : Hp} (Pv : Nat → St → Hp → Prop) (h0 : Pv 0 σ H)
    (hs : ∀ i σ H, i < n → Pv i σ H → g (.int (hi - i)) σ H fun σ2 H2 => tb { D with nx := Pv (i + 1), ct := Pv (i + 1), bk := D.nx } σ2 H2) (hd : ∀ σ H, Pv n σ H → D.nx σ H) :
    ∃ W : Nat → Nat → St → Hp → Prop, (∃ m, W 0 m σ H) ∧ ∀ i m σ H, W i m σ H →
      ((Itd hi n).stop i H ∧ D.nx σ H) ∨ ((Itd hi n).go i H ∧ ∃ N : St → Hp → Prop, (∀ σ' H', N σ' H' → ∃ m', m' < m ∧ W (i + 1) m' σ' H') ∧ ∀ x H', (Itd hi n).yld i H x H' → g x σ H' fun σ2 H2 => tb { D with nx := N, ct := N, bk := D.nx } σ2 H2) := by
  refine ⟨fun i m σ H => m = n - i ∧ i ≤ n ∧ Pv i σ H, ⟨n, by simp, Nat.zero_le _, h0⟩, ?_⟩
  rintro i m σ H ⟨rfl, hi', p⟩
  by_cases hlt : i < n
  · refine .inr ⟨hlt, Pv (i + 1), fun σ' H' p' => ⟨n - (i + 1), by (first | lia | omega), rfl, hlt, p'⟩, ?_⟩
    rintro x H' ⟨rfl, rfl⟩
    exact hs i σ H' hlt p
  · have e : i = n := by (first | lia | omega)
    subst e
    exact .inl ⟨Nat.le_refl _, hd σ H p⟩
end L2
end
section
set_option Elab.async false
set_option linter.all false
set_option maxRecDepth 100000
set_option maxHeartbeats 4000000
namespace L2
open PySem PySem.Spec PyProof.Rows PySem.W
section
variable {X : Cx} {e st : Expr} {te ts : TE} {pos p2 : Pos}
/-! ### xs[::-1] -/
def tRev (K : PySem.W.Frag) (te ts : TE) : TE := fun σ H Q => te σ H fun x H1 => ts σ H1 fun y H2 => ∃ a xs, x = .ref a ∧ y = .int (-1) ∧ SqL K H2 a xs ∧ ∀ p, H2 p = none → Q (.ref p) (upd H2 p (.lst xs.reverse))
theorem pe_rev (he : PE X e te) (hst : PE X st ts) : PE X (.Subscript e (.Slice none none (some st) p2) pos) (tRev X.K te ts) := by
  intro pins s σ H Q I h
  refine Subscript_ (thn (he pins s σ H _ I h) fun v s1 ⟨x, H1, I1, r1, q1⟩ => ?_)
  refine wpAny_Slice ?_
  rw [evalPart_none]
  refine wpAny_pure ?_
  refine wpAny_pure ?_
  rw [evalPart_some]
  refine thn (hst pins s1 σ H1 _ I1 q1) fun vs s3 ⟨y, H3, I3, r3, q3⟩ => ?_
  obtain ⟨a, xs, rfl, rfl, hx, q⟩ := q3
  obtain ⟨t, rfl⟩ := r3
  cases r1
  have I4 : Inv X pins σ H3 { s3 with heap := s3.heap.push { cls := .type "slice", data := .fields #[.none, .none, .int (-1) t] } } := I3.kept (t' := s3.toks) fun b ob q => Heap.get?_push_of_some _ q
  show wpAny (model X.prog X.w) X.A (subscriptTail e (.Slice none none (some st) p2) (.ref a) (.ref s3.heap.objs.size)) (EP X pins σ Q) X.xe { s3 with heap := s3.heap.push { cls := .type "slice", data := .fields #[.none, .none, .int (-1) t] } }
  obtain ⟨its, r, ht, hz⟩ := I4.list hx
  have hlen := r.length
  refine tail_any (ops := [.ref a, .ref s3.heap.objs.size]) ht.isList.typeIs slot_list_getitem.lookup ?_ (by with_unfolding_all rfl)
  refine wpAny_getItem_list_slice ht.isList (Heap.IsSliceOf.new ..) .none .none (.int (-1) t) (by simp) ?_ (by rw [List.size_toArray] <;> (first | lia | omega))
  rw [krv_pick]
  refine ⟨.ref _, _, I4.laid (t' := s3.toks) (o := .lst xs.reverse) (fun b ob q => Heap.get?_push_of_some _ q) (Nat.le_refl _) ?_, rfl, q _ (I4.hok.fresh (Nat.le_refl _))⟩
  exact ⟨by rw [List.length_reverse]; exact hz, _, 0, r.reverse, Heap.get?_push_size _ rfl⟩
end
section
variable {X : Cx}
/-! ### xs.insert(i, e) -/
def rInsert : V → List V → Hp → VK → Prop := fun x vs H Q => ∃ l xs i y, x = .ref l ∧ vs = [.int i, y] ∧ H l = some (.lst xs) ∧ 0 ≤ i ∧ i ≤ (xs.length : Int) ∧ xs.length < 100000 ∧ Q .non (upd H l (.lst (xs.take i.toNat ++ [y] ++ xs.drop i.toNat)))
end
end L2
end
section
set_option Elab.async false
set_option linter.all false
set_option maxRecDepth 100000
set_option maxHeartbeats 4000000
namespace L2
open PySem PySem.Spec PyProof.Rows PySem.W PySem.SeqAt
section
variable {X : Cx}
/-! ### xs.index(k) of a list of ints that has k -/
def rIndex (K : PySem.W.Frag) : V → List V → Hp → VK → Prop := fun x vs H Q => ∃ (p : Addr) (ns : List Int) (k : Int), x = .ref p ∧ vs = [.int k] ∧ SqL K H p (ns.map V.int) ∧ k ∈ ns ∧ ns.length ≤ 100000 ∧ Q (.int (ns.idxOf k : Nat)) H
end
/-! ### min(a, b, c) -/
section
variable {prog : Program} {w : World} {A : Around} {E : Value → Shared → Prop} {s : Shared}
end
section
variable {X : Cx}
end
end L2
end
section
set_option Elab.async false
set_option linter.all false
set_option maxRecDepth 100000
set_option maxHeartbeats 4000000
namespace L2
open PySem PySem.Spec PyProof.Rows PySem.W PySem.SeqAt

/-! ### exceptions: how one lies behind a call -/
/-- old things outlive a flight -/
theorem Un.fly {fs : List Addr} {H H' : Hp} {h h1 h2 : Heap} (U : Un fs [] H H' h h1) (kp : ∀ b o, h.get? b = some o → H b = none → b ∉ fs → h2.get? b = some o)
    (sl : ∀ b ∈ fs, ∀ o, h1.get? b = some o → ∃ z, h2.get? b = some { o with slots := z }) (th : ∀ b o, h.get? b = some o → b ∉ fs → ∃ o', h2.get? b = some o') : Un fs [] H H' h h2 where
  keep := fun b o e n hb _ => kp b o e n hb
  slot := fun b o e n hb hx => by
    obtain ⟨z, e1⟩ := U.slot b o e n hb hx
    obtain ⟨z2, e2⟩ := sl b hb _ e1
    exact ⟨z2, e2⟩
  free := U.free
  there := fun b o e hx => by
    by_cases hb : b ∈ fs
    · obtain ⟨o', e1⟩ := U.there b o e hx
      obtain ⟨z, e2⟩ := sl b hb o' e1
      exact ⟨_, e2⟩
    · exact th b o e hb
  tups := U.tups
  frzs := U.frzs
  tbls := U.tbls


theorem ObjOk.here {P : Program} {w : World} {H : Hp} {h : Heap} {a : Addr} {o : HO} (x : ObjOk P w H h a o) : ∃ ob, h.get? a = some ob := by
  cases o with
  | lst xs => obtain ⟨_, _, _, _, e⟩ := x; exact ⟨_, e⟩
  | tup xs => obtain ⟨_, _, _, ob, e, _⟩ := x; exact ⟨_, e⟩
  | dK kvs => obtain ⟨_, _, _, _, o, _, _, e, _⟩ := x; exact ⟨_, e⟩
  | dT kvs => obtain ⟨_, _, _, _, o, _, _, e, _⟩ := x; exact ⟨_, e⟩
  | set S n => obtain ⟨o, _, _, _, e, _⟩ := x; exact ⟨_, e⟩
  | ins C dx fs => obtain ⟨_, _, _, e, _⟩ := x; exact ⟨_, e⟩
  | own y => obtain ⟨_, e⟩ := x; exact ⟨_, e⟩
  | xd fs => obtain ⟨_, ⟨_, _, _, e, _⟩, _⟩ := x; exact ⟨_, e⟩
  | rng lo hi => obtain ⟨_, _, _, e⟩ := x; exact ⟨_, e⟩
  | frz ob u => obtain ⟨e, _⟩ := x; exact ⟨_, e⟩
  | tbl ps => exact ⟨_, (show h.get? a = some _ from x)⟩
  | met f y => exact ⟨_, (show h.get? a = some _ from x)⟩
  | ext φ => obtain ⟨_, ⟨_, e⟩, _⟩ := x; exact ⟨_, e⟩

/-- what an exception in flight leaves as it was -/
structure Aloft (P : Program) (w : World) (outer : List Env) (H : Hp) (s : Shared) (C : Value) (a : Addr) (a0 : Value) (B : Heap) (H' : Hp) (s' : Shared) : Prop where
  fl : Heap.FlyingW B outer a C a0 s'.heap
  os : s'.os = s.os
  bare : AllBare s'.gens
  hok : HOk P w H' B
  un : Un (frs outer) [] H H' s.heap s'.heap
  old : ∀ b o, s.heap.get? b = some o → H b = none → b ∉ frs outer → B.get? b = some o
  has : ∀ b o, s.heap.get? b = some o → b ∉ frs outer → ∃ o', B.get? b = some o'
  fresh : H' a = none ∧ a ∉ frs outer ∧ s.heap.get? a = none
def CXE (P : Program) (w : World) : CXT := fun outer H s E e s' => ∃ C a a0 B H', e = .ref a ∧ Aloft P w outer H s C a a0 B H' s' ∧ E C none H'

theorem frs_sub {env : Env} {outer : List Env} {b : Addr} (h : b ∈ frs outer) : b ∈ frs (env :: outer) := by
  unfold frs at h ⊢
  rw [List.filterMap_cons]
  cases env.frame with
  | none => exact h
  | some L => exact List.mem_cons_of_mem _ h
theorem frs_of {env : Env} {outer : List Env} {b L : Addr} (hf : env.frame = some L) (h : b ∈ frs (env :: outer)) : b = L ∨ b ∈ frs outer := by
  unfold frs at h ⊢
  rw [List.filterMap_cons, hf] at h
  exact List.mem_cons.mp h

section
variable {P : Program} {w : World} {outer : List Env} {H H' : Hp} {s s' : Shared} {C a0 : Value} {a : Addr} {B : Heap}
/-- it flies on, within the same frames -/
theorem Aloft.on {h2 : Heap} (F : Aloft P w outer H s C a a0 B H' s') (g : Heap.FlyingW B outer a C a0 h2) (u : s'.heap.UpToSlots h2) : Aloft P w outer H s C a a0 B H' { s' with heap := h2 } :=
  ⟨g, F.os, F.bare, F.hok, F.un.fly (fun b o e n hb => g.1 b o (F.old b o e n hb)) (fun b hb o e => by
    obtain ⟨_, o1, e1, d1⟩ := F.fl.2.2.1.mem hb
    rw [e] at e1; cases e1
    exact u b o e d1) fun b o e hb => by
      obtain ⟨o', e1⟩ := F.has b o e hb
      exact ⟨o', g.1 b o' e1⟩, F.old, F.has, F.fresh⟩
end

section
variable {P : Program} {w : World} {K : PySem.W.Frag} {mg : Str → Option Value} {base : Heap} {N : List Str} {qual : Str} {scope : Scope} {f : Addr} {cd : Value} {A : Around} {outer : List Env} {s : Shared} {H : Hp} {E : XK}

/-- an exception of a callee leaves the caller's frame too -/
theorem passE : Passes (CXE P w) (cxOf (CXE P w) P w K mg base N qual scope f cd A outer s H E) E := by
  rintro pins σ H1 s1 e s' I ⟨C, a, a0, B, H', rfl, F, q⟩
  have hf : (envOfC qual scope s.heap.objs.size f cd).frame = some s.heap.objs.size := rfl
  have F : Aloft P w (envOfC qual scope s.heap.objs.size f cd :: outer) H1 s1 C a a0 B H' s' := F
  have ub : Un (frs outer) [] H H1 s.heap s1.heap := I.base
  have nl : ∀ b o, s.heap.get? b = some o → b ∉ frs outer → b ∉ frs (envOfC qual scope s.heap.objs.size f cd :: outer) := fun b o e n z => by
    rcases frs_of hf z with z | z
    · rw [z] at e; exact absurd (Heap.lt_size e) (Nat.lt_irrefl _)
    · exact n z
  show wpAny _ _ (leaving _ _) _ _ s'
  refine wpAny_leaves_onW (base := B) (outer := outer) (L := s.heap.objs.size) (cls := C) (a0 := a0) I.ok.frames rfl F.fl fun h2 g u => ?_
  refine ⟨C, a, a0, B, H', rfl, ⟨g, F.os.trans I.os, F.bare, F.hok, ?_, fun b o e n hb => ?_, fun b o e hb => ?_, F.fresh.1, fun z => F.fresh.2.1 (frs_sub z), ?_⟩, q⟩
  · have t : Un (frs (envOfC qual scope s.heap.objs.size f cd :: outer)) [] H H' s.heap s'.heap := (ub.mono (fun b hb => frs_sub hb) fun _ z => z).trans F.un
    refine ⟨fun b o e n hb hx => ?_, fun b o e n hb hx => ?_, t.free, fun b o e hx => ?_, t.tups, t.frzs, t.tbls⟩
    · exact g.1 b o (F.old b o (ub.keep b o e n hb hx) (ub.free b o e n hx) (nl b o e hb))
    · obtain ⟨z, e1⟩ := t.slot b o e n (frs_sub hb) hx
      obtain ⟨_, o1, e2, d1⟩ := F.fl.2.2.1.mem (frs_sub hb)
      rw [e1] at e2; cases e2
      obtain ⟨z2, e3⟩ := u b _ e1 d1
      exact ⟨z2, e3⟩
    · by_cases hb : b ∈ frs outer
      · obtain ⟨_, o1, e1, d1⟩ := F.fl.2.2.1.mem (frs_sub hb)
        obtain ⟨z2, e3⟩ := u b _ e1 d1
        exact ⟨_, e3⟩
      · obtain ⟨o1, e1⟩ := ub.there b o e hx
        obtain ⟨o2, e2⟩ := F.has b o1 e1 (nl b o e hb)
        exact ⟨o2, g.1 b o2 e2⟩
  · exact F.old b o (ub.keep b o e n hb (by simp)) (ub.free b o e n (by simp)) (nl b o e hb)
  · obtain ⟨o1, e1⟩ := ub.there b o e (by simp)
    exact F.has b o1 e1 (nl b o e hb)
  · cases z : s.heap.get? a with
    | none => rfl
    | some o =>
      obtain ⟨o1, e1⟩ := ub.there a o z (by simp)
      rw [F.fresh.2.2] at e1; cases e1

/-- a made exception leaves the frame -/
theorem madeE {pins : List (Addr × Obj)} {σ : St} {H1 : Hp} {s1 : Shared} {C : Value} {e : Addr} {vs : List Value} {h' : Heap} (I : Inv (cxOf (CXE P w) P w K mg base N qual scope f cd A outer s H E) pins σ H1 s1)
    (hx : Heap.MadeExcOf s1.heap h' e C vs) (q : E C none H1) : (cxOf (CXE P w) P w K mg base N qual scope f cd A outer s H E).xe (.ref e) { s1 with heap := h' } := by
  have hf : (envOfC qual scope s.heap.objs.size f cd).frame = some s.heap.objs.size := rfl
  have ub : Un (frs outer) [] H H1 s.heap s1.heap := I.base
  have nl : ∀ b o, s.heap.get? b = some o → b ∉ frs outer → b ∉ frs (envOfC qual scope s.heap.objs.size f cd :: outer) := fun b o e n z => by
    rcases frs_of hf z with z | z
    · rw [z] at e; exact absurd (Heap.lt_size e) (Nat.lt_irrefl _)
    · exact n z
  have st : s1.heap.FunFrames base (envOfC qual scope s.heap.objs.size f cd :: outer) := I.stack
  have tr : ∀ b u, H1 b = some u → b ∉ frs (envOfC qual scope s.heap.objs.size f cd :: outer) := fun b u e z => by
    have := I.stkFree b z
    rw [e] at this; cases this
  have ne : s1.heap.get? e = none := hx.new
  have nfr : e ∉ frs (envOfC qual scope s.heap.objs.size f cd :: outer) := fun z => by
    obtain ⟨_, o, e1, _⟩ := st.mem z
    rw [ne] at e1; cases e1
  have hf2 : s1.heap.FunFrames (hideAll s1.heap (frs (envOfC qual scope s.heap.objs.size f cd :: outer))) (envOfC qual scope s.heap.objs.size f cd :: outer) :=
    funFrames_hide st fun env he a ha => List.mem_filterMap.mpr ⟨env, he, ha⟩
  show wpAny _ _ (leaving _ _) _ _ _
  refine wpAny_leaves_madeW (base := hideAll s1.heap (frs (envOfC qual scope s.heap.objs.size f cd :: outer))) (h := s1.heap) (outer := outer) (L := s.heap.objs.size) (cls := C) (args := vs) I.ok.frames rfl (fun b o z => of_hideAll _ z) hf2 hx fun h2 t g _ _ u => ?_
  have u2 : s1.heap.UpToSlots h2 := (Heap.UpToSlots.of_keeps hx.keeps).trans u
  refine ⟨C, e, .ref t, _, H1, rfl, ⟨g, I.os, I.bare, fun b u e => ?_, ?_, fun b o e n hb => hideAll_get _ (ub.keep b o e n hb (by simp)) (nl b o e hb), fun b o e hb => ?_, ?_, fun z => nfr (frs_sub z), ?_⟩, q⟩
  · refine (I.hok b u e).stay (fun c v hc z => hideAll_get _ z ?_) (fun _ z => z) fun _ _ z => z
    rcases hc with hc | hc
    · rw [hc]; exact tr b u e
    · exact tr c _ hc
  · refine ub.fly (fun b o e n hb => g.1 b o (hideAll_get _ (ub.keep b o e n hb (by simp)) (nl b o e hb))) (fun b hb o e => ?_) fun b o e hb => ?_
    · obtain ⟨_, o1, e1, d1⟩ := st.mem (frs_sub hb)
      rw [e] at e1; cases e1
      exact u2 b o e d1
    · obtain ⟨o1, e1⟩ := ub.there b o e (by simp)
      exact ⟨o1, g.1 b o1 (hideAll_get _ e1 (nl b o e hb))⟩
  · obtain ⟨o1, e1⟩ := ub.there b o e (by simp)
    exact ⟨o1, hideAll_get _ e1 (nl b o e hb)⟩
  · cases z : H1 e with
    | none => rfl
    | some u =>
      obtain ⟨o1, e1⟩ := (I.hok e u z).here
      rw [ne] at e1; cases e1
  · cases z : s.heap.get? e with
    | none => rfl
    | some o =>
      obtain ⟨o1, e1⟩ := ub.there e o z (by simp)
      rw [ne] at e1; cases e1
end
end L2
end
section
set_option Elab.async false
set_option linter.all false
set_option maxRecDepth 100000
set_option maxHeartbeats 4000000
namespace L2
open PySem PySem.Spec PyProof.Rows PySem.W PySem.SeqAt PySem.Calls PySem.Builtin PySem.Builtin.ObjectAttr PySem.Builtin.Getset_descriptor

/-! ### raise C(..) -/
def Thr (X : Cx) (E : XK) : Prop := ∀ (pins : List (Addr × Obj)) (σ : St) (H1 : Hp) (s1 : Shared) (C : Value) (e : Addr) (vs : List Value) (h' : Heap), Inv X pins σ H1 s1 → Heap.MadeExcOf s1.heap h' e C vs → E C none H1 → X.xe (.ref e) { s1 with heap := h' }
theorem thrE {P : Program} {w : World} {K : PySem.W.Frag} {mg : Str → Option Value} {base : Heap} {N : List Str} {qual : Str} {scope : Scope} {f : Addr} {cd : Value} {A : Around} {outer : List Env} {s : Shared} {H : Hp} {E : XK} :
    Thr (cxOf (CXE P w) P w K mg base N qual scope f cd A outer s H E) E := fun _ _ _ _ _ _ _ _ I hx q => madeE I hx q
def tRaise (C : Value) (E : XK) (t : TA) : TS := fun _ σ H => t σ H fun vs H1 => vs.length ≤ sizeLine ∧ E C none H1
theorem ps_raise {X : Cx} {E : XK} {x : Str} {C : Addr} {B newId initId : String} {bm : List Value} {np cpos pos : Pos} {e : Expr} {es : List Expr} {t : TA} (hT : Thr X E) (hc : X.calm = true) (O : OwnCls x C bm newId X.mg X.base) (FB : ExcBaseFacts B newId initId bm)
    (hg : Gl X x) (ha : PA X (e :: es) t) (he : starEach (e :: es) X.env = (false, eval e X.env) :: starEach es X.env := by rfl) (hpl : (backTo cpos (starEach es X.env)).any (·.1) = false := by rfl) (hd : (x == ("__debug__" : Str)) = false := by decide) :
    PS X (.Raise (some (.Call (.Name x np) (e :: es) [] cpos)) none pos) (tRaise (.ref C) E t) := by
  intro pins s σ H D I h
  obtain ⟨tl, Nn, nm, q, bs, hdct, sn, sub, ab, col, dd, k0, k1, k2, k3, k5, mN, hC, hN, hni, T⟩ := O.obj
  refine wpAny_Raise_call_subT (C := C) (nm := nm) (q := q) (N := Nn) (bs := bs) (bm := tl) (hdct := hdct) (sn := sn) (sub := sub) (ab := ab) (col := col) (dd := dd) (k0 := k0) (k1 := k1) (k2 := k2) (k3 := k3) (k5 := k5)
    FB (mN := mN) (T.hasType FB.hasBase) (I.ok.hd hc) ?_ hni (ld_glob I hg O.bound ⟨rfl, ?_⟩ hd)
  · rw [he]
    show (false || (backTo cpos (starEach es X.env)).any (·.1)) = false
    rw [hpl]; rfl
  · have p := ha cpos pins s σ H _ I h
    rw [he] at p ⊢
    refine Calls.evalArgs_plain (thn p fun us s1 ⟨xs, H1, I1, r, z, q⟩ => ?_)
    exact ⟨rfl, by rw [← r.length]; exact z, I1.bk _ _ hC, hN.keeps I1.bk, T.keeps I1.bk, fun h' a hm => hT pins σ H1 s1 (.ref C) a us h' I1 hm q⟩

/-! ### isinstance of a caught exception -/
structure ExK (K : PySem.W.Frag) (D : Addr) : Prop where
  get : findIn K (.ref D) "__getattribute__" = some (some (.builtin "BaseException.__getattribute__"))
  hok : findIn K (.ref D) "__getattr__" = some none
  bex : mroIn K D (.type "BaseException") = some true
  cls : (clsIn K D).isSome = true
  att : findIn K (.ref D) "__class__" = some (some (.builtin "object.__class__"))
  dsc : specialIn K (.builtin "object.__class__") "__get__" = some (some (.builtin "getset_descriptor.__get__"))
  tak : takesIn K (.builtin "object.__class__") = some true
  obj : mroIn K D (.type "object") = some true
def OfCls (x D : Addr) (h : Heap) : Prop := ∃ o, h.get? x = some o ∧ o.cls = .ref D
section
variable {prog : Program} {w : World} {A : Around} {E : Value → Shared → Prop} {s : Shared} {K : PySem.W.Frag} {x D : Addr}
theorem OfCls.type {M : Model} {h : Heap} (I : OfCls x D h) : Looks M h (typeOf (.ref x)) (.ref D) := by
  obtain ⟨o, e, c⟩ := I
  exact c ▸ (Looks.ld e).andThen .now
theorem find_cls {M : Model} {h : Heap} (X : K.In h) (k : ExK K D) : Looks M h (find (.ref x) (.ref D) "__class__") (.bind (.builtin "getset_descriptor.__get__") (.builtin "object.__class__")) := by
  have L1 := looks_findIn (M := M) X k.att
  have L2 : Looks M h (getOf (some (Value.builtin "object.__class__"))) (some (.builtin "getset_descriptor.__get__")) := looks_specialIn X k.dsc
  have L3 := looks_takesIn (M := M) X k.tak
  have L4 : Looks M h (dataDescriptor? (some (Value.builtin "object.__class__")) (some (.builtin "getset_descriptor.__get__"))) (some (.builtin "getset_descriptor.__get__", .builtin "object.__class__")) := L3.andThen .now
  exact L1.andThen (L2.andThen (L4.andThen (Looks.tag .now)))
/-- object.__class__ read at it -/
theorem get_cls_code {tp : Value} {R : Result → Shared → Prop} (X : K.In s.heap) (I : OfCls x D s.heap) (k : ExK K D) (q : R (.ok (.ret (.ref D))) s) :
    codeAny (model prog w) A (.call (.builtin "getset_descriptor.__get__") ⟨[.builtin "object.__class__", .ref x, tp], []⟩) R s := by
  obtain ⟨hh, g, dr, t, os⟩ := s
  have T1 := I.type (M := model prog w)
  have T2 := looks_mroIn (M := model prog w) X k.obj
  refine codeAny_call_builtin KF.slot_gs.plain KF.entry_gs (KF.slot_gs.check _ _ _ _ _ _ _ _ KF.type_class (KF.args_gs _ _ _) ?_)
  unfold Builtin.«getset_descriptor.__get__» descrGet
  rw [dga_obj]
  refine wpAny_bind (wpAny_pure ?_)
  unfold descrGetter descrCheckInstance descrNameAndClass isInstance
  simp only [KF.owner_class]
  repeat lk
  refine ⟨Code.quiet_builtin _ (by decide +kernel), ?_⟩
  refine codeAny_builtin KF.entry_class ?_
  unfold Builtin.«object.__class__» shownTypeOf
  repeat lk
  exact q
theorem cls_entry {tk : Tok} {Q : Fin → Shared → Prop} {h : Heap} {g : Array GenState} {d : Drawn} {t : Nat} {os : OsState} (X : K.In h) (I : OfCls x D h) (k : ExK K D) (q : Q (.done (.ret (.ref D))) ⟨h, g, d, t, os⟩) :
    wpAny (model prog w) A (Builtin.«object.__getattribute__» ⟨[.ref x, .str "__class__" tk], []⟩) Q E ⟨h, g, d, t, os⟩ := by
  have T1 := I.type (M := model prog w)
  have T3 := find_cls (M := model prog w) (x := x) X k
  unfold Builtin.«object.__getattribute__»
  repeat (any_goals (first | assumption | with_reducible refine Looks.at (by assumption) ?_ | wp_step))
  refine get_cls_code X I k ?_
  repeat (any_goals (first | assumption | wp_step))
theorem cls_check {M : Model} {v : Value} {Q : Unit → Shared → Prop} {h : Heap} {g : Array GenState} {d : Drawn} {t : Nat} {os : OsState} (X : K.In h) (I : OfCls x D h) (k : ExK K D) (q : Q () ⟨h, g, d, t, os⟩) :
    wpAny M A (checkBuiltinCall "BaseException.__getattribute__" ⟨[.ref x, v], []⟩) Q E ⟨h, g, d, t, os⟩ := by
  have h1 : builtinKind "BaseException.__getattribute__" = some .slot := by decide +kernel
  have h2 : splitId "BaseException.__getattribute__" = some ("BaseException", "__getattribute__") := by decide +kernel
  have h3 := F.args_bexc_ga (.ref x) v
  have T1 := I.type (M := M)
  have T2 := looks_mroIn (M := M) X k.bex
  simp only [checkBuiltinCall, h1, h2]
  refine wpAny_bind ?_
  unfold isInstance
  repeat (first | with_reducible refine Looks.at (by assumption) ?_ | wp_step)
  exact q
theorem get_cls_by {tk : Tok} {Q : Value → Shared → Prop} {h : Heap} {g : Array GenState} {d : Drawn} {t : Nat} {os : OsState} (X : K.In h) (I : OfCls x D h) (k : ExK K D) (q : Q (.ref D) ⟨h, g, d, t, os⟩) :
    wpAny (model prog w) A (getAttrBy (.ref x) (.str "__class__" tk) false) Q E ⟨h, g, d, t, os⟩ := by
  have T1 := I.type (M := model prog w)
  have T2 := looks_findIn (M := model prog w) X k.get
  have T4 := looks_findIn (M := model prog w) X k.hok
  have f3 := F.excAttr_ValueError.ga.bind (.ref x)
  have e2 : (Value.builtin "BaseException.__getattribute__" == Value.builtin "object.__getattribute__") = false := by decide +kernel
  have e1 : (onTheHeap (Value.ref D) && Value.builtin "BaseException.__getattribute__" == Value.builtin "object.__getattribute__") = false := by rw [e2]; rfl
  repeat (any_goals (first | assumption | with_reducible refine Looks.at (by assumption) ?_ | wp_step))
  refine codeAny_call_builtin F.excAttr_ValueError.ga.plain F.entry_bexc_ga (cls_check X I k (cls_entry X I k ?_))
  repeat (any_goals (first | assumption | wp_step))
theorem get_cls_at {Q : Option Value → Shared → Prop} (X : K.In s.heap) (I : OfCls x D s.heap) (k : ExK K D) (q : Q (some (.ref D)) { s with toks := s.toks + 1 }) : wpAny (model prog w) A (getAttr? (.ref x) "__class__") Q E s := by
  obtain ⟨hh, g, dr, t, os⟩ := s
  unfold getAttr? getAttrBy?
  repeat (any_goals (first | assumption | with_reducible apply get_cls_by X I k | wp_step))
theorem kit_exc (k : ExK K D) : KitX K (.ref x) (.ref D) (OfCls x D) where
  ty := fun _ _ _ I => I.type
  it := fun _ _ X _ => by
    obtain ⟨cd, hc⟩ := Option.isSome_iff_exists.mp k.cls
    unfold clsIn at hc
    split at hc
    · rename_i c' d' cd' sl' ho
      intro A' Q' E' s' kk q
      unfold isType loadHead
      exact wpAny_bind (wpAny_loadPart (kk _ _ (X _ _ ho)) (wpAny_pure q))
    · cases hc
  ne := fun h tp dd its n sl X htp => by
    obtain ⟨cd, hc⟩ := Option.isSome_iff_exists.mp k.cls
    refine Bool.eq_false_iff.mpr fun q => ?_
    obtain rfl : D = tp := Value.ref.inj (beq_iff_eq.mp q)
    unfold clsIn at hc
    split at hc
    · rename_i c' d' cd' sl' ho
      have z := (X _ _ ho).symm.trans htp
      cases z
    · cases hc
  ca := fun X I q => get_cls_at X I k q
end
/-- isinstance(e, C) of the caught one -/
def rIsE (K : PySem.W.Frag) (a : Addr) (t : Value) : List V → Hp → VK → Prop := fun xs H Q => ∃ (D : Addr) (c : V) (cv : Value) (b : Bool), t = .ref D ∧ ExK K D ∧ xs = [.ref a, c] ∧ ((∃ C, c = .ref C ∧ cv = .ref C) ∨ ∃ T, c = .ty T ∧ cv = .type T) ∧ PySem.W.kitOne K t cv = some b ∧ Q (.bl b) H
end L2
end
section
set_option Elab.async false
set_option linter.all false
set_option maxRecDepth 100000
set_option maxHeartbeats 4000000
namespace L2
open PySem PySem.Spec PyProof.Rows PySem.W PySem.SeqAt PySem.Calls

/-! ### try: .. except C as n: .. -/
/-- within the suite: the caught one is pinned -/
abbrev Cx.suite (X : Cx) (a : Addr) (o : Obj) (pins : List (Addr × Obj)) : Cx := { X with A := X.A.mark (some (.ref a)), calm := false, pn := (a, o) :: (X.pn ++ pins), xe := fun _ _ => False }
abbrev Cx.tried (X : Cx) (pins : List (Addr × Obj)) (E : Value → Shared → Prop) : Cx := { X with pn := X.pn ++ pins, xe := E }
section
variable {X : Cx} {pins : List (Addr × Obj)} {σ : St} {H : Hp} {s : Shared}
theorem Cx.Ok.tried {E : Value → Shared → Prop} (ok : X.Ok) : (X.tried pins E).Ok :=
  ⟨ok.mod, ok.kind, ok.glob, ok.blt, ok.above, ok.inj, ok.has, ok.cab, ok.hd, ok.frames, ok.stk, ok.exf, ok.bs, ok.bsz, ok.noex, ok.exfs, ok.funs, ok.frf⟩
theorem Cx.Ok.untried {E : Value → Shared → Prop} (ok : (X.tried pins E).Ok) : X.Ok :=
  ⟨ok.mod, ok.kind, ok.glob, ok.blt, ok.above, ok.inj, ok.has, ok.cab, ok.hd, ok.frames, ok.stk, ok.exf, ok.bs, ok.bsz, ok.noex, ok.exfs, ok.funs, ok.frf⟩
theorem Inv.tried {E : Value → Shared → Prop} (I : Inv X pins σ H s) : Inv (X.tried pins E) [] σ H s :=
  ⟨I.ok.tried, I.os, I.bare, I.base, I.loc, I.cell, I.free, I.freeC, fun p hp => I.pin p (by simpa using hp), I.hok, I.len⟩
theorem Inv.untried {E : Value → Shared → Prop} {ps : List (Addr × Obj)} (I : Inv (X.tried pins E) ps σ H s) : Inv X pins σ H s :=
  ⟨I.ok.untried, I.os, I.bare, I.base, I.loc, I.cell, I.free, I.freeC, fun p hp => I.pin p (List.mem_append_left _ hp), I.hok, I.len⟩
theorem Inv.suite {a : Addr} {o : Obj} (I : Inv X pins σ H s) (e : s.heap.get? a = some o) (n : H a = none) (hl : a ≠ X.env.locals) (hf : a ∉ X.fs) (hd : ∀ v, o.data ≠ .cell v) : Inv (X.suite a o pins) [] σ H s := by
  have ok := I.ok
  refine ⟨⟨ok.mod, ok.kind, ok.glob, ok.blt, ok.above, ok.inj, ok.has, ok.cab, fun z => absurd z (by simp), ok.frames, ok.stk, ok.exf, ok.bs, ok.bsz, ok.noex, ok.exfs, ok.funs, ok.frf⟩, I.os, I.bare, I.base, I.loc, I.cell, I.free, I.freeC, fun p hp => ?_, I.hok, I.len⟩
  rw [List.append_nil] at hp
  rcases List.mem_cons.mp hp with rfl | hp
  · exact ⟨e, n, hl, hf, hd⟩
  · exact I.pin p hp
theorem Inv.unsuite {a : Addr} {o : Obj} (I : Inv (X.suite a o pins) [] σ H s) (hh : X.calm = true → X.A.handled = none) : Inv X pins σ H s := by
  have ok := I.ok
  exact ⟨⟨ok.mod, ok.kind, ok.glob, ok.blt, ok.above, ok.inj, ok.has, ok.cab, hh, ok.frames, ok.stk, ok.exf, ok.bs, ok.bsz, ok.noex, ok.exfs, ok.funs, ok.frf⟩, I.os, I.bare, I.base, I.loc, I.cell, I.free, I.freeC, fun p hp => I.pin p (by rw [List.append_nil]; exact List.mem_cons_of_mem _ hp), I.hok, I.len⟩
/-- a name is let go -/
theorem Inv.gone {i : Nat} {n : Str} {m : Str → Option Value} {v : Option Value} {h' : Heap} {t' : Nat} (I : Inv X pins σ H s) (hN : X.N.Nodup) (hi : X.N[i]? = some n) (hm : s.heap.Ns X.env.locals m)
    (hn : h'.Ns X.env.locals (fun x => if x = n then v else m x)) (hs : Heap.SameBut X.env.locals s.heap h') : Inv X pins (σ.set i none) H { s with heap := h', toks := t' } := by
  obtain ⟨m2, hn2, hl⟩ := id I.loc
  have em : m2 = m := by
    obtain ⟨o1, es1, ep1, g1, d1, _, q1⟩ := hn2
    obtain ⟨o2, es2, ep2, g2, d2, _, q2⟩ := hm
    rw [g1] at g2; cases g2
    rw [d1] at d2; cases d2
    funext y
    rw [← q1 y, ← q2 y]
  subst em
  have ne : ∀ b o, X.s₀.heap.get? b = some o → b ≠ X.env.locals := fun b o e => Nat.ne_of_lt (Nat.lt_of_lt_of_le (Heap.lt_size e) I.ok.above)
  refine ⟨I.ok, I.os, I.bare, ⟨fun b o e n hb hx => ?_, fun b o e n hb hx => ?_, I.base.free, fun b o e hx => ?_, I.base.tups, I.base.frzs, I.base.tbls⟩, ⟨_, hn, fun j y w e1 e2 e3 => ?_⟩, fun y c e => ?_, I.free, I.freeC, fun p hp => ?_, fun b ob e => ?_, by simpa using I.len⟩
  · exact (hs.2 b (ne b o e)).trans (I.base.keep b o e n hb hx)
  · obtain ⟨sl, e1⟩ := I.base.slot b o e n hb hx
    exact ⟨sl, (hs.2 b (ne b o e)).trans e1⟩
  · obtain ⟨o', e1⟩ := I.base.there b o e hx
    exact ⟨o', (hs.2 b (ne b o e)).trans e1⟩
  · by_cases hj : j = i
    · subst hj
      rw [List.getElem?_set] at e2
      simp at e2
    · rw [List.getElem?_set_ne (Ne.symm hj)] at e2
      obtain ⟨u', r', q⟩ := hl j y w e1 e2 e3
      refine ⟨u', r', ?_⟩
      rcases q with ⟨k, e⟩ | ⟨k, c, e, z⟩
      · have hy : y ≠ n := fun e => hj (nodup_ix hN e1 (e ▸ hi))
        exact .inl ⟨k, by simp [hy, e]⟩
      · exact .inr ⟨k, c, e, z.sameBut hs (I.cne y c e)⟩
  · obtain ⟨w', z⟩ := I.cell y c e
    exact ⟨w', z.sameBut hs (I.cne y c e)⟩
  · obtain ⟨e, n, nl, nf, d⟩ := I.pin p hp
    exact ⟨(hs.2 p.1 nl).trans e, n, nl, nf, d⟩
  · refine (I.hok b ob e).stay (fun c w' hc q => (hs.2 c ?_).trans q) (fun _ q => q) fun _ _ q => q
    rintro rfl
    rcases hc with hc | hc
    · rw [← hc, I.free] at e; cases e
    · rw [I.free] at hc; cases hc
end

/-- behind the suite the name is gone -/
def goneD (i : Nat) (D : Ends) : Ends := { nx := fun σ H => D.nx (σ.set i none) H, rt := D.rt, bk := fun σ H => D.bk (σ.set i none) H, ct := fun σ H => D.ct (σ.set i none) H }
def tTry (K : PySem.W.Frag) (T : Value) (len i : Nat) (tb : XK → TS) (th : Addr → Value → TS) : TS := fun D σ H =>
  tb (fun C _ H' => PySem.W.exmOne K C T = some true ∧ ∀ (a : Addr) (σ' : St), H' a = none → σ'.length = len → th a C (goneD i D) (σ'.set i (some (.ref a))) H') D σ H
end L2
end
section
set_option Elab.async false
set_option linter.all false
set_option maxRecDepth 100000
set_option maxHeartbeats 4000000
namespace L2
open PySem PySem.Spec PyProof.Rows PySem.W PySem.SeqAt PySem.Calls

/-! ### defs that raise -/
structure DefE (P : Program) (w : World) (K : PySem.W.Frag) (mg : Str → Option Value) (base : Heap) (k : Nat) (x : Str) (ps : List Str) (sp : Sp) : Prop where
  ex : ∃ (f : Addr) (fd : FuncData), FnOk P w K mg base (CXE P w) k f fd ps sp ∧ Binds K fd ps [] ∧ PySem.W.keepIn K (.ref f) = true ∧ mg x = some (.ref f)
theorem DefE.mono {P : Program} {w : World} {K : PySem.W.Frag} {mg : Str → Option Value} {base : Heap} {j k : Nat} {x : Str} {ps : List Str} {sp : Sp} (D : DefE P w K mg base j x ps sp) (h : j ≤ k) : DefE P w K mg base k x ps sp := by
  obtain ⟨f, fd, F, b, kp, m⟩ := D.ex
  exact ⟨f, fd, F.mono h, b, kp, m⟩
theorem pe_defE {X : Cx} {k : Nat} {x : Str} {ps : List Str} {sp : Sp} {E : XK} {p pos : Pos} {e : Expr} {es : List Expr} {t : TA} (D : DefE X.prog X.w X.K X.mg X.base k x ps sp) (hr : Room k X.A) (hg : Gl X x) (hx : Passes (CXE X.prog X.w) X E) (ha : PA X (e :: es) t)
    (hdb : (x == ("__debug__" : Str)) = false := by decide) (he : starEach (e :: es) X.env = (false, eval e X.env) :: starEach es X.env := by rfl) (hpl : (backTo pos (starEach es X.env)).any (·.1) = false := by rfl) : PE X (.Call (.Name x p) (e :: es) [] pos) (tCall sp [] E t) := by
  obtain ⟨f, fd, F, b, kp, m⟩ := D.ex
  exact pe_call F hr hg m kp b .nil hx ha hdb he hpl
section
variable {P : Program} {w : World} {K : PySem.W.Frag} {mg : Str → Option Value} {base : Heap} {k : Nat} {f : Addr} {fd : FuncData} {ps : List Str}
/-- a def by its body, where it may raise -/
theorem Fun.okE {x qual : Str} {st : Stmt} {N : List Str} {sp : Sp} (F : Fun K x qual st f fd) (S : FnScope N ps (defScope st)) (len : ∀ vs H Q E, sp vs H Q E → vs.length = ps.length)
    (hbody : ∀ (cdv : Value) (A : Around) (outer : List Env) (s : Shared) (H : Hp) (vs : List V) (Q : VK) (E : XK), Room k (A.deeper (envOfC qual (defScope st) s.heap.objs.size f cdv)) → sp vs H Q E →
      ∃ t, PSs (cxOf (CXE P w) P w K mg base N qual (defScope st) f cdv A outer s H E) (defBody st) t ∧ t { nx := fun _ H' => Q .non H', rt := Q } (start N vs) H) : FnOk P w K mg base (CXE P w) (k + 1) f fd ps sp := by
  obtain ⟨oc, od, kV, doc, pm, an, cdv, ct, osl, rfl, lk, hcd⟩ := F.ex
  exact fn_of lk hcd S len fun A outer s H vs Q E hr hsp => hbody cdv A outer s H vs Q E hr hsp
/-- one that never raises, as one that may -/
theorem FnOk.toE {sp : Sp} (F : FnOk P w K mg base CX0 k f fd ps sp) : FnOk P w K mg base (CXE P w) k f fd ps sp :=
  ⟨F.len, fun A outer s H args us vs Q E hr he hb hv hs => codeAny_mono (F.run A outer s H args us vs Q E hr he hb hv hs) fun r s' q => by
    cases r with
    | error e => exact False.elim q
    | ok fl => cases fl with
      | ret u => exact q
      | next => exact q
      | brk => exact q
      | cont => exact q⟩
/-- two promises of one def -/
theorem FnOk.two {CX : CXT} {sp sp' : Sp} (F : FnOk P w K mg base CX k f fd ps sp) (G : FnOk P w K mg base CX k f fd ps sp') : FnOk P w K mg base CX k f fd ps (fun vs H Q E => sp vs H Q E ∨ sp' vs H Q E) :=
  ⟨fun vs H Q E h => h.elim (F.len vs H Q E) (G.len vs H Q E), fun A outer s H args us vs Q E hr he hb hv hs => hs.elim (F.run A outer s H args us vs Q E hr he hb hv) (G.run A outer s H args us vs Q E hr he hb hv)⟩
end

/-! ### the classes of the text -/
def bmV : List Value := [.type "ValueError", .type "Exception", .type "BaseException", .type "object"]
theorem own_by {K : PySem.W.Frag} {h : Heap} {mg : Str → Option Value} {x : Str} {C : Addr} {bmB : List Value} {newId : String} (X : K.In h) (hm : mg x = some (.ref C)) (q : excIn K C bmB newId = true) : OwnCls x C bmB newId mg h := by
  refine ⟨hm, ?_⟩
  unfold excIn at q
  split at q
  · rename_i dd cd sl ho
    split at q
    · rename_i C' bm k0 k1 k2 k3 n k5 hm hs
      simp only [Bool.and_eq_true, beq_iff_eq, Bool.not_eq_true'] at q
      obtain ⟨⟨⟨⟨⟨rfl, rfl⟩, hdel⟩, ht⟩, hok⟩, hni⟩ := q
      obtain ⟨nm, bs, mro, ns, qn, hd, sn, sub, ab, col, del⟩ := cd
      dsimp only at hm hdel hok hni
      subst hm hdel
      obtain ⟨l⟩ := sl
      simp only at hs
      subst hs
      exact ⟨bm, ns, nm, qn, bs, hd, sn, sub, ab, col, dd, k0, k1, k2, k3, k5, _, X _ _ ho, .of_isNs (isNs_of_in X hok), nsMap_none_of_in X hok hni, tail_of_in X ht⟩
    · cases q
  · cases q
/-- the nine names -/
structure Errs (mg : Str → Option Value) (T c1 c2 c3 c4 c5 c6 c7 c8 : Addr) : Prop where
  top : mg "TopError" = some (.ref T)
  n1 : mg "NoStretch" = some (.ref c1)
  n2 : mg "NoLength" = some (.ref c2)
  n3 : mg "NoCount" = some (.ref c3)
  n4 : mg "NoPlace" = some (.ref c4)
  n5 : mg "NoText" = some (.ref c5)
  n6 : mg "NoShape" = some (.ref c6)
  n7 : mg "NoneYet" = some (.ref c7)
  n8 : mg "NoRound" = some (.ref c8)
  val : mg "ValueError" = none
/-- what is known of a raised one -/
structure Fault (K : PySem.W.Frag) (T c1 c2 c3 c4 c5 c6 c7 c8 C : Addr) (b1 b2 b3 b4 b5 b6 b7 b8 : Bool) : Prop where
  exm : PySem.W.exmOne K (.ref C) (.ref T) = some true
  k1 : PySem.W.kitOne K (.ref C) (.ref c1) = some b1
  k2 : PySem.W.kitOne K (.ref C) (.ref c2) = some b2
  k3 : PySem.W.kitOne K (.ref C) (.ref c3) = some b3
  k4 : PySem.W.kitOne K (.ref C) (.ref c4) = some b4
  k5 : PySem.W.kitOne K (.ref C) (.ref c5) = some b5
  k6 : PySem.W.kitOne K (.ref C) (.ref c6) = some b6
  k7 : PySem.W.kitOne K (.ref C) (.ref c7) = some b7
  k8 : PySem.W.kitOne K (.ref C) (.ref c8) = some b8
  kv : PySem.W.kitOne K (.ref C) (.type "ValueError") = some true
  exk : ExK K C
theorem boot_VE : bootBuiltins "ValueError" = some (.type "ValueError") := by boot_by_name
end L2
end
section
set_option Elab.async false
set_option linter.all false
set_option maxRecDepth 100000
set_option maxHeartbeats 4000000
namespace L2
open PySem PySem.Spec PyProof.Rows PySem.W PySem.SeqAt PySem.Calls
section
variable {X : Cx}
/-- != of two lists, each pair of items compared as deep as it goes -/
def rNeL (K : PySem.W.Frag) : R2 := fun x y H Q => ∃ (a b : Addr) (xs ys : List V), x = .ref a ∧ y = .ref b ∧ SqL K H a xs ∧ SqL K H b ys ∧ xs.length = ys.length ∧
  (∀ (j : Nat) (x y : V), xs[j]? = some x → ys[j]? = some y → ∃ n, n ≤ 50 ∧ EqD K H n x y true) ∧ Q (.bl false) H
end
end L2
end
section
set_option Elab.async false
set_option linter.all false
set_option maxRecDepth 100000
set_option maxHeartbeats 4000000
namespace L2
open PySem PySem.Spec PyProof.Rows PySem.W PySem.SeqAt

/-! ### min(a, b, key=f), f a def of the text that tells tuples of ints -/
section
variable {X : Cx} {k : Nat} {f : Addr} {fd : FuncData} {ps : List Str} {sp : Sp} {pins : List (Addr × Obj)} {σ : St}
/-- min(a, b, key=f) -/
def tMinK (K : PySem.W.Frag) (sp : Sp) (t : TA) : TE := fun σ H Q => t σ H fun vs H1 => ∃ x y, vs = [x, y] ∧ sp [x] H1 (fun v1 H2 => sp [y] H2 (fun v2 H3 => ∃ a b ns ms, v1 = .ref a ∧ v2 = .ref b ∧ SqT K H3 a (ns.map V.int) ∧ SqT K H3 b (ms.map V.int) ∧ Q (if HT.lexLt ms ns = true then y else x) H3) E0) E0
end
end L2
end
section
set_option Elab.async false
set_option linter.all false
set_option maxRecDepth 100000
set_option maxHeartbeats 4000000
namespace L2
open PySem PySem.Spec PyProof.Rows PySem.W PySem.SeqAt PySem.Calls

/-! ### == and != of two things that are alike through and through, however deep each item goes -/
def okV : V → Bool
  | .non => true
  | .bl _ => true
  | .int _ => true
  | .str _ => true
  | .ref _ => true
  | _ => false
inductive Like (K : PySem.W.Frag) (H : Hp) : Nat → V → V → Prop
  | same {n : Nat} {x : V} (ok : okV x = true) : Like K H n x x
  | tup {n : Nat} {a b : Addr} {xs ys : List V} (ha : SqT K H a xs) (hb : SqT K H b ys) (hl : xs.length = ys.length) (h : ∀ (j : Nat) x y, xs[j]? = some x → ys[j]? = some y → Like K H n x y) : Like K H (n + 1) (.ref a) (.ref b)
  | lst {n : Nat} {a b : Addr} {xs ys : List V} (ha : SqL K H a xs) (hb : SqL K H b ys) (hl : xs.length = ys.length) (h : ∀ (j : Nat) x y, xs[j]? = some x → ys[j]? = some y → Like K H n x y) : Like K H (n + 1) (.ref a) (.ref b)
section
variable {X : Cx}
/-- the two sides of ==, != : lists or tuples -/
def rLike (K : PySem.W.Frag) (neg : Bool) : R2 := fun x y H Q => ∃ n a b xs ys, x = .ref a ∧ y = .ref b ∧ ((SqT K H a xs ∧ SqT K H b ys) ∨ (SqL K H a xs ∧ SqL K H b ys)) ∧ xs.length = ys.length ∧
  (∀ (j : Nat) x y, xs[j]? = some x → ys[j]? = some y → Like K H n x y) ∧ n ≤ 50 ∧ Q (.bl (!neg)) H
/-! ### a number that the text names at its top -/
end
section
variable {X : Cx} {N' : List Str} {scope : Scope} {C : Addr} {s : Shared} {H : Hp} {fp : List Addr}
end
/-! ### isinstance, more kinds -/
section
variable {K : PySem.W.Frag}
end
end L2
end
section
set_option Elab.async false
set_option linter.all false
set_option maxRecDepth 100000
set_option maxHeartbeats 4000000
namespace L2
open PySem PySem.Spec PyProof.Rows PySem.W PySem.SeqAt PySem.Calls

/-! ### list(range(..)) -/
section
variable {X : Cx}
def tLR1 (ta : TA) : TE := fun σ H Q => ta σ H fun vs H1 => ∃ j : Int, vs = [.int j] ∧ 0 ≤ j ∧ j ≤ 100000 ∧ ∀ l, H1 l = none → Q (.ref l) (upd H1 l (.lst ((List.range j.toNat).map fun (i : Nat) => V.int (i : Int))))
end
end L2
end
section
set_option Elab.async false
set_option linter.all false
set_option maxRecDepth 100000
set_option maxHeartbeats 4000000
namespace L2
open PySem PySem.Spec PyProof.Rows PySem.W PySem.SeqAt PySem.Calls

/-! ### a call by a name of the def's own: the function is a value -/
/-- the defs that may be handed in, each with its promise -/
def FnV (X : Cx) (k : Nat) (Fs : Addr → Sp → Prop) : Prop := ∀ f sp, Fs f sp → ∃ fd ps, FnOk X.prog X.w X.K X.mg X.base (CXE X.prog X.w) k f fd ps sp ∧ Binds X.K fd ps [] ∧ PySem.W.keepIn X.K (.ref f) = true
def tCallV (Fs : Addr → Sp → Prop) (i : Nat) (E : XK) (t : TA) : TE := fun σ H Q => ∃ f sp, σ[i]? = some (some (.ref f)) ∧ Fs f sp ∧ t σ H fun vs H1 => sp vs H1 Q E
/-! ### what a def raises is what it raises behind some steps -/
end L2
end
section
set_option Elab.async false
set_option linter.all false
set_option maxRecDepth 100000
set_option maxHeartbeats 4000000
namespace L2
open PySem PySem.Spec PyProof.Rows PySem.W PySem.SeqAt PySem.Calls

/-! ### sorted(d), d a dict whose keys are ints -/
section
variable {X : Cx}
end
end L2
end
section
set_option Elab.async false
set_option linter.all false
set_option maxRecDepth 100000
set_option maxHeartbeats 4000000
namespace L2
open PySem PySem.Spec PyProof.Rows PySem.W PySem.SeqAt PySem.Calls

/-! ### set(xs) of a list of one int again and again, len of a set -/
section
variable {X : Cx}
end
section
variable {X : Cx} {N' : List Str} {scope : Scope} {C : Addr} {s : Shared} {H : Hp} {fp : List Addr}
end
end L2
end
section
set_option Elab.async false
set_option linter.all false
set_option maxRecDepth 100000
set_option maxHeartbeats 4000000
namespace L2
open PySem PySem.Spec PyProof.Rows PySem.W PySem.SeqAt PySem.Calls

/-! ### list(range(a, b)) -/
section
variable {X : Cx}
def tLR2 (ta : TA) : TE := fun σ H Q => ta σ H fun vs H1 => ∃ i j : Int, vs = [.int i, .int j] ∧ 0 ≤ i ∧ i ≤ j ∧ j ≤ 100000 ∧ ∀ l, H1 l = none → Q (.ref l) (upd H1 l (.lst ((List.range (j - i).toNat).map fun (m : Nat) => V.int (i + (m : Int)))))
end
end L2
end
section
set_option Elab.async false
set_option linter.all false
set_option maxRecDepth 100000
set_option maxHeartbeats 4000000
namespace L2
open PySem PySem.Spec PyProof.Rows PySem.W PySem.SeqAt PySem.Calls

/-! ### a, b = a list -/
section
variable {prog : Program} {w : World} {A : Around} {E : Value → Shared → Prop}
end
section
variable {X : Cx}
def gLstU (K : PySem.W.Frag) (n : Nat) (t : TGs) : TG := fun v σ H Q => ∃ a xs, v = .ref a ∧ SqL K H a xs ∧ xs.length = n ∧ t xs σ H Q
end
end L2
end
section
set_option Elab.async false
set_option linter.all false
set_option maxRecDepth 100000
set_option maxHeartbeats 4000000
namespace L2
open PySem PySem.Spec PyProof.Rows PySem.W PySem.SeqAt PySem.Calls

/-! ### i not in range(n) -/
section
variable {X : Cx} {a b : Expr} {pos : Pos}
def tNotR (te : TE) (ta : TA) : TE := fun σ H Q => te σ H fun x H1 => ta σ H1 fun vs H2 => ∃ i j : Int, x = .int i ∧ vs = [.int j] ∧ Q (.bl (!decide (0 ≤ i ∧ i < j))) H2
end
end L2
end
section
set_option Elab.async false
set_option linter.all false
set_option maxRecDepth 100000
set_option maxHeartbeats 4000000
namespace L2
open PySem PySem.Spec PyProof.Rows PySem.W PySem.SeqAt PySem.Calls

/-! ### text.split(sep) -/
section
variable {X : Cx}
def rSplit : V → List V → Hp → VK → Prop := fun x xs H Q => ∃ z y, x = .str z ∧ xs = [.str y] ∧ (y.length == 0) = false ∧ z.length ≤ sizeLine ∧ (Txt.split z y).length ≤ sizeLine ∧ ∀ l, H l = none → Q (.ref l) (upd H l (.lst ((Txt.split z y).map V.str)))
/-! ### sep.join(texts) -/
def rJoin (K : PySem.W.Frag) : V → List V → Hp → VK → Prop := fun x xs H Q => ∃ z a ts, x = .str z ∧ xs = [.ref a] ∧ SqL K H a (ts.map V.str) ∧ JoinOk z ts = true ∧ Q (.str (Txt.join z ts)) H
/-! ### text.startswith(text), int(text) -/
def rStarts : V → List V → Hp → VK → Prop := fun x xs H Q => ∃ z y, x = .str z ∧ xs = [.str y] ∧ Q (.bl (0 + y.length ≤ z.length && Builtin.Str.subAt z y 0)) H
/-! ### for sign in text -/
def Its (x : Str) : It := ⟨fun i _ => i < x.cps.size, fun i H v H' => H' = H ∧ ∃ c, x.cps[i]? = some c ∧ v = .str ⟨#[c]⟩, fun i _ => x.cps.size ≤ i⟩
def iStr (tl : TE) : TI := fun σ H R => tl σ H fun x H1 => ∃ z, x = .str z ∧ R (Its z) H1
/-! ### text[lo:hi] -/
def rSlS : V → Option Int → Option Int → Hp → VK → Prop := fun x lo hi H Q => ∃ z, x = .str z ∧ z.length ≤ sizeLine ∧ Q (.str (Txt.slice z lo hi)) H
/-! ### a text that the program names at its top -/
end
section
variable {X : Cx} {N' : List Str} {scope : Scope} {C : Addr} {s : Shared} {H : Hp} {fp : List Addr}
end
end L2
end
section
set_option Elab.async false
set_option linter.all false
set_option maxRecDepth 100000
set_option maxHeartbeats 4000000
namespace L2
open PySem PySem.Spec PyProof.Rows PySem.W PySem.SeqAt PySem.Calls
/-! ### text * n, text[::-1]: some text that is no longer -/
section
variable {X : Cx} {e st : Expr} {te ts : TE} {pos p2 : Pos}
def rRepS : R2 := fun x y H Q => ∃ i j, x = .str i ∧ y = .int j ∧ 1 ≤ j ∧ j ≤ 100000 ∧ i.length * j.toNat ≤ 100000 ∧ ∀ z : Str, z.length ≤ i.length * j.toNat → Q (.str z) H
def tRevS (te ts : TE) : TE := fun σ H Q => te σ H fun x H1 => ts σ H1 fun y H2 => ∃ z, x = .str z ∧ y = .int (-1) ∧ z.length ≤ 100000 ∧ ∀ z' : Str, z'.length ≤ z.length → Q (.str z') H2
end
end L2
end
section
set_option Elab.async false
set_option linter.all false
set_option maxRecDepth 100000
set_option maxHeartbeats 4000000
namespace L2
open PySem PySem.Spec PyProof.Rows PySem.W PySem.SeqAt PySem.Calls
/-! ### xs[i:j] = ys, within the list -/
section
variable {X : Cx} {pos p2 : Pos}
def gSlice (to : TE) (tl th : TO) : TG := fun v σ H Q => to σ H fun o H1 => tl σ H1 fun a H2 => th σ H2 fun b H3 => ∃ p q xs ys i j, o = .ref p ∧ v = .ref q ∧ a = some i ∧ b = some j ∧ p ≠ q ∧ H3 p = some (.lst xs) ∧ H3 q = some (.lst ys) ∧ 0 ≤ i ∧ i ≤ j ∧ j ≤ (xs.length : Int) ∧ xs.length + ys.length ≤ sizeLine ∧ Q σ (upd H3 p (.lst (xs.take i.toNat ++ ys ++ xs.drop j.toNat)))
end
end L2
end
section
set_option Elab.async false
set_option linter.all false
set_option maxRecDepth 100000
set_option maxHeartbeats 4000000
namespace L2
open PySem PySem.Spec PyProof.Rows PySem.W PySem.SeqAt PySem.Calls
/-! ### list(range(a, b, -1)) -/
section
variable {X : Cx}
def tLR3 (ta : TA) : TE := fun σ H Q => ta σ H fun vs H1 => ∃ i j : Int, vs = [.int i, .int j, .int (-1)] ∧ 0 ≤ j ∧ j ≤ i ∧ i ≤ 100000 ∧ ∀ l, H1 l = none → Q (.ref l) (upd H1 l (.lst ((List.range (i - j).toNat).map fun (m : Nat) => V.int (i - (m : Int)))))
end
end L2
end
section
set_option Elab.async false
set_option linter.all false
set_option maxRecDepth 100000
set_option maxHeartbeats 4000000
namespace L2
open PySem PySem.Spec PyProof.Rows PySem.W PySem.SeqAt
open PySem.AutoSeq1 (wpAny_loadPart')
open PySem.MeetsSeq PySem.MeetsSeq2 PySem.MeetsSeq3
/-! ### t < u of tuples that begin with unlike ints, whatever stands last -/
section
variable {prog : Program} {w : World} {A : Around} {E : Value → Shared → Prop} {s : Shared}
end
/-! ### min of a list of two tuples that begin with unlike ints -/
section
variable {X : Cx} {pins : List (Addr × Obj)} {σ : St}
def rMin2 (K : PySem.W.Frag) : List V → Hp → VK → Prop := fun vs H Q => ∃ (l p q : Addr) (ns ms : List Int) (x y : V), vs = [.ref l] ∧ SqL K H l [.ref p, .ref q] ∧ SqT K H p (ns.map V.int ++ [x]) ∧ SqT K H q (ms.map V.int ++ [y]) ∧ ns.length = ms.length ∧ ns ≠ ms ∧
  Q (if HT.lexLt ms ns = true then .ref q else .ref p) H
end
end L2
end
section
set_option Elab.async false
set_option linter.all false
set_option maxRecDepth 100000
set_option maxHeartbeats 4000000
namespace L2
open PySem PySem.Spec PyProof.Rows PySem.W PySem.SeqAt PySem.Calls
section
variable {X : Cx}
/-- // of ints by one that may be long -/
structure CDivL (i j : Int) : Prop where
  pos : 0 < j
  lt : j < 2 ^ 200
theorem op_fdivL : OpR X (binaryOp .FloorDiv) (rI CDivL fun i j => .int (i / j)) := opI fun i j _ _ _ _ _ hc q => by
  obtain ⟨h0, h1⟩ := hc
  refine floordiv_int (by (first | lia | omega)) (by rw [Int.fdiv_eq_ediv_of_nonneg i (by (first | lia | omega))]; exact q) (.inl (PyProof.noPylong_of_log2 ?_))
  have h2 : j.natAbs ≠ 0 := by (first | lia | omega)
  have h3 : j.natAbs.log2 < 200 := (Nat.log2_lt h2).mpr (by (first | lia | omega))
  (first | lia | omega)
end
end L2
end
section
set_option Elab.async false
set_option linter.all false
set_option maxRecDepth 100000
set_option maxHeartbeats 4000000
namespace L2
open PySem PySem.Spec PyProof.Rows PySem.W PySem.SeqAt
section
variable {X : Cx}
/-! ### xs.index(x) of a list of flat items that has x -/
def rIndexF (K : PySem.W.Frag) : V → List V → Hp → VK → Prop := fun o vs H Q => ∃ (p : Addr) (xs : List V) (x y : V) (i : Nat), o = .ref p ∧ vs = [x] ∧ SqL K H p xs ∧ flatV x = true ∧ xs.all flatV = true ∧ xs[i]? = some y ∧ eqV y x = true ∧ (∀ j z, j < i → xs[j]? = some z → eqV z x = false) ∧ xs.length ≤ 100000 ∧ Q (.int (i : Nat)) H
end
end L2
end
section
set_option Elab.async false
set_option linter.all false
set_option maxRecDepth 100000
set_option maxHeartbeats 4000000
namespace L2
open PySem PySem.Spec PyProof.Rows PySem.W PySem.SeqAt
section
variable {X : Cx} {N' : List Str} {scope : Scope} {C : Addr} {s : Shared} {H : Hp} {fp : List Addr} {e st o i : Expr} {te ts td ty : TE} {pos p2 : Pos}
/-! ### xs[::-1] and d[k] within a comprehension's block -/
theorem pe_revB (he : PE (blk X N' scope C s H fp) e te) (hst : PE (blk X N' scope C s H fp) st ts) : PE (blk X N' scope C s H fp) (.Subscript e (.Slice none none (some st) p2) pos) (tRev X.K te ts) := pe_rev he hst
theorem pe_dgetB (hu : X.A.units + 1 < cLine) (ho : PE (blk X N' scope C s H fp) o td) (hi : PE (blk X N' scope C s H fp) i ty) (hs : NoSl i) : PE (blk X N' scope C s H fp) (.Subscript o i pos) (tDGet td ty) := pe_dget hu ho hi hs
end
end L2
end
section
set_option Elab.async false
set_option linter.all false
set_option maxRecDepth 100000
set_option maxHeartbeats 4000000
namespace L2
open PySem PySem.Spec PyProof.Rows
section
variable {X : Cx} {a b c d : Expr} {ta tb tc td : TE} {pos : Pos}
/-! ### a op b op c op d as a test -/
end
end L2
end
section
set_option Elab.async false
set_option linter.all false
set_option maxRecDepth 100000
set_option maxHeartbeats 4000000
namespace L2
open PySem PySem.Spec PyProof.Rows
section
variable {X : Cx}
/-! ### != of two flat things, or of two that are alike through and through -/
end
end L2
end
section
set_option Elab.async false
set_option linter.all false
set_option maxRecDepth 100000
set_option maxHeartbeats 4000000
namespace L2
open PySem PySem.Spec PyProof.Rows
section
variable {X : Cx} {a b : Expr} {rest : List Expr} {ta tb : TE} {pos : Pos}
/-! ### x or y, of any values -/
def tOrW (K : PySem.W.Frag) (ta tb : TE) : TE := fun σ H Q => ta σ H fun x H1 => ∃ c, TruV K x H1 c ∧ if c = true then Q x H1 else tb σ H1 Q
end
end L2
end
section
set_option Elab.async false
set_option linter.all false
set_option maxRecDepth 100000
set_option maxHeartbeats 4000000
namespace L2
open PySem PySem.Spec PyProof.Rows
section
variable {X : Cx} {N' : List Str} {scope : Scope} {C : Addr} {s : Shared} {H : Hp} {fp : List Addr} {M' : List Str} {scope2 : Scope} {C2 : Addr} {s2 : Shared} {H2 : Hp} {fp2 : List Addr} {tg : Expr}
/-! ### within a block of a block -/
end
end L2
end
section
set_option Elab.async false
set_option linter.all false
set_option maxRecDepth 100000
set_option maxHeartbeats 4000000
namespace L2
open PySem PySem.Spec PyProof.Rows PySem.W PySem.SeqAt PySem.Calls

/-! ### try: .. except C as n: .. where the caught one stays behind the suite -/
/-- an exception that is kept: its class -/
def exV (a : Addr) (C : Value) : HO := .ext (fun h => ∃ o, h.get? a = some o ∧ o.cls = C)
section
variable {X : Cx} {pins : List (Addr × Obj)} {σ : St} {H : Hp} {s : Shared}
theorem Inv.track {a : Addr} {o : Obj} {C : Value} (I : Inv X pins σ H s) (e : s.heap.get? a = some o) (hc : o.cls = C) (n : H a = none) (new : X.s₀.heap.get? a = none) (hl : a ≠ X.env.locals) (hd : ∀ v, o.data ≠ .cell v) (hp : ∀ p ∈ X.pn ++ pins, p.1 ≠ a) :
    Inv X pins σ (upd H a (exV a C)) s := by
  refine ⟨I.ok, I.os, I.bare, ⟨I.base.keep, I.base.slot, fun b ob e1 n1 hx => ?_, I.base.there, fun b xs z => ?_, fun b ob u z => ?_, fun b ps z => ?_⟩, I.loc, I.cell, ?_, fun x c z => ?_, fun p z => ?_, fun b ob z => ?_, I.len⟩
  · rw [upd_ne (fun z => by subst z; rw [new] at e1; cases e1)]
    exact I.base.free b ob e1 n1 hx
  · have q := I.base.tups b xs z
    rw [upd_ne (ne_of_none q n)]
    exact q
  · have q := I.base.frzs b ob u z
    rw [upd_ne (ne_of_none q n)]
    exact q
  · obtain ⟨more, q⟩ := I.base.tbls b ps z
    refine ⟨more, ?_⟩
    rw [upd_ne (ne_of_none q n)]
    exact q
  · rw [upd_ne (Ne.symm hl)]
    exact I.free
  · rw [upd_ne (fun y => ?_)]
    · exact I.freeC x c z
    · subst y
      obtain ⟨v, o1, e1, d1⟩ := I.cell x c z
      rw [e] at e1; cases e1
      exact hd v d1
  · obtain ⟨q1, q2, q3⟩ := I.pin p z
    refine ⟨q1, ?_, q3⟩
    rw [upd_ne (hp p z)]
    exact q2
  · by_cases hb : b = a
    · subst hb
      rw [upd_same] at z
      cases z
      exact ⟨⟨o, e, hc⟩, ⟨o, e⟩, fun h1 h2 ⟨o1, e1, c1⟩ k => ⟨o1, k o1 e1, c1⟩⟩
    · rw [upd_ne hb] at z
      exact (I.hok b ob z).stay (fun c v _ q => q) (fun c q => by rw [upd_ne (ne_of_none q n)]; exact q) fun c xs q => by rw [upd_ne (ne_of_none q n)]; exact q
end
def goneK (i : Nat) (a : Addr) (C : Value) (D : Ends) : Ends := { nx := fun σ H => D.nx (σ.set i none) (upd H a (exV a C)), rt := fun v H => D.rt v (upd H a (exV a C)), bk := fun σ H => D.bk (σ.set i none) (upd H a (exV a C)), ct := fun σ H => D.ct (σ.set i none) (upd H a (exV a C)) }
def tTryK (K : PySem.W.Frag) (T : Value) (len i : Nat) (tb : XK → TS) (th : Addr → Value → TS) : TS := fun D σ H =>
  tb (fun C _ H' => PySem.W.exmOne K C T = some true ∧ ∀ (a : Addr) (σ' : St), H' a = none → σ'.length = len → th a C (goneK i a C D) (σ'.set i (some (.ref a))) H') D σ H
theorem ps_tryK {X : Cx} {x n : Str} {np hpos pos : Pos} {body : List Stmt} {b₀ : Stmt} {suite : List Stmt} {i : Nat} {T : Addr} {tb : XK → TS} {th : Addr → Value → TS}
    (hN : X.N.Nodup) (hi : X.N[i]? = some n) (hn : X.env.scope.names.lookup n = some .local) (hfr : X.env.frame = some X.env.locals) (hst : X.stack = X.env :: X.outer) (hg : Gl X x) (hm : X.mg x = some (.ref T))
    (hb : ∀ (pins : List (Addr × Obj)) (xe : Value → Shared → Prop) (E : XK), Passes (CXE X.prog X.w) (X.tried pins xe) E → PSs (X.tried pins xe) body (tb E))
    (hh : ∀ (a : Addr) (o : Obj) (pins : List (Addr × Obj)) (C : Value), o.cls = C → PSs (X.suite a o pins) (b₀ :: suite) (th a C)) (hex : X.ex = [] := by rfl) (hd : (x == ("__debug__" : Str)) = false := by decide) :
    PS X (.Try body [.ExceptHandler (some (.Name x np)) (some n) (b₀ :: suite) hpos] [] [] pos) (tTryK X.K (.ref T) X.N.length i tb th) := by
  intro pins s σ H D I h
  refine wpAny_Try_except (wpAny_mono (hb pins (fun e s₁ => wpAny (model X.prog X.w) X.A (noteFrame e X.env) (fun _ s₂ => wpAny (model X.prog X.w) X.A (setFlight e none) (fun _ s₃ =>
    wpAny (model X.prog X.w) X.A (handleBy e X.env [.ExceptHandler (some (.Name x np)) (some n) (b₀ :: suite) hpos]) (SP X pins D) X.xe s₃) X.xe s₂) X.xe s₁) _ ?_ [] s σ H D I.tried h) (fun fl s1 q => ?_) fun e s1 q => q)
  · rintro ps σ' H1 s1 e s' J0 ⟨C, a, a0, B, H', rfl, F, hx, k⟩
    have J : Inv X pins σ' H1 s1 := J0.untried
    have F : Aloft X.prog X.w X.stack H1 s1 C a a0 B H' s' := F
    have nL : a ≠ X.env.locals := fun z => F.fresh.2.1 (by
      rw [hst, z]; unfold frs; rw [List.filterMap_cons, hfr]; exact List.mem_cons_self)
    have nF : a ∉ X.fs := fun z => F.fresh.2.1 (by rw [hst]; exact frs_sub z)
    have n0 : X.s₀.heap.get? a = none := by
      cases z : X.s₀.heap.get? a with
      | none => rfl
      | some o =>
        obtain ⟨o1, e1⟩ := J.base.there a o z (by rw [hex]; simp)
        rw [F.fresh.2.2] at e1; cases e1
    have nP : ∀ p ∈ X.pn ++ pins, p.1 ≠ a := fun p hp z => by
      have q := (J.pin p hp).1
      rw [z, F.fresh.2.2] at q; cases q
    have fl0 : Heap.FlyingW B (X.env :: X.outer) a C a0 s'.heap := hst ▸ F.fl
    have land : ∀ h2, Heap.FlyingW B X.stack a C a0 h2 → s'.heap.UpToSlots h2 → Inv X pins σ' H' { s' with heap := h2 } := fun h2 g u => by
      have F2 := F.on g u
      exact J.call' F2.os F2.un (F2.hok.kept fun b o e => g.1 b o e) F2.bare (fun b z => absurd z (by simp))
    show wpAny _ _ (noteFrame _ _) _ _ s'
    refine wpAny_looks_onW (base := B) (outer := X.outer) (L := X.env.locals) (cls := C) (a0 := a0) (hst ▸ J.ok.frames) hfr fl0 fun h2 g2 u2 => ?_
    refine wpAny_landsW g2 fun h3 g3 u3 => ?_
    have J3 := land h3 (hst ▸ g3) (u2.trans u3)
    obtain ⟨o3, v3, e3, c3, d3, _⟩ := g3.first
    have S3 := J3.suite e3 F.fresh.1 nL nF (fun v z => by rw [d3] at z; cases z)
    refine wpAny_handleBy_cons (codeAny_handlers_test (ld_glob S3 hg hm ?_ hd)) (by intro q; cases q)
    refine (exm_one (M := model X.prog X.w) S3.kIn (c3 ▸ (Looks.ld e3).andThen .now) hx).here ?_
    refine codeAny_handlers_suite_as (lands_againW g3 fun h4 g4 u4 => ?_)
    have J4 := land h4 (hst ▸ g4) ((u2.trans u3).trans u4)
    obtain ⟨o4, v4, e4, c4, d4, _⟩ := g4.first
    have S4 := J4.suite e4 F.fresh.1 nL nF (fun v z => by rw [d4] at z; cases z)
    refine store_ok (X := X.suite a o4 pins) (v := .ref a) (u := .ref a) S4 hN hi (.inl hn) rfl (fun s5 I5 => ?_) (.inr hn)
    refine wpAny_mono (hh a o4 pins C c4 [] s5 _ H' (goneK i a C D) I5 (k a σ' F.fresh.1 J.len)) (fun fl s6 q => ?_) fun _ _ z => z.elim
    have fin : ∀ {σ6 : St} {H6 : Hp} {Z : Shared → Prop}, Inv (X.suite a o4 pins) [] σ6 H6 s6 → (∀ s7, Inv X pins (σ6.set i none) (upd H6 a (exV a C)) s7 → Z s7) →
        wpAny (model X.prog X.w) X.A (do bindName X.env n .none; unbindBehindTheSuite X.env n hpos) (fun _ s7 => Z s7) X.xe s6 := fun {σ6 H6 Z} I6 hz => by
      have pn6 := I6.pin (a, o4) (by rw [List.append_nil]; exact List.mem_cons_self)
      have J6 := (I6.unsuite J.ok.hd).track pn6.1 c4 pn6.2.1 n0 nL pn6.2.2.2.2 nP
      obtain ⟨m, hm6, _⟩ := id J6.loc
      exact wpAny_nameGoes_keeps hn hm6 (by rw [J6.ok.kind]; rfl) fun h' v hn' hs => hz _ (J6.gone hN hi hm6 hn' hs)
    cases fl with
    | next => obtain ⟨σ6, H6, I6, q⟩ := q; exact fin I6 fun s7 I7 => ⟨_, _, I7, q⟩
    | brk => obtain ⟨σ6, H6, I6, q⟩ := q; exact fin I6 fun s7 I7 => ⟨_, _, I7, q⟩
    | cont => obtain ⟨σ6, H6, I6, q⟩ := q; exact fin I6 fun s7 I7 => ⟨_, _, I7, q⟩
    | ret u => obtain ⟨v, σ6, H6, I6, r, q⟩ := q; exact fin I6 fun s7 I7 => ⟨v, _, _, I7, r, q⟩
  · cases fl with
    | next => obtain ⟨σ1, H1, I1, q⟩ := q; exact wpAny_execs_nil ⟨σ1, H1, I1.untried, q⟩
    | brk => obtain ⟨σ1, H1, I1, q⟩ := q; exact ⟨σ1, H1, I1.untried, q⟩
    | cont => obtain ⟨σ1, H1, I1, q⟩ := q; exact ⟨σ1, H1, I1.untried, q⟩
    | ret u => obtain ⟨v, σ1, H1, I1, r, q⟩ := q; exact ⟨v, σ1, H1, I1.untried, r, q⟩

/-! ### isinstance of a kept exception -/
def rIsX (K : PySem.W.Frag) : List V → Hp → VK → Prop := fun xs H Q => ∃ (a D : Addr) (c : V) (cv : Value) (b : Bool), xs = [.ref a, c] ∧ H a = some (exV a (.ref D)) ∧ ExK K D ∧ ((∃ C, c = .ref C ∧ cv = .ref C) ∨ ∃ T, c = .ty T ∧ cv = .type T) ∧ PySem.W.kitOne K (.ref D) cv = some b ∧ Q (.bl b) H
theorem call_isX {X : Cx} {K : PySem.W.Frag} (hK : X.K = K) : CallR X (.builtin "isinstance") (rIsX K) := by
  subst hK
  intro pins s σ H xs us Q I r h
  obtain ⟨a, D, c, cv, b, rfl, ha, k, rc, e, q⟩ := h
  obtain ⟨u, w', rfl, rx, rT⟩ := vals2 r
  cases (show u = Value.ref a from rx)
  obtain rfl : cv = w' := by
    rcases rc with ⟨C, rfl, rfl⟩ | ⟨T, rfl, rfl⟩
    · exact (show w' = Value.ref C from rT).symm
    · exact (show w' = Value.type T from rT).symm
  obtain ⟨⟨o, e1, c1⟩, _⟩ := (show ObjOk X.prog X.w H s.heap a (exV a (.ref D)) from I.hok a _ ha)
  exact PySem.W.kia_one (kit_exc k) I.kIn ⟨o, e1, c1⟩ e (fun z => nomatch z) fun tk => ⟨.bl b, H, I.tok tk, rfl, q⟩
def rIsXT (K : PySem.W.Frag) : List V → Hp → VK → Prop := fun xs H Q => ∃ (a D p : Addr) (Cs : List Addr) (b : Bool), xs = [.ref a, .ref p] ∧ SqT K H p (Cs.map V.ref) ∧ H a = some (exV a (.ref D)) ∧ ExK K D ∧ PySem.W.kitAny K (.ref D) (Cs.map Value.ref) = some b ∧ Q (.bl b) H
theorem vals_ref : ∀ {Cs : List Addr} {us : List Value}, Vals (Cs.map V.ref) us → us = Cs.map Value.ref
  | [], _, .nil => rfl
  | T :: Ts, _, .cons r t => by cases r; rw [vals_ref t]; rfl
theorem call_isXT {X : Cx} {K : PySem.W.Frag} (hK : X.K = K) : CallR X (.builtin "isinstance") (rIsXT K) := by
  subst hK
  intro pins s σ H xs us Q I r h
  obtain ⟨a, D, p, Cs, b, rfl, hq, ha, k, e, q⟩ := h
  obtain ⟨u, w', rfl, rx, rT⟩ := vals2 r
  cases (show u = Value.ref a from rx)
  cases (show w' = Value.ref p from rT)
  obtain ⟨its, rv, ⟨o, e1, e2, n, e3⟩, _⟩ := I.tuple hq
  obtain ⟨⟨o2, h2, c2⟩, _⟩ := (show ObjOk X.prog X.w H s.heap a (exV a (.ref D)) from I.hok a _ ha)
  obtain ⟨cl, dd, da, sl⟩ := o
  simp only at e2 e3
  subst e2 e3
  rw [vals_ref rv] at e1
  exact PySem.W.kia_tup (kit_exc k) I.kIn ⟨o2, h2, c2⟩ e1 e (fun z => nomatch z) fun tk => ⟨.bl b, H, I.tok tk, rfl, q⟩
theorem kitAny_none {K : PySem.W.Frag} {t : Value} : ∀ {cs : List Value}, (∀ c ∈ cs, PySem.W.kitOne K t c = some false) → PySem.W.kitAny K t cs = some false
  | [], _ => rfl
  | c :: cs, h => by
    unfold PySem.W.kitAny
    rw [h c List.mem_cons_self]
    exact kitAny_none fun d hd => h d (List.mem_cons_of_mem _ hd)
end L2
end
set_option Elab.async false
set_option linter.all false
set_option maxRecDepth 100000
set_option maxHeartbeats 4000000
local macro_rules | `(tactic| walk_at "rd") => `(tactic| repeat (first | refine ⟨_, rfl, ?_⟩ | refine ⟨_, _, rfl, rfl, ?_⟩ | refine ⟨rfl, ?_⟩ | refine ⟨L2.cPow rfl, ?_⟩ | refine ⟨L2.cDiv rfl, ?_⟩ | refine ⟨L2.cPos rfl, ?_⟩ | refine ⟨L2.cMulL rfl, ?_⟩ | refine ⟨L2.cMulR rfl, ?_⟩ | refine ⟨L2.cNon rfl, ?_⟩))
namespace My
open PySem L2
def top (i : Nat) : Stmt := PySem.Challenge.pw_topstretch_k17_no_room_and_refused.main.body.getD i (.Pass ⟨0, 0, 0, 0⟩)
abbrev s_refuse_counts : Stmt := top 11
theorem sc_refuse_counts : FnScope ["many", "least", "gap"] ["many", "least", "gap"] (defScope s_refuse_counts) := ⟨rfl, rfl, rfl, by decide +kernel, rfl, by decide +kernel, by decide +kernel⟩
abbrev s_room_for : Stmt := top 12
theorem sc_room_for : FnScope ["numbers", "gap"] ["numbers", "gap"] (defScope s_room_for) := ⟨rfl, rfl, rfl, by decide +kernel, rfl, by decide +kernel, by decide +kernel⟩
abbrev s_greater_of : Stmt := top 13
theorem sc_greater_of : FnScope ["one", "other"] ["one", "other"] (defScope s_greater_of) := ⟨rfl, rfl, rfl, by decide +kernel, rfl, by decide +kernel, by decide +kernel⟩
abbrev s_begun_line : Stmt := top 14
theorem sc_begun_line : FnScope ["row", "behind", "line", "place", "rest"] ["row", "behind"] (defScope s_begun_line) := ⟨rfl, rfl, rfl, by decide +kernel, rfl, by decide +kernel, by decide +kernel⟩
abbrev s_best_line : Stmt := top 15
theorem sc_best_line : FnScope ["begun", "line", "place"] ["begun"] (defScope s_best_line) := ⟨rfl, rfl, rfl, by decide +kernel, rfl, by decide +kernel, by decide +kernel⟩
abbrev s_behind_line : Stmt := top 16
theorem sc_behind_line : FnScope ["best", "gap"] ["best", "gap"] (defScope s_behind_line) := ⟨rfl, rfl, rfl, by decide +kernel, rfl, by decide +kernel, by decide +kernel⟩
abbrev s_lines_of : Stmt := top 17
theorem sc_lines_of : FnScope ["row", "many", "gap", "nothing", "lines", "count", "begun", "best"] ["row", "many", "gap"] (defScope s_lines_of) := ⟨rfl, rfl, rfl, by decide +kernel, rfl, by decide +kernel, by decide +kernel⟩
abbrev s_first_from : Stmt := top 18
theorem sc_first_from : FnScope ["line", "start", "first"] ["line", "start"] (defScope s_first_from) := ⟨rfl, rfl, rfl, by decide +kernel, rfl, by decide +kernel, by decide +kernel⟩
abbrev s_beyond_from : Stmt := top 19
theorem sc_beyond_from : FnScope ["row", "first", "total", "behind", "beyond", "left"] ["row", "first", "total", "behind"] (defScope s_beyond_from) := ⟨rfl, rfl, rfl, by decide +kernel, rfl, by decide +kernel, by decide +kernel⟩
abbrev s_stretches_of : Stmt := top 20
theorem sc_stretches_of : FnScope ["row", "lines", "many", "gap", "told", "start", "count", "first", "total", "beyond"] ["row", "lines", "many", "gap"] (defScope s_stretches_of) := ⟨rfl, rfl, rfl, by decide +kernel, rfl, by decide +kernel, by decide +kernel⟩
abbrev s_best_apart : Stmt := top 21
theorem sc_best_apart : FnScope ["row", "many", "gap", "lines"] ["row", "many", "gap"] (defScope s_best_apart) := ⟨rfl, rfl, rfl, by decide +kernel, rfl, by decide +kernel, by decide +kernel⟩
abbrev s_best_at_most : Stmt := top 22
theorem sc_best_at_most : FnScope ["row", "many", "gap", "counted", "lines", "fewest", "count"] ["row", "many", "gap"] (defScope s_best_at_most) := ⟨rfl, rfl, rfl, by decide +kernel, rfl, by decide +kernel, by decide +kernel⟩
abbrev s_is_whole : Stmt := top 24
abbrev s_sums_ahead : Stmt := top 25
abbrev s_several_paper : Stmt := top 27
theorem sc_several_paper : FnScope ["row", "many", "gap", "lines"] ["row", "many", "gap"] (defScope s_several_paper) := ⟨rfl, rfl, rfl, by decide +kernel, rfl, by decide +kernel, by decide +kernel⟩
abbrev s_is_line_of_form : Stmt := top 28
abbrev s_is_of_form : Stmt := top 29
theorem sc_is_of_form : FnScope ["paper", "numbers", "many", "gap", "count"] ["paper", "numbers", "many", "gap"] (defScope s_is_of_form) := ⟨rfl, rfl, rfl, by decide +kernel, rfl, by decide +kernel, by decide +kernel⟩
abbrev s_never_falls : Stmt := top 30
abbrev s_ahead_line : Stmt := top 31
abbrev s_line_shows : Stmt := top 32
abbrev s_several_shows : Stmt := top 33
theorem sc_several_shows : FnScope ["row", "many", "gap", "paper", "sums", "count"] ["row", "many", "gap", "paper"] (defScope s_several_shows) := ⟨rfl, rfl, rfl, by decide +kernel, rfl, by decide +kernel, by decide +kernel⟩
abbrev s_law_cell_at : Stmt := top 35
abbrev s_law_reel : Stmt := top 36
theorem sc_law_reel : FnScope ["cell"] ["cell"] (defScope s_law_reel) := ⟨rfl, rfl, rfl, by decide +kernel, rfl, by decide +kernel, by decide +kernel⟩
abbrev s_law_take : Stmt := top 37
theorem sc_law_take : FnScope ["reel", "many", "found", "stir"] ["reel", "many"] (defScope s_law_take) := ⟨rfl, rfl, rfl, by decide +kernel, rfl, by decide +kernel, by decide +kernel⟩
abbrev s_law_row : Stmt := top 38
theorem sc_law_row : FnScope ["reel", "most", "many", "way", "found", "k", "number"] ["reel", "most"] (defScope s_law_row) := ⟨rfl, rfl, rfl, by decide +kernel, rfl, by decide +kernel, by decide +kernel⟩
abbrev s_law_counts : Stmt := top 39
abbrev s_law_asked : Stmt := top 40
theorem sc_law_asked : FnScope ["way", "row", "count", "gap", "found", "e"] ["way", "row", "count", "gap"] (defScope s_law_asked) := ⟨rfl, rfl, rfl, by decide +kernel, rfl, by decide +kernel, by decide +kernel⟩
abbrev s_law_is_right : Stmt := top 41
theorem sc_law_is_right : FnScope ["found", "due"] ["found", "due"] (defScope s_law_is_right) := ⟨rfl, rfl, rfl, by decide +kernel, rfl, by decide +kernel, by decide +kernel⟩
abbrev s_law_room_right : Stmt := top 42
theorem sc_law_room_right : FnScope ["reel", "row", "gap", "room", "count"] ["reel", "row"] (defScope s_law_room_right) := ⟨rfl, rfl, rfl, by decide +kernel, rfl, by decide +kernel, by decide +kernel⟩
abbrev s_law : Stmt := top 43
theorem sc_law : FnScope ["script", "cell", "reel", "row", "handed", "far", "count", "gap", "way", "least"] ["script"] (defScope s_law) := ⟨rfl, rfl, rfl, by decide +kernel, rfl, by decide +kernel, by decide +kernel⟩
/-! ### sums ahead -/
def psum (ns : List Int) (i : Nat) : Int := (ns.take i).sum
def pl (ns : List Int) (i : Nat) : List Int := (List.range (i + 1)).map (psum ns)
theorem psum_succ {ns : List Int} {i : Nat} (h : i < ns.length) : psum ns (i + 1) = psum ns i + ns[i] := by
  unfold psum
  rw [List.take_succ_eq_append_getElem h, List.sum_append, List.sum_singleton]
theorem int_at {ns : List Int} {i : Nat} {x : V} (h : (ns.map V.int)[i]? = some x) : ∃ h' : i < ns.length, x = .int ns[i] := by
  rw [List.getElem?_map] at h
  cases e : ns[i]? with
  | none => rw [e] at h; cases h
  | some n =>
    rw [e] at h
    cases h
    obtain ⟨h', e'⟩ := List.getElem?_eq_some_iff.mp e
    exact ⟨h', by rw [e']⟩
/-! ### _law_same: True of the same ints, of the same lists and tuples of such -/
def SqO (k : Bool) (H : Hp) (a : Addr) (xs : List V) : Prop := match k with
  | true => H a = some (.lst xs)
  | false => H a = some (.tup xs)
inductive SameD (H : Hp) : Nat → V → V → Prop
  | non {n : Nat} : SameD H (n + 1) .non .non
  | int {n : Nat} (i : Int) : SameD H (n + 1) (.int i) (.int i)
  | seq {n : Nat} (k : Bool) {a b : Addr} {xs ys : List V} (ha : SqO k H a xs) (hb : SqO k H b ys) (hl : xs.length = ys.length) (hz : xs.length ≤ 100000) (h : ∀ (j : Nat) x y, xs[j]? = some x → ys[j]? = some y → SameD H n x y) : SameD H (n + 1) (.ref a) (.ref b)
def sp_same (n : Nat) : Sp := fun vs H Q _ => ∃ x y, vs = [x, y] ∧ SameD H n x y ∧ ∀ H', Same H H' → Q (.bl true) H'
/-! ### for the laws themselves -/
theorem cut_front {ns : List Int} {m : Nat} : cutV (ns.map V.int) none (some (m : Int)) = (ns.take m).map V.int := by
  unfold cutV
  rw [HT.sIx_nat, HT.sIx_none, List.length_map, List.drop_zero, Nat.sub_zero, List.map_take]
  rcases Nat.le_total m ns.length with h | h
  · rw [Nat.min_eq_left h]
  · rw [Nat.min_eq_right h, List.take_of_length_le (by rw [List.length_map]; exact Nat.le_refl _), List.take_of_length_le (by rw [List.length_map]; exact h)]
def sp_law (K : PySem.W.Frag) : Sp := fun vs H Q _ => ∃ (a : Addr) (ns : List Int), vs = [.ref a] ∧ SqL K H a (ns.map V.int) ∧ ns.length ≤ 63 ∧ ∀ H', Q (.bl true) H'
/-! ### a part of a list of ints -/
def cutI (ns : List Int) (a b : Int) : List Int := (ns.drop a.toNat).take (b.toNat - a.toNat)
/-! ### the best of some stretches, by sums ahead -/
structure BestIn (P : Nat → Int) (S : Nat → Nat → Prop) (s : Int) (f b : Nat) : Prop where
  mem : S f b
  val : s = P b - P f
  top : ∀ f' b', S f' b' → P b' - P f' < s ∨ (P b' - P f' = s ∧ (f < f' ∨ (f = f' ∧ b ≤ b')))
/-- stretches of told lengths in n numbers -/
def Val (n L : Nat) (M : Int) (f b : Nat) : Prop := f + L ≤ b ∧ (b : Int) ≤ f + M ∧ b ≤ n
abbrev IsBest (ns : List Int) (L : Nat) (M : Int) (s : Int) (f b : Nat) : Prop := BestIn (psum ns) (Val ns.length L M) s f b
theorem psum_getD {ns : List Int} {i : Nat} (h : i < ns.length) : psum ns (i + 1) = psum ns i + ns.getD i 0 := by
  rw [psum_succ h, List.getD_eq_getElem?_getD, List.getElem?_eq_getElem h]
  rfl
/-! ### numbers or None, in lists -/
def oV : Option Int → V
  | none => .non
  | some i => .int i
def gm : Option Int → Option Int → Option Int
  | none, b => b
  | some x, none => some x
  | some x, some y => some (if y > x then y else x)
theorem wasNone {H H' : Hp} {p : Addr} (s : Same H H') (h : H' p = none) : H p = none := by
  cases e : H p with
  | none => rfl
  | some o => rw [s p o e] at h; cases h
/-! ### greater_of -/
def sp_great : Sp := fun vs H Q _ => ∃ a b : Option Int, vs = [oV a, oV b] ∧ Q (oV (gm a b)) H
theorem ok_great {P : Program} {w : World} {K : PySem.W.Frag} {mg : Str → Option Value} {base : Heap} {k : Nat} {f : Addr} {fd : FuncData} (F : Fun K "greater_of" "greater_of" s_greater_of f fd) (Z : Blt mg) : FnOk P w K mg base CX0 (k + 1) f fd ["one", "other"] sp_great := by
  refine F.ok sc_greater_of (fun vs H Q E h => ?_) (fun cdv A outer s H vs Q E hr h => ?_)
  · obtain ⟨a, b, rfl, _⟩ := h
    rfl
  obtain ⟨a, b, rfl, q⟩ := h
  apply Exists.intro
  apply And.intro
  case left =>
    apply pss_cons
    case h1 =>
      apply ps_if
      case hc => exact (pt_cmpR op_isN (pv 0) pe_non (nomark _))
      case ha =>
        apply pss_one
        exact (ps_ret (pv 1))
      case hb =>
        exact pss_nil
    apply pss_cons
    case h1 =>
      apply ps_if
      case hc => exact (pt_cmpR op_isN (pv 1) pe_non (nomark _))
      case ha =>
        apply pss_one
        exact (ps_ret (pv 0))
      case hb =>
        exact pss_nil
    apply pss_one
    exact (ps_ret (pe_callB (call_max2 rfl) rfl Z.max_ PyProof.Rows.boot_max (pa_cons (pv 0) (pa_cons (pv 1) pa_nil))))
  cases a with
  | none =>
    cases b with
    | none =>
      walk_at "rd"
      exact q
    | some y =>
      walk_at "rd"
      exact q
  | some x =>
    cases b with
    | none =>
      walk_at "rd"
      exact q
    | some y =>
      walk_at "rd"
      refine ⟨_, _, rfl, ?_⟩
      exact q
/-! ### several stretches apart: the greatest sum, and the first list that has it -/
def sfx {α : Type} (op : α → α → α) (e : α) (n p : Nat) (f : Nat → α) : α := ((List.range' p (n - p)).map f).foldr op e
theorem sfx_end {α : Type} {op : α → α → α} {e : α} {n p : Nat} {f : Nat → α} (h : n ≤ p) : sfx op e n p f = e := by
  unfold sfx
  rw [show n - p = 0 by (first | lia | omega)]
  rfl
theorem sfx_step {α : Type} {op : α → α → α} {e : α} {n p : Nat} {f : Nat → α} (h : p < n) : sfx op e n p f = op (f p) (sfx op e n (p + 1) f) := by
  unfold sfx
  rw [show n - p = (n - (p + 1)) + 1 by (first | lia | omega), List.range'_succ, List.map_cons, List.foldr_cons]
theorem sfx_ind {n : Nat} {C : Nat → Prop} (h0 : ∀ p, n ≤ p → C p) (hs : ∀ p, p < n → C (p + 1) → C p) : ∀ p, C p := by
  intro p
  obtain ⟨d, hd⟩ : ∃ d, d = n - p := ⟨_, rfl⟩
  induction d generalizing p with
  | zero => exact h0 p (by (first | lia | omega))
  | succ d ih => exact hs p (by (first | lia | omega)) (ih (p + 1) (by (first | lia | omega)))
abbrev SL := Int × List (Nat × Nat)
def cb : Option SL → Option SL → Option SL
  | none, b => b
  | some x, none => some x
  | some x, some y => some (if y.1 > x.1 then y else x)
abbrev val (a : Option SL) : Option Int := a.map Prod.fst
theorem val_cb (a b : Option SL) : val (cb a b) = gm (val a) (val b) := by
  cases a with
  | none => rfl
  | some x =>
    cases b with
    | none => rfl
    | some y =>
      show some (if y.1 > x.1 then y else x).1 = some (if y.1 > x.1 then y.1 else x.1)
      split <;> rfl
theorem cb_or (a b : Option SL) : cb a b = a ∨ cb a b = b := by
  cases a with
  | none => exact .inr rfl
  | some x =>
    cases b with
    | none => exact .inl rfl
    | some y =>
      show some (if y.1 > x.1 then y else x) = _ ∨ some (if y.1 > x.1 then y else x) = _
      split
      · exact .inr rfl
      · exact .inl rfl
theorem cb_left {a b : Option SL} {x : SL} (e : cb a b = some x) (h : val a = val (cb a b)) : a = some x := by
  cases a with
  | none =>
    rw [e] at h
    cases h
  | some y =>
    cases b with
    | none => exact e
    | some z =>
      rw [← e]
      have h' : some y.1 = some (if z.1 > y.1 then z else y).1 := h
      show some y = some (if z.1 > y.1 then z else y)
      split at h' <;> rename_i hz
      · have := Option.some.inj h'
        (first | lia | omega)
      · rw [if_neg hz]
theorem cb_right {a b : Option SL} (h : val a ≠ val (cb a b)) : cb a b = b := by
  rcases cb_or a b with e | e
  · exact absurd (by rw [e]) h
  · exact e
theorem cb_none {a b : Option SL} : cb a b = none ↔ a = none ∧ b = none := by
  cases a with
  | none => exact ⟨fun e => ⟨rfl, e⟩, fun e => e.2⟩
  | some x => cases b <;> exact ⟨fun e => (by cases e), fun e => (by cases e.1)⟩
theorem gm_map {a b : Option Int} {k : Int} : (gm a b).map (k + ·) = gm (a.map (k + ·)) (b.map (k + ·)) := by
  cases a with
  | none => rfl
  | some x =>
    cases b with
    | none => rfl
    | some y =>
      show some (k + (if y > x then y else x)) = some (if k + y > k + x then k + y else k + x)
      by_cases h : y > x
      · rw [if_pos h, if_pos (by (first | lia | omega))]
      · rw [if_neg h, if_neg (by (first | lia | omega))]
/-- one stretch more ahead of a list -/
def put1 (ns : List Int) (f b : Nat) (s : SL) : SL := (psum ns b - psum ns f + s.1, (f, b) :: s.2)
def fgt (ns : List Int) (S : Nat → Option SL) (f b : Nat) : Option SL := sfx cb none (ns.length + 1) b fun b' => (S b').map (put1 ns f b')
/-- the first best list of c stretches, g apart, begun at p or behind -/
def fb (ns : List Int) (g : Nat) : Nat → Nat → Option SL
  | 0, _ => some (0, [])
  | c + 1, p => sfx cb none ns.length p fun f => fgt ns (fun b => fb ns g c (b + g)) f (f + 1)
def fg (ns : List Int) (g c f : Nat) : Option SL := fgt ns (fun b => fb ns g c (b + g)) f (f + 1)
theorem fb_zero {ns : List Int} {g p : Nat} : fb ns g 0 p = some (0, []) := by rw [fb]
theorem fb_end {ns : List Int} {g c p : Nat} (h : ns.length ≤ p) : fb ns g (c + 1) p = none := by rw [fb]; exact sfx_end h
theorem fb_step {ns : List Int} {g c p : Nat} (h : p < ns.length) : fb ns g (c + 1) p = cb (fg ns g c p) (fb ns g (c + 1) (p + 1)) := by
  rw [fb, sfx_step h, ← fb]
  rfl
theorem fgt_end {ns : List Int} {S : Nat → Option SL} {f b : Nat} (h : ns.length + 1 ≤ b) : fgt ns S f b = none := sfx_end h
theorem fgt_step {ns : List Int} {S : Nat → Option SL} {f b : Nat} (h : b < ns.length + 1) : fgt ns S f b = cb ((S b).map (put1 ns f b)) (fgt ns S f (b + 1)) := sfx_step h
theorem val_put {ns : List Int} {f b : Nat} {s : Option SL} : val (s.map (put1 ns f b)) = (val s).map ((psum ns b - psum ns f) + ·) := by
  cases s <;> rfl
/-- from another first -/
theorem fgt_first {ns : List Int} {S : Nat → Option SL} {f f' : Nat} : ∀ b, val (fgt ns S f b) = (val (fgt ns S f' b)).map ((psum ns f' - psum ns f) + ·) := by
  refine sfx_ind (n := ns.length + 1) (fun p h => ?_) (fun p h ih => ?_)
  · rw [fgt_end h, fgt_end h]
    rfl
  · have e : ∀ o : Option Int, o.map ((psum ns p - psum ns f) + ·) = (o.map ((psum ns p - psum ns f') + ·)).map ((psum ns f' - psum ns f) + ·) := fun o => by
      cases o with
      | none => rfl
      | some x =>
        show some (psum ns p - psum ns f + x) = some (psum ns f' - psum ns f + (psum ns p - psum ns f' + x))
        rw [show psum ns p - psum ns f + x = psum ns f' - psum ns f + (psum ns p - psum ns f' + x) by (first | lia | omega)]
    rw [fgt_step h, fgt_step h, val_cb, val_cb, gm_map, ih, val_put, val_put, e]
/-- the sums begun at each place -/
theorem fg_end {ns : List Int} {g c f : Nat} (h : ns.length ≤ f) : fg ns g c f = none := fgt_end (by (first | lia | omega))
theorem fg_val {ns : List Int} {g c f : Nat} (h : f < ns.length) : val (fg ns g c f) = (gm (val (fb ns g c (f + 1 + g))) (val (fg ns g c (f + 1)))).map (ns.getD f 0 + ·) := by
  have e1 := psum_getD (ns := ns) (i := f) h
  unfold fg
  rw [fgt_step (by (first | lia | omega)), val_cb, val_put, fgt_first (f' := f + 1), gm_map]
  rw [show psum ns (f + 1) - psum ns f = ns.getD f 0 by (first | lia | omega)]
theorem fb_val {ns : List Int} {g c p : Nat} (h : p < ns.length) : val (fb ns g (c + 1) p) = gm (val (fg ns g c p)) (val (fb ns g (c + 1) (p + 1))) := by rw [fb_step h, val_cb]
/-- there is room -/
theorem fb_room {ns : List Int} {g : Nat} : ∀ {c p : Nat}, c = 0 ∨ (p ≤ ns.length ∧ c * (1 + g) ≤ ns.length - p + g) → fb ns g c p ≠ none
  | 0, p, _ => by rw [fb_zero]; exact fun z => by cases z
  | c + 1, p, h => by
    rcases h with h | ⟨hp, h⟩
    · (first | lia | omega)
    have hm : (c + 1) * (1 + g) = c * (1 + g) + (1 + g) := by rw [Nat.add_mul, Nat.one_mul]
    rw [fb_step (by (first | lia | omega))]
    intro z
    have z1 := (cb_none.mp z).1
    unfold fg at z1
    rw [fgt_step (by (first | lia | omega))] at z1
    have z2 := (cb_none.mp z1).1
    refine fb_room (ns := ns) (g := g) (c := c) (p := p + 1 + g) ?_ (Option.map_eq_none_iff.mp z2)
    by_cases hc : c = 0
    · exact .inl hc
    · refine .inr ⟨?_, ?_⟩
      · have : 1 * (1 + g) ≤ c * (1 + g) := Nat.mul_le_mul_right _ (by (first | lia | omega))
        (first | lia | omega)
      · have : 1 * (1 + g) ≤ c * (1 + g) := Nat.mul_le_mul_right _ (by (first | lia | omega))
        (first | lia | omega)
theorem fb_noroom {ns : List Int} {g : Nat} : ∀ {c p : Nat}, c ≠ 0 → ns.length + g < c * (1 + g) + p → fb ns g c p = none
  | 0, p, h, _ => absurd rfl h
  | c + 1, p, _, h => by
    have hm : (c + 1) * (1 + g) = c * (1 + g) + (1 + g) := by rw [Nat.add_mul, Nat.one_mul]
    have key : ∀ b f, p ≤ f → f < b → fgt ns (fun b => fb ns g c (b + g)) f b = none := by
      intro b f hf hb
      revert hb
      refine sfx_ind (n := ns.length + 1) (C := fun b => f < b → fgt ns (fun b => fb ns g c (b + g)) f b = none) (fun b hb _ => fgt_end hb) (fun b hb ih hfb => ?_) b
      rw [fgt_step hb, ih (by (first | lia | omega))]
      by_cases hc : c = 0
      · subst hc
        (first | lia | omega)
      · rw [fb_noroom hc (by (first | lia | omega))]
        rfl
    refine sfx_ind (n := ns.length) (C := fun q => p ≤ q → fb ns g (c + 1) q = none) (fun q hq _ => fb_end hq) (fun q hq ih hpq => ?_) p (Nat.le_refl _)
    rw [fb_step hq, ih (by (first | lia | omega))]
    unfold fg
    rw [key _ _ hpq (by (first | lia | omega))]
    rfl
theorem ixN_ok {n : Nat} {k : Int} (h0 : 0 ≤ k) (h : k < (n : Int)) : ixN n k = some k.toNat := by
  unfold ixN
  rw [if_pos h0, if_pos h]
/-! ### lines of numbers or None -/
def lineOf (n : Nat) (g : Nat → Option Int) : List (Option Int) := (List.range n).map g
theorem line_len {n : Nat} {g : Nat → Option Int} : (lineOf n g).length = n := by
  unfold lineOf
  rw [List.length_map, List.length_range]
theorem line_at {n i : Nat} {g : Nat → Option Int} (h : i < n) : (lineOf n g)[i]? = some (g i) := by
  unfold lineOf
  rw [List.getElem?_map, List.getElem?_range h]
  rfl
theorem line_ext {n : Nat} {g h : Nat → Option Int} (e : ∀ i, i < n → g i = h i) : lineOf n g = lineOf n h := List.map_congr_left fun i hi => e i (List.mem_range.mp hi)
theorem line_set {n q : Nat} {g : Nat → Option Int} {x : Option Int} : (lineOf n g).set q x = lineOf n (fun k => if k = q then x else g k) := by
  refine List.ext_getElem? fun i => ?_
  by_cases hi : i < n
  · rw [line_at hi, List.getElem?_set]
    by_cases hq : q = i
    · rw [if_pos hq, if_pos (by rw [line_len]; (first | lia | omega)), if_pos hq.symm]
    · rw [if_neg hq, line_at hi, if_neg (fun z => hq z.symm)]
  · rw [List.getElem?_eq_none (by rw [List.length_set, line_len]; (first | lia | omega)), List.getElem?_eq_none (by rw [line_len]; (first | lia | omega))]
theorem atO {n i : Nat} {g : Nat → Option Int} (h : i < n) : atI ((lineOf n g).map oV) (i : Int) = some (oV (g i)) := atI_nat (by rw [List.getElem?_map, line_at h]; rfl)
theorem flat_rep {α : Type} {x : α} : ∀ n : Nat, (List.replicate n [x]).flatten = List.replicate n x
  | 0 => rfl
  | n + 1 => by rw [List.replicate_succ, List.flatten_cons, List.replicate_succ, flat_rep n]; rfl
theorem line_rep {n : Nat} {x : Option Int} : (List.replicate n [oV x]).flatten = (lineOf n (fun _ => x)).map oV := by
  rw [flat_rep]
  unfold lineOf
  rw [List.map_map]
  have e : (oV ∘ fun (_ : Nat) => x) = fun _ => oV x := rfl
  rw [e, List.map_const', List.length_range]
theorem line_down {m n i p : Nat} {g e : Nat → Option Int} (hp : p + (i + 1) = n) : lineOf m (fun k => if k = p then g p else if n ≤ k + i then g k else e k) = lineOf m (fun k => if n ≤ k + (i + 1) then g k else e k) := by
  refine line_ext fun k _ => ?_
  by_cases h : k = p
  · subst h
    rw [if_pos rfl, if_pos (by (first | lia | omega))]
  · rw [if_neg h]
    by_cases h2 : n ≤ k + i
    · rw [if_pos h2, if_pos (by (first | lia | omega))]
    · rw [if_neg h2, if_neg (by (first | lia | omega))]
theorem lineV_set {n q : Nat} {g : Nat → Option Int} {x : Option Int} : ((lineOf n g).map oV).set q (oV x) = (lineOf n (fun k => if k = q then x else g k)).map oV := by rw [← List.map_set, line_set]
theorem gm_none {a : Option Int} : gm a none = a := by cases a <;> rfl
theorem line_ne {H : Hp} {l a d : Addr} {xs : List V} {n : Nat} {f : Nat → Option Int} (hl : H l = some (.lst xs)) (h0 : xs[0]? = some (.ref d)) (ha : H a = some (.lst ((lineOf (n + 1) f).map oV))) : a ≠ l := fun z => by
  rw [z, hl] at ha
  have ha' : xs = (lineOf (n + 1) f).map oV := by injection ha with q; injection q
  rw [ha', List.getElem?_map, line_at (by (first | lia | omega))] at h0
  cases e : f 0 with
  | none => rw [e] at h0; cases h0
  | some x => rw [e] at h0; cases h0
/-! ### begun_line -/
def bgF (ns : List Int) (bf : Nat → Option Int) (p : Nat) : Option Int := val (fgt ns (fun b => (bf b).map fun x => (x, [])) p (p + 1))
theorem bg_end {ns : List Int} {bf : Nat → Option Int} {p : Nat} (h : ns.length ≤ p) : bgF ns bf p = none := by
  unfold bgF
  rw [fgt_end (by (first | lia | omega))]
  rfl
theorem bg_step {ns : List Int} {bf : Nat → Option Int} {p : Nat} (h : p < ns.length) : bgF ns bf p = (gm (bf (p + 1)) (bgF ns bf (p + 1))).map (ns.getD p 0 + ·) := by
  have e1 := psum_getD (ns := ns) (i := p) h
  have e2 : ∀ o : Option Int, val (o.map fun x => ((x, []) : SL)) = o := fun o => by cases o <;> rfl
  unfold bgF
  rw [fgt_step (by (first | lia | omega)), val_cb, val_put, fgt_first (f' := p + 1), gm_map, e2]
  rw [show psum ns (p + 1) - psum ns p = ns.getD p 0 by (first | lia | omega)]
theorem fgt_val {ns : List Int} {S S' : Nat → Option SL} {f : Nat} (h : ∀ b, b ≤ ns.length → val (S b) = val (S' b)) : ∀ b, val (fgt ns S f b) = val (fgt ns S' f b) := by
  refine sfx_ind (n := ns.length + 1) (fun p hp => ?_) (fun p hp ih => ?_)
  · rw [fgt_end hp, fgt_end hp]
  · rw [fgt_step hp, fgt_step hp, val_cb, val_cb, ih, val_put, val_put, h p (by (first | lia | omega))]
theorem bg_fg {ns : List Int} {g c : Nat} {bf : Nat → Option Int} (h : ∀ b, b ≤ ns.length → bf b = val (fb ns g c (b + g))) (p : Nat) : bgF ns bf p = val (fg ns g c p) := by
  have e2 : ∀ o : Option Int, val (o.map fun x => ((x, []) : SL)) = o := fun o => by cases o <;> rfl
  exact fgt_val (fun b hb => by rw [e2, h b hb]) _
def sp_begun : Sp := fun vs H Q _ => ∃ (r b : Addr) (ns : List Int) (bf : Nat → Option Int), vs = [.ref r, .ref b] ∧ H r = some (.lst (ns.map V.int)) ∧ H b = some (.lst ((lineOf (ns.length + 1) bf).map oV)) ∧ ns.length ≤ 90000 ∧
  ∀ (l : Addr) (H' : Hp), Same H H' → H l = none → H' l = some (.lst ((lineOf (ns.length + 1) (bgF ns bf)).map oV)) → Q (.ref l) H'
theorem ok_begun {P : Program} {w : World} {K : PySem.W.Frag} {mg : Str → Option Value} {base : Heap} {k : Nat} {f : Addr} {fd : FuncData} (F : Fun K "begun_line" "begun_line" s_begun_line f fd) (Z : Blt mg)
    (D_greater_of : Def P w K mg base k "greater_of" ["one", "other"] sp_great) : FnOk P w K mg base CX0 (k + 1) f fd ["row", "behind"] sp_begun := by
  refine F.ok sc_begun_line (fun vs H Q E h => ?_) (fun cdv A outer s H vs Q E hr h => ?_)
  · obtain ⟨r, b, ns, bf, rfl, _⟩ := h
    rfl
  obtain ⟨r, b, ns, bf, rfl, hR, hb, hn, q⟩ := h
  apply Exists.intro
  apply And.intro
  case left =>
    apply pss_cons
    case h1 =>
      exact (ps_set (i := 2) sc_begun_line.nd rfl (by first | exact Or.inl rfl | exact Or.inr rfl) (pe_op op_rep (pe_lst (pa_cons pe_non pa_nil)) (pe_op op_add (pe_callB call_len_seq rfl Z.len_ PySem.boot_len (pa_cons (pv 0) pa_nil)) pe_int)))
    apply pss_cons
    case h1 =>
      apply ps_for PassesOwn.never rfl
      case hi => exact (pi_range3 rfl Z.range_ (pa_cons (pe_op op_sub (pe_callB call_len_seq rfl Z.len_ PySem.boot_len (pa_cons (pv 0) pa_nil)) pe_int) (pa_cons (pe_un un_neg pe_int) (pa_cons (pe_un un_neg pe_int) pa_nil))))
      case hg => exact (pg_name (i := 3) sc_begun_line.nd rfl (by first | exact Or.inl rfl | exact Or.inr rfl))
      case hb =>
        apply pss_cons
        case h1 =>
          exact (ps_set (i := 4) sc_begun_line.nd rfl (by first | exact Or.inl rfl | exact Or.inr rfl) (pe_def D_greater_of hr rfl (pa_cons (pe_ix ix_list (pv 1) (pe_op op_add (pv 3) pe_int) (fun _ _ => rfl)) (pa_cons (pe_ix ix_list (pv 2) (pe_op op_add (pv 3) pe_int) (fun _ _ => rfl)) pa_nil))))
        apply pss_one
        apply ps_if
        case hc => exact (pt_cmpR op_notN (pv 4) pe_non (nomark _))
        case ha =>
          apply pss_one
          exact (ps_asg (pe_op op_add (pe_ix ix_list (pv 0) (pv 3) (fun _ _ => rfl)) (pv 4)) (pg_sub (pv 2) (pv 3) set_list (fun _ => rfl)))
        case hb =>
          exact pss_nil
    apply pss_one
    exact (ps_ret (pv 2))
  have hl : (ns.map V.int).length = ns.length := List.length_map _
  walk_at "rd"
  refine ⟨by show 1 ≤ sizeLine; decide, fun l1 h1 => ?_⟩
  walk_at "rd"
  refine ⟨r, _, rfl, .inl (SqL.of (Same.new h1 _ _ _ hR)), ?_⟩
  walk_at "rd"
  rw [hl]
  refine ⟨l1, (ns.length : Int) + 1, _, rfl, rfl, upd_same, by (first | lia | omega), by (first | lia | omega), ?_, fun st hst => ?_⟩
  · show 1 * ((ns.length : Int) + 1).toNat ≤ sizeLine
    exact Nat.le_of_lt (small (by (first | lia | omega)))
  have en : ((ns.length : Int) + 1).toNat = ns.length + 1 := by (first | lia | omega)
  have hsh : H st = none := wasNone (Same.new h1 _) hst
  have s1 : Same H (upd (upd H l1 (.lst [.non])) st (.lst (List.replicate ((ns.length : Int) + 1).toNat [V.non]).flatten)) := (Same.new h1 _).upd hsh
  walk_at "rd"
  refine ⟨r, _, rfl, .inl (SqL.of (s1 _ _ hR)), ?_⟩
  walk_at "rd"
  refine ⟨_, _, rfl, ⟨by (first | lia | omega), by (first | lia | omega), by (first | lia | omega), by (first | lia | omega)⟩, ?_⟩
  have eN : (((ns.map V.int).length : Int) - 1 - -1).toNat = ns.length := by (first | lia | omega)
  rw [eN]
  refine for_down (fun i σ H' => ∃ o3 o4, Same H H' ∧ H' st = some (.lst ((lineOf (ns.length + 1) (fun p => if ns.length ≤ p + i then bgF ns bf p else none)).map oV)) ∧ σ = [some (.ref r), some (.ref b), some (.ref st), o3, o4]) ⟨none, none, s1, ?_, rfl⟩ ?_ ?_
  · rw [upd_same, en, show V.non = oV none from rfl, line_rep (x := none)]
    refine congrArg (fun z => some (HO.lst (List.map oV z))) (line_ext fun i hi => ?_)
    split
    · rw [bg_end (by (first | lia | omega))]
    · rfl
  · rintro i σ H1 hi ⟨o3, o4, sm, hl1, rfl⟩
    have ei : (((ns.map V.int).length : Int) - 1 - i) = ((ns.length - 1 - i : Nat) : Int) := by (first | lia | omega)
    have hp1 : ns.length - 1 - i + 1 < ns.length + 1 := by (first | lia | omega)
    have hb1 := sm _ _ hb
    rw [ei]
    obtain ⟨p, hp⟩ : ∃ p, p = ns.length - 1 - i := ⟨_, rfl⟩
    rw [← hp]
    walk_at "rd"
    refine ⟨b, _, ((p + 1 : Nat) : Int), _, rfl, by push_cast; rfl, SqL.of hb1, atO (by (first | lia | omega)), ?_⟩
    walk_at "rd"
    refine ⟨st, _, ((p + 1 : Nat) : Int), _, rfl, by push_cast; rfl, SqL.of hl1, atO (by (first | lia | omega)), ?_⟩
    refine ⟨_, _, rfl, ?_⟩
    rw [if_pos (by (first | lia | omega))]
    have e3 := bg_step (ns := ns) (bf := bf) (p := p) (by (first | lia | omega))
    have hR1 := sm _ _ hR
    generalize gm (bf (p + 1)) (bgF ns bf (p + 1)) = o at e3 ⊢
    have hld := line_down (m := ns.length + 1) (n := ns.length) (i := i) (p := p) (g := bgF ns bf) (e := fun _ => none) (by (first | lia | omega))
    cases o with
    | none =>
      walk_at "rd"
      refine ⟨_, _, sm, ?_, rfl⟩
      rw [hl1, ← hld]
      refine congrArg (fun z => some (HO.lst (List.map oV z))) (line_ext fun k hk => ?_)
      by_cases z : k = p
      · subst z
        rw [if_pos rfl, e3, if_neg (by (first | lia | omega))]
        rfl
      · rw [if_neg z]
    | some x =>
      walk_at "rd"
      refine ⟨r, _, _, _, rfl, rfl, SqL.of hR1, atI_ok (by (first | lia | omega)) (by (first | lia | omega)), ?_⟩
      rw [show ((p : Nat) : Int).toNat = p by (first | lia | omega)]
      walk_at "rd"
      refine ⟨st, _, _, _, rfl, rfl, hl1, ixN_ok (by (first | lia | omega)) (by rw [List.length_map, line_len]; (first | lia | omega)), ?_⟩
      walk_at "rd"
      refine ⟨_, _, sm.upd hsh, ?_, rfl⟩
      dsimp only
      rw [upd_same, show ((p : Nat) : Int).toNat = p by (first | lia | omega), show V.int (ns.getD p 0 + x) = oV (bgF ns bf p) by rw [e3]; rfl, lineV_set, hld]
  · rintro σ H1 ⟨o3, o4, sm, hl1, rfl⟩
    walk_at "rd"
    refine q st H1 sm hsh ?_
    rw [hl1]
    refine congrArg (fun z => some (HO.lst (List.map oV z))) (line_ext fun i hi => ?_)
    rw [if_pos (by (first | lia | omega))]
/-! ### best_line -/
def sp_bestl : Sp := fun vs H Q _ => ∃ (a : Addr) (m : Nat) (bf : Nat → Option Int), vs = [.ref a] ∧ H a = some (.lst ((lineOf (m + 1) bf).map oV)) ∧ m ≤ 90000 ∧
  ∀ (l : Addr) (H' : Hp), Same H H' → H l = none → H' l = some (.lst ((lineOf (m + 1) (fun p => sfx gm none (m + 1) p bf)).map oV)) → Q (.ref l) H'
theorem ok_bestl {P : Program} {w : World} {K : PySem.W.Frag} {mg : Str → Option Value} {base : Heap} {k : Nat} {f : Addr} {fd : FuncData} (F : Fun K "best_line" "best_line" s_best_line f fd) (Z : Blt mg)
    (D_greater_of : Def P w K mg base k "greater_of" ["one", "other"] sp_great) : FnOk P w K mg base CX0 (k + 1) f fd ["begun"] sp_bestl := by
  refine F.ok sc_best_line (fun vs H Q E h => ?_) (fun cdv A outer s H vs Q E hr h => ?_)
  · obtain ⟨a, m, bf, rfl, _⟩ := h
    rfl
  obtain ⟨a, m, bf, rfl, hA, hm, q⟩ := h
  apply Exists.intro
  apply And.intro
  case left =>
    apply pss_cons
    case h1 =>
      exact (ps_set (i := 1) sc_best_line.nd rfl (by first | exact Or.inl rfl | exact Or.inr rfl) (pe_callTy call_list_of rfl Z.list_ PyProof.Rows.boot_list (pa_cons (pv 0) pa_nil)))
    apply pss_cons
    case h1 =>
      apply ps_for PassesOwn.never rfl
      case hi => exact (pi_range3 rfl Z.range_ (pa_cons (pe_op op_sub (pe_callB call_len_seq rfl Z.len_ PySem.boot_len (pa_cons (pv 0) pa_nil)) pe_int) (pa_cons (pe_un un_neg pe_int) (pa_cons (pe_un un_neg pe_int) pa_nil))))
      case hg => exact (pg_name (i := 2) sc_best_line.nd rfl (by first | exact Or.inl rfl | exact Or.inr rfl))
      case hb =>
        apply pss_one
        exact (ps_asg (pe_def D_greater_of hr rfl (pa_cons (pe_ix ix_list (pv 0) (pv 2) (fun _ _ => rfl)) (pa_cons (pe_ix ix_list (pv 1) (pe_op op_add (pv 2) pe_int) (fun _ _ => rfl)) pa_nil))) (pg_sub (pv 1) (pv 2) set_list (fun _ => rfl)))
    apply pss_one
    exact (ps_ret (pv 1))
  have hl : ((lineOf (m + 1) bf).map oV).length = m + 1 := by rw [List.length_map, line_len]
  walk_at "rd"
  refine ⟨a, _, rfl, .inl (SqL.of hA), fun st hst => ?_⟩
  have s1 : Same H (upd H st (.lst ((lineOf (m + 1) bf).map oV))) := Same.new hst _
  walk_at "rd"
  refine ⟨a, _, rfl, .inl (SqL.of (s1 _ _ hA)), ?_⟩
  walk_at "rd"
  refine ⟨_, _, rfl, ⟨by (first | lia | omega), by (first | lia | omega), by (first | lia | omega), by (first | lia | omega)⟩, ?_⟩
  have eN : ((((lineOf (m + 1) bf).map oV).length : Int) - 2 - -1).toNat = m := by (first | lia | omega)
  rw [eN]
  refine for_down (fun i σ H' => ∃ o2, Same H H' ∧ H' st = some (.lst ((lineOf (m + 1) (fun p => if m ≤ p + i then sfx gm none (m + 1) p bf else bf p)).map oV)) ∧ σ = [some (.ref a), some (.ref st), o2]) ⟨none, s1, ?_, rfl⟩ ?_ ?_
  · rw [upd_same]
    refine congrArg (fun z => some (HO.lst (List.map oV z))) (line_ext fun i hi => ?_)
    split
    · rw [sfx_step (by (first | lia | omega)), sfx_end (by (first | lia | omega)), gm_none]
    · rfl
  · rintro i σ H1 hi ⟨o2, sm, hl1, rfl⟩
    have ei : ((((lineOf (m + 1) bf).map oV).length : Int) - 2 - i) = ((m - 1 - i : Nat) : Int) := by (first | lia | omega)
    have hA1 := sm _ _ hA
    rw [ei]
    obtain ⟨p, hp⟩ : ∃ p, p = m - 1 - i := ⟨_, rfl⟩
    rw [← hp]
    have hld := line_down (m := m + 1) (n := m) (i := i) (p := p) (g := fun p => sfx gm none (m + 1) p bf) (e := bf) (by (first | lia | omega))
    walk_at "rd"
    refine ⟨a, _, _, _, rfl, rfl, SqL.of hA1, atO (by (first | lia | omega)), ?_⟩
    walk_at "rd"
    refine ⟨st, _, ((p + 1 : Nat) : Int), _, rfl, by push_cast; rfl, SqL.of hl1, atO (by (first | lia | omega)), ?_⟩
    refine ⟨_, _, rfl, ?_⟩
    rw [if_pos (by (first | lia | omega)), ← sfx_step (op := gm) (e := none) (n := m + 1) (p := p) (f := bf) (by (first | lia | omega))]
    walk_at "rd"
    refine ⟨st, _, _, _, rfl, rfl, hl1, ixN_ok (by (first | lia | omega)) (by rw [List.length_map, line_len]; (first | lia | omega)), ?_⟩
    walk_at "rd"
    refine ⟨_, sm.upd hst, ?_, rfl⟩
    rw [upd_same, show ((p : Nat) : Int).toNat = p by (first | lia | omega), lineV_set, hld]
  · rintro σ H1 ⟨o2, sm, hl1, rfl⟩
    walk_at "rd"
    refine q st H1 sm hst ?_
    rw [hl1]
    refine congrArg (fun z => some (HO.lst (List.map oV z))) (line_ext fun i hi => ?_)
    rw [if_pos (by (first | lia | omega))]
/-! ### behind_line -/
def sp_behl : Sp := fun vs H Q _ => ∃ (a : Addr) (m g : Nat) (bf : Nat → Option Int), vs = [.ref a, .int g] ∧ H a = some (.lst ((lineOf (m + 1) bf).map oV)) ∧ m ≤ 40000 ∧
  ∀ (l : Addr) (H' : Hp), Same H H' → H l = none → H' l = some (.lst ((lineOf (m + 1) (fun p => if p + g < m + 1 then bf (p + g) else none)).map oV)) → Q (.ref l) H'
theorem line_drop {n g : Nat} {bf : Nat → Option Int} : (lineOf n bf).drop (min g n) ++ List.replicate (min g n) none = lineOf n (fun p => if p + g < n then bf (p + g) else none) := by
  have ll := line_len (n := n) (g := bf)
  refine List.ext_getElem? fun i => ?_
  by_cases hi : i < n
  · rw [line_at hi]
    by_cases h : i + g < n
    · rw [if_pos h, List.getElem?_append_left (by rw [List.length_drop]; (first | lia | omega)), List.getElem?_drop, show min g n + i = i + g by (first | lia | omega), line_at h]
    · rw [if_neg h, List.getElem?_append_right (by rw [List.length_drop]; (first | lia | omega)), List.length_drop, ll, List.getElem?_replicate, if_pos (by (first | lia | omega))]
  · rw [List.getElem?_eq_none (by rw [List.length_append, List.length_drop, List.length_replicate]; (first | lia | omega)), List.getElem?_eq_none (by rw [line_len]; (first | lia | omega))]
theorem ok_behl {P : Program} {w : World} {K : PySem.W.Frag} {mg : Str → Option Value} {base : Heap} {k : Nat} {f : Addr} {fd : FuncData} (F : Fun K "behind_line" "behind_line" s_behind_line f fd) (Z : Blt mg) : FnOk P w K mg base CX0 (k + 1) f fd ["best", "gap"] sp_behl := by
  refine F.ok sc_behind_line (fun vs H Q E h => ?_) (fun cdv A outer s H vs Q E hr h => ?_)
  · obtain ⟨a, m, g, bf, rfl, _⟩ := h
    rfl
  obtain ⟨a, m, g, bf, rfl, hA, hm, q⟩ := h
  apply Exists.intro
  apply And.intro
  case left =>
    apply pss_one
    exact (ps_ret (pe_op op_cat (pe_slice sl_list (pv 0) (po_some (pv 1)) po_none) (pe_op op_rep (pe_lst (pa_cons pe_non pa_nil)) (pe_callB (call_min2 rfl) rfl Z.min_ PyProof.Rows.boot_min (pa_cons (pv 1) (pa_cons (pe_callB call_len_seq rfl Z.len_ PySem.boot_len (pa_cons (pv 0) pa_nil)) pa_nil))))))
  have hl : ((lineOf (m + 1) bf).map oV).length = m + 1 := by rw [List.length_map, line_len]
  walk_at "rd"
  refine ⟨a, _, rfl, SqL.of hA, fun p1 hp1 => ?_⟩
  have s1 := Same.new hp1 (.lst (cutV ((lineOf (m + 1) bf).map oV) (some (g : Int)) none))
  walk_at "rd"
  refine ⟨by show 1 ≤ sizeLine; decide, fun p2 hp2 => ?_⟩
  have hp2' := wasNone s1 hp2
  have s2 := s1.upd (o := .lst [.non]) hp2'
  walk_at "rd"
  refine ⟨a, _, rfl, .inl (SqL.of (s2 _ _ hA)), ?_⟩
  refine ⟨_, _, rfl, ?_⟩
  have ek : (if ((((lineOf (m + 1) bf).map oV).length : Nat) : Int) < (g : Int) then ((((lineOf (m + 1) bf).map oV).length : Nat) : Int) else (g : Int)) = ((min g (m + 1) : Nat) : Int) := by
    rw [hl]
    split <;> (first | lia | omega)
  rw [ek]
  refine ⟨p2, _, _, rfl, rfl, upd_same, by (first | lia | omega), by (first | lia | omega), ?_, fun p3 hp3 => ?_⟩
  · show 1 * ((min g (m + 1) : Nat) : Int).toNat ≤ sizeLine
    exact Nat.le_of_lt (small (by (first | lia | omega)))
  have hp3' := wasNone s2 hp3
  have s3 := s2.upd (o := .lst (List.replicate ((min g (m + 1) : Nat) : Int).toNat [V.non]).flatten) hp3'
  have e1 : p1 ≠ p2 := fun z => by rw [z, upd_same] at hp2; cases hp2
  have e2 : p1 ≠ p3 := fun z => by rw [← z, upd_ne e1, upd_same] at hp3; cases hp3
  have ec : cutV ((lineOf (m + 1) bf).map oV) (some (g : Int)) none = ((lineOf (m + 1) bf).drop (min g (m + 1))).map oV := by
    unfold cutV
    rw [HT.sIx_nat, HT.sIx_none, hl, List.map_drop, List.take_of_length_le (by rw [List.length_drop, hl]; (first | lia | omega))]
  refine ⟨p1, p3, _, _, rfl, rfl, by rw [upd_ne e2, upd_ne e1, upd_same], upd_same, ?_, fun p4 hp4 => ?_⟩
  · refine Nat.le_of_lt (small ?_)
    have := cutV_length ((lineOf (m + 1) bf).map oV) (some (g : Int)) none
    rw [flat_rep, List.length_replicate]
    (first | lia | omega)
  have hp4' := wasNone s3 hp4
  refine q p4 _ (s3.upd hp4') hp4' ?_
  rw [upd_same, ec, show ((min g (m + 1) : Nat) : Int).toNat = min g (m + 1) from rfl, show V.non = oV none from rfl, line_rep, ← List.map_append]
  have er : lineOf (min g (m + 1)) (fun _ => none) = List.replicate (min g (m + 1)) none := by
    unfold lineOf
    rw [List.map_const', List.length_range]
  rw [er, line_drop]
/-! ### lines_of -/
def bgV (ns : List Int) (g : Nat) : Nat → Nat → Option Int
  | 0, _ => some 0
  | c + 1, p => val (fg ns g c p)
def LnAt (H : Hp) (ns : List Int) (g c : Nat) (d : Addr) : Prop := ∃ a b e : Addr, H d = some (.dK [(.inr "begun", .ref a), (.inr "best", .ref b), (.inr "behind", .ref e)]) ∧ H a = some (.lst ((lineOf (ns.length + 1) (bgV ns g c)).map oV)) ∧ H b = some (.lst ((lineOf (ns.length + 1) (fun p => val (fb ns g c p))).map oV)) ∧ H e = some (.lst ((lineOf (ns.length + 1) (fun p => val (fb ns g c (p + g)))).map oV))
theorem LnAt.keep {H H' : Hp} {ns : List Int} {g c : Nat} {d : Addr} (h : LnAt H ns g c d) (s : Same H H') : LnAt H' ns g c d := by
  obtain ⟨a, b, e, h1, h2, h3, h4⟩ := h
  exact ⟨a, b, e, s _ _ h1, s _ _ h2, s _ _ h3, s _ _ h4⟩
theorem LnAt.upd {H : Hp} {ns : List Int} {g c : Nat} {l d d0 : Addr} {xs ys : List V} (h : LnAt H ns g c d) (hl : H l = some (.lst xs)) (h0 : xs[0]? = some (.ref d0)) : LnAt (upd H l (.lst ys)) ns g c d := by
  obtain ⟨a, b, e, h1, h2, h3, h4⟩ := h
  exact ⟨a, b, e, by rw [upd_ne (fun z => by rw [z, hl] at h1; cases h1)]; exact h1, by rw [upd_ne (line_ne hl h0 h2)]; exact h2, by rw [upd_ne (line_ne hl h0 h3)]; exact h3, by rw [upd_ne (line_ne hl h0 h4)]; exact h4⟩
def Lns (H : Hp) (ns : List Int) (g m : Nat) (xs : List V) : Prop := xs.length = m ∧ ∀ c, c < m → ∃ d, xs[c]? = some (.ref d) ∧ LnAt H ns g c d
def sp_lines : Sp := fun vs H Q _ => ∃ (r : Addr) (ns : List Int) (m g : Nat), vs = [.ref r, .int m, .int g] ∧ H r = some (.lst (ns.map V.int)) ∧ ns.length ≤ 20000 ∧ m ≤ 40000 ∧
  ∀ (l : Addr) (xs : List V) (H' : Hp), Same H H' → H l = none → H' l = some (.lst xs) → Lns H' ns g (m + 1) xs → Q (.ref l) H'
theorem ok_lines {P : Program} {w : World} {K : PySem.W.Frag} {mg : Str → Option Value} {base : Heap} {k : Nat} {f : Addr} {fd : FuncData} (F : Fun K "lines_of" "lines_of" s_lines_of f fd) (Z : Blt mg)
    (D_begun_line : Def P w K mg base k "begun_line" ["row", "behind"] sp_begun) (D_best_line : Def P w K mg base k "best_line" ["begun"] sp_bestl) (D_behind_line : Def P w K mg base k "behind_line" ["best", "gap"] sp_behl) : FnOk P w K mg base CX0 (k + 1) f fd ["row", "many", "gap"] sp_lines := by
  refine F.ok sc_lines_of (fun vs H Q E h => ?_) (fun cdv A outer s H vs Q E hr h => ?_)
  · obtain ⟨r, ns, m, g, rfl, _⟩ := h
    rfl
  obtain ⟨r, ns, m, g, rfl, hR, hn, hm, q⟩ := h
  apply Exists.intro
  apply And.intro
  case left =>
    apply pss_cons
    case h1 =>
      exact (ps_set (i := 3) sc_lines_of.nd rfl (by first | exact Or.inl rfl | exact Or.inr rfl) (pe_op op_rep (pe_lst (pa_cons pe_int pa_nil)) (pe_op op_add (pe_callB call_len_seq rfl Z.len_ PySem.boot_len (pa_cons (pv 0) pa_nil)) pe_int)))
    apply pss_cons
    case h1 =>
      exact (ps_set (i := 4) sc_lines_of.nd rfl (by first | exact Or.inl rfl | exact Or.inr rfl) (pe_lst (pa_cons (pe_disp (pps_cons pe_str (pv 3) (pps_cons pe_str (pv 3) (pps_cons pe_str (pv 3) pps_nil))) rfl rfl (List.cons_ne_nil _ _) (by decide)) pa_nil)))
    apply pss_cons
    case h1 =>
      apply ps_for PassesOwn.never rfl
      case hi => exact (pi_range2 rfl Z.range_ (pa_cons pe_int (pa_cons (pe_op op_add (pv 1) pe_int) pa_nil)))
      case hg => exact (pg_name (i := 5) sc_lines_of.nd rfl (by first | exact Or.inl rfl | exact Or.inr rfl))
      case hb =>
        apply pss_cons
        case h1 =>
          exact (ps_set (i := 6) sc_lines_of.nd rfl (by first | exact Or.inl rfl | exact Or.inr rfl) (pe_def D_begun_line hr rfl (pa_cons (pv 0) (pa_cons (pe_dget (hu_of hr) (pe_ix ix_list (pv 4) (pe_op op_sub (pv 5) pe_int) (fun _ _ => rfl)) pe_str (fun _ _ => rfl)) pa_nil))))
        apply pss_cons
        case h1 =>
          exact (ps_set (i := 7) sc_lines_of.nd rfl (by first | exact Or.inl rfl | exact Or.inr rfl) (pe_def D_best_line hr rfl (pa_cons (pv 6) pa_nil)))
        apply pss_one
        exact (ps_expr (pe_bm PySem.F.plainAttrs_list PySem.F.slot_list_append PySem.F.type_list_append mt_append (pv 4) (pa_cons (pe_disp (pps_cons pe_str (pv 6) (pps_cons pe_str (pv 7) (pps_cons pe_str (pe_def D_behind_line hr rfl (pa_cons (pv 7) (pa_cons (pv 2) pa_nil))) pps_nil))) rfl rfl (List.cons_ne_nil _ _) (by decide)) pa_nil)))
    apply pss_one
    exact (ps_ret (pv 4))
  have hl : (ns.map V.int).length = ns.length := List.length_map _
  walk_at "rd"
  refine ⟨by show 1 ≤ sizeLine; decide, fun p1 hp1 => ?_⟩
  have s1 := Same.new hp1 (.lst [.int 0])
  walk_at "rd"
  refine ⟨r, _, rfl, .inl (SqL.of (s1 _ _ hR)), ?_⟩
  walk_at "rd"
  rw [hl]
  refine ⟨p1, _, _, rfl, rfl, upd_same, by (first | lia | omega), by (first | lia | omega), ?_, fun p2 hp2 => ?_⟩
  · show 1 * ((ns.length : Int) + 1).toNat ≤ sizeLine
    exact Nat.le_of_lt (small (by (first | lia | omega)))
  have hp2' := wasNone s1 hp2
  have s2 := s1.upd (o := .lst (List.replicate ((ns.length : Int) + 1).toNat [V.int 0]).flatten) hp2'
  have h2 : upd (upd H p1 (.lst [.int 0])) p2 (.lst (List.replicate ((ns.length : Int) + 1).toNat [V.int 0]).flatten) p2 = some (.lst ((lineOf (ns.length + 1) (fun _ => some 0)).map oV)) := by
    rw [upd_same, show ((ns.length : Int) + 1).toNat = ns.length + 1 by (first | lia | omega), show V.int 0 = oV (some 0) from rfl, line_rep]
  generalize upd (upd H p1 (.lst [.int 0])) p2 (.lst (List.replicate ((ns.length : Int) + 1).toNat [V.int 0]).flatten) = H2 at s2 h2 ⊢
  walk_at "rd"
  intro p3 hp3
  walk_at "rd"
  refine ⟨upd_same, [(.inr "begun", .ref p2), (.inr "best", .ref p2), (.inr "behind", .ref p2)], rfl, (by show 3 ≤ 15; decide), ?_⟩
  have hp3' := wasNone s2 hp3
  have L0 : LnAt (upd (upd H2 p3 (.dK [])) p3 (.dK (mergeK [] [(.inr "begun", .ref p2), (.inr "best", .ref p2), (.inr "behind", .ref p2)]))) ns g 0 p3 := by
    have h2' : upd (upd H2 p3 (.dK [])) p3 (.dK (mergeK [] [(.inr "begun", .ref p2), (.inr "best", .ref p2), (.inr "behind", .ref p2)])) p2 = some (.lst ((lineOf (ns.length + 1) (fun _ => some 0)).map oV)) := by
      have e : p2 ≠ p3 := fun z => by rw [← z, h2] at hp3; cases hp3
      rw [upd_ne e, upd_ne e, h2]
    refine ⟨p2, p2, p2, by rw [upd_same]; rfl, h2', ?_, ?_⟩
    · rw [h2']
      exact congrArg (fun z => some (HO.lst (List.map oV z))) (line_ext fun i hi => by rw [fb_zero]; rfl)
    · rw [h2']
      exact congrArg (fun z => some (HO.lst (List.map oV z))) (line_ext fun i hi => by rw [fb_zero]; rfl)
  have s3 := (s2.upd (o := .dK []) hp3').upd (o := .dK (mergeK [] [(.inr "begun", .ref p2), (.inr "best", .ref p2), (.inr "behind", .ref p2)])) hp3'
  generalize upd (upd H2 p3 (.dK [])) p3 (.dK (mergeK [] [(.inr "begun", .ref p2), (.inr "best", .ref p2), (.inr "behind", .ref p2)])) = H3 at s3 L0 ⊢
  walk_at "rd"
  refine ⟨by show 1 ≤ sizeLine; decide, fun l hl0 => ?_⟩
  have hl0' := wasNone s3 hl0
  have s4 := s3.upd (o := .lst [.ref p3]) hl0'
  walk_at "rd"
  refine ⟨_, _, rfl, ⟨by (first | lia | omega), by (first | lia | omega), by (first | lia | omega), by (first | lia | omega)⟩, ?_⟩
  rw [show ((m : Int) + 1 - 1).toNat = m by (first | lia | omega)]
  refine for_range (fun i σ H' => ∃ xs o5 o6 o7, Same H H' ∧ H' l = some (.lst xs) ∧ Lns H' ns g (i + 1) xs ∧ σ = [some (.ref r), some (.int m), some (.int g), some (.ref p2), some (.ref l), o5, o6, o7]) ⟨_, none, none, none, s4, upd_same, ⟨rfl, fun c hc => ?_⟩, rfl⟩ ?_ ?_
  · have : c = 0 := by (first | lia | omega)
    subst this
    exact ⟨p3, rfl, L0.keep (Same.new hl0 _)⟩
  · rintro i σ H4 hi ⟨xs, o5, o6, o7, sm, hl4, ⟨hx, hc⟩, rfl⟩
    have hR4 := sm _ _ hR
    obtain ⟨d, hd, a, b, e, hd1, ha, hb, he⟩ := hc i (by (first | lia | omega))
    obtain ⟨d0, hd0, _⟩ := hc 0 (by (first | lia | omega))
    walk_at "rd"
    refine ⟨l, _, ((i : Nat) : Int), _, rfl, (by show V.int ((1 : Int) + i - 1) = _; rw [show (1 : Int) + i - 1 = i by (first | lia | omega)]), SqL.of hl4, atI_nat hd, ?_⟩
    walk_at "rd"
    refine ⟨d, _, rfl, (show DGet _ _ (.str "behind") (some (.ref e)) from DGet.k (k := .inr "behind") hd1), ?_⟩
    refine ⟨r, e, ns, _, rfl, hR4, he, by (first | lia | omega), fun lb H5 s5 hlb0 hlb => ?_⟩
    walk_at "rd"
    refine ⟨lb, ns.length, _, rfl, hlb, by (first | lia | omega), fun lt H6 s6 hlt0 hlt => ?_⟩
    have s46 : Same H4 H6 := fun b o z => s6 _ _ (s5 _ _ z)
    have hl6 := s46 _ _ hl4
    walk_at "rd"
    refine ⟨.inl ⟨rfl, _, SqL.of hl6⟩, ?_⟩
    walk_at "rd"
    intro pd hpd
    have s7 := Same.new hpd (.dK [])
    walk_at "rd"
    refine ⟨lt, ns.length, g, _, rfl, s7 _ _ hlt, by (first | lia | omega), fun le H7 s8 hle0 hle => ?_⟩
    have s67 : Same H6 H7 := fun b o z => s8 _ _ (s7 _ _ z)
    have s47 : Same H4 H7 := fun b o z => s67 _ _ (s46 _ _ z)
    have hpd4 : H4 pd = none := wasNone s46 hpd
    refine ⟨s8 _ _ upd_same, [(.inr "begun", .ref lb), (.inr "best", .ref lt), (.inr "behind", .ref le)], rfl, (by show 3 ≤ 15; decide), ?_⟩
    have s48 := s47.upd (o := .dK (mergeK [] [(.inr "begun", .ref lb), (.inr "best", .ref lt), (.inr "behind", .ref le)])) hpd4
    have nle : le ≠ pd := fun z => by rw [z, s8 _ _ upd_same] at hle; cases hle
    have nlt : lt ≠ pd := fun z => by rw [← z, hlt] at hpd; cases hpd
    have nlb : lb ≠ pd := fun z => by rw [← z, s6 _ _ hlb] at hpd; cases hpd
    have fgE : ∀ p, bgF ns (fun p => val (fb ns g i (p + g))) p = val (fg ns g i p) := bg_fg fun b _ => rfl
    have fbE : ∀ p, sfx gm none (ns.length + 1) p (bgF ns (fun p => val (fb ns g i (p + g)))) = val (fb ns g (i + 1) p) := by
      refine sfx_ind (n := ns.length) (fun p hp => ?_) (fun p hp ih => ?_)
      · rw [fb_end hp]
        by_cases z : p < ns.length + 1
        · rw [sfx_step z, sfx_end (by (first | lia | omega)), gm_none, bg_end hp]
          rfl
        · rw [sfx_end (by (first | lia | omega))]
          rfl
      · rw [sfx_step (by (first | lia | omega)), ih, fgE, fb_val hp]
    have L1 : LnAt (upd H7 pd (.dK (mergeK [] [(.inr "begun", .ref lb), (.inr "best", .ref lt), (.inr "behind", .ref le)]))) ns g (i + 1) pd := by
      refine ⟨lb, lt, le, by rw [upd_same]; rfl, ?_, ?_, ?_⟩
      · rw [upd_ne nlb, s67 _ _ (s6 _ _ hlb)]
        exact congrArg (fun z => some (HO.lst (List.map oV z))) (line_ext fun j _ => fgE j)
      · rw [upd_ne nlt, s67 _ _ hlt]
        exact congrArg (fun z => some (HO.lst (List.map oV z))) (line_ext fun j _ => fbE j)
      · rw [upd_ne nle, hle]
        refine congrArg (fun z => some (HO.lst (List.map oV z))) (line_ext fun j _ => ?_)
        rw [fbE]
        split
        · rfl
        · rw [fb_end (by (first | lia | omega))]
          rfl
    generalize upd H7 pd (.dK (mergeK [] [(.inr "begun", .ref lb), (.inr "best", .ref lt), (.inr "behind", .ref le)])) = H8 at s48 L1 ⊢
    have hl8 := s48 _ _ hl4
    walk_at "rd"
    refine ⟨l, _, _, rfl, rfl, hl8, small (by (first | lia | omega)), ?_⟩
    refine ⟨_, _, _, _, (show Same H H8 from fun b o z => s48 _ _ (sm _ _ z)).upd hl0', upd_same, ⟨by rw [List.length_append, hx]; rfl, fun c hc' => ?_⟩, rfl⟩
    by_cases z : c = i + 1
    · subst z
      exact ⟨pd, by rw [List.getElem?_append_right (by (first | lia | omega)), hx, Nat.sub_self]; rfl, L1.upd hl8 hd0⟩
    · obtain ⟨dc, hdc, Lc⟩ := hc c (by (first | lia | omega))
      exact ⟨dc, by rw [List.getElem?_append_left (by (first | lia | omega))]; exact hdc, (Lc.keep s48).upd hl8 hd0⟩
  · rintro σ H4 ⟨xs, o5, o6, o7, sm, hl4, hL, rfl⟩
    walk_at "rd"
    exact q l xs H4 sm hl0' hl4 hL
def Pairs (H : Hp) (xs : List V) (ps : List (Int × Int)) : Prop := xs.length = ps.length ∧ ∀ (j : Nat) x, xs[j]? = some x → ∃ (t : Addr) (p : Int × Int), ps[j]? = some p ∧ x = .ref t ∧ H t = some (.tup [.int p.1, .int p.2])
theorem Pairs.keep {H H' : Hp} {xs : List V} {ps : List (Int × Int)} (h : Pairs H xs ps) (s : Same H H') : Pairs H' xs ps := ⟨h.1, fun j x e => by
  obtain ⟨t, p, h1, h2, h3⟩ := h.2 j x e
  exact ⟨t, p, h1, h2, s _ _ h3⟩⟩
theorem Pairs.keepL {H H' : Hp} {xs : List V} {ps : List (Int × Int)} {l : Addr} {o : List V} (h : Pairs H xs ps) (hl : H l = some (.lst o)) (s : ∀ b u, b ≠ l → H b = some u → H' b = some u) : Pairs H' xs ps := ⟨h.1, fun j x e => by
  obtain ⟨t, p, h1, h2, h3⟩ := h.2 j x e
  exact ⟨t, p, h1, h2, s _ _ (fun z => by subst z; rw [hl] at h3; cases h3) h3⟩⟩
theorem Pairs.nil {H : Hp} : Pairs H [] [] := ⟨rfl, fun j x e => by cases e⟩
theorem Pairs.snoc {H : Hp} {xs : List V} {ps : List (Int × Int)} {t : Addr} {a b : Int} (h : Pairs H xs ps) (ht : H t = some (.tup [.int a, .int b])) : Pairs H (xs ++ [.ref t]) (ps ++ [(a, b)]) := ⟨by rw [List.length_append, List.length_append, h.1]; rfl, fun j x e => by
  by_cases hj : j < xs.length
  · rw [List.getElem?_append_left hj] at e
    obtain ⟨t', p, h1, h2, h3⟩ := h.2 j x e
    refine ⟨t', p, ?_, h2, h3⟩
    rw [List.getElem?_append_left (by rw [← h.1]; exact hj)]
    exact h1
  · rw [List.getElem?_append_right (by (first | lia | omega))] at e
    have hj0 : j - xs.length = 0 := by
      cases z : j - xs.length with
      | zero => rfl
      | succ n => rw [z] at e; cases e
    rw [hj0] at e
    cases e
    refine ⟨t, (a, b), ?_, rfl, ht⟩
    rw [List.getElem?_append_right (by rw [← h.1]; (first | lia | omega)), ← h.1, hj0]
    rfl⟩
/-! ### the lines by their keys -/
theorem oV_inj {u v : Option Int} : oV u = oV v ↔ u = v := by cases u <;> cases v <;> simp [oV]
theorem scal_oV {u v : Option Int} : scal (oV u) (oV v) = true := by cases u <;> cases v <;> rfl
theorem ifNe {u v : Option Int} {A B : Prop} (h1 : u ≠ v → A) (h2 : u = v → B) : if (!decide (oV u = oV v)) = true then A else B := by
  by_cases h : u = v
  · rw [if_neg (by rw [decide_eq_true (oV_inj.mpr h)]; decide)]
    exact h2 h
  · rw [if_pos (by rw [decide_eq_false (fun z => h (oV_inj.mp z))]; rfl)]
    exact h1 h
def prI (p : Nat × Nat) : Int × Int := ((p.1 : Int), (p.2 : Int))
theorem dBegun {H : Hp} {d : Addr} {a b e : Addr} (h : H d = some (.dK [(.inr "begun", .ref a), (.inr "best", .ref b), (.inr "behind", .ref e)])) : DGet H d (.str "begun") (some (.ref a)) := DGet.k (k := .inr "begun") h
theorem dBest {H : Hp} {d : Addr} {a b e : Addr} (h : H d = some (.dK [(.inr "begun", .ref a), (.inr "best", .ref b), (.inr "behind", .ref e)])) : DGet H d (.str "best") (some (.ref b)) := DGet.k (k := .inr "best") h
theorem dBehind {H : Hp} {d : Addr} {a b e : Addr} (h : H d = some (.dK [(.inr "begun", .ref a), (.inr "best", .ref b), (.inr "behind", .ref e)])) : DGet H d (.str "behind") (some (.ref e)) := DGet.k (k := .inr "behind") h
theorem fb_lt {ns : List Int} {g c p : Nat} {x : SL} (h : fb ns g (c + 1) p = some x) : p < ns.length := by
  refine Nat.lt_of_not_le fun z => ?_
  rw [fb_end z] at h
  cases h
/-! ### all lists of so many stretches, in order, and the first best of them -/
def sumL (ns : List Int) (L : List (Nat × Nat)) : Int := (L.map fun p => psum ns p.2 - psum ns p.1).sum
def fm (ns : List Int) (ls : List (List (Nat × Nat))) : Option SL := (ls.map fun L => some (sumL ns L, L)).foldr cb none
theorem cb_assoc (a b c : Option SL) : cb (cb a b) c = cb a (cb b c) := by
  cases a with
  | none => rfl
  | some x =>
    cases b with
    | none => rfl
    | some y =>
      cases c with
      | none => rfl
      | some z =>
        show some (if z.1 > (if y.1 > x.1 then y else x).1 then z else (if y.1 > x.1 then y else x)) = some (if (if z.1 > y.1 then z else y).1 > x.1 then (if z.1 > y.1 then z else y) else x)
        by_cases h1 : y.1 > x.1
        · rw [if_pos h1]
          by_cases h2 : z.1 > y.1
          · rw [if_pos h2, if_pos (by (first | lia | omega))]
          · rw [if_neg h2, if_pos h1]
        · rw [if_neg h1]
          by_cases h2 : z.1 > y.1
          · rw [if_pos h2]
          · rw [if_neg h2, if_neg h1, if_neg (by (first | lia | omega))]
theorem cb_foldr {xs : List (Option SL)} {z : Option SL} : xs.foldr cb z = cb (xs.foldr cb none) z := by
  induction xs with
  | nil => rfl
  | cons x xs ih => rw [List.foldr_cons, List.foldr_cons, ih, cb_assoc]
theorem fm_app {ns : List Int} {A B : List (List (Nat × Nat))} : fm ns (A ++ B) = cb (fm ns A) (fm ns B) := by
  unfold fm
  rw [List.map_append, List.foldr_append, cb_foldr]
theorem cb_map {ns : List Int} {f b : Nat} {x y : Option SL} : (cb x y).map (put1 ns f b) = cb (x.map (put1 ns f b)) (y.map (put1 ns f b)) := by
  cases x with
  | none => rfl
  | some x =>
    cases y with
    | none => rfl
    | some y =>
      show some (put1 ns f b (if y.1 > x.1 then y else x)) = some (if (put1 ns f b y).1 > (put1 ns f b x).1 then put1 ns f b y else put1 ns f b x)
      have e1 : (put1 ns f b y).1 = psum ns b - psum ns f + y.1 := rfl
      have e2 : (put1 ns f b x).1 = psum ns b - psum ns f + x.1 := rfl
      by_cases h : y.1 > x.1
      · rw [if_pos h, if_pos (by (first | lia | omega))]
      · rw [if_neg h, if_neg (by (first | lia | omega))]
theorem fm_cons {ns : List Int} {f b : Nat} : ∀ {ls : List (List (Nat × Nat))}, fm ns (ls.map ((f, b) :: ·)) = (fm ns ls).map (put1 ns f b)
  | [] => rfl
  | L :: ls => by
    have ih := fm_cons (ns := ns) (f := f) (b := b) (ls := ls)
    have e : fm ns (L :: ls) = cb (some (sumL ns L, L)) (fm ns ls) := rfl
    have e' : fm ns ((L :: ls).map ((f, b) :: ·)) = cb (some (sumL ns ((f, b) :: L), (f, b) :: L)) (fm ns (ls.map ((f, b) :: ·))) := rfl
    rw [e, e', ih, cb_map]
    rfl
theorem fm_flat {ns : List Int} {F : Nat → List (List (Nat × Nat))} : ∀ {m p : Nat}, fm ns ((List.range' p m).flatMap F) = sfx cb none (p + m) p (fun f => fm ns (F f))
  | 0, p => by rw [sfx_end (by (first | lia | omega))]; rfl
  | m + 1, p => by
    rw [List.range'_succ, List.flatMap_cons, fm_app, fm_flat (m := m) (p := p + 1), show p + 1 + m = p + (m + 1) by (first | lia | omega), sfx_step (n := p + (m + 1)) (p := p) (by (first | lia | omega))]
def evB (S : Nat → List (List (Nat × Nat))) (f j : Nat) : List (List (Nat × Nat)) := (List.range' (f + 1) j).flatMap fun b => (S b).map ((f, b) :: ·)
def evA (n : Nat) (S : Nat → List (List (Nat × Nat))) (p i : Nat) : List (List (Nat × Nat)) := (List.range' p i).flatMap fun f => evB S f (n - f)
def ev (n g : Nat) : Nat → Nat → List (List (Nat × Nat))
  | 0, _ => [[]]
  | c + 1, p => evA n (fun b => ev n g c (b + g)) p (n - p)
theorem fm_ev {ns : List Int} {g : Nat} : ∀ {c p : Nat}, fm ns (ev ns.length g c p) = fb ns g c p
  | 0, p => by rw [fb_zero]; rfl
  | c + 1, p => by
    have key : ∀ f, f < ns.length → fm ns (evB (fun b => ev ns.length g c (b + g)) f (ns.length - f)) = fg ns g c f := fun f hf => by
      unfold evB
      rw [fm_flat, show f + 1 + (ns.length - f) = ns.length + 1 by (first | lia | omega)]
      unfold fg fgt
      congr 1
      funext b
      rw [fm_cons, fm_ev]
    rw [ev]
    unfold evA
    rw [fm_flat]
    by_cases hp : p ≤ ns.length
    · rw [show p + (ns.length - p) = ns.length by (first | lia | omega)]
      refine sfx_ind (n := ns.length) (C := fun q => sfx cb none ns.length q (fun f => fm ns (evB (fun b => ev ns.length g c (b + g)) f (ns.length - f))) = fb ns g (c + 1) q) (fun q hq => ?_) (fun q hq ih => ?_) p
      · rw [sfx_end hq, fb_end hq]
      · rw [sfx_step hq, ih, key q hq, ← fb_step hq]
    · rw [sfx_end (by (first | lia | omega)), fb_end (by (first | lia | omega))]
/-- each is one of stretches -/
def WfL (n : Nat) (L : List (Nat × Nat)) : Prop := ∀ q, q ∈ L → q.1 < q.2 ∧ q.2 ≤ n
theorem ev_wf {n g : Nat} : ∀ {c p : Nat} {L : List (Nat × Nat)}, L ∈ ev n g c p → WfL n L ∧ L.length = c
  | 0, p, L, h => by
    cases List.mem_singleton.mp h
    exact ⟨fun q hq => absurd hq List.not_mem_nil, rfl⟩
  | c + 1, p, L, h => by
    obtain ⟨f, hf, h1⟩ := List.mem_flatMap.mp (show L ∈ (List.range' p (n - p)).flatMap fun f => evB (fun b => ev n g c (b + g)) f (n - f) from h)
    obtain ⟨b, hb, h2⟩ := List.mem_flatMap.mp h1
    obtain ⟨M, hM, rfl⟩ := List.mem_map.mp h2
    obtain ⟨w1, w2⟩ := ev_wf hM
    have hf' := List.mem_range'_1.mp hf
    have hb' := List.mem_range'_1.mp hb
    refine ⟨fun q hq => ?_, by rw [List.length_cons, w2]⟩
    rcases List.mem_cons.mp hq with rfl | hq
    · exact ⟨by show f < b; (first | lia | omega), by show b ≤ n; (first | lia | omega)⟩
    · exact w1 q hq
theorem fm_mem {ns : List Int} : ∀ {ls : List (List (Nat × Nat))} {x : SL}, fm ns ls = some x → x.2 ∈ ls ∧ x.1 = sumL ns x.2
  | [], x, h => by cases h
  | L :: ls, x, h => by
    have e : fm ns (L :: ls) = cb (some (sumL ns L, L)) (fm ns ls) := rfl
    rw [e] at h
    rcases cb_or (some (sumL ns L, L)) (fm ns ls) with z | z
    · rw [z] at h
      cases h
      exact ⟨List.mem_cons_self, rfl⟩
    · rw [z] at h
      obtain ⟨h1, h2⟩ := fm_mem h
      exact ⟨List.mem_cons_of_mem _ h1, h2⟩
/-! ### lists of lists of pairs -/
def LLs (ok : Addr → Prop) (H : Hp) (xs : List V) (ls : List (List (Nat × Nat))) : Prop := xs.length = ls.length ∧ ∀ (j : Nat) x, xs[j]? = some x → ∃ (a : Addr) (ys : List V) (L : List (Nat × Nat)), ls[j]? = some L ∧ x = .ref a ∧ ok a ∧ H a = some (.lst ys) ∧ Pairs H ys (L.map prI)
/-! ### lists of stretches apart, and the greatest sum of them -/
def Okl (n g p : Nat) (L : List (Nat × Nat)) : Prop := (∀ q, q ∈ L → p ≤ q.1 ∧ q.1 < q.2 ∧ q.2 ≤ n) ∧ L.Pairwise (fun q r => q.2 + g ≤ r.1)
theorem Okl.cons {n g p f b : Nat} {L : List (Nat × Nat)} : Okl n g p ((f, b) :: L) ↔ (p ≤ f ∧ f < b ∧ b ≤ n) ∧ Okl n g (b + g) L := by
  unfold Okl
  rw [List.pairwise_cons]
  constructor
  · rintro ⟨h1, h2, h3⟩
    have h0 := h1 (f, b) List.mem_cons_self
    refine ⟨h0, fun q hq => ?_, h3⟩
    have := h1 q (List.mem_cons_of_mem _ hq)
    exact ⟨h2 q hq, this.2⟩
  · rintro ⟨h0, h1, h2⟩
    refine ⟨fun q hq => ?_, fun q hq => (h1 q hq).1, h2⟩
    rcases List.mem_cons.mp hq with rfl | hq
    · exact h0
    · have := h1 q hq
      exact ⟨by (first | lia | omega), this.2⟩
theorem ev_iff {n g : Nat} : ∀ {c p : Nat} {L : List (Nat × Nat)}, L ∈ ev n g c p ↔ Okl n g p L ∧ L.length = c
  | 0, p, L => by
    rw [show ev n g 0 p = [[]] from rfl, List.mem_singleton]
    constructor
    · rintro rfl
      exact ⟨⟨fun q hq => absurd hq List.not_mem_nil, List.Pairwise.nil⟩, rfl⟩
    · rintro ⟨_, h⟩
      exact List.eq_nil_of_length_eq_zero h
  | c + 1, p, L => by
    have e : (L ∈ ev n g (c + 1) p) ↔ ∃ f, f ∈ List.range' p (n - p) ∧ ∃ b, b ∈ List.range' (f + 1) (n - f) ∧ ∃ M, M ∈ ev n g c (b + g) ∧ (f, b) :: M = L := by
      show (L ∈ (List.range' p (n - p)).flatMap fun f => evB (fun b => ev n g c (b + g)) f (n - f)) ↔ _
      rw [List.mem_flatMap]
      constructor
      · rintro ⟨f, hf, h⟩
        obtain ⟨b, hb, h⟩ := List.mem_flatMap.mp h
        obtain ⟨M, hM, h⟩ := List.mem_map.mp h
        exact ⟨f, hf, b, hb, M, hM, h⟩
      · rintro ⟨f, hf, b, hb, M, hM, h⟩
        exact ⟨f, hf, List.mem_flatMap.mpr ⟨b, hb, List.mem_map.mpr ⟨M, hM, h⟩⟩⟩
    rw [e]
    constructor
    · rintro ⟨f, hf, b, hb, M, hM, rfl⟩
      have hf' := List.mem_range'_1.mp hf
      have hb' := List.mem_range'_1.mp hb
      obtain ⟨h1, h2⟩ := ev_iff.mp hM
      exact ⟨Okl.cons.mpr ⟨⟨by (first | lia | omega), by (first | lia | omega), by (first | lia | omega)⟩, h1⟩, by rw [List.length_cons, h2]⟩
    · rintro ⟨h1, h2⟩
      match L, h1, h2 with
      | (f, b) :: M, h1, h2 =>
        obtain ⟨h0, h3⟩ := Okl.cons.mp h1
        exact ⟨f, List.mem_range'_1.mpr (by (first | lia | omega)), b, List.mem_range'_1.mpr (by (first | lia | omega)), M, ev_iff.mpr ⟨h3, by rw [List.length_cons] at h2; (first | lia | omega)⟩, rfl⟩
theorem fm_max {ns : List Int} : ∀ {ls : List (List (Nat × Nat))} {L : List (Nat × Nat)}, L ∈ ls → ∃ x, fm ns ls = some x ∧ sumL ns L ≤ x.1
  | M :: ls, L, h => by
    have e : fm ns (M :: ls) = cb (some (sumL ns M, M)) (fm ns ls) := rfl
    rw [e]
    rcases List.mem_cons.mp h with rfl | h
    · cases fm ns ls with
      | none => exact ⟨_, rfl, Int.le_refl _⟩
      | some y => exact ⟨_, rfl, by show sumL ns L ≤ (if y.1 > sumL ns L then y else (sumL ns L, L)).1; split; (first | lia | omega); exact Int.le_refl _⟩
    · obtain ⟨x, hx, hle⟩ := fm_max h
      rw [hx]
      exact ⟨_, rfl, by show sumL ns L ≤ (if x.1 > sumL ns M then x else (sumL ns M, M)).1; split; exact hle; show sumL ns L ≤ sumL ns M; (first | lia | omega)⟩
theorem fb_le {ns : List Int} {g c p : Nat} {L : List (Nat × Nat)} (hL : Okl ns.length g p L) (hc : L.length = c) : ∃ x, fb ns g c p = some x ∧ sumL ns L ≤ x.1 := by
  rw [← fm_ev]
  exact fm_max (ev_iff.mpr ⟨hL, hc⟩)
theorem fb_ok {ns : List Int} {g c p : Nat} {x : SL} (h : fb ns g c p = some x) : Okl ns.length g p x.2 ∧ x.2.length = c ∧ x.1 = sumL ns x.2 := by
  rw [← fm_ev] at h
  obtain ⟨h1, h2⟩ := fm_mem h
  obtain ⟨h3, h4⟩ := ev_iff.mp h1
  exact ⟨h3, h4, h2⟩
/-- no greater sum, where each list goes over to one of at least its sum -/
theorem val_le {ns ns' : List Int} {g g' c c' p p' : Nat} (T : List (Nat × Nat) → List (Nat × Nat)) (hT : ∀ L, Okl ns.length g p L → L.length = c → Okl ns'.length g' p' (T L) ∧ (T L).length = c' ∧ sumL ns L ≤ sumL ns' (T L)) {x : SL} (hx : fb ns g c p = some x) : ∃ y, fb ns' g' c' p' = some y ∧ x.1 ≤ y.1 := by
  obtain ⟨h1, h2, h3⟩ := fb_ok hx
  obtain ⟨h4, h5, h6⟩ := hT x.2 h1 h2
  obtain ⟨y, hy, hle⟩ := fb_le h4 h5
  exact ⟨y, hy, by (first | lia | omega)⟩
theorem val_eq {ns ns' : List Int} {g g' c c' p p' : Nat} (T U : List (Nat × Nat) → List (Nat × Nat)) (hT : ∀ L, Okl ns.length g p L → L.length = c → Okl ns'.length g' p' (T L) ∧ (T L).length = c' ∧ sumL ns L ≤ sumL ns' (T L)) (hU : ∀ L, Okl ns'.length g' p' L → L.length = c' → Okl ns.length g p (U L) ∧ (U L).length = c ∧ sumL ns' L ≤ sumL ns (U L)) : val (fb ns g c p) = val (fb ns' g' c' p') := by
  cases h : fb ns g c p with
  | none =>
    cases h' : fb ns' g' c' p' with
    | none => rfl
    | some y =>
      obtain ⟨x, hx, _⟩ := val_le U hU h'
      rw [h] at hx
      cases hx
  | some x =>
    obtain ⟨y, hy, h1⟩ := val_le T hT h
    obtain ⟨x', hx', h2⟩ := val_le U hU hy
    rw [h] at hx'
    cases hx'
    rw [hy]
    show some x.1 = some y.1
    rw [show x.1 = y.1 by (first | lia | omega)]
/-! ### the row from behind -/
theorem sum_rev (xs : List Int) : xs.reverse.sum = xs.sum := by
  induction xs with
  | nil => rfl
  | cons x xs ih => rw [List.reverse_cons, List.sum_append, List.sum_singleton, List.sum_cons, ih]; (first | lia | omega)
def rvL (n : Nat) (L : List (Nat × Nat)) : List (Nat × Nat) := (L.map fun q => (n - q.2, n - q.1)).reverse
theorem rvL_len {n : Nat} {L : List (Nat × Nat)} : (rvL n L).length = L.length := by unfold rvL; rw [List.length_reverse, List.length_map]
theorem rvL_ok {n g p p' m : Nat} {L : List (Nat × Nat)} (h : Okl m g p L) (hm : m ≤ n) (h1 : p' + m ≤ n) : Okl (n - p) g p' (rvL n L) := by
  obtain ⟨a, b⟩ := h
  refine ⟨fun q hq => ?_, ?_⟩
  · obtain ⟨r, hr, rfl⟩ := List.mem_map.mp (List.mem_reverse.mp hq)
    have := a r hr
    exact ⟨by show p' ≤ n - r.2; (first | lia | omega), by show n - r.2 < n - r.1; (first | lia | omega), by show n - r.1 ≤ n - p; (first | lia | omega)⟩
  · unfold rvL
    rw [List.pairwise_reverse, List.pairwise_map]
    refine List.Pairwise.imp_of_mem (fun {q r} hq hr h => ?_) b
    have h1 := a q hq
    have h2 := a r hr
    show n - r.1 + g ≤ n - q.2
    (first | lia | omega)
theorem psum_rvA {ns : List Int} : ∀ i, i ≤ ns.length → psum ns.reverse i = psum ns ns.length - psum ns (ns.length - i)
  | 0, _ => by
    show psum ns.reverse 0 = psum ns ns.length - psum ns ns.length
    have : psum ns.reverse 0 = 0 := rfl
    (first | lia | omega)
  | i + 1, h => by
    have ih := psum_rvA (ns := ns) i (by (first | lia | omega))
    have a := psum_getD (ns := ns.reverse) (i := i) (by rw [List.length_reverse]; (first | lia | omega))
    have b := psum_getD (ns := ns) (i := ns.length - 1 - i) (by (first | lia | omega))
    have e : ns.reverse.getD i 0 = ns.getD (ns.length - 1 - i) 0 := by
      rw [List.getD_eq_getElem?_getD, List.getD_eq_getElem?_getD, List.getElem?_reverse (by (first | lia | omega))]
    have e1 : ns.length - 1 - i + 1 = ns.length - i := by (first | lia | omega)
    have e2 : ns.length - (i + 1) = ns.length - 1 - i := by (first | lia | omega)
    rw [e1] at b
    rw [a, ih, e, e2]
    (first | lia | omega)
theorem psum_tkA {ns : List Int} {m i : Nat} (h : i ≤ m) : psum (ns.take m) i = psum ns i := by
  unfold psum
  rw [List.take_take, Nat.min_eq_left h]
theorem sumL_rv {ms rs : List Int} {n : Nat} {L : List (Nat × Nat)} (h : ∀ q, q ∈ L → psum ms (n - q.1) - psum ms (n - q.2) = psum rs q.2 - psum rs q.1) : sumL ms (rvL n L) = sumL rs L := by
  unfold sumL rvL
  rw [List.map_reverse, sum_rev, List.map_map]
  exact congrArg List.sum (List.map_congr_left fun q hq => h q hq)
/-- of the row from behind, from a place on: as in the first numbers -/
theorem fb_rev {ns : List Int} {g c p : Nat} (hp : p ≤ ns.length) : val (fb ns.reverse g c p) = val (fb (ns.take (ns.length - p)) g c 0) := by
  have hl : ns.reverse.length = ns.length := List.length_reverse
  have ht : (ns.take (ns.length - p)).length = ns.length - p := by rw [List.length_take]; (first | lia | omega)
  refine val_eq (rvL ns.length) (rvL ns.length) (fun L hL hc => ?_) (fun L hL hc => ?_)
  · rw [hl] at hL
    refine ⟨by rw [ht]; exact rvL_ok hL (Nat.le_refl _) (by (first | lia | omega)), by rw [rvL_len, hc], ?_⟩
    rw [sumL_rv fun q hq => ?_]
    · exact Int.le_refl _
    · have := hL.1 q hq
      rw [psum_tkA (by (first | lia | omega)), psum_tkA (by (first | lia | omega)), psum_rvA _ (by (first | lia | omega)), psum_rvA _ (by (first | lia | omega))]
      (first | lia | omega)
  · rw [ht] at hL
    refine ⟨by rw [hl]; exact rvL_ok (p := 0) hL (by (first | lia | omega)) (by (first | lia | omega)), by rw [rvL_len, hc], ?_⟩
    rw [sumL_rv fun q hq => ?_]
    · exact Int.le_refl _
    · have := hL.1 q hq
      rw [psum_tkA (by (first | lia | omega)), psum_tkA (by (first | lia | omega)), psum_rvA _ (by (first | lia | omega)), psum_rvA _ (by (first | lia | omega)), show ns.length - (ns.length - q.1) = q.1 by (first | lia | omega), show ns.length - (ns.length - q.2) = q.2 by (first | lia | omega)]
      (first | lia | omega)
/-! ### refuse_counts -/
def sp_counts : Sp := fun vs H Q _ => ∃ m l g : Int, vs = [.int m, .int l, .int g] ∧ l ≤ m ∧ 0 ≤ g ∧ Q .non H
theorem ok_counts {P : Program} {w : World} {K : PySem.W.Frag} {mg : Str → Option Value} {base : Heap} {k : Nat} {f : Addr} {fd : FuncData} (F : Fun K "refuse_counts" "refuse_counts" s_refuse_counts f fd) (Z : Blt mg) : FnOk P w K mg base CX0 (k + 1) f fd ["many", "least", "gap"] sp_counts := by
  refine F.ok sc_refuse_counts (fun vs H Q E h => ?_) (fun cdv A outer s H vs Q E hr h => ?_)
  · obtain ⟨m, l, g, rfl, _⟩ := h
    rfl
  obtain ⟨m, l, g, rfl, hm, hg, q⟩ := h
  apply Exists.intro
  apply And.intro
  case left =>
    apply pss_one
    apply ps_if
    case hc => exact (PW.pt (pw_or (pt_cmpR op_lt (pv 0) (pv 1) (nomark _)) (pw_or1 (pt_cmpR op_lt (pv 2) pe_int (nomark _)))))
    case ha =>
      apply pss_one
      exact ps_never
    case hb =>
      exact pss_nil
  walk_at "rd"
  refine ifD (fun z => absurd z (by (first | lia | omega))) (fun _ => ?_)
  walk_at "rd"
  exact ifD (fun z => absurd z (by (first | lia | omega))) (fun _ => q)
/-! ### room_for -/
def sp_room : Sp := fun vs H Q _ => ∃ n g : Nat, vs = [.int n, .int g] ∧ g < 2 ^ 150 ∧ Q (.int ((n + g) / (1 + g) : Nat)) H
theorem ok_room {P : Program} {w : World} {K : PySem.W.Frag} {mg : Str → Option Value} {base : Heap} {k : Nat} {f : Addr} {fd : FuncData} (F : Fun K "room_for" "room_for" s_room_for f fd) (Z : Blt mg) : FnOk P w K mg base CX0 (k + 1) f fd ["numbers", "gap"] sp_room := by
  refine F.ok sc_room_for (fun vs H Q E h => ?_) (fun cdv A outer s H vs Q E hr h => ?_)
  · obtain ⟨n, g, rfl, _⟩ := h
    rfl
  obtain ⟨n, g, rfl, hg, q⟩ := h
  apply Exists.intro
  apply And.intro
  case left =>
    apply pss_one
    exact (ps_ret (pe_op op_fdivL (pe_op op_add (pv 0) (pv 1)) (pe_op op_add pe_int (pv 1))))
  walk_at "rd"
  refine ⟨⟨by (first | lia | omega), by (first | lia | omega)⟩, ?_⟩
  show Q (.int (((n : Int) + g) / (1 + g))) H
  have e : ((n : Int) + g) / (1 + g) = (((n + g) / (1 + g) : Nat) : Int) := by push_cast; rfl
  rw [e]
  exact q
/-! ### what has room -/
theorem room_le {n g m : Nat} (h : m ≤ (n + g) / (1 + g)) : m * (1 + g) ≤ n + g := (Nat.le_div_iff_mul_le (by (first | lia | omega))).mp h
theorem room_gt {n g m : Nat} (h : (n + g) / (1 + g) < m) : n + g < m * (1 + g) := (Nat.div_lt_iff_lt_mul (by (first | lia | omega))).mp h
theorem room_n {n g m : Nat} (h : m ≤ (n + g) / (1 + g)) : m ≤ n := by
  have h1 := room_le h
  refine Nat.le_of_not_lt fun z => ?_
  have h2 : (n + 1) * (1 + g) ≤ m * (1 + g) := Nat.mul_le_mul_right _ (by (first | lia | omega))
  have h3 : (n + 1) * (1 + g) = n * (1 + g) + (1 + g) := by rw [Nat.add_mul, Nat.one_mul]
  have h4 : n * 1 ≤ n * (1 + g) := Nat.mul_le_mul_left _ (by (first | lia | omega))
  (first | lia | omega)
/-- what best_apart tells -/
def Told (H : Hp) (o : Option SL) (v : V) : Prop := (o = none ∧ v = .non) ∨ ∃ (t st : Addr) (ys : List V) (x : SL), o = some x ∧ v = .ref t ∧ H t = some (.tup [.int x.1, .ref st]) ∧ H st = some (.lst ys) ∧ Pairs H ys (x.2.map prI)
/-! ### first_from -/
def sp_first : Sp := fun vs H Q _ => ∃ (d : Addr) (ns : List Int) (g c p : Nat) (x : SL), vs = [.ref d, .int p] ∧ LnAt H ns g (c + 1) d ∧ fb ns g (c + 1) p = some x ∧ ns.length ≤ 90000 ∧ ∀ f : Nat, p ≤ f → f < ns.length → fg ns g c f = some x → Q (.int f) H
theorem ok_first {P : Program} {w : World} {K : PySem.W.Frag} {mg : Str → Option Value} {base : Heap} {k : Nat} {f : Addr} {fd : FuncData} (F : Fun K "first_from" "first_from" s_first_from f fd) (Z : Blt mg) : FnOk P w K mg base CX0 (k + 1) f fd ["line", "start"] sp_first := by
  refine F.ok sc_first_from (fun vs H Q E h => ?_) (fun cdv A outer s H vs Q E hr h => ?_)
  · obtain ⟨d, ns, g, c, p, x, rfl, _⟩ := h
    rfl
  obtain ⟨d, ns, g, c, p, x, rfl, ⟨a, b, e, hd, ha, hb, he⟩, hx, hn, q⟩ := h
  apply Exists.intro
  apply And.intro
  case left =>
    apply pss_cons
    case h1 =>
      exact (ps_set (i := 2) sc_first_from.nd rfl (by first | exact Or.inl rfl | exact Or.inr rfl) (pv 1))
    apply pss_cons
    case h1 =>
      apply ps_while PassesOwn.never
      case hc => exact (pt_cmpR op_ne (pe_ix ix_list (pe_dget (hu_of hr) (pv 0) pe_str (fun _ _ => rfl)) (pv 2) (fun _ _ => rfl)) (pe_ix ix_list (pe_dget (hu_of hr) (pv 0) pe_str (fun _ _ => rfl)) (pv 2) (fun _ _ => rfl)) (nomark _))
      case hb =>
        apply pss_one
        exact (ps_aug (i := 2) sc_first_from.nd rfl (by first | exact Or.inl rfl | exact Or.inr rfl) pe_int ip_add)
    apply pss_one
    exact (ps_ret (pv 2))
  walk_at "rd"
  refine ⟨fun m σ H' => ∃ f : Nat, m = ns.length - f ∧ H = H' ∧ p ≤ f ∧ fb ns g (c + 1) f = some x ∧ σ = [some (.ref d), some (.int p), some (.int f)], ⟨_, p, rfl, rfl, Nat.le_refl _, hx, rfl⟩, ?_⟩
  rintro _ _ _ ⟨f, rfl, rfl, hpf, hf, rfl⟩
  have hfn := fb_lt hf
  walk_at "rd"
  refine ⟨d, _, rfl, dBegun hd, ?_⟩
  walk_at "rd"
  refine ⟨a, _, _, _, rfl, rfl, SqL.of ha, atO (by (first | lia | omega)), ?_⟩
  walk_at "rd"
  refine ⟨d, _, rfl, dBest hd, ?_⟩
  walk_at "rd"
  refine ⟨b, _, _, _, rfl, rfl, SqL.of hb, atO (by (first | lia | omega)), ?_⟩
  refine ⟨scal_oV, ?_⟩
  walk_at "rd"
  have est := fb_step (ns := ns) (g := g) (c := c) hfn
  refine ifNe (fun hne => ?_) (fun heq => ?_)
  · have e1 : cb (fg ns g c f) (fb ns g (c + 1) (f + 1)) = fb ns g (c + 1) (f + 1) := cb_right fun z => hne (by rw [est]; exact z)
    refine ⟨fun σ H' => H = H' ∧ σ = [some (.ref d), some (.int p), some (.int ((f + 1 : Nat) : Int))], ?_, ?_⟩
    · rintro _ _ ⟨rfl, rfl⟩
      exact ⟨ns.length - (f + 1), by (first | lia | omega), f + 1, rfl, rfl, by (first | lia | omega), by rw [← e1, ← est]; exact hf, rfl⟩
    · walk_at "rd"
      push_cast
      rfl
  · walk_at "rd"
    refine q f hpf hfn ?_
    rw [est] at hf
    refine cb_left hf ?_
    rw [← est]
    exact heq
/-! ### beyond_from -/
def sp_beyond : Sp := fun vs H Q _ => ∃ (r e : Addr) (ns : List Int) (g c f : Nat) (x : SL), vs = [.ref r, .int f, .int x.1, .ref e] ∧ H r = some (.lst (ns.map V.int)) ∧ H e = some (.lst ((lineOf (ns.length + 1) (fun p => val (fb ns g c (p + g)))).map oV)) ∧ fg ns g c f = some x ∧ f < ns.length ∧ ns.length ≤ 90000 ∧
  ∀ (b : Nat) (y : SL), f < b → b ≤ ns.length → fb ns g c (b + g) = some y → x = put1 ns f b y → Q (.int b) H
theorem ok_beyond {P : Program} {w : World} {K : PySem.W.Frag} {mg : Str → Option Value} {base : Heap} {k : Nat} {f : Addr} {fd : FuncData} (F : Fun K "beyond_from" "beyond_from" s_beyond_from f fd) (Z : Blt mg) : FnOk P w K mg base CX0 (k + 1) f fd ["row", "first", "total", "behind"] sp_beyond := by
  refine F.ok sc_beyond_from (fun vs H Q E h => ?_) (fun cdv A outer s H vs Q E hr h => ?_)
  · obtain ⟨r, e, ns, g, c, f, x, rfl, _⟩ := h
    rfl
  obtain ⟨r, e, ns, g, c, f, x, rfl, hR, he, hx, hfn, hn, q⟩ := h
  apply Exists.intro
  apply And.intro
  case left =>
    apply pss_cons
    case h1 =>
      exact (ps_set (i := 4) sc_beyond_from.nd rfl (by first | exact Or.inl rfl | exact Or.inr rfl) (pe_op op_add (pv 1) pe_int))
    apply pss_cons
    case h1 =>
      exact (ps_set (i := 5) sc_beyond_from.nd rfl (by first | exact Or.inl rfl | exact Or.inr rfl) (pe_op op_sub (pv 2) (pe_ix ix_list (pv 0) (pv 1) (fun _ _ => rfl))))
    apply pss_cons
    case h1 =>
      apply ps_while PassesOwn.never
      case hc => exact (pt_cmpR op_ne (pe_ix ix_list (pv 3) (pv 4) (fun _ _ => rfl)) (pv 5) (nomark _))
      case hb =>
        apply pss_cons
        case h1 =>
          exact (ps_aug (i := 5) sc_beyond_from.nd rfl (by first | exact Or.inl rfl | exact Or.inr rfl) (pe_ix ix_list (pv 0) (pv 4) (fun _ _ => rfl)) ip_sub)
        apply pss_one
        exact (ps_aug (i := 4) sc_beyond_from.nd rfl (by first | exact Or.inl rfl | exact Or.inr rfl) pe_int ip_add)
    apply pss_one
    exact (ps_ret (pv 4))
  have hl : (ns.map V.int).length = ns.length := List.length_map _
  walk_at "rd"
  refine ⟨r, _, _, _, rfl, rfl, SqL.of hR, atI_ok (by (first | lia | omega)) (by (first | lia | omega)), ?_⟩
  rw [show ((f : Nat) : Int).toNat = f from rfl]
  walk_at "rd"
  have e0 := psum_getD (ns := ns) (i := f) hfn
  refine ⟨fun m σ H' => ∃ b : Nat, m = ns.length + 1 - b ∧ H = H' ∧ f < b ∧ fgt ns (fun b => fb ns g c (b + g)) f b = some x ∧ σ = [some (.ref r), some (.int f), some (.int x.1), some (.ref e), some (.int b), some (.int (x.1 - (psum ns b - psum ns f)))], ⟨_, f + 1, rfl, rfl, by (first | lia | omega), hx, ?_⟩, ?_⟩
  · rw [show psum ns (f + 1) - psum ns f = ns.getD f 0 by (first | lia | omega)]
    rfl
  rintro _ _ _ ⟨b, rfl, rfl, hfb, hb, rfl⟩
  have hbn : b < ns.length + 1 := Nat.lt_of_not_le fun z => by rw [fgt_end z] at hb; cases hb
  have est := fgt_step (ns := ns) (S := fun b => fb ns g c (b + g)) (f := f) hbn
  walk_at "rd"
  refine ⟨e, _, _, _, rfl, rfl, SqL.of he, atO (by (first | lia | omega)), ?_⟩
  walk_at "rd"
  refine ⟨scal_oV (v := some _), ?_⟩
  walk_at "rd"
  refine ifNe (v := some (x.1 - (psum ns b - psum ns f))) (fun hne => ?_) (fun heq => ?_)
  · have hb' := hb
    rw [est, cb_right] at hb'
    · have hb1 : b + 1 < ns.length + 1 := Nat.lt_of_not_le fun z => by rw [fgt_end z] at hb'; cases hb'
      have e1 := psum_getD (ns := ns) (i := b) (by (first | lia | omega))
      refine ⟨fun σ H' => H = H' ∧ σ = [some (.ref r), some (.int f), some (.int x.1), some (.ref e), some (.int ((b + 1 : Nat) : Int)), some (.int (x.1 - (psum ns (b + 1) - psum ns f)))], ?_, ?_⟩
      · rintro _ _ ⟨rfl, rfl⟩
        exact ⟨ns.length + 1 - (b + 1), by (first | lia | omega), b + 1, rfl, rfl, by (first | lia | omega), hb', rfl⟩
      · walk_at "rd"
        refine ⟨r, _, _, _, rfl, rfl, SqL.of hR, atI_ok (by (first | lia | omega)) (by (first | lia | omega)), ?_⟩
        walk_at "rd"
        rw [show x.1 - (psum ns (b + 1) - psum ns f) = x.1 - (psum ns b - psum ns f) - ns.getD b 0 by (first | lia | omega)]
        push_cast
        rfl
    · rw [← est, hb, val_put]
      intro z
      refine hne ?_
      cases ev : val (fb ns g c (b + g)) with
      | none => rw [ev] at z; cases z
      | some v =>
        rw [ev] at z
        have z' : psum ns b - psum ns f + v = x.1 := Option.some.inj z
        rw [show x.1 - (psum ns b - psum ns f) = v by (first | lia | omega)]
  · walk_at "rd"
    have hb' := hb
    rw [est] at hb'
    have hc := cb_left hb' (by
      rw [hb', val_put, heq]
      show some (psum ns b - psum ns f + (x.1 - (psum ns b - psum ns f))) = some x.1
      rw [show psum ns b - psum ns f + (x.1 - (psum ns b - psum ns f)) = x.1 by (first | lia | omega)])
    obtain ⟨y, hy, ey⟩ := Option.map_eq_some_iff.mp hc
    exact q b y hfb (by (first | lia | omega)) hy ey.symm
/-! ### stretches_of -/
def sp_strs : Sp := fun vs H Q _ => ∃ (r l : Addr) (ns : List Int) (xs : List V) (m M g : Nat) (x : SL), vs = [.ref r, .ref l, .int m, .int g] ∧ H r = some (.lst (ns.map V.int)) ∧ H l = some (.lst xs) ∧ Lns H ns g M xs ∧ m < M ∧ m ≤ 40000 ∧ ns.length ≤ 20000 ∧ fb ns g m 0 = some x ∧
  ∀ (st : Addr) (ys : List V) (H' : Hp), Same H H' → H st = none → H' st = some (.lst ys) → Pairs H' ys (x.2.map prI) → Q (.ref st) H'
theorem ok_strs {P : Program} {w : World} {K : PySem.W.Frag} {mg : Str → Option Value} {base : Heap} {k : Nat} {f : Addr} {fd : FuncData} (F : Fun K "stretches_of" "stretches_of" s_stretches_of f fd) (Z : Blt mg)
    (D_first_from : Def P w K mg base k "first_from" ["line", "start"] sp_first) (D_beyond_from : Def P w K mg base k "beyond_from" ["row", "first", "total", "behind"] sp_beyond) : FnOk P w K mg base CX0 (k + 1) f fd ["row", "lines", "many", "gap"] sp_strs := by
  refine F.ok sc_stretches_of (fun vs H Q E h => ?_) (fun cdv A outer s H vs Q E hr h => ?_)
  · obtain ⟨r, l, ns, xs, m, M, g, x, rfl, _⟩ := h
    rfl
  obtain ⟨r, l, ns, xs, m, M, g, x, rfl, hR, hL, hLn, hmM, hm, hn, hx, q⟩ := h
  apply Exists.intro
  apply And.intro
  case left =>
    apply pss_cons
    case h1 =>
      exact (ps_set (i := 4) sc_stretches_of.nd rfl (by first | exact Or.inl rfl | exact Or.inr rfl) (pe_lst pa_nil))
    apply pss_cons
    case h1 =>
      exact (ps_set (i := 5) sc_stretches_of.nd rfl (by first | exact Or.inl rfl | exact Or.inr rfl) pe_int)
    apply pss_cons
    case h1 =>
      apply ps_for PassesOwn.never rfl
      case hi => exact (pi_range3 rfl Z.range_ (pa_cons (pv 2) (pa_cons pe_int (pa_cons (pe_un un_neg pe_int) pa_nil))))
      case hg => exact (pg_name (i := 6) sc_stretches_of.nd rfl (by first | exact Or.inl rfl | exact Or.inr rfl))
      case hb =>
        apply pss_cons
        case h1 =>
          exact (ps_set (i := 7) sc_stretches_of.nd rfl (by first | exact Or.inl rfl | exact Or.inr rfl) (pe_def D_first_from hr rfl (pa_cons (pe_ix ix_list (pv 1) (pv 6) (fun _ _ => rfl)) (pa_cons (pv 5) pa_nil))))
        apply pss_cons
        case h1 =>
          exact (ps_set (i := 8) sc_stretches_of.nd rfl (by first | exact Or.inl rfl | exact Or.inr rfl) (pe_ix ix_list (pe_dget (hu_of hr) (pe_ix ix_list (pv 1) (pv 6) (fun _ _ => rfl)) pe_str (fun _ _ => rfl)) (pv 7) (fun _ _ => rfl)))
        apply pss_cons
        case h1 =>
          exact (ps_set (i := 9) sc_stretches_of.nd rfl (by first | exact Or.inl rfl | exact Or.inr rfl) (pe_def D_beyond_from hr rfl (pa_cons (pv 0) (pa_cons (pv 7) (pa_cons (pv 8) (pa_cons (pe_dget (hu_of hr) (pe_ix ix_list (pv 1) (pe_op op_sub (pv 6) pe_int) (fun _ _ => rfl)) pe_str (fun _ _ => rfl)) pa_nil))))))
        apply pss_cons
        case h1 =>
          exact (ps_expr (pe_bm PySem.F.plainAttrs_list PySem.F.slot_list_append PySem.F.type_list_append mt_append (pv 4) (pa_cons (pe_tup (pa_cons (pv 7) (pa_cons (pv 9) pa_nil))) pa_nil)))
        apply pss_one
        exact (ps_set (i := 5) sc_stretches_of.nd rfl (by first | exact Or.inl rfl | exact Or.inr rfl) (pe_op op_add (pv 9) (pv 3)))
    apply pss_one
    exact (ps_ret (pv 4))
  walk_at "rd"
  refine ⟨Nat.zero_le _, fun st hst => ?_⟩
  walk_at "rd"
  refine ⟨_, _, rfl, ⟨by (first | lia | omega), by (first | lia | omega), by (first | lia | omega), by (first | lia | omega)⟩, ?_⟩
  rw [show ((m : Int) - 0).toNat = m by (first | lia | omega)]
  refine for_down (fun i σ H' => ∃ (ys : List V) (T : List (Nat × Nat)) (p : Nat) (y : SL) (o6 o7 o8 o9 : Option V), Same H H' ∧ H' st = some (.lst ys) ∧ Pairs H' ys (T.map prI) ∧ T.length = i ∧ fb ns g (m - i) p = some y ∧ x.2 = T ++ y.2 ∧ σ = [some (.ref r), some (.ref l), some (.int m), some (.int g), some (.ref st), some (.int p), o6, o7, o8, o9]) ⟨[], [], 0, x, none, none, none, none, Same.new hst _, upd_same, Pairs.nil, rfl, hx, rfl, rfl⟩ ?_ ?_
  · rintro i σ H1 hi ⟨ys, T, p, y, o6, o7, o8, o9, sm, hys, hP, hT, hy, hxy, rfl⟩
    obtain ⟨c, hc⟩ : ∃ c, m - i = c + 1 := ⟨m - i - 1, by (first | lia | omega)⟩
    have ec : (m : Int) - i = ((c + 1 : Nat) : Int) := by (first | lia | omega)
    rw [hc] at hy
    rw [ec]
    have hR1 := sm _ _ hR
    have hL1 := sm _ _ hL
    obtain ⟨d, hd, hA⟩ := hLn.2 (c + 1) (by (first | lia | omega))
    have hA1 := hA.keep sm
    obtain ⟨d', hd', hB⟩ := hLn.2 c (by (first | lia | omega))
    have hB1 := hB.keep sm
    obtain ⟨a2, b2, e2, hd2, ha2, hb2, he2⟩ := hB1
    walk_at "rd"
    refine ⟨l, _, _, _, rfl, rfl, SqL.of hL1, atI_nat hd, ?_⟩
    walk_at "rd"
    refine ⟨d, ns, g, c, p, y, rfl, hA1, hy, by (first | lia | omega), fun f hpf hfn hf => ?_⟩
    obtain ⟨a, b, e, hd1, ha, hb, he⟩ := hA1
    walk_at "rd"
    refine ⟨l, _, _, _, rfl, rfl, SqL.of hL1, atI_nat hd, ?_⟩
    walk_at "rd"
    refine ⟨d, _, rfl, dBegun hd1, ?_⟩
    walk_at "rd"
    refine ⟨a, _, _, _, rfl, rfl, SqL.of ha, atO (by (first | lia | omega)), ?_⟩
    rw [show bgV ns g (c + 1) f = some y.1 by show val (fg ns g c f) = _; rw [hf]; rfl]
    walk_at "rd"
    refine ⟨l, _, ((c : Nat) : Int), _, rfl, (by show V.int (((c + 1 : Nat) : Int) - 1) = _; rw [show ((c + 1 : Nat) : Int) - 1 = (c : Int) by (first | lia | omega)]), SqL.of hL1, atI_nat hd', ?_⟩
    walk_at "rd"
    refine ⟨d', _, rfl, dBehind hd2, ?_⟩
    refine ⟨r, e2, ns, g, c, f, y, rfl, hR1, he2, hf, hfn, by (first | lia | omega), fun bb z hfb hbn hz ez => ?_⟩
    walk_at "rd"
    refine ⟨.inl ⟨rfl, _, SqL.of hys⟩, ?_⟩
    walk_at "rd"
    refine ⟨by show 2 ≤ sizeLine; decide, fun t ht => ?_⟩
    have s1 := Same.new ht (.tup [.int f, .int bb])
    walk_at "rd"
    refine ⟨st, _, _, rfl, rfl, s1 _ _ hys, small (by rw [hP.1, List.length_map]; (first | lia | omega)), ?_⟩
    walk_at "rd"
    have hst1 : H1 st ≠ none := by rw [hys]; exact fun z => by cases z
    have hnt : t ≠ st := fun z => hst1 (by rw [← z]; exact ht)
    refine ⟨_, T ++ [(f, bb)], bb + g, z, some (.int ((c + 1 : Nat) : Int)), some (.int f), some (.int y.1), some (.int bb), (show Same H (upd H1 t (.tup [.int f, .int bb])) from fun b o w => s1 _ _ (sm _ _ w)).upd hst, upd_same, ?_, by rw [List.length_append, hT]; rfl, by rw [show m - (i + 1) = c by (first | lia | omega)]; exact hz, ?_, ?_⟩
    · rw [List.map_append]
      refine Pairs.snoc ((hP.keep s1).keepL (s1 _ _ hys) (fun b u hb w => by rw [upd_ne hb]; exact w)) ?_
      rw [upd_ne hnt, upd_same]
    · rw [hxy, ez, List.append_assoc]
      rfl
    · rfl
  · rintro σ H1 ⟨ys, T, p, y, o6, o7, o8, o9, sm, hys, hP, hT, hy, hxy, rfl⟩
    walk_at "rd"
    refine q st ys H1 sm hst hys ?_
    rw [Nat.sub_self, fb_zero] at hy
    cases hy
    rw [hxy, List.append_nil]
    exact hP
def sp_apart : Sp := fun vs H Q _ => ∃ (r : Addr) (ns : List Int) (m g : Nat), vs = [.ref r, .int m, .int g] ∧ H r = some (.lst (ns.map V.int)) ∧ ns.length ≤ 20000 ∧ 1 ≤ m ∧ g < 2 ^ 150 ∧
  (fb ns g m 0 = none → Q .non H) ∧ ∀ (t st : Addr) (ys : List V) (x : SL) (H' : Hp), fb ns g m 0 = some x → m ≤ ns.length → Same H H' → H t = none → H st = none → H' t = some (.tup [.int x.1, .ref st]) → H' st = some (.lst ys) → Pairs H' ys (x.2.map prI) → Q (.ref t) H'
theorem ok_apart {P : Program} {w : World} {K : PySem.W.Frag} {mg : Str → Option Value} {base : Heap} {k : Nat} {f : Addr} {fd : FuncData} (F : Fun K "best_apart" "best_apart" s_best_apart f fd) (Z : Blt mg)
    (D_refuse_counts : Def P w K mg base k "refuse_counts" ["many", "least", "gap"] sp_counts) (D_room_for : Def P w K mg base k "room_for" ["numbers", "gap"] sp_room) (D_lines_of : Def P w K mg base k "lines_of" ["row", "many", "gap"] sp_lines) (D_stretches_of : Def P w K mg base k "stretches_of" ["row", "lines", "many", "gap"] sp_strs) : FnOk P w K mg base CX0 (k + 1) f fd ["row", "many", "gap"] sp_apart := by
  refine F.ok sc_best_apart (fun vs H Q E h => ?_) (fun cdv A outer s H vs Q E hr h => ?_)
  · obtain ⟨r, ns, m, g, rfl, _⟩ := h
    rfl
  obtain ⟨r, ns, m, g, rfl, hR, hn, hm, hg, qN, q⟩ := h
  apply Exists.intro
  apply And.intro
  case left =>
    apply pss_cons
    case h1 =>
      exact (ps_expr (pe_def D_refuse_counts hr rfl (pa_cons (pv 1) (pa_cons pe_int (pa_cons (pv 2) pa_nil)))))
    apply pss_cons
    case h1 =>
      apply ps_if
      case hc => exact (pt_cmpR op_gt (pv 1) (pe_def D_room_for hr rfl (pa_cons (pe_callB call_len_seq rfl Z.len_ PySem.boot_len (pa_cons (pv 0) pa_nil)) (pa_cons (pv 2) pa_nil))) (nomark _))
      case ha =>
        apply pss_one
        exact (ps_ret pe_non)
      case hb =>
        exact pss_nil
    apply pss_cons
    case h1 =>
      exact (ps_set (i := 3) sc_best_apart.nd rfl (by first | exact Or.inl rfl | exact Or.inr rfl) (pe_def D_lines_of hr rfl (pa_cons (pv 0) (pa_cons (pv 1) (pa_cons (pv 2) pa_nil)))))
    apply pss_one
    exact (ps_ret (pe_tup (pa_cons (pe_ix ix_list (pe_dget (hu_of hr) (pe_ix ix_list (pv 3) (pv 1) (fun _ _ => rfl)) pe_str (fun _ _ => rfl)) pe_int (fun _ _ => rfl)) (pa_cons (pe_def D_stretches_of hr rfl (pa_cons (pv 0) (pa_cons (pv 3) (pa_cons (pv 1) (pa_cons (pv 2) pa_nil))))) pa_nil))))
  have hl : (ns.map V.int).length = ns.length := List.length_map _
  walk_at "rd"
  refine ⟨_, _, _, rfl, by (first | lia | omega), by (first | lia | omega), ?_⟩
  walk_at "rd"
  refine ⟨r, _, rfl, .inl (SqL.of hR), ?_⟩
  rw [hl]
  walk_at "rd"
  refine ⟨ns.length, g, rfl, hg, ?_⟩
  walk_at "rd"
  refine ifD (fun z => ?_) (fun z => ?_)
  · walk_at "rd"
    refine qN (fb_noroom (by (first | lia | omega)) ?_)
    have := room_gt (n := ns.length) (g := g) (m := m) (by (first | lia | omega))
    (first | lia | omega)
  have hz : m ≤ (ns.length + g) / (1 + g) := by (first | lia | omega)
  have hmn := room_n hz
  obtain ⟨x, hx⟩ : ∃ x, fb ns g m 0 = some x := Option.ne_none_iff_exists'.mp (fb_room (.inr ⟨by (first | lia | omega), room_le hz⟩))
  walk_at "rd"
  refine ⟨r, ns, m, g, rfl, hR, hn, by (first | lia | omega), fun l xs H1 s1 hl0 hl1 hL => ?_⟩
  obtain ⟨d, hd, a, b, e, hd1, ha, hb, he⟩ := hL.2 m (by (first | lia | omega))
  walk_at "rd"
  refine ⟨l, _, _, _, rfl, rfl, SqL.of hl1, atI_nat hd, ?_⟩
  walk_at "rd"
  refine ⟨d, _, rfl, dBest hd1, ?_⟩
  walk_at "rd"
  refine ⟨b, _, ((0 : Nat) : Int), _, rfl, rfl, SqL.of hb, atO (by (first | lia | omega)), ?_⟩
  rw [hx]
  walk_at "rd"
  refine ⟨r, l, ns, xs, m, m + 1, g, x, rfl, s1 _ _ hR, hl1, hL, by (first | lia | omega), by (first | lia | omega), hn, hx, fun st ys H2 s2 hst0 hst hP => ?_⟩
  walk_at "rd"
  refine ⟨by show 2 ≤ sizeLine; decide, fun t ht => ?_⟩
  have s3 := Same.new ht (.tup [.int x.1, .ref st])
  have s12 : Same H H2 := fun b o z => s2 _ _ (s1 _ _ z)
  exact q t st ys x _ hx hmn (fun b o z => s3 _ _ (s12 _ _ z)) (wasNone s12 ht) (wasNone s1 hst0) upd_same (s3 _ _ hst) (hP.keep s3)
/-! ### best_at_most -/
def vS (ns : List Int) (g c : Nat) : Int := (val (fb ns g c 0)).getD 0
def IsFew (ns : List Int) (g C c : Nat) : Prop := c ≤ C ∧ ∀ c', c' ≤ C → vS ns g c' ≤ vS ns g c ∧ (vS ns g c' = vS ns g c → c ≤ c')
theorem vS_some {ns : List Int} {g c : Nat} (h : c ≤ (ns.length + g) / (1 + g)) : ∃ x, fb ns g c 0 = some x ∧ x.1 = vS ns g c := by
  have hr : c = 0 ∨ (0 ≤ ns.length ∧ c * (1 + g) ≤ ns.length - 0 + g) := .inr ⟨by (first | lia | omega), room_le h⟩
  obtain ⟨x, hx⟩ : ∃ x, fb ns g c 0 = some x := Option.ne_none_iff_exists'.mp (fb_room hr)
  refine ⟨x, hx, ?_⟩
  unfold vS
  rw [hx]
  rfl
def sp_atmost : Sp := fun vs H Q _ => ∃ (r : Addr) (ns : List Int) (m g : Nat), vs = [.ref r, .int m, .int g] ∧ H r = some (.lst (ns.map V.int)) ∧ ns.length ≤ 20000 ∧ g < 2 ^ 150 ∧
  ∀ (t st : Addr) (ys : List V) (x : SL) (c : Nat) (H' : Hp), IsFew ns g (min m ((ns.length + g) / (1 + g))) c → fb ns g c 0 = some x → Same H H' → H t = none → H st = none → H' t = some (.tup [.int x.1, .ref st]) → H' st = some (.lst ys) → Pairs H' ys (x.2.map prI) → Q (.ref t) H'
theorem ok_atmost {P : Program} {w : World} {K : PySem.W.Frag} {mg : Str → Option Value} {base : Heap} {k : Nat} {f : Addr} {fd : FuncData} (F : Fun K "best_at_most" "best_at_most" s_best_at_most f fd) (Z : Blt mg)
    (D_refuse_counts : Def P w K mg base k "refuse_counts" ["many", "least", "gap"] sp_counts) (D_room_for : Def P w K mg base k "room_for" ["numbers", "gap"] sp_room) (D_lines_of : Def P w K mg base k "lines_of" ["row", "many", "gap"] sp_lines) (D_stretches_of : Def P w K mg base k "stretches_of" ["row", "lines", "many", "gap"] sp_strs) : FnOk P w K mg base CX0 (k + 1) f fd ["row", "many", "gap"] sp_atmost := by
  refine F.ok sc_best_at_most (fun vs H Q E h => ?_) (fun cdv A outer s H vs Q E hr h => ?_)
  · obtain ⟨r, ns, m, g, rfl, _⟩ := h
    rfl
  obtain ⟨r, ns, m, g, rfl, hR, hn, hg, q⟩ := h
  apply Exists.intro
  apply And.intro
  case left =>
    apply pss_cons
    case h1 =>
      exact (ps_expr (pe_def D_refuse_counts hr rfl (pa_cons (pv 1) (pa_cons pe_int (pa_cons (pv 2) pa_nil)))))
    apply pss_cons
    case h1 =>
      exact (ps_set (i := 3) sc_best_at_most.nd rfl (by first | exact Or.inl rfl | exact Or.inr rfl) (pe_callB (call_min2 rfl) rfl Z.min_ PyProof.Rows.boot_min (pa_cons (pv 1) (pa_cons (pe_def D_room_for hr rfl (pa_cons (pe_callB call_len_seq rfl Z.len_ PySem.boot_len (pa_cons (pv 0) pa_nil)) (pa_cons (pv 2) pa_nil))) pa_nil))))
    apply pss_cons
    case h1 =>
      exact (ps_set (i := 4) sc_best_at_most.nd rfl (by first | exact Or.inl rfl | exact Or.inr rfl) (pe_def D_lines_of hr rfl (pa_cons (pv 0) (pa_cons (pv 3) (pa_cons (pv 2) pa_nil)))))
    apply pss_cons
    case h1 =>
      exact (ps_set (i := 5) sc_best_at_most.nd rfl (by first | exact Or.inl rfl | exact Or.inr rfl) pe_int)
    apply pss_cons
    case h1 =>
      apply ps_for PassesOwn.never rfl
      case hi => exact (pi_range2 rfl Z.range_ (pa_cons pe_int (pa_cons (pe_op op_add (pv 3) pe_int) pa_nil)))
      case hg => exact (pg_name (i := 6) sc_best_at_most.nd rfl (by first | exact Or.inl rfl | exact Or.inr rfl))
      case hb =>
        apply pss_one
        apply ps_if
        case hc => exact (pt_cmpR op_gt (pe_ix ix_list (pe_dget (hu_of hr) (pe_ix ix_list (pv 4) (pv 6) (fun _ _ => rfl)) pe_str (fun _ _ => rfl)) pe_int (fun _ _ => rfl)) (pe_ix ix_list (pe_dget (hu_of hr) (pe_ix ix_list (pv 4) (pv 5) (fun _ _ => rfl)) pe_str (fun _ _ => rfl)) pe_int (fun _ _ => rfl)) (nomark _))
        case ha =>
          apply pss_one
          exact (ps_set (i := 5) sc_best_at_most.nd rfl (by first | exact Or.inl rfl | exact Or.inr rfl) (pv 6))
        case hb =>
          exact pss_nil
    apply pss_one
    exact (ps_ret (pe_tup (pa_cons (pe_ix ix_list (pe_dget (hu_of hr) (pe_ix ix_list (pv 4) (pv 5) (fun _ _ => rfl)) pe_str (fun _ _ => rfl)) pe_int (fun _ _ => rfl)) (pa_cons (pe_def D_stretches_of hr rfl (pa_cons (pv 0) (pa_cons (pv 4) (pa_cons (pv 5) (pa_cons (pv 2) pa_nil))))) pa_nil))))
  have hl : (ns.map V.int).length = ns.length := List.length_map _
  walk_at "rd"
  refine ⟨_, _, _, rfl, by (first | lia | omega), by (first | lia | omega), ?_⟩
  walk_at "rd"
  refine ⟨r, _, rfl, .inl (SqL.of hR), ?_⟩
  rw [hl]
  walk_at "rd"
  refine ⟨ns.length, g, rfl, hg, ?_⟩
  refine ⟨_, _, rfl, ?_⟩
  obtain ⟨C, hC⟩ : ∃ C, C = min m ((ns.length + g) / (1 + g)) := ⟨_, rfl⟩
  have eC : (if (((ns.length + g) / (1 + g) : Nat) : Int) < (m : Int) then (((ns.length + g) / (1 + g) : Nat) : Int) else (m : Int)) = (C : Int) := by split <;> (first | lia | omega)
  rw [eC]
  rw [← hC] at q
  have hCr : C ≤ (ns.length + g) / (1 + g) := by (first | lia | omega)
  have hCn := room_n hCr
  walk_at "rd"
  refine ⟨r, ns, C, g, rfl, hR, hn, by (first | lia | omega), fun l xs H1 s1 hl0 hl1 hL => ?_⟩
  have at0 : ∀ c, c ≤ C → ∃ (d b : Addr) (x : SL), xs[c]? = some (.ref d) ∧ DGet H1 d (.str "best") (some (.ref b)) ∧ H1 b = some (.lst ((lineOf (ns.length + 1) (fun p => val (fb ns g c p))).map oV)) ∧ val (fb ns g c 0) = some (vS ns g c) := fun c hc => by
    obtain ⟨d, hd, a, b, e, hd1, ha, hb, he⟩ := hL.2 c (by (first | lia | omega))
    obtain ⟨x, hx, ex⟩ := vS_some (ns := ns) (g := g) (c := c) (by (first | lia | omega))
    exact ⟨d, b, x, hd, dBest hd1, hb, by rw [hx, ← ex]; rfl⟩
  walk_at "rd"
  refine ⟨_, _, rfl, ⟨by (first | lia | omega), by (first | lia | omega), by (first | lia | omega), by (first | lia | omega)⟩, ?_⟩
  rw [show ((C : Int) + 1 - 1).toNat = C by (first | lia | omega)]
  refine for_range (fun i σ H' => ∃ (c : Nat) (o6 : Option V), H1 = H' ∧ IsFew ns g i c ∧ σ = [some (.ref r), some (.int m), some (.int g), some (.int C), some (.ref l), some (.int c), o6]) ⟨0, none, rfl, ⟨Nat.le_refl _, fun c' h => ?_⟩, rfl⟩ ?_ ?_
  · have : c' = 0 := by (first | lia | omega)
    subst this
    exact ⟨Int.le_refl _, fun _ => Nat.le_refl _⟩
  · rintro i σ _ hi ⟨c, o6, rfl, hF, rfl⟩
    have hcC := hF.1
    obtain ⟨d, b, x, hd, hd1, hb, hx⟩ := at0 (i + 1) (by (first | lia | omega))
    obtain ⟨d', b', x', hd', hd1', hb', hx'⟩ := at0 c (by (first | lia | omega))
    rw [show (1 : Int) + i = ((i + 1 : Nat) : Int) by (first | lia | omega)]
    walk_at "rd"
    refine ⟨l, _, _, _, rfl, rfl, SqL.of hl1, atI_nat hd, ?_⟩
    walk_at "rd"
    refine ⟨d, _, rfl, hd1, ?_⟩
    walk_at "rd"
    refine ⟨b, _, ((0 : Nat) : Int), _, rfl, rfl, SqL.of hb, atO (by (first | lia | omega)), ?_⟩
    rw [hx]
    walk_at "rd"
    refine ⟨l, _, _, _, rfl, rfl, SqL.of hl1, atI_nat hd', ?_⟩
    walk_at "rd"
    refine ⟨d', _, rfl, hd1', ?_⟩
    walk_at "rd"
    refine ⟨b', _, ((0 : Nat) : Int), _, rfl, rfl, SqL.of hb', atO (by (first | lia | omega)), ?_⟩
    rw [hx']
    walk_at "rd"
    refine ifD (fun z => ?_) (fun z => ?_)
    · walk_at "rd"
      refine ⟨i + 1, _, rfl, ⟨Nat.le_refl _, fun c' h' => ?_⟩, rfl⟩
      by_cases h2 : c' = i + 1
      · subst h2
        exact ⟨Int.le_refl _, fun _ => Nat.le_refl _⟩
      · have := (hF.2 c' (by (first | lia | omega))).1
        exact ⟨by (first | lia | omega), fun z => by (first | lia | omega)⟩
    · walk_at "rd"
      refine ⟨c, _, rfl, ⟨by (first | lia | omega), fun c' h' => ?_⟩, rfl⟩
      by_cases h2 : c' = i + 1
      · subst h2
        exact ⟨by (first | lia | omega), fun z => by (first | lia | omega)⟩
      · exact hF.2 c' (by (first | lia | omega))
  · rintro σ _ ⟨c, o6, rfl, hF, rfl⟩
    have hcC := hF.1
    obtain ⟨d', b', x', hd', hd1', hb', hx'⟩ := at0 c (by (first | lia | omega))
    obtain ⟨x, hx, ex⟩ := vS_some (ns := ns) (g := g) (c := c) (by (first | lia | omega))
    walk_at "rd"
    refine ⟨l, _, _, _, rfl, rfl, SqL.of hl1, atI_nat hd', ?_⟩
    walk_at "rd"
    refine ⟨d', _, rfl, hd1', ?_⟩
    walk_at "rd"
    refine ⟨b', _, ((0 : Nat) : Int), _, rfl, rfl, SqL.of hb', atO (by (first | lia | omega)), ?_⟩
    rw [hx', ← ex]
    walk_at "rd"
    refine ⟨r, l, ns, xs, c, C + 1, g, x, rfl, s1 _ _ hR, hl1, hL, by (first | lia | omega), by (first | lia | omega), hn, hx, fun st ys H2 s2 hst0 hst hP => ?_⟩
    walk_at "rd"
    refine ⟨by show 2 ≤ sizeLine; decide, fun t ht => ?_⟩
    have s3 := Same.new ht (.tup [.int x.1, .ref st])
    have s12 := s1.trans s2
    exact q t st ys x c _ hF hx (s12.trans s3) (s12.free ht) (s1.free hst0) upd_same (s3 _ _ hst) (hP.keep s3)
/-! ### several_paper -/
def pv2 (ns : List Int) (g c i : Nat) : Option Int := val (fb (ns.take i) g c 0)
def Ppr (ok : Addr → Prop) (H : Hp) (ns : List Int) (g m : Nat) (xs : List V) : Prop := xs.length = m ∧ ∀ c, c < m → ∃ a, xs[c]? = some (.ref a) ∧ ok a ∧ H a = some (.lst ((lineOf (ns.length + 1) (pv2 ns g c)).map oV))
theorem line_rev {n : Nat} {f : Nat → Option Int} : ((lineOf (n + 1) f).map oV).reverse = (lineOf (n + 1) (fun i => f (n - i))).map oV := by
  refine List.ext_getElem? fun i => ?_
  have hl : ((lineOf (n + 1) f).map oV).length = n + 1 := by rw [List.length_map, line_len]
  by_cases hi : i < n + 1
  · rw [List.getElem?_reverse (by (first | lia | omega)), hl, List.getElem?_map, List.getElem?_map, line_at (by (first | lia | omega)), line_at hi, show n + 1 - 1 - i = n - i by (first | lia | omega)]
  · rw [List.getElem?_eq_none (by rw [List.length_reverse, hl]; (first | lia | omega)), List.getElem?_eq_none (by rw [List.length_map, line_len]; (first | lia | omega))]
theorem paper_line {ns : List Int} {g c : Nat} : lineOf (ns.length + 1) (fun i => val (fb ns.reverse g c (ns.length - i))) = lineOf (ns.length + 1) (pv2 ns g c) := line_ext fun i hi => by
  rw [fb_rev (by (first | lia | omega)), show ns.length - (ns.length - i) = i by (first | lia | omega)]
  rfl
def sp_spaper : Sp := fun vs H Q _ => ∃ (r : Addr) (ns : List Int) (m g : Nat), vs = [.ref r, .int m, .int g] ∧ H r = some (.lst (ns.map V.int)) ∧ ns.length ≤ 20000 ∧ 1 ≤ m ∧ m ≤ 40000 ∧
  ∀ (l : Addr) (xs : List V) (H' : Hp), Same H H' → H l = none → H' l = some (.lst xs) → Ppr (fun a => H a = none ∧ a ≠ l) H' ns g (m + 1) xs → Q (.ref l) H'
theorem ok_spaper {P : Program} {w : World} {K : PySem.W.Frag} {mg : Str → Option Value} {base : Heap} {k : Nat} {f : Addr} {fd : FuncData} (F : Fun K "several_paper" "several_paper" s_several_paper f fd) (Z : Blt mg)
    (D_refuse_counts : Def P w K mg base k "refuse_counts" ["many", "least", "gap"] sp_counts) (D_lines_of : Def P w K mg base k "lines_of" ["row", "many", "gap"] sp_lines) : FnOk P w K mg base CX0 (k + 1) f fd ["row", "many", "gap"] sp_spaper := by
  refine F.ok sc_several_paper (fun vs H Q E h => ?_) (fun cdv A outer s H vs Q E hr h => ?_)
  · obtain ⟨r, ns, m, g, rfl, _⟩ := h
    rfl
  obtain ⟨r, ns, m, g, rfl, hR, hn, hm1, hm, q⟩ := h
  apply Exists.intro
  apply And.intro
  case left =>
    apply pss_cons
    case h1 =>
      exact (ps_expr (pe_def D_refuse_counts hr rfl (pa_cons (pv 1) (pa_cons pe_int (pa_cons (pv 2) pa_nil)))))
    apply pss_cons
    case h1 =>
      exact (ps_set (i := 3) sc_several_paper.nd rfl (by first | exact Or.inl rfl | exact Or.inr rfl) (pe_def D_lines_of hr rfl (pa_cons (pe_rev (pv 0) (pe_un un_neg pe_int)) (pa_cons (pv 1) (pa_cons (pv 2) pa_nil)))))
    apply pss_one
    exact (ps_ret (pe_lc (N' := ["line"]) (ix := [none]) rfl rfl (by decide +kernel) rfl rfl rfl rfl (pi_list (pv 3)) (fun _ _ _ _ => (pg_name (i := 0) (show List.Nodup (["line"] : List Str) by decide +kernel) rfl (by first | exact Or.inl rfl | exact Or.inr rfl))) (fun _ _ _ _ => pts_nil) (fun _ _ _ _ => (pe_revB (pe_dgetB (hu_of hr) (pv 0) pe_str (fun _ _ => rfl)) (pe_un un_neg pe_int)))))
  have hl : (ns.map V.int).length = ns.length := List.length_map _
  walk_at "rd"
  refine ⟨_, _, _, rfl, by (first | lia | omega), by (first | lia | omega), ?_⟩
  walk_at "rd"
  refine ⟨r, _, rfl, rfl, SqL.of hR, fun p1 hp1 => ?_⟩
  have s1 := Same.new hp1 (.lst (ns.map V.int).reverse)
  have hrl : ns.reverse.length = ns.length := List.length_reverse
  walk_at "rd"
  refine ⟨p1, ns.reverse, m, g, rfl, by rw [upd_same, List.map_reverse], by rw [hrl]; exact hn, hm, fun l xs H1 s2 hl0 hl1 hL => ?_⟩
  have s12 := s1.trans s2
  walk_at "rd"
  refine ⟨⟨_, SqL.of hl1⟩, ?_⟩
  intro acc hacc
  have hxl := hL.1
  refine comp_by (n := m + 1) (fun i τ zs H' => H' acc = some (.lst zs) ∧ Ppr (fun a => H a = none ∧ a ≠ acc) H' ns g i zs ∧ Same H1 H' ∧ ∃ o0, τ = [o0]) ⟨upd_same, ⟨rfl, fun c hc => by (first | lia | omega)⟩, Same.new hacc _, none, rfl⟩ (by (first | lia | omega)) ?_ ?_ ?_ ?_
  · rintro i τ zs H' ⟨e, hp, _⟩
    exact ⟨e, by rw [hp.1]; exact Nat.le_refl _⟩
  · rintro i τ zs H' hi ⟨e, _, sm', _⟩
    exact ⟨_, xs[i]'(by (first | lia | omega)), SqL.of (sm' _ _ hl1), List.getElem?_eq_getElem (by (first | lia | omega))⟩
  · rintro τ zs H4 ⟨e, hp, s4, _⟩
    refine ⟨⟨_, SqL.of (s4 _ _ hl1), by rw [hxl]; exact Nat.le_refl _⟩, ?_⟩
    exact q acc zs H4 (s12.trans s4) (s12.free hacc) e hp
  · rintro i τ zs H4 v H5 hi ⟨e, hp, s4, o0, rfl⟩ ⟨rfl, y⟩
    have ey := y _ (SqL.of (s4 _ _ hl1))
    obtain ⟨d, hd, a, b, ee, hd1, ha, hb, he⟩ := hL.2 i hi
    rw [hd] at ey
    cases ey
    walk_at "rd"
    refine ⟨d, _, rfl, dBest (s4 _ _ hd1), ?_⟩
    walk_at "rd"
    refine ⟨b, _, rfl, rfl, SqL.of (s4 _ _ hb), fun p5 hp5 => ?_⟩
    rw [hrl, line_rev, paper_line]
    have s5 := Same.new hp5 (.lst ((lineOf (ns.length + 1) (pv2 ns g i)).map oV))
    have h5n : p5 ≠ acc := fun z => by rw [z, e] at hp5; cases hp5
    refine ⟨s5 _ _ e, Nx.mk hi ⟨upd_same, ⟨by rw [List.length_append, hp.1]; rfl, fun c hc => ?_⟩, (s4.trans s5).upd hacc, _, rfl⟩⟩
    by_cases z : c = i
    · subst z
      exact ⟨p5, by rw [List.getElem?_append_right (by rw [hp.1]; exact Nat.le_refl _), hp.1, Nat.sub_self]; rfl, ⟨(s12.trans s4).free hp5, h5n⟩, by rw [upd_ne h5n, upd_same]⟩
    · obtain ⟨a', ea, ⟨o1, o2⟩, ha'⟩ := hp.2 c (by (first | lia | omega))
      exact ⟨a', by rw [List.getElem?_append_left (by rw [hp.1]; (first | lia | omega))]; exact ea, ⟨o1, o2⟩, by rw [upd_ne o2]; exact s5 _ _ ha'⟩
/-! ### the reel: a list of two numbers that is changed -/
def SameX (q : Addr) (H H' : Hp) : Prop := ∀ b o, b ≠ q → H b = some o → H' b = some o
theorem SameX.trans {q : Addr} {H H1 H2 : Hp} (a : SameX q H H1) (b : SameX q H1 H2) : SameX q H H2 := fun c o h e => b c o h (a c o h e)
theorem SameX.upd {q p : Addr} {H H' : Hp} {o : HO} (s : SameX q H H') (h : H p = none) : SameX q H (upd H' p o) := fun b u hb e => by
  rw [upd_ne (ne_of_none e h)]
  exact s b u hb e
def Reel (H : Hp) (q : Addr) : Prop := ∃ a b : Int, H q = some (.lst [.int a, .int b]) ∧ 0 ≤ a ∧ 0 ≤ b ∧ b < 2147483647
theorem Reel.keep {H H' : Hp} {q : Addr} (h : Reel H q) (s : Same H H') : Reel H' q := by
  obtain ⟨a, b, e, z⟩ := h
  exact ⟨a, b, s _ _ e, z⟩
theorem Reel.ne {H : Hp} {q p : Addr} (h : Reel H q) (e : H p = none) : p ≠ q := fun z => by
  obtain ⟨a, b, e', _⟩ := h
  rw [z, e'] at e
  cases e
theorem SameX.free {q p : Addr} {H H' : Hp} (s : SameX q H H') (hq : Reel H' q) (h : H' p = none) : H p = none := by
  cases e : H p with
  | none => rfl
  | some o => rw [s p o (hq.ne h) e] at h; cases h
def sp_reel : Sp := fun vs H Q _ => ∃ c : Int, vs = [.int c] ∧ ∀ (q : Addr), H q = none → ∀ H', Same H H' → Reel H' q → Q (.ref q) H'
theorem ok_reel {P : Program} {w : World} {K : PySem.W.Frag} {mg : Str → Option Value} {base : Heap} {k : Nat} {f : Addr} {fd : FuncData} (F : Fun K "_law_reel" "_law_reel" s_law_reel f fd) (Z : Blt mg) : FnOk P w K mg base CX0 (k + 1) f fd ["cell"] sp_reel := by
  refine F.ok sc_law_reel (fun vs H Q E h => ?_) (fun cdv A outer s H vs Q E hr h => ?_)
  · obtain ⟨c, rfl, _⟩ := h
    rfl
  obtain ⟨c, rfl, q⟩ := h
  apply Exists.intro
  apply And.intro
  case left =>
    apply pss_one
    exact (ps_ret (pe_lst (pa_cons (pe_callB call_abs rfl Z.abs_ PyProof.Rows.boot_abs (pa_cons (pv 0) pa_nil)) (pa_cons (pe_op op_mod (pe_op op_mul (pe_op op_add (pe_op op_mod (pv 0) pe_int) pe_int) pe_int) pe_int) pa_nil))))
  walk_at "rd"
  have m1 := mod_lt (a := (c % 2147483647 + 1) * 742938285) (b := 2147483647) (by decide)
  refine ⟨by show 2 ≤ sizeLine; decide, fun p hp => q p hp _ (Same.new hp _) ⟨_, _, upd_same, ?_, m1.1, m1.2⟩⟩
  split <;> (first | lia | omega)
def sp_take : Sp := fun vs H Q _ => ∃ (q : Addr) (m : Int), vs = [.ref q, .int m] ∧ Reel H q ∧ 1 ≤ m ∧ m < 1000000000 ∧ ∀ (n : Int) (H' : Hp), SameX q H H' → Reel H' q → 0 ≤ n → n < m → Q (.int n) H'
theorem ok_take {P : Program} {w : World} {K : PySem.W.Frag} {mg : Str → Option Value} {base : Heap} {k : Nat} {f : Addr} {fd : FuncData} (F : Fun K "_law_take" "_law_take" s_law_take f fd) (Z : Blt mg) : FnOk P w K mg base CX0 (k + 1) f fd ["reel", "many"] sp_take := by
  refine F.ok sc_law_take (fun vs H Q E h => ?_) (fun cdv A outer s H vs Q E hr h => ?_)
  · obtain ⟨q, m, rfl, _⟩ := h
    rfl
  obtain ⟨q, m, rfl, ⟨a, b, hq, ha, hb, hb2⟩, hm1, hm2, fin⟩ := h
  apply Exists.intro
  apply And.intro
  case left =>
    apply pss_cons
    case h1 =>
      apply ps_if
      case hc => exact (pt_cmpR op_ge (pe_ix ix_list (pv 0) pe_int (fun _ _ => rfl)) (pe_op op_pow pe_int pe_int) (nomark _))
      case ha =>
        apply pss_cons
        case h1 =>
          exact (ps_set (i := 2) sc_law_take.nd rfl (by first | exact Or.inl rfl | exact Or.inr rfl) (pe_op op_mod (pe_ix ix_list (pv 0) pe_int (fun _ _ => rfl)) (pv 1)))
        apply pss_cons
        case h1 =>
          exact (ps_asg (pe_op op_fdiv (pe_ix ix_list (pv 0) pe_int (fun _ _ => rfl)) (pv 1)) (pg_sub (pv 0) pe_int set_list (fun _ => rfl)))
        apply pss_one
        exact (ps_ret (pv 2))
      case hb =>
        exact pss_nil
    apply pss_cons
    case h1 =>
      exact (ps_asg (pe_op op_mod (pe_op op_add (pe_op op_mul (pe_ix ix_list (pv 0) pe_int (fun _ _ => rfl)) pe_int) pe_int) pe_int) (pg_sub (pv 0) pe_int set_list (fun _ => rfl)))
    apply pss_cons
    case h1 =>
      exact (ps_set (i := 3) sc_law_take.nd rfl (by first | exact Or.inl rfl | exact Or.inr rfl) (pe_op op_mod (pe_op op_mul (pe_ix ix_list (pv 0) pe_int (fun _ _ => rfl)) (pe_ix ix_list (pv 0) pe_int (fun _ _ => rfl))) pe_int))
    apply pss_one
    exact (ps_ret (pe_op op_mod (pe_op op_fdiv (pe_op op_mod (pe_op op_mul (pv 3) pe_int) pe_int) pe_int) (pv 1)))
  walk_at "rd"
  refine ⟨q, _, 0, _, rfl, rfl, SqL.of hq, rfl, ?_⟩
  walk_at "rd"
  refine ifD (fun hge => ?_) (fun hge => ?_)
  · walk_at "rd"
    refine ⟨q, _, 0, _, rfl, rfl, SqL.of hq, rfl, ?_⟩
    walk_at "rd"
    refine ⟨by (first | lia | omega), ?_⟩
    walk_at "rd"
    refine ⟨q, _, 0, _, rfl, rfl, SqL.of hq, rfl, ?_⟩
    walk_at "rd"
    refine ⟨⟨by (first | lia | omega), by (first | lia | omega)⟩, ?_⟩
    walk_at "rd"
    refine ⟨q, _, 0, 0, rfl, rfl, hq, rfl, ?_⟩
    walk_at "rd"
    have mm := mod_lt (a := a) (b := m) (by (first | lia | omega))
    exact fin _ _ (fun c o hc e => by rw [upd_ne hc]; exact e) ⟨a / m, b, upd_same, Int.ediv_nonneg ha (by (first | lia | omega)), hb, hb2⟩ mm.1 mm.2
  · walk_at "rd"
    refine ⟨q, _, 1, _, rfl, rfl, SqL.of hq, rfl, ?_⟩
    walk_at "rd"
    refine ⟨q, _, 1, 1, rfl, rfl, hq, rfl, ?_⟩
    have m1 := mod_lt (a := b * 48271 + 11) (b := 2147483647) (by decide)
    obtain ⟨b', eb⟩ : ∃ b', b' = (b * 48271 + 11) % 2147483647 := ⟨_, rfl⟩
    have hq2 : upd H q (.lst [.int a, .int b']) q = some (.lst [.int a, .int b']) := upd_same
    show tSeq _ _ _ _ (upd H q (.lst [.int a, .int ((b * 48271 + 11) % 2147483647)]))
    rw [← eb] at m1 ⊢
    walk_at "rd"
    refine ⟨q, _, 1, _, rfl, rfl, SqL.of hq2, rfl, ?_⟩
    walk_at "rd"
    refine ⟨q, _, 1, _, rfl, rfl, SqL.of hq2, rfl, ?_⟩
    refine ⟨_, _, rfl, rfl, cMulL' (by (first | lia | omega)) (by (first | lia | omega)), ?_⟩
    walk_at "rd"
    refine ⟨by (first | lia | omega), ?_⟩
    have mm := mod_lt (a := (b' * b' % 2147483629 * 69621 % 2147483587) / 8) (b := m) (by (first | lia | omega))
    exact fin _ _ (fun c o hc e => by rw [upd_ne hc]; exact e) ⟨a, b', hq2, ha, m1.1, m1.2⟩ mm.1 mm.2
/-! ### _law_row of a reel -/
def sp_rrow : Sp := fun vs H Q _ => ∃ (q : Addr) (m : Int), vs = [.ref q, .int m] ∧ Reel H q ∧ 1 ≤ m ∧ m ≤ 1000 ∧
  ∀ (r : Addr) (ns : List Int) (H' : Hp), SameX q H H' → Reel H' q → H r = none → H' r = some (.lst (ns.map V.int)) → 1 ≤ ns.length → (ns.length : Int) ≤ m → Q (.ref r) H'
theorem ok_rrow {P : Program} {w : World} {K : PySem.W.Frag} {mg : Str → Option Value} {base : Heap} {k : Nat} {f : Addr} {fd : FuncData} (F : Fun K "_law_row" "_law_row" s_law_row f fd) (Z : Blt mg)
    (D_law_take : Def P w K mg base k "_law_take" ["reel", "many"] sp_take) : FnOk P w K mg base CX0 (k + 1) f fd ["reel", "most"] sp_rrow := by
  refine F.ok sc_law_row (fun vs H Q E h => ?_) (fun cdv A outer s H vs Q E hr h => ?_)
  · obtain ⟨q, m, rfl, _⟩ := h
    rfl
  obtain ⟨q, m, rfl, hq, hm1, hm2, fin⟩ := h
  apply Exists.intro
  apply And.intro
  case left =>
    apply pss_cons
    case h1 =>
      exact (ps_set (i := 2) sc_law_row.nd rfl (by first | exact Or.inl rfl | exact Or.inr rfl) (pe_op op_add pe_int (pe_def D_law_take hr rfl (pa_cons (pv 0) (pa_cons (pv 1) pa_nil)))))
    apply pss_cons
    case h1 =>
      exact (ps_set (i := 3) sc_law_row.nd rfl (by first | exact Or.inl rfl | exact Or.inr rfl) (pe_def D_law_take hr rfl (pa_cons (pv 0) (pa_cons pe_int pa_nil))))
    apply pss_cons
    case h1 =>
      exact (ps_set (i := 4) sc_law_row.nd rfl (by first | exact Or.inl rfl | exact Or.inr rfl) (pe_lst pa_nil))
    apply pss_cons
    case h1 =>
      apply ps_for PassesOwn.never rfl
      case hi => exact (pi_range1 rfl Z.range_ (pa_cons (pv 2) pa_nil))
      case hg => exact (pg_name (i := 5) sc_law_row.nd rfl (by first | exact Or.inl rfl | exact Or.inr rfl))
      case hb =>
        apply pss_cons
        case h1 =>
          exact (ps_set (i := 6) sc_law_row.nd rfl (by first | exact Or.inl rfl | exact Or.inr rfl) (pe_op op_sub (pe_def D_law_take hr rfl (pa_cons (pv 0) (pa_cons (pe_ix ix_list (pe_lst (pa_cons pe_int (pa_cons pe_int (pa_cons pe_int (pa_cons pe_int (pa_cons pe_int (pa_cons pe_int pa_nil))))))) (pv 3) (fun _ _ => rfl)) pa_nil))) (pe_ix ix_list (pe_lst (pa_cons pe_int (pa_cons pe_int (pa_cons pe_int (pa_cons pe_int (pa_cons pe_int (pa_cons pe_int pa_nil))))))) (pv 3) (fun _ _ => rfl))))
        apply pss_cons
        case h1 =>
          apply ps_if
          case hc => exact (pt_cmpR op_eq (pv 3) pe_int (nomark _))
          case ha =>
            apply pss_one
            exact (ps_set (i := 6) sc_law_row.nd rfl (by first | exact Or.inl rfl | exact Or.inr rfl) (pe_op op_sub (pv 6) pe_int))
          case hb =>
            exact pss_nil
        apply pss_cons
        case h1 =>
          apply ps_if
          case hc => exact (pt_cmpR op_eq (pv 3) pe_int (nomark _))
          case ha =>
            apply pss_one
            exact (ps_set (i := 6) sc_law_row.nd rfl (by first | exact Or.inl rfl | exact Or.inr rfl) (pe_op op_add (pe_op op_mul (pv 6) (pe_op op_pow pe_int pe_int)) (pe_def D_law_take hr rfl (pa_cons (pv 0) (pa_cons pe_int pa_nil)))))
          case hb =>
            exact pss_nil
        apply pss_cons
        case h1 =>
          apply ps_if
          case hc => exact (pt_cmpR op_eq (pv 3) pe_int (nomark _))
          case ha =>
            apply pss_one
            exact (ps_set (i := 6) sc_law_row.nd rfl (by first | exact Or.inl rfl | exact Or.inr rfl) (pe_op op_mul (pe_ix ix_list (pe_lst (pa_cons pe_int (pa_cons (pe_un un_neg pe_int) pa_nil))) (pe_op op_mod (pv 5) pe_int) (fun _ _ => rfl)) (pe_callB call_abs rfl Z.abs_ PyProof.Rows.boot_abs (pa_cons (pv 6) pa_nil))))
          case hb =>
            exact pss_nil
        apply pss_one
        exact (ps_expr (pe_bm PySem.F.plainAttrs_list PySem.F.slot_list_append PySem.F.type_list_append mt_append (pv 4) (pa_cons (pv 6) pa_nil)))
    apply pss_one
    exact (ps_ret (pv 4))
  walk_at "rd"
  refine ⟨_, _, rfl, hq, by (first | lia | omega), by (first | lia | omega), fun n1 H1 s1 hq1 h1a h1b => ?_⟩
  walk_at "rd"
  refine ⟨_, _, rfl, hq1, by decide, by decide, fun way H2 s2 hq2 h2a h2b => ?_⟩
  walk_at "rd"
  refine ⟨Nat.zero_le _, fun l hl => ?_⟩
  have s3 := (s1.trans s2).upd (p := l) (o := .lst []) ((s1.trans s2).free hq2 hl)
  have hlq : l ≠ q := hq2.ne hl
  have hl0 : H l = none := (s1.trans s2).free hq2 hl
  walk_at "rd"
  refine ⟨by (first | lia | omega), by (first | lia | omega), ?_⟩
  obtain ⟨size, hsz⟩ : ∃ z, z = 1 + n1 := ⟨_, rfl⟩
  refine for_range (fun i σ H' => ∃ (ns : List Int) (o5 o6 : Option V), ns.length = i ∧ SameX q H H' ∧ Reel H' q ∧ H' l = some (.lst (ns.map V.int)) ∧ σ = [some (.ref q), some (.int m), some (.int size), some (.int way), some (.ref l), o5, o6]) ?_ ?_ ?_
  · exact ⟨[], none, none, rfl, s3, hq2.keep (Same.new hl _), upd_same, by rw [hsz]; rfl⟩
  · rintro i σ H3 hi ⟨ns, o5, o6, hlen, sm, hq3, hl3, rfl⟩
    walk_at "rd"
    refine ⟨by show 6 ≤ sizeLine; decide, fun p1 hp1 => ?_⟩
    walk_at "rd"
    obtain ⟨d1, hd1, e1⟩ := pick (ns := [7, 19, 9, 3, 5, 9]) (k := way) (by (first | lia | omega)) (by show way < 6; (first | lia | omega))
    have hd1' : 1 ≤ d1 ∧ d1 ≤ 19 := by
      simp only [List.mem_cons, List.not_mem_nil, or_false] at hd1
      (first | lia | omega)
    refine ⟨p1, _, _, _, rfl, rfl, .of upd_same, e1, ?_⟩
    refine ⟨q, _, rfl, hq3.keep (Same.new hp1 _), by (first | lia | omega), by (first | lia | omega), fun n2 H4 s4 hq4 h4a h4b => ?_⟩
    walk_at "rd"
    refine ⟨by show 6 ≤ sizeLine; decide, fun p2 hp2 => ?_⟩
    walk_at "rd"
    obtain ⟨d2, hd2, e2⟩ := pick (ns := [3, 9, 9, 1, 2, 4]) (k := way) (by (first | lia | omega)) (by show way < 6; (first | lia | omega))
    have hd2' : 1 ≤ d2 ∧ d2 ≤ 9 := by
      simp only [List.mem_cons, List.not_mem_nil, or_false] at hd2
      (first | lia | omega)
    refine ⟨p2, _, _, _, rfl, rfl, .of upd_same, e2, ?_⟩
    have s5 : SameX q H3 (upd H4 p2 (.lst [.int 3, .int 9, .int 9, .int 1, .int 2, .int 4])) := fun b o hb e => Same.new hp2 _ _ _ (s4 b o hb (Same.new hp1 _ _ _ e))
    have hq5 := hq4.keep (Same.new hp2 (.lst [.int 3, .int 9, .int 9, .int 1, .int 2, .int 4]))
    obtain ⟨H5, eH5⟩ : ∃ z, z = upd H4 p2 (.lst [.int 3, .int 9, .int 9, .int 1, .int 2, .int 4]) := ⟨_, rfl⟩
    rw [← eH5] at s5 hq5
    walk_at "rd"
    rw [← eH5]
    refine ifJ (fun σ' H' => ∃ x : Int, -100 ≤ x ∧ x ≤ 100 ∧ H5 = H' ∧ σ' = [some (.ref q), some (.int m), some (.int size), some (.int way), some (.ref l), some (.int (0 + i)), some (.int x)]) ?_ (fun _ => ⟨_, by (first | lia | omega), by (first | lia | omega), rfl, rfl⟩) (fun R hR _ => ?_)
    case refine_2 =>
      walk_at "rd"
      exact hR _ _ ⟨_, by (first | lia | omega), by (first | lia | omega), rfl, rfl⟩
    rintro _ _ ⟨x, hx1, hx2, rfl, rfl⟩
    walk_at "rd"
    refine ifJ (fun σ' H' => ∃ x : Int, SameX q H3 H' ∧ Reel H' q ∧ ((way = 4 → False) → -100 ≤ x ∧ x ≤ 100) ∧ σ' = [some (.ref q), some (.int m), some (.int size), some (.int way), some (.ref l), some (.int (0 + i)), some (.int x)]) ?_ (fun _ => ⟨_, s5, hq5, fun _ => ⟨hx1, hx2⟩, rfl⟩) (fun R hR h4 => ?_)
    case refine_2 =>
      walk_at "rd"
      refine ⟨cMulL' (by (first | lia | omega)) (by (first | lia | omega)), ?_⟩
      walk_at "rd"
      refine ⟨_, _, rfl, hq5, by decide, by decide, fun n3 H6 s6 hq6 h6a h6b => ?_⟩
      walk_at "rd"
      exact hR _ _ ⟨_, s5.trans s6, hq6, fun z => absurd (V.int.inj h4) z, rfl⟩
    rintro _ H6 ⟨y, s6, hq6, hy, rfl⟩
    walk_at "rd"
    refine ifJ (fun σ' H' => ∃ x : Int, SameX q H3 H' ∧ Reel H' q ∧ σ' = [some (.ref q), some (.int m), some (.int size), some (.int way), some (.ref l), some (.int (0 + i)), some (.int x)]) ?_ (fun _ => ⟨_, s6, hq6, rfl⟩) (fun R hR h5 => ?_)
    case refine_2 =>
      have h5' := V.int.inj h5
      have hy' := hy (by (first | lia | omega))
      walk_at "rd"
      refine ⟨by show 2 ≤ sizeLine; decide, fun p3 hp3 => ?_⟩
      walk_at "rd"
      obtain ⟨d3, hd3, e3⟩ := pick (ns := [1, -1]) (k := (0 + i) % 2) (mod_lt (by decide)).1 (mod_lt (by decide)).2
      have hd3' : -2 ≤ d3 ∧ d3 ≤ 2 := by
        simp only [List.mem_cons, List.not_mem_nil, or_false] at hd3
        (first | lia | omega)
      refine ⟨p3, _, _, _, rfl, rfl, .of upd_same, e3, ?_⟩
      refine ⟨_, rfl, _, rfl, _, _, rfl, rfl, cMulL' (by (first | lia | omega)) (by (first | lia | omega)), ?_⟩
      exact hR _ _ ⟨_, fun b o hb e => Same.new hp3 _ _ _ (s6 b o hb e), hq6.keep (Same.new hp3 _), rfl⟩
    rintro _ H7 ⟨x7, s7, hq7, rfl⟩
    have hl7 := s7 _ _ hlq hl3
    walk_at "rd"
    refine ⟨.inl ⟨rfl, _, SqL.of hl7⟩, ?_⟩
    walk_at "rd"
    refine ⟨l, _, _, rfl, rfl, hl7, small (by rw [List.length_map]; (first | lia | omega)), ?_⟩
    refine ⟨ns ++ [x7], _, _, by rw [List.length_append, List.length_singleton, hlen], (sm.trans s7).upd hl0, ?_, by rw [upd_same, List.map_append]; rfl, rfl⟩
    obtain ⟨a, b, e, z⟩ := hq7
    exact ⟨a, b, by rw [upd_ne (Ne.symm hlq)]; exact e, z⟩
  · rintro σ H3 ⟨ns, o5, o6, hlen, sm, hq3, hl3, rfl⟩
    walk_at "rd"
    exact fin l ns H3 sm hq3 hl0 hl3 (by (first | lia | omega)) (by (first | lia | omega))
/-! ### counts that may not be -/
def sp_countsE (C : Addr) : Sp := fun vs H Q E => sp_counts vs H Q E ∨ ∃ m l g : Int, vs = [.int m, .int l, .int g] ∧ (m < l ∨ g < 0) ∧ E (.ref C) none H
theorem ok_countsE {P : Program} {w : World} {K : PySem.W.Frag} {mg : Str → Option Value} {base : Heap} {k : Nat} {f C : Addr} {fd : FuncData} (F : Fun K "refuse_counts" "refuse_counts" s_refuse_counts f fd) (Z : Blt mg)
    (O : PyProof.Rows.OwnCls "NoCount" C bmV "ValueError.__new__" mg base) : FnOk P w K mg base (CXE P w) (k + 1) f fd ["many", "least", "gap"] (sp_countsE C) := by
  refine (ok_counts F Z).toE.two ?_
  refine F.okE sc_refuse_counts (fun vs H Q E h => ?_) (fun cdv A outer s H vs Q E hr h => ?_)
  · obtain ⟨m, l, g, rfl, _⟩ := h
    rfl
  obtain ⟨m, l, g, rfl, hn, q⟩ := h
  refine ⟨_, pss_one (ps_if (PW.pt (pw_or (pt_cmpR op_lt (pv 0) (pv 1) (nomark _)) (pw_or1 (pt_cmpR op_lt (pv 2) pe_int (nomark _))))) (pss_one (ps_raise thrE rfl O PySem.F.excBase_ValueError rfl (pa_cons pe_str pa_nil))) pss_nil), ?_⟩
  walk_at "rd"
  refine ifD (fun _ => ?_) (fun z => ?_)
  · exact ⟨by decide, q⟩
  · walk_at "rd"
    refine ifD (fun _ => ?_) (fun y => absurd hn (by (first | lia | omega)))
    exact ⟨by decide, q⟩
def badC (C : Addr) (l : Int) (sp : Sp) : Sp := fun vs H Q E => sp vs H Q E ∨ ∃ (r : Addr) (m g : Int), vs = [.ref r, .int m, .int g] ∧ (m < l ∨ g < 0) ∧ E (.ref C) none H
theorem ok_apartE {P : Program} {w : World} {K : PySem.W.Frag} {mg : Str → Option Value} {base : Heap} {k : Nat} {f C : Addr} {fd : FuncData} (F : Fun K "best_apart" "best_apart" s_best_apart f fd) (Z : Blt mg)
    (D_refuse_counts : Def P w K mg base k "refuse_counts" ["many", "least", "gap"] sp_counts) (D_room_for : Def P w K mg base k "room_for" ["numbers", "gap"] sp_room) (D_lines_of : Def P w K mg base k "lines_of" ["row", "many", "gap"] sp_lines) (D_stretches_of : Def P w K mg base k "stretches_of" ["row", "lines", "many", "gap"] sp_strs)
    (DE_refuse_counts : DefE P w K mg base k "refuse_counts" ["many", "least", "gap"] (sp_countsE C)) : FnOk P w K mg base (CXE P w) (k + 1) f fd ["row", "many", "gap"] (badC C 1 sp_apart) := by
  refine (ok_apart F Z D_refuse_counts D_room_for D_lines_of D_stretches_of).toE.two ?_
  refine F.okE sc_best_apart (fun vs H Q E h => ?_) (fun cdv A outer s H vs Q E hr h => ?_)
  · obtain ⟨r, m, g, rfl, _⟩ := h
    rfl
  obtain ⟨r, m, g, rfl, hn, q⟩ := h
  refine ⟨_, pss_cons (ps_expr (pe_defE DE_refuse_counts hr rfl passE (pa_cons (pv 1) (pa_cons pe_int (pa_cons (pv 2) pa_nil))))) pss_never, ?_⟩
  walk_at "rd"
  exact .inr ⟨m, _, g, rfl, hn, q⟩
theorem ok_atmostE {P : Program} {w : World} {K : PySem.W.Frag} {mg : Str → Option Value} {base : Heap} {k : Nat} {f C : Addr} {fd : FuncData} (F : Fun K "best_at_most" "best_at_most" s_best_at_most f fd) (Z : Blt mg)
    (D_refuse_counts : Def P w K mg base k "refuse_counts" ["many", "least", "gap"] sp_counts) (D_room_for : Def P w K mg base k "room_for" ["numbers", "gap"] sp_room) (D_lines_of : Def P w K mg base k "lines_of" ["row", "many", "gap"] sp_lines) (D_stretches_of : Def P w K mg base k "stretches_of" ["row", "lines", "many", "gap"] sp_strs)
    (DE_refuse_counts : DefE P w K mg base k "refuse_counts" ["many", "least", "gap"] (sp_countsE C)) : FnOk P w K mg base (CXE P w) (k + 1) f fd ["row", "many", "gap"] (badC C 0 sp_atmost) := by
  refine (ok_atmost F Z D_refuse_counts D_room_for D_lines_of D_stretches_of).toE.two ?_
  refine F.okE sc_best_at_most (fun vs H Q E h => ?_) (fun cdv A outer s H vs Q E hr h => ?_)
  · obtain ⟨r, m, g, rfl, _⟩ := h
    rfl
  obtain ⟨r, m, g, rfl, hn, q⟩ := h
  refine ⟨_, pss_cons (ps_expr (pe_defE DE_refuse_counts hr rfl passE (pa_cons (pv 1) (pa_cons pe_int (pa_cons (pv 2) pa_nil))))) pss_never, ?_⟩
  walk_at "rd"
  exact .inr ⟨m, _, g, rfl, hn, q⟩
theorem ok_spaperE {P : Program} {w : World} {K : PySem.W.Frag} {mg : Str → Option Value} {base : Heap} {k : Nat} {f C : Addr} {fd : FuncData} (F : Fun K "several_paper" "several_paper" s_several_paper f fd) (Z : Blt mg)
    (D_refuse_counts : Def P w K mg base k "refuse_counts" ["many", "least", "gap"] sp_counts) (D_lines_of : Def P w K mg base k "lines_of" ["row", "many", "gap"] sp_lines)
    (DE_refuse_counts : DefE P w K mg base k "refuse_counts" ["many", "least", "gap"] (sp_countsE C)) : FnOk P w K mg base (CXE P w) (k + 1) f fd ["row", "many", "gap"] (badC C 1 sp_spaper) := by
  refine (ok_spaper F Z D_refuse_counts D_lines_of).toE.two ?_
  refine F.okE sc_several_paper (fun vs H Q E h => ?_) (fun cdv A outer s H vs Q E hr h => ?_)
  · obtain ⟨r, m, g, rfl, _⟩ := h
    rfl
  obtain ⟨r, m, g, rfl, hn, q⟩ := h
  refine ⟨_, pss_cons (ps_expr (pe_defE DE_refuse_counts hr rfl passE (pa_cons (pv 1) (pa_cons pe_int (pa_cons (pv 2) pa_nil))))) pss_never, ?_⟩
  walk_at "rd"
  exact .inr ⟨m, _, g, rfl, hn, q⟩
/-! ### several_shows of no paper at all -/
def sp_pform0 : Sp := fun vs H Q _ => ∃ (p : Addr) (n m g : Int), vs = [.ref p, .int n, .int m, .int g] ∧ H p = some (.lst []) ∧ 1 ≤ m ∧ Q (.bl false) H
theorem ok_pform0 {P : Program} {w : World} {K : PySem.W.Frag} {mg : Str → Option Value} {base : Heap} {k : Nat} {f : Addr} {fd : FuncData} (F : Fun K "is_of_form" "is_of_form" s_is_of_form f fd) (Z : Blt mg) : FnOk P w K mg base CX0 (k + 1) f fd ["paper", "numbers", "many", "gap"] sp_pform0 := by
  refine F.ok sc_is_of_form (fun vs H Q E h => ?_) (fun cdv A outer s H vs Q E hr h => ?_)
  · obtain ⟨p, n, m, g, rfl, _⟩ := h
    rfl
  obtain ⟨p, n, m, g, rfl, hp, hm, q⟩ := h
  refine ⟨_, pss_cons (ps_if (pt_cmpR op_ne (pe_callB call_len_seq rfl Z.len_ PySem.boot_len (pa_cons (pv 0) pa_nil)) (pe_op op_add (pv 2) pe_int) (nomark _)) (pss_one (ps_ret pe_bl)) pss_nil) pss_never, ?_⟩
  walk_at "rd"
  refine ⟨p, _, rfl, .inl (SqL.of hp), ?_⟩
  walk_at "rd"
  refine ifIN (fun z => q) (fun z => absurd z ?_)
  show ((([] : List V).length : Nat) : Int) ≠ m + 1
  rw [List.length_nil]
  (first | lia | omega)
def sp_sshow0 (C : Addr) : Sp := fun vs H Q E => ∃ (r p : Addr) (ns : List Int) (m g : Int), vs = [.ref r, .int m, .int g, .ref p] ∧ H r = some (.lst (ns.map V.int)) ∧ H p = some (.lst []) ∧ ((1 ≤ m ∧ 0 ≤ g ∧ Q (.bl false) H) ∨ (m < 1 ∨ g < 0) ∧ E (.ref C) none H)
theorem ok_sshow0 {P : Program} {w : World} {K : PySem.W.Frag} {mg : Str → Option Value} {base : Heap} {k : Nat} {f C : Addr} {fd : FuncData} (F : Fun K "several_shows" "several_shows" s_several_shows f fd) (Z : Blt mg)
    (D_is_of_form : Def P w K mg base k "is_of_form" ["paper", "numbers", "many", "gap"] sp_pform0) (DE_refuse_counts : DefE P w K mg base k "refuse_counts" ["many", "least", "gap"] (sp_countsE C)) : FnOk P w K mg base (CXE P w) (k + 1) f fd ["row", "many", "gap", "paper"] (sp_sshow0 C) := by
  refine F.okE sc_several_shows (fun vs H Q E h => ?_) (fun cdv A outer s H vs Q E hr h => ?_)
  · obtain ⟨r, p, ns, m, g, rfl, _⟩ := h
    rfl
  obtain ⟨r, p, ns, m, g, rfl, hR, hp, hc⟩ := h
  refine ⟨_, pss_cons (ps_expr (pe_defE DE_refuse_counts hr rfl passE (pa_cons (pv 1) (pa_cons pe_int (pa_cons (pv 2) pa_nil))))) (pss_cons (ps_if (pt_not (pt_val (pe_def D_is_of_form hr rfl (pa_cons (pv 3) (pa_cons (pe_callB call_len_seq rfl Z.len_ PySem.boot_len (pa_cons (pv 0) pa_nil)) (pa_cons (pv 1) (pa_cons (pv 2) pa_nil))))))) (pss_one (ps_ret pe_bl)) pss_nil) pss_never), ?_⟩
  walk_at "rd"
  rcases hc with ⟨hm, hg, q⟩ | ⟨hn, q⟩
  · refine .inl ⟨m, _, g, rfl, hm, hg, ?_⟩
    walk_at "rd"
    refine ⟨r, _, rfl, .inl (SqL.of hR), ?_⟩
    walk_at "rd"
    refine ⟨p, _, _, _, rfl, hp, hm, ?_⟩
    walk_at "rd"
    exact iteT q
  · exact .inr ⟨m, _, g, rfl, hn, q⟩
/-! ### _law_asked -/
def sp_asked17 (C : Addr) : Sp := fun vs H Q _ => ∃ (w c g l : Int) (r : Addr) (ns : List Int), vs = [.int w, .ref r, .int c, .int g] ∧ 0 ≤ w ∧ w < 4 ∧ (w = 1 → l = 0) ∧ (w ≠ 1 → l = 1) ∧ H r = some (.lst (ns.map V.int)) ∧ ns.length ≤ 1000 ∧ c ≤ 1000 ∧ g < 2 ^ 150 ∧
  ((c < l ∨ g < 0) → ∀ (a : Addr) (H' : Hp), Same H H' → H' a = some (exV a (.ref C)) → Q (.ref a) H') ∧ (l ≤ c → 0 ≤ g → ∀ H' : Hp, Same H H' → Q .non H')
theorem ok_asked17 {P : Program} {w : World} {K : PySem.W.Frag} {mg : Str → Option Value} {base : Heap} {k : Nat} {f T C c1 c2 c4 c5 c6 c7 c8 : Addr} {fd : FuncData} (F : Fun K "_law_asked" "_law_asked" s_law_asked f fd) (Z : Blt mg) (Y : Errs mg T c1 c2 C c4 c5 c6 c7 c8) {b1 b2 b3 b4 b5 b6 b7 b8 : Bool} (W : Fault K T c1 c2 C c4 c5 c6 c7 c8 C b1 b2 b3 b4 b5 b6 b7 b8)
    (DE_best_apart : DefE P w K mg base k "best_apart" ["row", "many", "gap"] (badC C 1 sp_apart)) (DE_best_at_most : DefE P w K mg base k "best_at_most" ["row", "many", "gap"] (badC C 0 sp_atmost)) (DE_several_paper : DefE P w K mg base k "several_paper" ["row", "many", "gap"] (badC C 1 sp_spaper))
    (DE_several_shows : DefE P w K mg base k "several_shows" ["row", "many", "gap", "paper"] (sp_sshow0 C)) : FnOk P w K mg base CX0 (k + 1) f fd ["way", "row", "count", "gap"] (sp_asked17 C) := by
  refine F.ok sc_law_asked (fun vs H Q E h => ?_) (fun cdv A outer s H vs Q E hr h => ?_)
  · obtain ⟨w, c, g, l, r, ns, rfl, _⟩ := h
    rfl
  obtain ⟨wy, c, g, l, r, ns, rfl, hw0, hw4, hl1, hl2, hR, hn, hc, hg, qB, qG⟩ := h
  apply Exists.intro
  apply And.intro
  case left =>
    apply pss_cons
    case h1 =>
      exact (ps_set (i := 4) sc_law_asked.nd rfl (by first | exact Or.inl rfl | exact Or.inr rfl) pe_non)
    apply pss_cons
    case h1 =>
      refine' ps_tryK (i := 5) sc_law_asked.nd rfl rfl rfl rfl rfl Y.top ?hb ?hh
      case hb => exact fun pins xe E hp => (pss_one (ps_if (pt_cmpR op_eq (pv 0) pe_int (nomark _)) (pss_one (ps_expr (pe_defE DE_best_apart hr rfl hp (pa_cons (pv 1) (pa_cons (pv 2) (pa_cons (pv 3) pa_nil)))))) (pss_one (ps_if (pt_cmpR op_eq (pv 0) pe_int (nomark _)) (pss_one (ps_expr (pe_defE DE_best_at_most hr rfl hp (pa_cons (pv 1) (pa_cons (pv 2) (pa_cons (pv 3) pa_nil)))))) (pss_one (ps_if (pt_cmpR op_eq (pv 0) pe_int (nomark _)) (pss_one (ps_expr (pe_defE DE_several_paper hr rfl hp (pa_cons (pv 1) (pa_cons (pv 2) (pa_cons (pv 3) pa_nil)))))) (pss_one (ps_expr (pe_defE DE_several_shows hr rfl hp (pa_cons (pv 1) (pa_cons (pv 2) (pa_cons (pv 3) (pa_cons (pe_lst pa_nil) pa_nil)))))))))))))
      case hh =>
        intro a o pins C hC
        apply pss_one
        exact (ps_set (i := 4) sc_law_asked.nd rfl (by first | exact Or.inl rfl | exact Or.inr rfl) (pv 5))
    apply pss_one
    exact (ps_ret (pv 4))
  have hX : ∀ (H1 : Hp), Same H H1 → (c < l ∨ g < 0) → PySem.W.exmOne K (.ref C) (.ref T) = some true ∧ ∀ (a : Addr) (σ' : St), H1 a = none → σ'.length = 6 →
      tAsg (tVar 5) (gName 4) (goneK 5 a (.ref C) { nx := tRet (tVar 4) { nx := fun x H' => Q V.non H', rt := Q }, rt := Q }) (σ'.set 5 (some (.ref a))) H1 := fun H1 s1 hb => ⟨W.exm, fun a σ' ha hlen => by
    match σ', hlen with
    | [u0, u1, u2, u3, u4, u5], _ =>
      walk_at "rd"
      exact qB hb a _ (s1.trans (Same.new ha _)) upd_same⟩
  walk_at "rd"
  refine ifI (fun e0 => ?_) (fun n0 => ?_)
  · have el := hl2 (by (first | lia | omega))
    subst el
    walk_at "rd"
    by_cases hb : c < 1 ∨ g < 0
    · exact .inr ⟨r, c, g, rfl, hb, hX H (Same.refl _) hb⟩
    · obtain ⟨m, rfl⟩ : ∃ m : Nat, c = m := ⟨c.toNat, by (first | lia | omega)⟩
      obtain ⟨gg, rfl⟩ : ∃ gg : Nat, g = gg := ⟨g.toNat, by (first | lia | omega)⟩
      refine .inl ⟨r, ns, m, gg, rfl, hR, by (first | lia | omega), by (first | lia | omega), by (first | lia | omega), fun _ => ?_, fun t st ys x H' _ _ sm _ _ _ _ _ => ?_⟩
      · walk_at "rd"
        exact qG (by (first | lia | omega)) (by (first | lia | omega)) _ (Same.refl _)
      · walk_at "rd"
        exact qG (by (first | lia | omega)) (by (first | lia | omega)) _ sm
  walk_at "rd"
  refine ifI (fun e1 => ?_) (fun n1 => ?_)
  · have el := hl1 (by (first | lia | omega))
    subst el
    walk_at "rd"
    by_cases hb : c < 0 ∨ g < 0
    · exact .inr ⟨r, c, g, rfl, hb, hX H (Same.refl _) hb⟩
    · obtain ⟨m, rfl⟩ : ∃ m : Nat, c = m := ⟨c.toNat, by (first | lia | omega)⟩
      obtain ⟨gg, rfl⟩ : ∃ gg : Nat, g = gg := ⟨g.toNat, by (first | lia | omega)⟩
      refine .inl ⟨r, ns, m, gg, rfl, hR, by (first | lia | omega), by (first | lia | omega), fun t st ys x cc H' _ _ sm _ _ _ _ _ => ?_⟩
      walk_at "rd"
      exact qG (by (first | lia | omega)) (by (first | lia | omega)) _ sm
  have el := hl2 (by (first | lia | omega))
  subst el
  walk_at "rd"
  refine ifI (fun e2 => ?_) (fun n2 => ?_)
  · walk_at "rd"
    by_cases hb : c < 1 ∨ g < 0
    · exact .inr ⟨r, c, g, rfl, hb, hX H (Same.refl _) hb⟩
    · obtain ⟨m, rfl⟩ : ∃ m : Nat, c = m := ⟨c.toNat, by (first | lia | omega)⟩
      obtain ⟨gg, rfl⟩ : ∃ gg : Nat, g = gg := ⟨g.toNat, by (first | lia | omega)⟩
      refine .inl ⟨r, ns, m, gg, rfl, hR, by (first | lia | omega), by (first | lia | omega), by (first | lia | omega), fun l xs H' sm _ _ _ => ?_⟩
      walk_at "rd"
      exact qG (by (first | lia | omega)) (by (first | lia | omega)) _ sm
  walk_at "rd"
  refine ⟨Nat.zero_le _, fun p hp => ?_⟩
  have s1 := Same.new hp (.lst [])
  refine ⟨r, p, ns, c, g, rfl, s1 _ _ hR, upd_same, ?_⟩
  by_cases hb : c < 1 ∨ g < 0
  · exact .inr ⟨hb, hX _ s1 hb⟩
  · refine .inl ⟨by (first | lia | omega), by (first | lia | omega), ?_⟩
    walk_at "rd"
    exact qG (by (first | lia | omega)) (by (first | lia | omega)) _ s1
/-! ### _law_is_right -/
def sp_right17 (C : Addr) : Sp := fun vs H Q _ => (vs = [.non, .bl false] ∧ Q (.bl true) H) ∨ ∃ a : Addr, vs = [.ref a, .bl true] ∧ H a = some (exV a (.ref C)) ∧ ∀ H', Same H H' → Q (.bl true) H'
theorem ok_right17 {P : Program} {w : World} {K : PySem.W.Frag} {mg : Str → Option Value} {base : Heap} {k : Nat} {f T C c1 c2 c4 c5 c6 c7 c8 : Addr} {fd : FuncData} (F : Fun K "_law_is_right" "_law_is_right" s_law_is_right f fd) (Z : Blt mg) (Y : Errs mg T c1 c2 C c4 c5 c6 c7 c8) (W : Fault K T c1 c2 C c4 c5 c6 c7 c8 C false false true false false false false false) : FnOk P w K mg base CX0 (k + 1) f fd ["found", "due"] (sp_right17 C) := by
  refine F.ok sc_law_is_right (fun vs H Q E h => ?_) (fun cdv A outer s H vs Q E hr h => ?_)
  · rcases h with ⟨rfl, _⟩ | ⟨a, rfl, _⟩ <;> rfl
  apply Exists.intro
  apply And.intro
  case left =>
    apply pss_cons
    case h1 =>
      apply ps_if
      case hc => exact (pt_not (pt_val (pv 1)))
      case ha =>
        apply pss_one
        exact (ps_ret (pe_cmpR op_isN (pv 0) pe_non (nomark _)))
      case hb =>
        exact pss_nil
    apply pss_cons
    case h1 =>
      apply ps_if
      case hc => exact (pt_val (pe_callB (call_isXT rfl) rfl Z.isinstance_ PyProof.Rows.boot_isinstance (pa_cons (pv 0) (pa_cons (pe_tup (pa_cons (pe_glob (v := .ref _) rfl Y.n2 rfl) (pa_cons (pe_glob (v := .ref _) rfl Y.n4 rfl) (pa_cons (pe_glob (v := .ref _) rfl Y.n8 rfl) (pa_cons (pe_glob (v := .ref _) rfl Y.n6 rfl) (pa_cons (pe_glob (v := .ref _) rfl Y.n1 rfl) (pa_cons (pe_glob (v := .ref _) rfl Y.n5 rfl) (pa_cons (pe_glob (v := .ref _) rfl Y.n7 rfl) pa_nil)))))))) pa_nil))))
      case ha =>
        apply pss_one
        exact (ps_ret pe_bl)
      case hb =>
        exact pss_nil
    apply pss_one
    exact (ps_ret (pe_and (pe_callB (call_isX rfl) rfl Z.isinstance_ PyProof.Rows.boot_isinstance (pa_cons (pv 0) (pa_cons (pe_glob (v := .ref _) rfl Y.n3 rfl) pa_nil))) (pe_one (pe_callB (call_isX rfl) rfl Z.isinstance_ PyProof.Rows.boot_isinstance (pa_cons (pv 0) (pa_cons (pe_bltn (v := .ty "ValueError") rfl Y.val boot_VE rfl) pa_nil))))))
  rcases h with ⟨rfl, q⟩ | ⟨a, rfl, ha, q⟩
  · walk_at "rd"
    exact q
  · walk_at "rd"
    refine ⟨by show 7 ≤ sizeLine; decide, fun t ht => ?_⟩
    have s1 := Same.new ht (.tup [.ref c2, .ref c4, .ref c8, .ref c6, .ref c1, .ref c5, .ref c7])
    refine ⟨a, C, t, [c2, c4, c8, c6, c1, c5, c7], false, rfl, SqT.of upd_same, s1 _ _ ha, W.exk, kitAny_none fun c hc => ?_, ?_⟩
    · simp only [List.map_cons, List.map_nil, List.mem_cons, List.not_mem_nil, or_false] at hc
      rcases hc with rfl | rfl | rfl | rfl | rfl | rfl | rfl
      · exact W.k2
      · exact W.k4
      · exact W.k8
      · exact W.k6
      · exact W.k1
      · exact W.k5
      · exact W.k7
    walk_at "rd"
    refine ⟨a, C, _, _, true, rfl, s1 _ _ ha, W.exk, .inl ⟨_, rfl, rfl⟩, W.k3, ?_⟩
    walk_at "rd"
    refine ⟨a, C, _, _, true, rfl, s1 _ _ ha, W.exk, .inr ⟨_, rfl, rfl⟩, W.kv, ?_⟩
    exact q _ s1
/-! ### lists of pairs of numbers, lists of truths -/
def PairsOf (H : Hp) (xs : List V) (φ : Int → Int → Prop) : Prop := ∀ (i : Nat) (v : V), xs[i]? = some v → ∃ (p : Addr) (a b : Int), v = .ref p ∧ H p = some (.tup [.int a, .int b]) ∧ φ a b
theorem PairsOf.nil {H : Hp} {φ : Int → Int → Prop} : PairsOf H [] φ := fun i v e => by simp at e
theorem PairsOf.cons {H : Hp} {p : Addr} {a b : Int} {xs : List V} {φ : Int → Int → Prop} (h : H p = some (.tup [.int a, .int b])) (q : φ a b) (t : PairsOf H xs φ) : PairsOf H (.ref p :: xs) φ := fun i v e => by
  cases i with
  | zero => simp at e; exact ⟨p, a, b, e.symm, h, q⟩
  | succ i => exact t i v (by simpa using e)
theorem PairsOf.keep {H H' : Hp} {xs : List V} {φ : Int → Int → Prop} (h : PairsOf H xs φ) (s : Same H H') : PairsOf H' xs φ := fun i v e => by
  obtain ⟨p, a, b, rfl, hp, q⟩ := h i v e
  exact ⟨p, a, b, rfl, s _ _ hp, q⟩
def dueB (j : Int) (n : Nat) : List Bool := (List.range n).map fun (i : Nat) => decide ((0 : Int) + (i : Int) = j)
/-! ### _law_room_right -/
def sp_room17 : Sp := fun vs H Q _ => ∃ (q r : Addr) (ns : List Int), vs = [.ref q, .ref r] ∧ Reel H q ∧ r ≠ q ∧ H r = some (.lst (ns.map V.int)) ∧ 1 ≤ ns.length ∧ ns.length ≤ 1000 ∧ ∀ H', SameX q H H' → Reel H' q → Q (.bl true) H'
theorem ok_room17 {P : Program} {w : World} {K : PySem.W.Frag} {mg : Str → Option Value} {base : Heap} {k : Nat} {f : Addr} {fd : FuncData} (F : Fun K "_law_room_right" "_law_room_right" s_law_room_right f fd) (Z : Blt mg)
    (D_law_take : Def P w K mg base k "_law_take" ["reel", "many"] sp_take) (D_best_apart : Def P w K mg base k "best_apart" ["row", "many", "gap"] sp_apart) : FnOk P w K mg base CX0 (k + 1) f fd ["reel", "row"] sp_room17 := by
  refine F.ok sc_law_room_right (fun vs H Q E h => ?_) (fun cdv A outer s H vs Q E hr h => ?_)
  · obtain ⟨q, r, ns, rfl, _⟩ := h
    rfl
  obtain ⟨q, r, ns, rfl, hq, hrq, hR, hn1, hn2, fin⟩ := h
  apply Exists.intro
  apply And.intro
  case left =>
    apply pss_cons
    case h1 =>
      exact (ps_set (i := 2) sc_law_room_right.nd rfl (by first | exact Or.inl rfl | exact Or.inr rfl) (pe_ix ix_list (pe_lst (pa_cons pe_int (pa_cons pe_int (pa_cons (pe_def D_law_take hr rfl (pa_cons (pv 0) (pa_cons pe_int pa_nil))) (pa_cons (pe_callB call_len_seq rfl Z.len_ PySem.boot_len (pa_cons (pv 1) pa_nil)) (pa_cons (pe_op op_pow pe_int pe_int) pa_nil)))))) (pe_def D_law_take hr rfl (pa_cons (pv 0) (pa_cons pe_int pa_nil))) (fun _ _ => rfl)))
    apply pss_cons
    case h1 =>
      exact (ps_set (i := 3) sc_law_room_right.nd rfl (by first | exact Or.inl rfl | exact Or.inr rfl) (pe_op op_fdivL (pe_op op_add (pe_callB call_len_seq rfl Z.len_ PySem.boot_len (pa_cons (pv 1) pa_nil)) (pv 2)) (pe_op op_add pe_int (pv 2))))
    apply pss_cons
    case h1 =>
      apply ps_for PassesOwn.never rfl
      case hi => exact (pi_list (pe_lst (pa_cons (pv 3) (pa_cons (pe_op op_add (pv 3) pe_int) (pa_cons (pe_op op_add (pe_op op_add (pv 3) pe_int) (pe_def D_law_take hr rfl (pa_cons (pv 0) (pa_cons pe_int pa_nil)))) (pa_cons (pe_op op_pow pe_int pe_int) pa_nil))))))
      case hg => exact (pg_name (i := 4) sc_law_room_right.nd rfl (by first | exact Or.inl rfl | exact Or.inr rfl))
      case hb =>
        apply pss_one
        apply ps_if
        case hc => exact (pt_cmpR op_ne (pe_cmpR op_isN (pe_def D_best_apart hr rfl (pa_cons (pv 1) (pa_cons (pv 4) (pa_cons (pv 2) pa_nil)))) pe_non (nomark _)) (pe_cmpR op_gt (pv 4) (pv 3) (nomark _)) (nomark _))
        case ha =>
          apply pss_one
          exact (ps_ret pe_bl)
        case hb =>
          exact pss_nil
    apply pss_one
    exact (ps_ret pe_bl)
  have hl : (ns.map V.int).length = ns.length := List.length_map _
  walk_at "rd"
  refine ⟨_, _, rfl, hq, by decide, by decide, fun n1 H1 s1 hq1 h1a h1b => ?_⟩
  have hR1 := s1 _ _ hrq hR
  walk_at "rd"
  refine ⟨r, _, rfl, .inl (SqL.of hR1), ?_⟩
  rw [hl]
  walk_at "rd"
  refine ⟨by show 5 ≤ sizeLine; decide, fun p1 hp1 => ?_⟩
  walk_at "rd"
  refine ⟨_, _, rfl, hq1.keep (Same.new hp1 _), by decide, by decide, fun n2 H2 s2 hq2 h2a h2b => ?_⟩
  have hp2 : H2 p1 = some (.lst (([0, 1, n1, (ns.length : Int), 10 ^ 29] : List Int).map V.int)) := s2 _ _ (hq1.ne hp1) upd_same
  have hR2 := s2 _ _ hrq (Same.new hp1 _ _ _ hR1)
  have S2 : SameX q H H2 := s1.trans (fun b o hb e => s2 _ _ hb (Same.new hp1 _ _ _ e))
  obtain ⟨d, hd, ed⟩ := pick (ns := [0, 1, n1, (ns.length : Int), 10 ^ 29]) (k := n2) (by (first | lia | omega)) (by show n2 < 5; (first | lia | omega))
  have hd' : 0 ≤ d ∧ d ≤ 10 ^ 29 := by
    simp only [List.mem_cons, List.not_mem_nil, or_false] at hd
    (first | lia | omega)
  refine ⟨p1, _, _, _, rfl, rfl, SqL.of hp2, ed, ?_⟩
  obtain ⟨g, rfl⟩ : ∃ g : Nat, d = g := ⟨d.toNat, by (first | lia | omega)⟩
  have hg : g < 2 ^ 150 := by (first | lia | omega)
  walk_at "rd"
  refine ⟨r, _, rfl, .inl (SqL.of hR2), ?_⟩
  rw [hl]
  walk_at "rd"
  refine ⟨⟨by (first | lia | omega), by (first | lia | omega)⟩, ?_⟩
  have ediv : ((ns.length : Int) + g) / (1 + g) = (((ns.length + g) / (1 + g) : Nat) : Int) := by push_cast; rfl
  have hge : 1 ≤ (ns.length + g) / (1 + g) := (Nat.le_div_iff_mul_le (by (first | lia | omega))).mpr (by (first | lia | omega))
  dsimp only [gName]
  rw [ediv]
  obtain ⟨room, hroom⟩ : ∃ room, room = (ns.length + g) / (1 + g) := ⟨_, rfl⟩
  rw [← hroom] at hge ⊢
  walk_at "rd"
  refine ⟨_, _, rfl, hq2, by decide, by decide, fun n3 H3 s3 hq3 h3a h3b => ?_⟩
  walk_at "rd"
  refine ⟨by show 4 ≤ sizeLine; decide, fun p3 hp3 => ?_⟩
  have hR3 := s3 _ _ hrq hR2
  have S3 := S2.trans s3
  refine ⟨p3, rfl, ⟨_, SqL.of upd_same⟩, ?_⟩
  refine for_list (xs := ([(room : Int), (room : Int) + 1, (room : Int) + 1 + n3, 10 ^ 29] : List Int).map V.int) (fun i σ H' => ∃ o4, Same H3 H' ∧ H' p3 = some (.lst (([(room : Int), (room : Int) + 1, (room : Int) + 1 + n3, 10 ^ 29] : List Int).map V.int)) ∧ σ = [some (.ref q), some (.ref r), some (.int g), some (.int room), o4]) ⟨_, Same.new hp3 _, upd_same, rfl⟩ ?_ ?_ ?_
  · rintro i σ H' _ ⟨_, _, e, _⟩
    exact SqL.of e
  · rintro i x σ H4 hx ⟨o4, s4, hp4, rfl⟩
    obtain ⟨hi, rfl⟩ := int_at hx
    obtain ⟨c, ec⟩ : ∃ c, c = ([(room : Int), (room : Int) + 1, (room : Int) + 1 + n3, 10 ^ 29] : List Int)[i] := ⟨_, rfl⟩
    have hc : 1 ≤ c := by
      have hm : c ∈ ([(room : Int), (room : Int) + 1, (room : Int) + 1 + n3, 10 ^ 29] : List Int) := by rw [ec]; exact List.getElem_mem _
      simp only [List.mem_cons, List.not_mem_nil, or_false] at hm
      (first | lia | omega)
    rw [← ec]
    obtain ⟨m, rfl⟩ : ∃ m : Nat, c = m := ⟨c.toNat, by (first | lia | omega)⟩
    walk_at "rd"
    refine ⟨r, ns, m, g, rfl, s4 _ _ hR3, by (first | lia | omega), by (first | lia | omega), hg, fun hN => ?_, fun t st ys x H5 hx hm sm _ _ _ _ _ => ?_⟩
    · walk_at "rd"
      have hlt : (room : Int) < m := by
        by_cases z : m ≤ room
        · exact absurd hN (fb_room (.inr ⟨by (first | lia | omega), room_le (hroom ▸ z)⟩))
        · (first | lia | omega)
      refine ifN (fun z => absurd ?_ z) (fun _ => ⟨_, s4, hp4, rfl⟩)
      show V.bl (decide (V.non = V.non)) = V.bl (decide ((room : Int) < m))
      rw [decide_eq_true hlt, decide_eq_true (rfl : V.non = V.non)]
    · walk_at "rd"
      have hlt : ¬ (room : Int) < m := fun z => by
        have h1 := room_gt (n := ns.length) (g := g) (m := m) (hroom ▸ (by (first | lia | omega)))
        have h2 := fb_noroom (ns := ns) (g := g) (c := m) (p := 0) (by (first | lia | omega)) (by (first | lia | omega))
        rw [hx] at h2
        cases h2
      refine ifN (fun z => absurd ?_ z) (fun _ => ⟨_, s4.trans sm, sm _ _ hp4, rfl⟩)
      show V.bl (decide (V.ref t = V.non)) = V.bl (decide ((room : Int) < m))
      rw [decide_eq_false hlt, decide_eq_false (nofun : ¬ V.ref t = V.non)]
  · rintro σ H4 ⟨o4, s4, _, rfl⟩
    walk_at "rd"
    exact fin _ (fun b o hb e => s4 _ _ (S3 b o hb e)) (hq3.keep s4)
/-! ### the law -/
theorem ok_law {P : Program} {w : World} {K : PySem.W.Frag} {mg : Str → Option Value} {base : Heap} {k : Nat} {f C : Addr} {fd : FuncData} (F : Fun K "law" "law" s_law f fd) (Z : Blt mg)
    (D_law_reel : Def P w K mg base k "_law_reel" ["cell"] sp_reel) (D_law_take : Def P w K mg base k "_law_take" ["reel", "many"] sp_take) (D_law_row : Def P w K mg base k "_law_row" ["reel", "most"] sp_rrow) (D_law_room_right : Def P w K mg base k "_law_room_right" ["reel", "row"] sp_room17)
    (D_law_asked : Def P w K mg base k "_law_asked" ["way", "row", "count", "gap"] (sp_asked17 C)) (D_law_is_right : Def P w K mg base k "_law_is_right" ["found", "due"] (sp_right17 C)) : FnOk P w K mg base CX0 (k + 1) f fd ["script"] (sp_law K) := by
  refine F.ok sc_law (fun vs H Q E h => ?_) (fun cdv A outer s H vs Q E hr h => ?_)
  · obtain ⟨a, ns, rfl, _⟩ := h
    rfl
  obtain ⟨a, cs, rfl, hS, hz, q⟩ := h
  apply Exists.intro
  apply And.intro
  case left =>
    apply pss_cons
    case h1 =>
      apply ps_for PassesOwn.never rfl
      case hi => exact (pi_list (pe_op op_cat (pe_slice sl_list (pv 0) po_none (po_some pe_int)) (pe_lst (pa_cons (pe_callB call_len_seq rfl Z.len_ PySem.boot_len (pa_cons (pv 0) pa_nil)) pa_nil))))
      case hg => exact (pg_name (i := 1) sc_law.nd rfl (by first | exact Or.inl rfl | exact Or.inr rfl))
      case hb =>
        apply pss_cons
        case h1 =>
          exact (ps_set (i := 2) sc_law.nd rfl (by first | exact Or.inl rfl | exact Or.inr rfl) (pe_def D_law_reel hr rfl (pa_cons (pv 1) pa_nil)))
        apply pss_cons
        case h1 =>
          exact (ps_set (i := 3) sc_law.nd rfl (by first | exact Or.inl rfl | exact Or.inr rfl) (pe_def D_law_row hr rfl (pa_cons (pv 2) (pa_cons pe_int pa_nil))))
        apply pss_cons
        case h1 =>
          exact (ps_set (i := 4) sc_law.nd rfl (by first | exact Or.inl rfl | exact Or.inr rfl) (pe_callTy call_list_of rfl Z.list_ PyProof.Rows.boot_list (pa_cons (pv 3) pa_nil)))
        apply pss_cons
        case h1 =>
          apply ps_if
          case hc => exact (pt_not (pt_val (pe_def D_law_room_right hr rfl (pa_cons (pv 2) (pa_cons (pv 4) pa_nil)))))
          case ha =>
            apply pss_one
            exact (ps_ret pe_bl)
          case hb =>
            exact pss_nil
        apply pss_cons
        case h1 =>
          exact (ps_set (i := 5) sc_law.nd rfl (by first | exact Or.inl rfl | exact Or.inr rfl) (pe_ix ix_list (pe_lst (pa_cons pe_int (pa_cons pe_int (pa_cons (pe_op op_pow pe_int pe_int) pa_nil)))) (pe_def D_law_take hr rfl (pa_cons (pv 2) (pa_cons pe_int pa_nil))) (fun _ _ => rfl)))
        apply pss_cons
        case h1 =>
          apply ps_for PassesOwn.never rfl
          case hi => exact (pi_list (pe_lst (pa_cons (pe_tup (pa_cons pe_int (pa_cons pe_int pa_nil))) (pa_cons (pe_tup (pa_cons pe_int (pa_cons (pe_un un_neg (pv 5)) pa_nil))) (pa_cons (pe_tup (pa_cons (pe_op op_sub pe_int (pv 5)) (pa_cons pe_int pa_nil))) (pa_cons (pe_tup (pa_cons (pe_un un_neg (pv 5)) (pa_cons (pe_un un_neg (pv 5)) pa_nil))) (pa_cons (pe_tup (pa_cons pe_int (pa_cons pe_int pa_nil))) (pa_cons (pe_tup (pa_cons pe_int (pa_cons pe_int pa_nil))) (pa_cons (pe_tup (pa_cons pe_int (pa_cons (pe_un un_neg pe_int) pa_nil))) (pa_cons (pe_tup (pa_cons pe_int (pa_cons (pe_op op_pow pe_int pe_int) pa_nil))) pa_nil))))))))))
          case hg => exact (pg_tup (n := 2) rfl (pgs_cons (pg_name (i := 6) sc_law.nd rfl (by first | exact Or.inl rfl | exact Or.inr rfl)) (pgs_cons (pg_name (i := 7) sc_law.nd rfl (by first | exact Or.inl rfl | exact Or.inr rfl)) pgs_nil)))
          case hb =>
            apply pss_one
            apply ps_for PassesOwn.never rfl
            case hi => exact (pi_range1 rfl Z.range_ (pa_cons pe_int pa_nil))
            case hg => exact (pg_name (i := 8) sc_law.nd rfl (by first | exact Or.inl rfl | exact Or.inr rfl))
            case hb =>
              apply pss_cons
              case h1 =>
                exact (ps_set (i := 9) sc_law.nd rfl (by first | exact Or.inl rfl | exact Or.inr rfl) (pe_callTy call_int1 rfl Z.int_ PyProof.Rows.boot_int (pa_cons (pe_cmpR op_ne (pv 8) pe_int (nomark _)) pa_nil)))
              apply pss_one
              apply ps_if
              case hc => exact (pt_not (pt_val (pe_def D_law_is_right hr rfl (pa_cons (pe_def D_law_asked hr rfl (pa_cons (pv 8) (pa_cons (pv 4) (pa_cons (pv 6) (pa_cons (pv 7) pa_nil))))) (pa_cons (pe_or (pe_cmpR op_lt (pv 6) (pv 9) (nomark _)) (pe_one (pe_cmpR op_lt (pv 7) pe_int (nomark _)))) pa_nil)))))
              case ha =>
                apply pss_one
                exact (ps_ret pe_bl)
              case hb =>
                exact pss_nil
        apply pss_one
        apply ps_if
        case hc => exact (pt_cmpR (op_neD hr) (pv 4) (pv 3) (nomark _))
        case ha =>
          apply pss_one
          exact (ps_ret pe_bl)
        case hb =>
          exact pss_nil
    apply pss_one
    exact (ps_ret pe_bl)
  have hl : (cs.map V.int).length = cs.length := List.length_map _
  walk_at "rd"
  refine ⟨a, _, rfl, hS, fun p1 hp1 => ?_⟩
  have s1 := Same.new hp1 (.lst (cutV (cs.map V.int) none (some 12)))
  walk_at "rd"
  refine ⟨a, _, rfl, .inl (s1.seq hS), ?_⟩
  refine ⟨by show 1 ≤ sizeLine; decide, fun p2 hp2 => ?_⟩
  have h12 : p1 ≠ p2 := fun z => by subst z; rw [upd_same] at hp2; cases hp2
  have e10 : cutV (cs.map V.int) none (some 12) = (cs.take 12).map V.int := cut_front (m := 12)
  refine ⟨p1, p2, _, _, rfl, rfl, by rw [upd_ne h12, upd_same], upd_same, ?_, fun p3 hp3 => ?_⟩
  · rw [e10, List.length_map, List.length_take]
    refine Nat.le_of_lt (small ?_)
    show min 12 cs.length + 1 ≤ 100000
    (first | lia | omega)
  obtain ⟨ds, ecs⟩ : ∃ ds : List Int, cutV (cs.map V.int) none (some 12) ++ [V.int (((cs.map V.int).length : Nat) : Int)] = ds.map V.int := ⟨cs.take 12 ++ [(((cs.map V.int).length : Nat) : Int)], by rw [e10, List.map_append]; rfl⟩
  rw [ecs]
  obtain ⟨H1, eH1⟩ : ∃ H1, H1 = upd (upd (upd H p1 (.lst (cutV (cs.map V.int) none (some 12)))) p2 (.lst [V.int (((cs.map V.int).length : Nat) : Int)])) p3 (.lst (ds.map V.int)) := ⟨_, rfl⟩
  have hpc : H1 p3 = some (.lst (ds.map V.int)) := by rw [eH1, upd_same]
  rw [← eH1]
  refine ⟨_, rfl, ⟨_, SqL.of hpc⟩, ?_⟩
  refine for_list (xs := ds.map V.int) (fun i σ H' => ∃ o1 o2 o3 o4 o5 o6 o7 o8 o9, Same H1 H' ∧ σ = [some (.ref a), o1, o2, o3, o4, o5, o6, o7, o8, o9]) ⟨_, _, _, _, _, _, _, _, _, Same.refl _, rfl⟩ ?_ ?_ ?_
  · rintro i σ H' _ ⟨_, _, _, _, _, _, _, _, _, sm, _⟩
    exact SqL.of (sm _ _ hpc)
  · rintro i x σ H2 hx ⟨o1, o2, o3, o4, o5, o6, o7, o8, o9, S2, rfl⟩
    obtain ⟨hi, rfl⟩ := int_at hx
    obtain ⟨cell, ecell⟩ : ∃ z, z = ds[i] := ⟨_, rfl⟩
    rw [← ecell]
    walk_at "rd"
    refine fun qr hqr H3 s3 hq3 => ?_
    have S3 := S2.trans s3
    have nq : H1 qr = none := S2.free hqr
    have old : ∀ {Ha Hb : Hp}, Same H1 Ha → SameX qr Ha Hb → Same H1 Hb := fun {Ha Hb} sa sb b o e => sb b o (ne_of_none e nq) (sa b o e)
    walk_at "rd"
    refine ⟨_, _, rfl, hq3, by decide, by decide, fun r ns H4 s4 hq4 hr0 hR4 hn1 hn8 => ?_⟩
    have S4 := old S3 s4
    have rne : r ≠ qr := hq3.ne hr0
    walk_at "rd"
    refine ⟨r, _, rfl, .inl (SqL.of hR4), fun hd hhd => ?_⟩
    have s5 := Same.new hhd (.lst (ns.map V.int))
    have hh5 : upd H4 hd (.lst (ns.map V.int)) hd = some (.lst (ns.map V.int)) := upd_same
    have hq5 := hq4.keep s5
    have hR5 := s5 _ _ hR4
    have S5 := S4.trans s5
    have dne : hd ≠ qr := hq4.ne hhd
    generalize upd H4 hd (.lst (ns.map V.int)) = H5 at s5 hh5 hq5 hR5 S5 ⊢
    walk_at "rd"
    refine ⟨qr, hd, ns, rfl, hq5, dne, hh5, hn1, by (first | lia | omega), fun H6 s6 hq6 => ?_⟩
    have S6 := old S5 s6
    have hh6 := s6 _ _ dne hh5
    have hR6 := s6 _ _ rne hR5
    walk_at "rd"
    refine ⟨by show 3 ≤ sizeLine; decide, fun p7 hp7 => ?_⟩
    walk_at "rd"
    refine ⟨_, _, rfl, hq6.keep (Same.new hp7 _), by decide, by decide, fun n8 H8 s8 hq8 h8a h8b => ?_⟩
    have hp8 : H8 p7 = some (.lst (([1, 2, 10 ^ 20] : List Int).map V.int)) := s8 _ _ (hq6.ne hp7) upd_same
    obtain ⟨far, hfar, efar⟩ := pick (ns := [1, 2, 10 ^ 20]) (k := n8) (by (first | lia | omega)) (by show n8 < 3; (first | lia | omega))
    have hfar' : 1 ≤ far ∧ far ≤ 10 ^ 20 := by
      simp only [List.mem_cons, List.not_mem_nil, or_false] at hfar
      (first | lia | omega)
    refine ⟨p7, _, _, _, rfl, rfl, SqL.of hp8, efar, ?_⟩
    have S8 := old (S6.trans (Same.new hp7 _)) s8
    have hh8 := s8 _ _ dne (Same.new hp7 _ _ _ hh6)
    have hR8 := s8 _ _ rne (Same.new hp7 _ _ _ hR6)
    walk_at "rd"
    refine ⟨by show 2 ≤ sizeLine; decide, fun t1 g1 => ?_⟩
    have w1 := Same.new g1 (.tup [.int 0, .int 0])
    walk_at "rd"
    refine ⟨by show 2 ≤ sizeLine; decide, fun t2 g2 => ?_⟩
    have w2 := Same.new g2 (.tup [.int 1, .int (-far)])
    walk_at "rd"
    refine ⟨by show 2 ≤ sizeLine; decide, fun t3 g3 => ?_⟩
    have w3 := Same.new g3 (.tup [.int (1 - far), .int 2])
    walk_at "rd"
    refine ⟨by show 2 ≤ sizeLine; decide, fun t4 g4 => ?_⟩
    have w4 := Same.new g4 (.tup [.int (-far), .int (-far)])
    walk_at "rd"
    refine ⟨by show 2 ≤ sizeLine; decide, fun t5 g5 => ?_⟩
    have w5 := Same.new g5 (.tup [.int 1, .int 0])
    walk_at "rd"
    refine ⟨by show 2 ≤ sizeLine; decide, fun t6 g6 => ?_⟩
    have w6 := Same.new g6 (.tup [.int 2, .int 1])
    walk_at "rd"
    refine ⟨by show 2 ≤ sizeLine; decide, fun t7 g7 => ?_⟩
    have w7 := Same.new g7 (.tup [.int 0, .int (-1)])
    walk_at "rd"
    refine ⟨by show 2 ≤ sizeLine; decide, fun t8 g8 => ?_⟩
    have w8 := Same.new g8 (.tup [.int 0, .int (10 ^ 29)])
    walk_at "rd"
    refine ⟨by show 8 ≤ sizeLine; decide, fun pl hpl => ?_⟩
    have W8 := w8.trans (Same.new hpl (.lst [.ref t1, .ref t2, .ref t3, .ref t4, .ref t5, .ref t6, .ref t7, .ref t8]))
    have W7 := w7.trans W8
    have W6 := w6.trans W7
    have W5 := w5.trans W6
    have W4 := w4.trans W5
    have W3 := w3.trans W4
    have W2 := w2.trans W3
    have W1 := w1.trans W2
    have PP := PairsOf.cons (φ := fun a b => a ≤ 2 ∧ b ≤ 10 ^ 29) (W2 _ _ upd_same) ⟨by (first | lia | omega), by (first | lia | omega)⟩ (PairsOf.cons (W3 _ _ upd_same) ⟨by (first | lia | omega), by (first | lia | omega)⟩ (PairsOf.cons (W4 _ _ upd_same) ⟨by (first | lia | omega), by (first | lia | omega)⟩ (PairsOf.cons (W5 _ _ upd_same) ⟨by (first | lia | omega), by (first | lia | omega)⟩ (PairsOf.cons (W6 _ _ upd_same) ⟨by (first | lia | omega), by (first | lia | omega)⟩ (PairsOf.cons (W7 _ _ upd_same) ⟨by (first | lia | omega), by (first | lia | omega)⟩ (PairsOf.cons (W8 _ _ upd_same) ⟨by (first | lia | omega), by (first | lia | omega)⟩ (PairsOf.cons ((Same.new hpl _) _ _ upd_same) ⟨by (first | lia | omega), Int.le_refl _⟩ .nil)))))))
    have hh9 := W1 _ _ hh8
    have hR9 := W1 _ _ hR8
    have S9 := S8.trans W1
    refine ⟨pl, rfl, ⟨_, SqL.of upd_same⟩, ?_⟩
    refine for_list (xs := [.ref t1, .ref t2, .ref t3, .ref t4, .ref t5, .ref t6, .ref t7, .ref t8]) (fun i σ H' => ∃ o6 o7 o8 o9, Same H8 H' ∧ H' pl = some (.lst [.ref t1, .ref t2, .ref t3, .ref t4, .ref t5, .ref t6, .ref t7, .ref t8]) ∧ PairsOf H' [.ref t1, .ref t2, .ref t3, .ref t4, .ref t5, .ref t6, .ref t7, .ref t8] (fun a b => a ≤ 2 ∧ b ≤ 10 ^ 29) ∧ σ = [some (.ref a), some (.int cell), some (.ref qr), some (.ref r), some (.ref hd), some (.int far), o6, o7, o8, o9]) ⟨_, _, _, _, W1, upd_same, PP, rfl⟩ ?_ ?_ ?_
    · rintro i σ H' _ ⟨_, _, _, _, _, e, _⟩
      exact SqL.of e
    · rintro j y σ H9 hy ⟨o6, o7, o8, o9, s9, hpl9, PP9, rfl⟩
      obtain ⟨tp, c, g, rfl, htp, hc2, hg2⟩ := PP9 j y hy
      refine ⟨tp, _, rfl, SqT.of htp, rfl, _, _, rfl, _, _, rfl, rfl, ?_⟩
      walk_at "rd"
      refine ⟨by decide, by decide, ?_⟩
      refine for_range (fun v σ H' => ∃ o8 o9, Same H9 H' ∧ σ = [some (.ref a), some (.int cell), some (.ref qr), some (.ref r), some (.ref hd), some (.int far), some (.int c), some (.int g), o8, o9]) ⟨_, _, Same.refl _, rfl⟩ ?_ ?_
      · rintro v σ Ha hv ⟨o8, o9, sa, rfl⟩
        have hv4 : v < 4 := hv
        walk_at "rd"
        refine .inr ⟨_, rfl, ?_⟩
        have el : (if (!decide (V.int (0 + (v : Int)) = V.int 1)) = true then (1 : Int) else 0) = if v = 1 then 0 else 1 := by
          rw [dec_ints]
          by_cases z : v = 1
          · subst z; decide
          · rw [decide_eq_false (show ¬ (0 : Int) + (v : Int) = 1 by (first | lia | omega)), if_neg z]; rfl
        obtain ⟨l, hl0⟩ : ∃ l : Int, l = if v = 1 then 0 else 1 := ⟨_, rfl⟩
        rw [el, ← hl0]
        have hlv : (v = 1 → l = 0) ∧ (v ≠ 1 → l = 1) := by rw [hl0]; exact ⟨fun z => if_pos z, fun z => if_neg z⟩
        have Sa := s9.trans sa
        walk_at "rd"
        refine ⟨0 + (v : Int), c, g, l, hd, ns, rfl, by (first | lia | omega), by (first | lia | omega), fun z => hlv.1 (by (first | lia | omega)), fun z => hlv.2 (by (first | lia | omega)), Sa _ _ hh8, by (first | lia | omega), by (first | lia | omega), by (first | lia | omega), fun hb e He se he => ?_, fun hb1 hb2 He se => ?_⟩
        · walk_at "rd"
          refine ifD (fun z => ?_) (fun z => ?_)
          · refine .inr ⟨e, rfl, he, fun Hf sf => ?_⟩
            walk_at "rd"
            exact ⟨_, _, sa.trans (se.trans sf), rfl⟩
          · walk_at "rd"
            refine .inr ⟨e, ?_, he, fun Hf sf => ?_⟩
            · show [V.ref e, V.bl (decide (g < 0))] = _
              rw [decide_eq_true (show g < 0 by (first | lia | omega))]
            · walk_at "rd"
              exact ⟨_, _, sa.trans (se.trans sf), rfl⟩
        · walk_at "rd"
          refine ifD (fun z => absurd z (by (first | lia | omega))) (fun z => ?_)
          walk_at "rd"
          refine .inl ⟨?_, ?_⟩
          · show [V.non, V.bl (decide (g < 0))] = _
            rw [decide_eq_false (show ¬ g < 0 by (first | lia | omega))]
          · walk_at "rd"
            exact ⟨_, _, sa.trans se, rfl⟩
      · rintro σ Ha ⟨o8, o9, sa, rfl⟩
        exact ⟨_, _, _, _, s9.trans sa, sa _ _ hpl9, PP9.keep sa, rfl⟩
    · rintro σ H9 ⟨o6, o7, o8, o9, s9, _, _, rfl⟩
      walk_at "rd"
      refine ⟨0, _, EqD.ints (SqL.of (s9 _ _ hh8)) (SqL.of (s9 _ _ hR8)), by decide, _, rfl, ?_⟩
      rw [decide_eq_true rfl]
      refine iteF ?_
      exact ⟨_, _, _, _, _, _, _, _, _, S8.trans s9, rfl⟩
  · rintro σ H' ⟨o1, o2, o3, o4, o5, o6, o7, o8, o9, sm, rfl⟩
    walk_at "rd"
    exact q _
theorem of1 {us : List Value} (h : us.length = 1) : ∃ x0, us = [x0] := by
  match us, h with
  | [x0], _ => exact ⟨_, rfl⟩
theorem of2 {us : List Value} (h : us.length = 2) : ∃ x0 x1, us = [x0, x1] := by
  match us, h with
  | [x0, x1], _ => exact ⟨_, _, rfl⟩
theorem of3 {us : List Value} (h : us.length = 3) : ∃ x0 x1 x2, us = [x0, x1, x2] := by
  match us, h with
  | [x0, x1, x2], _ => exact ⟨_, _, _, rfl⟩
theorem of4 {us : List Value} (h : us.length = 4) : ∃ x0 x1 x2 x3, us = [x0, x1, x2, x3] := by
  match us, h with
  | [x0, x1, x2, x3], _ => exact ⟨_, _, _, _, rfl⟩
theorem all_mk {l : PySem.W.OpenLaw} {w : World} {K : PySem.W.Frag} {h : Heap} {mg : Str → Option Value} {fa f0 f1 f2 f3 f4 f5 f6 f7 f8 f9 f10 f11 f12 f13 f14 f15 f16 f17 f18 f19 f20 f21 C0 C1 C2 C3 C4 C5 C6 C7 C8 : Addr} (X : K.In h) (G : h.Ns mainGlobals mg) (hfa : mg "law" = some (.ref fa))
    {od0 an0 od1 an1 od2 an2 od3 an3 od4 an4 od5 an5 od6 an6 od7 an7 od8 an8 od9 an9 od10 an10 od11 an11 od12 an12 od13 an13 od14 an14 od15 an15 od16 an16 od17 an17 od18 an18 od19 an19 od20 an20 od21 an21 : Option Addr} {sl0 sl1 sl2 sl3 sl4 sl5 sl6 sl7 sl8 sl9 sl10 sl11 sl12 sl13 sl14 sl15 sl16 sl17 sl18 sl19 sl20 sl21 : Array (Option Value)} {oc0 kV0 dc0 pm0 cd0 ct0 oc1 kV1 dc1 pm1 cd1 ct1 oc2 kV2 dc2 pm2 cd2 ct2 oc3 kV3 dc3 pm3 cd3 ct3 oc4 kV4 dc4 pm4 cd4 ct4 oc5 kV5 dc5 pm5 cd5 ct5 oc6 kV6 dc6 pm6 cd6 ct6 oc7 kV7 dc7 pm7 cd7 ct7 oc8 kV8 dc8 pm8 cd8 ct8 oc9 kV9 dc9 pm9 cd9 ct9 oc10 kV10 dc10 pm10 cd10 ct10 oc11 kV11 dc11 pm11 cd11 ct11 oc12 kV12 dc12 pm12 cd12 ct12 oc13 kV13 dc13 pm13 cd13 ct13 oc14 kV14 dc14 pm14 cd14 ct14 oc15 kV15 dc15 pm15 cd15 ct15 oc16 kV16 dc16 pm16 cd16 ct16 oc17 kV17 dc17 pm17 cd17 ct17 oc18 kV18 dc18 pm18 cd18 ct18 oc19 kV19 dc19 pm19 cd19 ct19 oc20 kV20 dc20 pm20 cd20 ct20 oc21 kV21 dc21 pm21 cd21 ct21 : Value}
    (a0 : PySem.W.nsIn K mainGlobals "refuse_counts" = some (some (.ref f0))) (l0 : K.lookup f0 = some ⟨oc0, od0, .func (PySem.W.fnOf "refuse_counts" "refuse_counts" (defArgs s_refuse_counts) (defBody s_refuse_counts) (defScope s_refuse_counts) .none kV0 dc0 pm0 an0 cd0 ct0), sl0⟩) (c0 : PySem.W.codeIn K cd0 "refuse_counts" = true) (k0 : PySem.W.keepIn K (.ref f0) = true)
    (a1 : PySem.W.nsIn K mainGlobals "room_for" = some (some (.ref f1))) (l1 : K.lookup f1 = some ⟨oc1, od1, .func (PySem.W.fnOf "room_for" "room_for" (defArgs s_room_for) (defBody s_room_for) (defScope s_room_for) .none kV1 dc1 pm1 an1 cd1 ct1), sl1⟩) (c1 : PySem.W.codeIn K cd1 "room_for" = true) (k1 : PySem.W.keepIn K (.ref f1) = true)
    (a2 : PySem.W.nsIn K mainGlobals "greater_of" = some (some (.ref f2))) (l2 : K.lookup f2 = some ⟨oc2, od2, .func (PySem.W.fnOf "greater_of" "greater_of" (defArgs s_greater_of) (defBody s_greater_of) (defScope s_greater_of) .none kV2 dc2 pm2 an2 cd2 ct2), sl2⟩) (c2 : PySem.W.codeIn K cd2 "greater_of" = true) (k2 : PySem.W.keepIn K (.ref f2) = true)
    (a3 : PySem.W.nsIn K mainGlobals "begun_line" = some (some (.ref f3))) (l3 : K.lookup f3 = some ⟨oc3, od3, .func (PySem.W.fnOf "begun_line" "begun_line" (defArgs s_begun_line) (defBody s_begun_line) (defScope s_begun_line) .none kV3 dc3 pm3 an3 cd3 ct3), sl3⟩) (c3 : PySem.W.codeIn K cd3 "begun_line" = true) (k3 : PySem.W.keepIn K (.ref f3) = true)
    (a4 : PySem.W.nsIn K mainGlobals "best_line" = some (some (.ref f4))) (l4 : K.lookup f4 = some ⟨oc4, od4, .func (PySem.W.fnOf "best_line" "best_line" (defArgs s_best_line) (defBody s_best_line) (defScope s_best_line) .none kV4 dc4 pm4 an4 cd4 ct4), sl4⟩) (c4 : PySem.W.codeIn K cd4 "best_line" = true) (k4 : PySem.W.keepIn K (.ref f4) = true)
    (a5 : PySem.W.nsIn K mainGlobals "behind_line" = some (some (.ref f5))) (l5 : K.lookup f5 = some ⟨oc5, od5, .func (PySem.W.fnOf "behind_line" "behind_line" (defArgs s_behind_line) (defBody s_behind_line) (defScope s_behind_line) .none kV5 dc5 pm5 an5 cd5 ct5), sl5⟩) (c5 : PySem.W.codeIn K cd5 "behind_line" = true) (k5 : PySem.W.keepIn K (.ref f5) = true)
    (a6 : PySem.W.nsIn K mainGlobals "lines_of" = some (some (.ref f6))) (l6 : K.lookup f6 = some ⟨oc6, od6, .func (PySem.W.fnOf "lines_of" "lines_of" (defArgs s_lines_of) (defBody s_lines_of) (defScope s_lines_of) .none kV6 dc6 pm6 an6 cd6 ct6), sl6⟩) (c6 : PySem.W.codeIn K cd6 "lines_of" = true) (k6 : PySem.W.keepIn K (.ref f6) = true)
    (a7 : PySem.W.nsIn K mainGlobals "first_from" = some (some (.ref f7))) (l7 : K.lookup f7 = some ⟨oc7, od7, .func (PySem.W.fnOf "first_from" "first_from" (defArgs s_first_from) (defBody s_first_from) (defScope s_first_from) .none kV7 dc7 pm7 an7 cd7 ct7), sl7⟩) (c7 : PySem.W.codeIn K cd7 "first_from" = true) (k7 : PySem.W.keepIn K (.ref f7) = true)
    (a8 : PySem.W.nsIn K mainGlobals "beyond_from" = some (some (.ref f8))) (l8 : K.lookup f8 = some ⟨oc8, od8, .func (PySem.W.fnOf "beyond_from" "beyond_from" (defArgs s_beyond_from) (defBody s_beyond_from) (defScope s_beyond_from) .none kV8 dc8 pm8 an8 cd8 ct8), sl8⟩) (c8 : PySem.W.codeIn K cd8 "beyond_from" = true) (k8 : PySem.W.keepIn K (.ref f8) = true)
    (a9 : PySem.W.nsIn K mainGlobals "stretches_of" = some (some (.ref f9))) (l9 : K.lookup f9 = some ⟨oc9, od9, .func (PySem.W.fnOf "stretches_of" "stretches_of" (defArgs s_stretches_of) (defBody s_stretches_of) (defScope s_stretches_of) .none kV9 dc9 pm9 an9 cd9 ct9), sl9⟩) (c9 : PySem.W.codeIn K cd9 "stretches_of" = true) (k9 : PySem.W.keepIn K (.ref f9) = true)
    (a10 : PySem.W.nsIn K mainGlobals "best_apart" = some (some (.ref f10))) (l10 : K.lookup f10 = some ⟨oc10, od10, .func (PySem.W.fnOf "best_apart" "best_apart" (defArgs s_best_apart) (defBody s_best_apart) (defScope s_best_apart) .none kV10 dc10 pm10 an10 cd10 ct10), sl10⟩) (c10 : PySem.W.codeIn K cd10 "best_apart" = true) (k10 : PySem.W.keepIn K (.ref f10) = true)
    (a11 : PySem.W.nsIn K mainGlobals "best_at_most" = some (some (.ref f11))) (l11 : K.lookup f11 = some ⟨oc11, od11, .func (PySem.W.fnOf "best_at_most" "best_at_most" (defArgs s_best_at_most) (defBody s_best_at_most) (defScope s_best_at_most) .none kV11 dc11 pm11 an11 cd11 ct11), sl11⟩) (c11 : PySem.W.codeIn K cd11 "best_at_most" = true) (k11 : PySem.W.keepIn K (.ref f11) = true)
    (a12 : PySem.W.nsIn K mainGlobals "several_paper" = some (some (.ref f12))) (l12 : K.lookup f12 = some ⟨oc12, od12, .func (PySem.W.fnOf "several_paper" "several_paper" (defArgs s_several_paper) (defBody s_several_paper) (defScope s_several_paper) .none kV12 dc12 pm12 an12 cd12 ct12), sl12⟩) (c12 : PySem.W.codeIn K cd12 "several_paper" = true) (k12 : PySem.W.keepIn K (.ref f12) = true)
    (a13 : PySem.W.nsIn K mainGlobals "is_of_form" = some (some (.ref f13))) (l13 : K.lookup f13 = some ⟨oc13, od13, .func (PySem.W.fnOf "is_of_form" "is_of_form" (defArgs s_is_of_form) (defBody s_is_of_form) (defScope s_is_of_form) .none kV13 dc13 pm13 an13 cd13 ct13), sl13⟩) (c13 : PySem.W.codeIn K cd13 "is_of_form" = true) (k13 : PySem.W.keepIn K (.ref f13) = true)
    (a14 : PySem.W.nsIn K mainGlobals "several_shows" = some (some (.ref f14))) (l14 : K.lookup f14 = some ⟨oc14, od14, .func (PySem.W.fnOf "several_shows" "several_shows" (defArgs s_several_shows) (defBody s_several_shows) (defScope s_several_shows) .none kV14 dc14 pm14 an14 cd14 ct14), sl14⟩) (c14 : PySem.W.codeIn K cd14 "several_shows" = true) (k14 : PySem.W.keepIn K (.ref f14) = true)
    (a15 : PySem.W.nsIn K mainGlobals "_law_reel" = some (some (.ref f15))) (l15 : K.lookup f15 = some ⟨oc15, od15, .func (PySem.W.fnOf "_law_reel" "_law_reel" (defArgs s_law_reel) (defBody s_law_reel) (defScope s_law_reel) .none kV15 dc15 pm15 an15 cd15 ct15), sl15⟩) (c15 : PySem.W.codeIn K cd15 "_law_reel" = true) (k15 : PySem.W.keepIn K (.ref f15) = true)
    (a16 : PySem.W.nsIn K mainGlobals "_law_take" = some (some (.ref f16))) (l16 : K.lookup f16 = some ⟨oc16, od16, .func (PySem.W.fnOf "_law_take" "_law_take" (defArgs s_law_take) (defBody s_law_take) (defScope s_law_take) .none kV16 dc16 pm16 an16 cd16 ct16), sl16⟩) (c16 : PySem.W.codeIn K cd16 "_law_take" = true) (k16 : PySem.W.keepIn K (.ref f16) = true)
    (a17 : PySem.W.nsIn K mainGlobals "_law_row" = some (some (.ref f17))) (l17 : K.lookup f17 = some ⟨oc17, od17, .func (PySem.W.fnOf "_law_row" "_law_row" (defArgs s_law_row) (defBody s_law_row) (defScope s_law_row) .none kV17 dc17 pm17 an17 cd17 ct17), sl17⟩) (c17 : PySem.W.codeIn K cd17 "_law_row" = true) (k17 : PySem.W.keepIn K (.ref f17) = true)
    (a18 : PySem.W.nsIn K mainGlobals "_law_asked" = some (some (.ref f18))) (l18 : K.lookup f18 = some ⟨oc18, od18, .func (PySem.W.fnOf "_law_asked" "_law_asked" (defArgs s_law_asked) (defBody s_law_asked) (defScope s_law_asked) .none kV18 dc18 pm18 an18 cd18 ct18), sl18⟩) (c18 : PySem.W.codeIn K cd18 "_law_asked" = true) (k18 : PySem.W.keepIn K (.ref f18) = true)
    (a19 : PySem.W.nsIn K mainGlobals "_law_is_right" = some (some (.ref f19))) (l19 : K.lookup f19 = some ⟨oc19, od19, .func (PySem.W.fnOf "_law_is_right" "_law_is_right" (defArgs s_law_is_right) (defBody s_law_is_right) (defScope s_law_is_right) .none kV19 dc19 pm19 an19 cd19 ct19), sl19⟩) (c19 : PySem.W.codeIn K cd19 "_law_is_right" = true) (k19 : PySem.W.keepIn K (.ref f19) = true)
    (a20 : PySem.W.nsIn K mainGlobals "_law_room_right" = some (some (.ref f20))) (l20 : K.lookup f20 = some ⟨oc20, od20, .func (PySem.W.fnOf "_law_room_right" "_law_room_right" (defArgs s_law_room_right) (defBody s_law_room_right) (defScope s_law_room_right) .none kV20 dc20 pm20 an20 cd20 ct20), sl20⟩) (c20 : PySem.W.codeIn K cd20 "_law_room_right" = true) (k20 : PySem.W.keepIn K (.ref f20) = true)
    (a21 : PySem.W.nsIn K mainGlobals "law" = some (some (.ref f21))) (l21 : K.lookup f21 = some ⟨oc21, od21, .func (PySem.W.fnOf "law" "law" (defArgs s_law) (defBody s_law) (defScope s_law) .none kV21 dc21 pm21 an21 cd21 ct21), sl21⟩) (c21 : PySem.W.codeIn K cd21 "law" = true) (k21 : PySem.W.keepIn K (.ref f21) = true)
    (z0 : PySem.W.nsIn K mainGlobals "len" = some none)
    (z1 : PySem.W.nsIn K mainGlobals "range" = some none)
    (z2 : PySem.W.nsIn K mainGlobals "isinstance" = some none)
    (z3 : PySem.W.nsIn K mainGlobals "int" = some none)
    (z4 : PySem.W.nsIn K mainGlobals "bool" = some none)
    (z5 : PySem.W.nsIn K mainGlobals "tuple" = some none)
    (z6 : PySem.W.nsIn K mainGlobals "list" = some none)
    (z7 : PySem.W.nsIn K mainGlobals "sum" = some none)
    (z8 : PySem.W.nsIn K mainGlobals "abs" = some none)
    (z9 : PySem.W.nsIn K mainGlobals "min" = some none)
    (z10 : PySem.W.nsIn K mainGlobals "max" = some none)
    (z11 : PySem.W.nsIn K mainGlobals "zip" = some none)
    (z12 : PySem.W.nsIn K mainGlobals "enumerate" = some none)
    (z13 : PySem.W.nsIn K mainGlobals "all" = some none)
    (z14 : PySem.W.nsIn K mainGlobals "str" = some none)
    (e0 : PySem.W.nsIn K mainGlobals "TopError" = some (some (.ref C0)))
    (e1 : PySem.W.nsIn K mainGlobals "NoStretch" = some (some (.ref C1)))
    (e2 : PySem.W.nsIn K mainGlobals "NoLength" = some (some (.ref C2)))
    (e3 : PySem.W.nsIn K mainGlobals "NoCount" = some (some (.ref C3)))
    (e4 : PySem.W.nsIn K mainGlobals "NoPlace" = some (some (.ref C4)))
    (e5 : PySem.W.nsIn K mainGlobals "NoText" = some (some (.ref C5)))
    (e6 : PySem.W.nsIn K mainGlobals "NoShape" = some (some (.ref C6)))
    (e7 : PySem.W.nsIn K mainGlobals "NoneYet" = some (some (.ref C7)))
    (e8 : PySem.W.nsIn K mainGlobals "NoRound" = some (some (.ref C8)))
    (ev : PySem.W.nsIn K mainGlobals "ValueError" = some none)
    (q3 : PySem.W.excIn K C3 [.type "ValueError", .type "Exception", .type "BaseException", .type "object"] "ValueError.__new__" = true)
    (x3 : PySem.W.exmOne K (.ref C3) (.ref C0) = some true)
    (kk3_1 : PySem.W.kitOne K (.ref C3) (.ref C1) = some false)
    (kk3_2 : PySem.W.kitOne K (.ref C3) (.ref C2) = some false)
    (kk3_3 : PySem.W.kitOne K (.ref C3) (.ref C3) = some true)
    (kk3_4 : PySem.W.kitOne K (.ref C3) (.ref C4) = some false)
    (kk3_5 : PySem.W.kitOne K (.ref C3) (.ref C5) = some false)
    (kk3_6 : PySem.W.kitOne K (.ref C3) (.ref C6) = some false)
    (kk3_7 : PySem.W.kitOne K (.ref C3) (.ref C7) = some false)
    (kk3_8 : PySem.W.kitOne K (.ref C3) (.ref C8) = some false)
    (kv3 : PySem.W.kitOne K (.ref C3) (.type "ValueError") = some true)
    (ga3 : PySem.W.findIn K (.ref C3) "__getattribute__" = some (some (.builtin "BaseException.__getattribute__")))
    (gg3 : PySem.W.findIn K (.ref C3) "__getattr__" = some none)
    (gh3 : PySem.W.mroIn K C3 (.type "BaseException") = some true)
    (gb3 : (PySem.W.clsIn K C3).isSome = true)
    (gc3 : PySem.W.findIn K (.ref C3) "__class__" = some (some (.builtin "object.__class__")))
    (gd3 : PySem.W.specialIn K (.builtin "object.__class__") "__get__" = some (some (.builtin "getset_descriptor.__get__")))
    (ge3 : PySem.W.takesIn K (.builtin "object.__class__") = some true)
    (gf3 : PySem.W.mroIn K C3 (.type "object") = some true) :
    ∃ fd : FuncData, (∀ (s : Shared) (v : Value), BindsTo s fd ⟨[v], []⟩ [("script", v)]) ∧ ∀ base : Heap, K.In base → base.Ns mainGlobals mg → FnOk l.prog w K mg base CX0 31 fa fd ["script"] (sp_law K) := by
  have e := hfa.symm.trans (PySem.W.mg_of X G a21)
  cases e
  have Z : Blt mg := ⟨PySem.W.mg_none_of X G z0, PySem.W.mg_none_of X G z1, PySem.W.mg_none_of X G z2, PySem.W.mg_none_of X G z3, PySem.W.mg_none_of X G z4, PySem.W.mg_none_of X G z5, PySem.W.mg_none_of X G z6, PySem.W.mg_none_of X G z7, PySem.W.mg_none_of X G z8, PySem.W.mg_none_of X G z9, PySem.W.mg_none_of X G z10, PySem.W.mg_none_of X G z11, PySem.W.mg_none_of X G z12, PySem.W.mg_none_of X G z13, PySem.W.mg_none_of X G z14⟩
  have F0 := fun_mk (st := s_refuse_counts) l0 c0 k0
  have b0 := F0.binds (ps := ["many", "least", "gap"]) fun _ _ _ _ _ _ us hl => by obtain ⟨_, _, _, rfl⟩ := of3 hl; rfl
  have F1 := fun_mk (st := s_room_for) l1 c1 k1
  have b1 := F1.binds (ps := ["numbers", "gap"]) fun _ _ _ _ _ _ us hl => by obtain ⟨_, _, rfl⟩ := of2 hl; rfl
  have F2 := fun_mk (st := s_greater_of) l2 c2 k2
  have b2 := F2.binds (ps := ["one", "other"]) fun _ _ _ _ _ _ us hl => by obtain ⟨_, _, rfl⟩ := of2 hl; rfl
  have F3 := fun_mk (st := s_begun_line) l3 c3 k3
  have b3 := F3.binds (ps := ["row", "behind"]) fun _ _ _ _ _ _ us hl => by obtain ⟨_, _, rfl⟩ := of2 hl; rfl
  have F4 := fun_mk (st := s_best_line) l4 c4 k4
  have b4 := F4.binds (ps := ["begun"]) fun _ _ _ _ _ _ us hl => by obtain ⟨_, rfl⟩ := of1 hl; rfl
  have F5 := fun_mk (st := s_behind_line) l5 c5 k5
  have b5 := F5.binds (ps := ["best", "gap"]) fun _ _ _ _ _ _ us hl => by obtain ⟨_, _, rfl⟩ := of2 hl; rfl
  have F6 := fun_mk (st := s_lines_of) l6 c6 k6
  have b6 := F6.binds (ps := ["row", "many", "gap"]) fun _ _ _ _ _ _ us hl => by obtain ⟨_, _, _, rfl⟩ := of3 hl; rfl
  have F7 := fun_mk (st := s_first_from) l7 c7 k7
  have b7 := F7.binds (ps := ["line", "start"]) fun _ _ _ _ _ _ us hl => by obtain ⟨_, _, rfl⟩ := of2 hl; rfl
  have F8 := fun_mk (st := s_beyond_from) l8 c8 k8
  have b8 := F8.binds (ps := ["row", "first", "total", "behind"]) fun _ _ _ _ _ _ us hl => by obtain ⟨_, _, _, _, rfl⟩ := of4 hl; rfl
  have F9 := fun_mk (st := s_stretches_of) l9 c9 k9
  have b9 := F9.binds (ps := ["row", "lines", "many", "gap"]) fun _ _ _ _ _ _ us hl => by obtain ⟨_, _, _, _, rfl⟩ := of4 hl; rfl
  have F10 := fun_mk (st := s_best_apart) l10 c10 k10
  have b10 := F10.binds (ps := ["row", "many", "gap"]) fun _ _ _ _ _ _ us hl => by obtain ⟨_, _, _, rfl⟩ := of3 hl; rfl
  have F11 := fun_mk (st := s_best_at_most) l11 c11 k11
  have b11 := F11.binds (ps := ["row", "many", "gap"]) fun _ _ _ _ _ _ us hl => by obtain ⟨_, _, _, rfl⟩ := of3 hl; rfl
  have F12 := fun_mk (st := s_several_paper) l12 c12 k12
  have b12 := F12.binds (ps := ["row", "many", "gap"]) fun _ _ _ _ _ _ us hl => by obtain ⟨_, _, _, rfl⟩ := of3 hl; rfl
  have F13 := fun_mk (st := s_is_of_form) l13 c13 k13
  have b13 := F13.binds (ps := ["paper", "numbers", "many", "gap"]) fun _ _ _ _ _ _ us hl => by obtain ⟨_, _, _, _, rfl⟩ := of4 hl; rfl
  have F14 := fun_mk (st := s_several_shows) l14 c14 k14
  have b14 := F14.binds (ps := ["row", "many", "gap", "paper"]) fun _ _ _ _ _ _ us hl => by obtain ⟨_, _, _, _, rfl⟩ := of4 hl; rfl
  have F15 := fun_mk (st := s_law_reel) l15 c15 k15
  have b15 := F15.binds (ps := ["cell"]) fun _ _ _ _ _ _ us hl => by obtain ⟨_, rfl⟩ := of1 hl; rfl
  have F16 := fun_mk (st := s_law_take) l16 c16 k16
  have b16 := F16.binds (ps := ["reel", "many"]) fun _ _ _ _ _ _ us hl => by obtain ⟨_, _, rfl⟩ := of2 hl; rfl
  have F17 := fun_mk (st := s_law_row) l17 c17 k17
  have b17 := F17.binds (ps := ["reel", "most"]) fun _ _ _ _ _ _ us hl => by obtain ⟨_, _, rfl⟩ := of2 hl; rfl
  have F18 := fun_mk (st := s_law_asked) l18 c18 k18
  have b18 := F18.binds (ps := ["way", "row", "count", "gap"]) fun _ _ _ _ _ _ us hl => by obtain ⟨_, _, _, _, rfl⟩ := of4 hl; rfl
  have F19 := fun_mk (st := s_law_is_right) l19 c19 k19
  have b19 := F19.binds (ps := ["found", "due"]) fun _ _ _ _ _ _ us hl => by obtain ⟨_, _, rfl⟩ := of2 hl; rfl
  have F20 := fun_mk (st := s_law_room_right) l20 c20 k20
  have b20 := F20.binds (ps := ["reel", "row"]) fun _ _ _ _ _ _ us hl => by obtain ⟨_, _, rfl⟩ := of2 hl; rfl
  have F21 := fun_mk (st := s_law) l21 c21 k21
  have b21 := F21.binds (ps := ["script"]) fun _ _ _ _ _ _ us hl => by obtain ⟨_, rfl⟩ := of1 hl; rfl
  refine ⟨PySem.W.fnOf "law" "law" (defArgs s_law) (defBody s_law) (defScope s_law) .none kV21 dc21 pm21 an21 cd21 ct21, fun s v => .of_eq rfl, fun base KB _ => ?_⟩
  have Y : Errs mg C0 C1 C2 C3 C4 C5 C6 C7 C8 := ⟨PySem.W.mg_of X G e0, PySem.W.mg_of X G e1, PySem.W.mg_of X G e2, PySem.W.mg_of X G e3, PySem.W.mg_of X G e4, PySem.W.mg_of X G e5, PySem.W.mg_of X G e6, PySem.W.mg_of X G e7, PySem.W.mg_of X G e8, PySem.W.mg_none_of X G ev⟩
  have O_NoCount : PyProof.Rows.OwnCls "NoCount" C3 bmV "ValueError.__new__" mg base := own_by KB (PySem.W.mg_of X G e3) q3
  have W_NoCount : Fault K C0 C1 C2 C3 C4 C5 C6 C7 C8 C3 false false true false false false false false := ⟨x3, kk3_1, kk3_2, kk3_3, kk3_4, kk3_5, kk3_6, kk3_7, kk3_8, kv3, ⟨ga3, gg3, gh3, gb3, gc3, gd3, ge3, gf3⟩⟩
  have D_refuse_counts : Def l.prog w K mg base 6 "refuse_counts" ["many", "least", "gap"] (sp_counts) := ⟨_, _, ok_counts (k := 5) F0 Z, b0, k0, PySem.W.mg_of X G a0⟩
  have DE_refuse_counts : DefE l.prog w K mg base 7 "refuse_counts" ["many", "least", "gap"] (sp_countsE C3) := ⟨_, _, ok_countsE (k := 6) F0 Z O_NoCount, b0, k0, PySem.W.mg_of X G a0⟩
  have D_room_for : Def l.prog w K mg base 8 "room_for" ["numbers", "gap"] (sp_room) := ⟨_, _, ok_room (k := 7) F1 Z, b1, k1, PySem.W.mg_of X G a1⟩
  have D_greater_of : Def l.prog w K mg base 9 "greater_of" ["one", "other"] (sp_great) := ⟨_, _, ok_great (k := 8) F2 Z, b2, k2, PySem.W.mg_of X G a2⟩
  have D_begun_line : Def l.prog w K mg base 10 "begun_line" ["row", "behind"] (sp_begun) := ⟨_, _, ok_begun (k := 9) F3 Z (D_greater_of.mono (by decide)), b3, k3, PySem.W.mg_of X G a3⟩
  have D_best_line : Def l.prog w K mg base 11 "best_line" ["begun"] (sp_bestl) := ⟨_, _, ok_bestl (k := 10) F4 Z (D_greater_of.mono (by decide)), b4, k4, PySem.W.mg_of X G a4⟩
  have D_behind_line : Def l.prog w K mg base 12 "behind_line" ["best", "gap"] (sp_behl) := ⟨_, _, ok_behl (k := 11) F5 Z, b5, k5, PySem.W.mg_of X G a5⟩
  have D_lines_of : Def l.prog w K mg base 13 "lines_of" ["row", "many", "gap"] (sp_lines) := ⟨_, _, ok_lines (k := 12) F6 Z (D_begun_line.mono (by decide)) (D_best_line.mono (by decide)) (D_behind_line.mono (by decide)), b6, k6, PySem.W.mg_of X G a6⟩
  have D_first_from : Def l.prog w K mg base 14 "first_from" ["line", "start"] (sp_first) := ⟨_, _, ok_first (k := 13) F7 Z, b7, k7, PySem.W.mg_of X G a7⟩
  have D_beyond_from : Def l.prog w K mg base 15 "beyond_from" ["row", "first", "total", "behind"] (sp_beyond) := ⟨_, _, ok_beyond (k := 14) F8 Z, b8, k8, PySem.W.mg_of X G a8⟩
  have D_stretches_of : Def l.prog w K mg base 16 "stretches_of" ["row", "lines", "many", "gap"] (sp_strs) := ⟨_, _, ok_strs (k := 15) F9 Z (D_first_from.mono (by decide)) (D_beyond_from.mono (by decide)), b9, k9, PySem.W.mg_of X G a9⟩
  have D_best_apart : Def l.prog w K mg base 17 "best_apart" ["row", "many", "gap"] (sp_apart) := ⟨_, _, ok_apart (k := 16) F10 Z (D_refuse_counts.mono (by decide)) (D_room_for.mono (by decide)) (D_lines_of.mono (by decide)) (D_stretches_of.mono (by decide)), b10, k10, PySem.W.mg_of X G a10⟩
  have DE_best_apart : DefE l.prog w K mg base 18 "best_apart" ["row", "many", "gap"] (badC C3 1 sp_apart) := ⟨_, _, ok_apartE (k := 17) F10 Z (D_refuse_counts.mono (by decide)) (D_room_for.mono (by decide)) (D_lines_of.mono (by decide)) (D_stretches_of.mono (by decide)) (DE_refuse_counts.mono (by decide)), b10, k10, PySem.W.mg_of X G a10⟩
  have DE_best_at_most : DefE l.prog w K mg base 19 "best_at_most" ["row", "many", "gap"] (badC C3 0 sp_atmost) := ⟨_, _, ok_atmostE (k := 18) F11 Z (D_refuse_counts.mono (by decide)) (D_room_for.mono (by decide)) (D_lines_of.mono (by decide)) (D_stretches_of.mono (by decide)) (DE_refuse_counts.mono (by decide)), b11, k11, PySem.W.mg_of X G a11⟩
  have DE_several_paper : DefE l.prog w K mg base 20 "several_paper" ["row", "many", "gap"] (badC C3 1 sp_spaper) := ⟨_, _, ok_spaperE (k := 19) F12 Z (D_refuse_counts.mono (by decide)) (D_lines_of.mono (by decide)) (DE_refuse_counts.mono (by decide)), b12, k12, PySem.W.mg_of X G a12⟩
  have D_is_of_form : Def l.prog w K mg base 21 "is_of_form" ["paper", "numbers", "many", "gap"] (sp_pform0) := ⟨_, _, ok_pform0 (k := 20) F13 Z, b13, k13, PySem.W.mg_of X G a13⟩
  have DE_several_shows : DefE l.prog w K mg base 22 "several_shows" ["row", "many", "gap", "paper"] (sp_sshow0 C3) := ⟨_, _, ok_sshow0 (k := 21) F14 Z (D_is_of_form.mono (by decide)) (DE_refuse_counts.mono (by decide)), b14, k14, PySem.W.mg_of X G a14⟩
  have D_law_reel : Def l.prog w K mg base 23 "_law_reel" ["cell"] (sp_reel) := ⟨_, _, ok_reel (k := 22) F15 Z, b15, k15, PySem.W.mg_of X G a15⟩
  have D_law_take : Def l.prog w K mg base 24 "_law_take" ["reel", "many"] (sp_take) := ⟨_, _, ok_take (k := 23) F16 Z, b16, k16, PySem.W.mg_of X G a16⟩
  have D_law_row : Def l.prog w K mg base 25 "_law_row" ["reel", "most"] (sp_rrow) := ⟨_, _, ok_rrow (k := 24) F17 Z (D_law_take.mono (by decide)), b17, k17, PySem.W.mg_of X G a17⟩
  have D_law_asked : Def l.prog w K mg base 26 "_law_asked" ["way", "row", "count", "gap"] (sp_asked17 C3) := ⟨_, _, ok_asked17 (k := 25) F18 Z Y W_NoCount (DE_best_apart.mono (by decide)) (DE_best_at_most.mono (by decide)) (DE_several_paper.mono (by decide)) (DE_several_shows.mono (by decide)), b18, k18, PySem.W.mg_of X G a18⟩
  have D_law_is_right : Def l.prog w K mg base 27 "_law_is_right" ["found", "due"] (sp_right17 C3) := ⟨_, _, ok_right17 (k := 26) F19 Z Y W_NoCount, b19, k19, PySem.W.mg_of X G a19⟩
  have D_law_room_right : Def l.prog w K mg base 28 "_law_room_right" ["reel", "row"] (sp_room17) := ⟨_, _, ok_room17 (k := 27) F20 Z (D_law_take.mono (by decide)) (D_best_apart.mono (by decide)), b20, k20, PySem.W.mg_of X G a20⟩
  exact FnOk.mono (k := 31) (ok_law (k := 28) F21 Z (D_law_reel.mono (by decide)) (D_law_take.mono (by decide)) (D_law_row.mono (by decide)) (D_law_room_right.mono (by decide)) (D_law_asked.mono (by decide)) (D_law_is_right.mono (by decide))) (by decide)
theorem walk {l : PySem.W.OpenLaw} {q : Program} {loose : List Str} {XP : (Str → Option Value) → Heap → Prop} {YP : World → Heap → Prop} {d : DefRec} {K : Params → PySem.W.Frag} (hn : l.most = some 63) (hdf : d.params.defaults = [])
    (hY : ∀ (w : World) (h : Heap), YP w h → (K w.params).In h)
    (F : ∀ (w : World) (mg : Str → Option Value) (fa : Addr) (h : Heap), (K w.params).In h → h.Ns mainGlobals mg → mg d.name = some (.ref fa) →
      ∃ fd : FuncData, (∀ (s : Shared) (u : Value), BindsTo s fd ⟨[u], []⟩ [("script", u)]) ∧ ∀ base : Heap, (K w.params).In base → base.Ns mainGlobals mg → FnOk l.prog w (K w.params) mg base CX0 31 fa fd ["script"] (sp_law (K w.params))) :
    PySem.W.WalkO q loose XP YP l.row.toRowW d [] (fun f vs => PySem.call f vs) :=
  L2.walk_of (n := 63) (k := 31) (x := "script") (CX := fun _ => CX0) (sp := fun w => sp_law (K w.params)) hn (by decide) hdf ⟨rfl, by decide, by decide⟩ hY F (fun _ _ a ns hl _ hS => ⟨a, ns, rfl, hS, hl, fun _ => rfl⟩) fun _ _ _ _ _ z => z
end My
open PySem PySem.W PyProof.Rows
set_option maxRecDepth 100000 in
set_option maxHeartbeats 0 in
theorem PySem.Challenge.cw_topstretch_k17_no_room_and_refused_holds : PySem.Challenge.rw_topstretch_k17_no_room_and_refused.Holds := by
  w_on; o_law; k_head; (case hw => w_witness2)
  k_fill
  refine My.walk (l := PySem.Challenge.rw_topstretch_k17_no_room_and_refused) rfl rfl (fun w h Y => PySem.W.kIn_of Y) ?F
  case F =>
    intro w mg fa h KX G hmg
    refine' My.all_mk KX G hmg ?a0 ?l0 ?c0 ?k0 ?a1 ?l1 ?c1 ?k1 ?a2 ?l2 ?c2 ?k2 ?a3 ?l3 ?c3 ?k3 ?a4 ?l4 ?c4 ?k4 ?a5 ?l5 ?c5 ?k5 ?a6 ?l6 ?c6 ?k6 ?a7 ?l7 ?c7 ?k7 ?a8 ?l8 ?c8 ?k8 ?a9 ?l9 ?c9 ?k9 ?a10 ?l10 ?c10 ?k10 ?a11 ?l11 ?c11 ?k11 ?a12 ?l12 ?c12 ?k12 ?a13 ?l13 ?c13 ?k13 ?a14 ?l14 ?c14 ?k14 ?a15 ?l15 ?c15 ?k15 ?a16 ?l16 ?c16 ?k16 ?a17 ?l17 ?c17 ?k17 ?a18 ?l18 ?c18 ?k18 ?a19 ?l19 ?c19 ?k19 ?a20 ?l20 ?c20 ?k20 ?a21 ?l21 ?c21 ?k21 ?z0 ?z1 ?z2 ?z3 ?z4 ?z5 ?z6 ?z7 ?z8 ?z9 ?z10 ?z11 ?z12 ?z13 ?z14 ?e0 ?e1 ?e2 ?e3 ?e4 ?e5 ?e6 ?e7 ?e8 ?ev ?q3 ?x3 ?kk3_1 ?kk3_2 ?kk3_3 ?kk3_4 ?kk3_5 ?kk3_6 ?kk3_7 ?kk3_8 ?kv3 ?ga3 ?gg3 ?gh3 ?gb3 ?gc3 ?gd3 ?ge3 ?gf3
    (case a0 => k_is); (case l0 => k_is); (case c0 => k_is); (case k0 => k_is)
    (case a1 => k_is); (case l1 => k_is); (case c1 => k_is); (case k1 => k_is)
    (case a2 => k_is); (case l2 => k_is); (case c2 => k_is); (case k2 => k_is)
    (case a3 => k_is); (case l3 => k_is); (case c3 => k_is); (case k3 => k_is)
    (case a4 => k_is); (case l4 => k_is); (case c4 => k_is); (case k4 => k_is)
    (case a5 => k_is); (case l5 => k_is); (case c5 => k_is); (case k5 => k_is)
    (case a6 => k_is); (case l6 => k_is); (case c6 => k_is); (case k6 => k_is)
    (case a7 => k_is); (case l7 => k_is); (case c7 => k_is); (case k7 => k_is)
    (case a8 => k_is); (case l8 => k_is); (case c8 => k_is); (case k8 => k_is)
    (case a9 => k_is); (case l9 => k_is); (case c9 => k_is); (case k9 => k_is)
    (case a10 => k_is); (case l10 => k_is); (case c10 => k_is); (case k10 => k_is)
    (case a11 => k_is); (case l11 => k_is); (case c11 => k_is); (case k11 => k_is)
    (case a12 => k_is); (case l12 => k_is); (case c12 => k_is); (case k12 => k_is)
    (case a13 => k_is); (case l13 => k_is); (case c13 => k_is); (case k13 => k_is)
    (case a14 => k_is); (case l14 => k_is); (case c14 => k_is); (case k14 => k_is)
    (case a15 => k_is); (case l15 => k_is); (case c15 => k_is); (case k15 => k_is)
    (case a16 => k_is); (case l16 => k_is); (case c16 => k_is); (case k16 => k_is)
    (case a17 => k_is); (case l17 => k_is); (case c17 => k_is); (case k17 => k_is)
    (case a18 => k_is); (case l18 => k_is); (case c18 => k_is); (case k18 => k_is)
    (case a19 => k_is); (case l19 => k_is); (case c19 => k_is); (case k19 => k_is)
    (case a20 => k_is); (case l20 => k_is); (case c20 => k_is); (case k20 => k_is)
    (case a21 => k_is); (case l21 => k_is); (case c21 => k_is); (case k21 => k_is)
    (case z0 => k_is)
    (case z1 => k_is)
    (case z2 => k_is)
    (case z3 => k_is)
    (case z4 => k_is)
    (case z5 => k_is)
    (case z6 => k_is)
    (case z7 => k_is)
    (case z8 => k_is)
    (case z9 => k_is)
    (case z10 => k_is)
    (case z11 => k_is)
    (case z12 => k_is)
    (case z13 => k_is)
    (case z14 => k_is)
    (case e0 => k_is)
    (case e1 => k_is)
    (case e2 => k_is)
    (case e3 => k_is)
    (case e4 => k_is)
    (case e5 => k_is)
    (case e6 => k_is)
    (case e7 => k_is)
    (case e8 => k_is)
    (case ev => k_is)
    (case q3 => k_exc)
    (case x3 => kts_exm)
    (case kk3_1 => kit_is)
    (case kk3_2 => kit_is)
    (case kk3_3 => kit_is)
    (case kk3_4 => kit_is)
    (case kk3_5 => kit_is)
    (case kk3_6 => kit_is)
    (case kk3_7 => kit_is)
    (case kk3_8 => kit_is)
    (case kv3 => kit_is)
    (case ga3 => k_is)
    (case gg3 => k_is)
    (case gh3 => k_is)
    (case gb3 => first | k_is | rfl)
    (case gc3 => k_is)
    (case gd3 => k_is)
    (case ge3 => k_is)
    (case gf3 => k_is)
