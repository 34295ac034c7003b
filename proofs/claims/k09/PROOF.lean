import PyProof.Rows.All
import Wide.All
import OpenK.AllK
import Wide.FinOn
import Lean
import PyProof.EqAt
import PyProof.EqKinds
import PyProof.TupleCall
import PySem.Challenge.RW_topstretch_k09_long_rows
set_option Elab.async false
set_option linter.all false
set_option maxRecDepth 100000
/-! THE HAND LAYER, for ints, bools, texts, own classes, LISTS and tuples (index, slices, in, append, pop ..), calls, loops. Paste it whole ahead of your own text; what your proof does not reach may be deleted. -/
namespace L2
open PySem PySem.Spec PyProof.Rows

/-- a key: an int or a str -/
abbrev Key := Sum Int Str
def keyIs : Key → Value → Bool
  | .inl k, v => Value.isInt k v
  | .inr x, v => Value.isStrOf x v
def keyH (w : World) : Key → Int
  | .inl k => hashInt k
  | .inr x => hashStr w x
theorem keyIs_shape : ∀ {k : Key} {v : Value}, keyIs k v = true → (∃ i t, k = Sum.inl i ∧ v = Value.int i t) ∨ (∃ x t, k = Sum.inr x ∧ v = Value.str x t)
  | .inl i, v, h => by
    obtain ⟨t, e⟩ := Value.isInt_shape (k := i) (v := v) h
    exact .inl ⟨i, t, rfl, e⟩
  | .inr x, v, h => by
    obtain ⟨t, e⟩ := Value.isStrOf_shape (x := x) (v := v) h
    exact .inr ⟨x, t, rfl, e⟩
theorem keyIs_int (i : Int) (t : Tok) : keyIs (.inl i) (.int i t) = true := by simp [keyIs, Value.isInt]
theorem keyIs_str (x : Str) (t : Tok) : keyIs (.inr x) (.str x t) = true := by simp [keyIs, Value.isStrOf]
theorem key_ll (a b : Int) : decide ((Sum.inl a : Key) = Sum.inl b) = (a == b) := by
  by_cases e : a = b
  · subst e; simp
  · have h : ¬ (Sum.inl a : Key) = Sum.inl b := fun q => e (Sum.inl.inj q)
    rw [decide_eq_false h]
    exact (beq_eq_false_iff_ne.mpr e).symm
theorem key_rr (a b : Str) : decide ((Sum.inr a : Key) = Sum.inr b) = decide (a = b) := by
  by_cases e : a = b
  · subst e; simp
  · have h : ¬ (Sum.inr a : Key) = Sum.inr b := fun q => e (Sum.inr.inj q)
    rw [decide_eq_false h, decide_eq_false e]
theorem key_lr (a : Int) (b : Str) : decide ((Sum.inl a : Key) = Sum.inr b) = false := decide_eq_false (fun q => nomatch q)
theorem key_rl (a : Str) (b : Int) : decide ((Sum.inr a : Key) = Sum.inl b) = false := decide_eq_false (fun q => nomatch q)

def mixKind (prog : Program) (w : World) : PySem.KeyKind prog w Key where
  is := keyIs
  hash := keyH w
  inj := fun v a b ha hb => by
    rcases keyIs_shape ha with ⟨i, t, rfl, rfl⟩ | ⟨x, t, rfl, rfl⟩
    · rcases keyIs_shape hb with ⟨j, u, rfl, e⟩ | ⟨y, u, rfl, e⟩
      · injection e with e1 _; rw [e1]
      · exact nomatch e
    · rcases keyIs_shape hb with ⟨j, u, rfl, e⟩ | ⟨y, u, rfl, e⟩
      · exact nomatch e
      · injection e with e1 _; rw [e1]
  byValue := fun k v h => by
    rcases keyIs_shape h with ⟨i, t, rfl, rfl⟩ | ⟨x, t, rfl, rfl⟩ <;> rfl
  pyHash := fun hv h => by
    rcases keyIs_shape hv with ⟨i, t, rfl, rfl⟩ | ⟨x, t, rfl, rfl⟩
    · exact wpAny_pyHash_int h
    · exact wpAny_pyHash_str h
  eqBool := fun hu hv h => by
    rcases keyIs_shape hu with ⟨i, t, rfl, rfl⟩ | ⟨x, t, rfl, rfl⟩
    · rcases keyIs_shape hv with ⟨j, u, rfl, rfl⟩ | ⟨y, u, rfl, rfl⟩
      · rw [key_ll] at h; exact wpAny_eqBool_int h
      · rw [key_lr] at h; exact SeqAt.EqAt.int_str i t y u _ _ _ _ h
    · rcases keyIs_shape hv with ⟨j, u, rfl, rfl⟩ | ⟨y, u, rfl, rfl⟩
      · rw [key_rl] at h; exact SeqAt.EqAt.str_int x t j u _ _ _ _ h
      · rw [key_rr] at h; exact wpAny_eqBool_str h
  «strs» := fun k x t v h => by
    rcases keyIs_shape h with ⟨i, u, rfl, e⟩ | ⟨y, u, rfl, e⟩
    · exact nomatch e
    · injection e with e1 _
      subst e1
      cases v <;> rfl

theorem mixKind_int (prog : Program) (w : World) (i : Int) (t : Tok) : (mixKind prog w).is (.inl i) (.int i t) = true := keyIs_int i t
theorem mixKind_str (prog : Program) (w : World) (x : Str) (t : Tok) : (mixKind prog w).is (.inr x) (.str x t) = true := keyIs_str x t
end L2

namespace L2
open PySem PySem.Spec PyProof.Rows

/-- a value, without the heap -/
inductive V where
  | non | bl (b : Bool) | int (i : Int) | str (x : Str) | byt (b : Array UInt8) | flt (b : UInt64) | ref (a : Addr) | ty (n : String)
  deriving DecidableEq

def RelV : V → Value → Prop
  | .non, u => u = Value.none
  | .bl b, u => u = Value.bool b
  | .int i, u => ∃ t, u = Value.int i t
  | .str x, u => ∃ t, u = Value.str x t
  | .byt b, u => ∃ t, u = Value.bytes b t
  | .flt b, u => ∃ t, u = Value.float b t
  | .ref a, u => u = Value.ref a
  | .ty n, u => u = Value.type n

abbrev Vals : List V → List Value → Prop := Paired RelV
theorem Vals.length {xs : List V} {us : List Value} (r : Vals xs us) : xs.length = us.length := Paired.length r
theorem Vals.get : ∀ {xs : List V} {us : List Value} {i : Nat} {x : V}, Vals xs us → xs[i]? = some x → ∃ u, us[i]? = some u ∧ RelV x u
  | _, _, _, _, .nil, e => by simp at e
  | _, _, 0, _, .cons r _, e => by simp at e; subst e; exact ⟨_, rfl, r⟩
  | _, _, i + 1, x, .cons _ t, e => by
    obtain ⟨u, h1, h2⟩ := Vals.get (i := i) (x := x) t (by simpa using e)
    exact ⟨u, by simpa using h1, h2⟩
theorem Vals.set {x : V} {u : Value} (r : RelV x u) : ∀ {xs : List V} {us : List Value} (i : Nat), Vals xs us → Vals (xs.set i x) (us.set i u)
  | _, _, _, .nil => .nil
  | _, _, 0, .cons _ t => .cons r t
  | _, _, i + 1, .cons q t => .cons q (Vals.set r i t)
theorem Vals.append : ∀ {xs ys : List V} {us ws : List Value}, Vals xs us → Vals ys ws → Vals (xs ++ ys) (us ++ ws)
  | _, _, _, _, .nil, s => s
  | _, _, _, _, .cons r t, s => .cons r (Vals.append t s)
theorem Vals.take : ∀ {xs : List V} {us : List Value} (n : Nat), Vals xs us → Vals (xs.take n) (us.take n)
  | _, _, 0, _ => .nil
  | _, _, _ + 1, .nil => .nil
  | _, _, n + 1, .cons r t => .cons r (Vals.take n t)
theorem Vals.drop : ∀ {xs : List V} {us : List Value} (n : Nat), Vals xs us → Vals (xs.drop n) (us.drop n)
  | _, _, 0, r => r
  | _, _, _ + 1, .nil => .nil
  | _, _, n + 1, .cons _ t => Vals.drop n t
def RelO : Option V → Option Value → Prop
  | some v, some u => RelV v u
  | none, none => True
  | _, _ => False
def KV {κ : Type} : List (κ × V) → List (κ × Value) → Prop := Paired fun (p : κ × V) (q : κ × Value) => p.1 = q.1 ∧ RelV p.2 q.2

/-- a key of a dict (00_mix): an int or a text -/
def kV : Key → V
  | .inl i => .int i
  | .inr x => .str x

/-- what stands at a tracked address -/
inductive HO where
  /-- a list -/
  | lst (xs : List V)
  /-- a tuple (never changes) -/
  | tup (xs : List V)
  /-- a dict whose keys are ints and texts; one whose keys are tuples of ints and texts (the empty one is both) -/
  | dK (kvs : List (Key × V)) | dT (kvs : List (List Key × V))
  /-- a set of ints: its members, its size -/
  | set (S : Int → Bool) (n : Nat)
  /-- an instance of the class at C, its dict at dx, its attributes -/
  | ins (C dx : Addr) (fs : List (Str × V))
  /-- the dict of the instance at x -/
  | own (x : Addr)
  /-- the dict of an exception -/
  | xd (fs : List (Str × V))
  /-- a bound method, f of x -/
  | met (f x : Addr)
  /-- a range object lo, lo + 1, .. below hi -/
  | rng (lo hi : Int)
  /-- a thing that is known to the object (the script; a dict while a loop walks it): read, never written while it is so -/
  | frz (o : Obj) (u : HO)
  /-- a code object's table -/
  | tbl (ps : Array Value)
  /-- any other thing, by what is true of its one object (a def of one's own: SetO a S n := HO.ext fun h => ..) -/
  | ext (φ : Heap → Prop)

abbrev Hp := Addr → Option HO
def upd (H : Hp) (a : Addr) (o : HO) : Hp := fun b => if b = a then some o else H b
theorem upd_same {H : Hp} {a : Addr} {o : HO} : upd H a o a = some o := by unfold upd; rw [if_pos rfl]
theorem upd_ne {H : Hp} {a b : Addr} {o : HO} (h : b ≠ a) : upd H a o b = H b := by unfold upd; rw [if_neg h]
theorem upd_upd {H : Hp} {a : Addr} {o u : HO} : upd (upd H a o) a u = upd H a u := by
  funext b; unfold upd; split <;> rfl
/-- two objects of different content stand apart -/
theorem ne_of {H : Hp} {a b : Addr} {o u : HO} (h : H a = some o) (h' : H b = some u) (d : o ≠ u) : a ≠ b := by
  intro e; subst e; rw [h] at h'; exact d (Option.some.inj h')
theorem ne_of_none {H : Hp} {a b : Addr} {o : HO} (h : H a = some o) (h' : H b = none) : a ≠ b := by
  intro e; subst e; rw [h] at h'; cases h'

section
variable (P : Program) (w : World)
def ObjOk (H : Hp) (h : Heap) (a : Addr) : HO → Prop
  | .lst xs => xs.length ≤ sizeLine ∧ ∃ (its : List Value) (n : Nat), Vals xs its ∧ h.get? a = some { cls := .type "list", data := .seq its.toArray n }
  | .tup xs => xs.length ≤ sizeLine ∧ ∃ its : List Value, Vals xs its ∧ IsTup h a its.toArray
  | .dK kvs => kvs.length ≤ sizeLine ∧ (a == sysModules) = false ∧ ∃ vs, KV kvs vs ∧ h.DictOf (mixKind P w) a vs
  | .dT kvs => kvs.length ≤ sizeLine ∧ (a == sysModules) = false ∧ ∃ xs : List (List Key × Addr × Value),
      Paired (fun (p : List Key × V) (q : List Key × Addr × Value) => p.1 = q.1 ∧ H q.2.1 = some (.tup (p.1.map kV)) ∧ RelV p.2 q.2.2) kvs xs ∧
      ∃ o es ep, h.get? a = some o ∧ o.ExactDict ∧ o.data = .dict es ep ∧ es.toList = xs.map (entryOfKey (tupleKind (mixKind P w))) ∧ (xs.map (·.1)).Nodup
  | .set S n => h.SetOf (intKind P w) a S n
  | .ins C dx fs => H dx = some (.own a) ∧ fs.length ≤ 1000 ∧ dx ≠ a ∧ h.get? a = some (PySem.W.instObj C dx) ∧
      ∃ mA, h.Ns1 dx mA ∧ (∀ f, RelO (fs.lookup f) (mA f)) ∧ PySem.Within mA (fs.map (·.1))
  | .own _ => ∃ o, h.get? a = some o
  | .xd fs => ∃ mA, h.Ns1 a mA ∧ ∀ f, RelO (fs.lookup f) (mA f)
  | .rng lo hi => ∃ t u v, h.get? a = some { cls := .type "range", data := .fields #[.int lo t, .int hi u, .int 1 v] }
  | .frz o u => h.get? a = some o ∧ ObjOk H h a u
  | .tbl ps => h.get? a = some { cls := .none, data := .fields ps }
  | .met f x => h.get? a = some (PySem.W.methodObj (.ref f) (.ref x))
  | .ext φ => φ h ∧ (∃ o, h.get? a = some o) ∧ ∀ h1 h2 : Heap, φ h1 → (∀ o, h1.get? a = some o → h2.get? a = some o) → φ h2
/-- the abstract heap is held -/
def HOk (H : Hp) (h : Heap) : Prop := ∀ a o, H a = some o → ObjOk P w H h a o
end

section
variable {P : Program} {w : World} {H H' : Hp} {h h' : Heap} {a : Addr} {o : HO}
theorem ObjOk.lt (x : ObjOk P w H h a o) : a < h.objs.size := by
  cases o with
  | lst xs => obtain ⟨_, _, _, _, e⟩ := x; exact Heap.lt_size e
  | tup xs => obtain ⟨_, _, _, p⟩ := x; exact p.lt
  | dK kvs => obtain ⟨_, _, _, _, o, _, _, e, _⟩ := x; exact Heap.lt_size e
  | dT kvs => obtain ⟨_, _, _, _, o, _, _, e, _⟩ := x; exact Heap.lt_size e
  | set S n => obtain ⟨o, _, _, _, e, _⟩ := x; exact Heap.lt_size e
  | ins C dx fs => obtain ⟨_, _, _, e, _⟩ := x; exact Heap.lt_size e
  | own y => obtain ⟨_, e⟩ := x; exact Heap.lt_size e
  | xd fs => obtain ⟨_, ⟨_, _, _, e, _⟩, _⟩ := x; exact Heap.lt_size e
  | rng lo hi => obtain ⟨_, _, _, e⟩ := x; exact Heap.lt_size e
  | frz ob u => obtain ⟨e, _⟩ := x; exact Heap.lt_size e
  | tbl ps => exact Heap.lt_size (show h.get? a = some _ from x)
  | met f y => exact Heap.lt_size (show h.get? a = some _ from x)
  | ext φ => obtain ⟨_, ⟨_, e⟩, _⟩ := x; exact Heap.lt_size e
theorem Paired.mapP {α β : Type} {F G : α → β → Prop} : ∀ {l₁ : List α} {l₂ : List β}, Paired F l₁ l₂ → (∀ a b, F a b → G a b) → Paired G l₁ l₂
  | _, _, .nil, _ => .nil
  | _, _, .cons r t, f => .cons (f _ _ r) (Paired.mapP t f)
/-- what an object's description leans on: its own object, its own dict, the tuples -/
theorem ObjOk.stay (x : ObjOk P w H h a o) (k : ∀ b u, (b = a ∨ H b = some (.own a)) → h.get? b = some u → h'.get? b = some u)
    (ho : ∀ b, H b = some (.own a) → H' b = some (.own a)) (ht : ∀ b xs, H b = some (.tup xs) → H' b = some (.tup xs)) : ObjOk P w H' h' a o := by
  induction o with
  | lst xs => obtain ⟨z, its, n, r, e⟩ := x; exact ⟨z, its, n, r, k _ _ (.inl rfl) e⟩
  | tup xs => obtain ⟨z, its, r, ob, e, c⟩ := x; exact ⟨z, its, r, ob, k _ _ (.inl rfl) e, c⟩
  | dK kvs => obtain ⟨z, y, vs, r, ob, es, ep, e, c⟩ := x; exact ⟨z, y, vs, r, ob, es, ep, k _ _ (.inl rfl) e, c⟩
  | dT kvs =>
    obtain ⟨z, y, xs, r, ob, es, ep, e, c⟩ := x
    exact ⟨z, y, xs, Paired.mapP r fun p q z => ⟨z.1, ht _ _ z.2.1, z.2.2⟩, ob, es, ep, k _ _ (.inl rfl) e, c⟩
  | set S n => obtain ⟨ob, es, ep, t, e, c⟩ := x; exact ⟨ob, es, ep, t, k _ _ (.inl rfl) e, c⟩
  | ins C dx fs =>
    obtain ⟨d, z, ne, e, mA, ⟨od, es, ep, e2, c⟩, r⟩ := x
    exact ⟨ho _ d, z, ne, k _ _ (.inl rfl) e, mA, ⟨od, es, ep, k _ _ (.inr d) e2, c⟩, r⟩
  | own y => obtain ⟨ob, e⟩ := x; exact ⟨ob, k _ _ (.inl rfl) e⟩
  | xd fs => obtain ⟨mA, ⟨od, es, ep, e, c⟩, r⟩ := x; exact ⟨mA, ⟨od, es, ep, k _ _ (.inl rfl) e, c⟩, r⟩
  | rng lo hi => obtain ⟨t, u, v, e⟩ := x; exact ⟨t, u, v, k _ _ (.inl rfl) e⟩
  | frz ob u ih => obtain ⟨e, q⟩ := x; exact ⟨k _ _ (.inl rfl) e, ih q⟩
  | tbl ps =>
    have e : h.get? a = some { cls := .none, data := .fields ps } := x
    show h'.get? a = some { cls := .none, data := .fields ps }
    exact k a _ (.inl rfl) e
  | met f y =>
    have e : h.get? a = some (PySem.W.methodObj (.ref f) (.ref y)) := x
    show h'.get? a = some (PySem.W.methodObj (.ref f) (.ref y))
    exact k a _ (.inl rfl) e
  | ext φ => obtain ⟨p, ⟨o, e⟩, st⟩ := x; exact ⟨st _ _ p fun o q => k _ _ (.inl rfl) q, ⟨o, k _ _ (.inl rfl) e⟩, st⟩
theorem HOk.lt (x : HOk P w H h) (e : H a = some o) : a < h.objs.size := (x a o e).lt
theorem HOk.fresh (x : HOk P w H h) (e : h.objs.size ≤ a) : H a = none := by
  cases q : H a with
  | none => rfl
  | some u => exact absurd (Nat.lt_of_lt_of_le (x.lt q) e) (Nat.lt_irrefl _)
/-- every object of the heap is kept -/
theorem HOk.kept (x : HOk P w H h) (k : ∀ b u, h.get? b = some u → h'.get? b = some u) : HOk P w H h' := fun a o e =>
  (x a o e).stay (fun b u _ q => k b u q) (fun _ q => q) fun _ _ q => q
/-- a new object is laid and tracked -/
theorem HOk.laid (x : HOk P w H h) (k : ∀ b u, h.get? b = some u → h'.get? b = some u) (hp : h.objs.size ≤ a) (new : ObjOk P w (upd H a o) h' a o) : HOk P w (upd H a o) h' := fun b u e => by
  have hn := x.fresh hp
  by_cases hb : b = a
  · subst hb; rw [upd_same] at e; cases e; exact new
  · rw [upd_ne hb] at e
    exact (x b u e).stay (fun c v _ q => k c v q) (fun c q => by rw [upd_ne (ne_of_none q hn)]; exact q) fun c xs q => by rw [upd_ne (ne_of_none q hn)]; exact q
end

/-- what may be read as u: it is u, or a known u -/
def Rd (H : Hp) (a : Addr) (u : HO) : Prop := H a = some u ∨ ∃ o, H a = some (.frz o u)
theorem Rd.ok {P : Program} {w : World} {H : Hp} {h : Heap} {a : Addr} {u : HO} (r : Rd H a u) (x : HOk P w H h) : ObjOk P w H h a u := by
  rcases r with r | ⟨o, r⟩
  · exact x a u r
  · obtain ⟨_, q⟩ := x a _ r
    exact q
/-- what may be written -/
def Mut : Option HO → Prop
  | some (.lst _) => True
  | some (.dK _) => True
  | some (.dT _) => True
  | some (.set _ _) => True
  | some (.ins _ _ _) => True
  | some (.ext _) => True
  | _ => False
section
variable {P : Program} {w : World} {H : Hp} {h h' : Heap} {x e : Addr} {o' : HO}
/-- the object at e is changed: x itself, or the dict of the instance x -/
theorem HOk.write (ok : HOk P w H h) (mu : Mut (H x)) (he : e = x ∨ H e = some (.own x)) (k : ∀ b u, b ≠ e → h.get? b = some u → h'.get? b = some u) (heo : ∃ u, h'.get? e = some u)
    (new : ObjOk P w (upd H x o') h' x o') : HOk P w (upd H x o') h' := fun b u q => by
  have nown : ∀ c y, H c = some (.own y) → c ≠ x := fun c y r z => by subst z; rw [r] at mu; exact mu
  have ntup : ∀ c xs, H c = some (.tup xs) → c ≠ x := fun c xs r z => by subst z; rw [r] at mu; exact mu
  by_cases hb : b = x
  · subst hb; rw [upd_same] at q; cases q; exact new
  · rw [upd_ne hb] at q
    by_cases hbe : b = e
    · have q' : H b = some (.own x) := by
        rcases he with z | z
        · exact absurd (hbe.trans z) hb
        · rw [hbe]; exact z
      rw [q] at q'; cases q'
      obtain ⟨v, hv⟩ := heo
      exact ⟨v, by rw [hbe]; exact hv⟩
    · refine (ok b u q).stay (fun c v hc r => k c v ?_ r) (fun c r => by rw [upd_ne (nown c b r)]; exact r) fun c xs r => by rw [upd_ne (ntup c xs r)]; exact r
      rcases hc with rfl | hc
      · exact hbe
      · rintro rfl
        rcases he with z | z
        · exact nown c b hc z
        · rw [hc] at z; cases z; exact hb rfl
end

/-! ### kept unless tracked; of the frames at fs (the callers') the slots may change (an exception that passes writes there); of the records at ex (iterators) nothing is said -/
structure Un (fs ex : List Addr) (H H' : Hp) (h h' : Heap) : Prop where
  keep : ∀ b o, h.get? b = some o → H b = none → b ∉ fs → b ∉ ex → h'.get? b = some o
  slot : ∀ b o, h.get? b = some o → H b = none → b ∈ fs → b ∉ ex → ∃ sl, h'.get? b = some { o with slots := sl }
  free : ∀ b o, h.get? b = some o → H b = none → b ∉ ex → H' b = none
  there : ∀ b o, h.get? b = some o → b ∉ ex → ∃ o', h'.get? b = some o'
  tups : ∀ b xs, H b = some (.tup xs) → H' b = some (.tup xs)
  frzs : ∀ b o u, H b = some (.frz o u) → H' b = some (.frz o u)
  tbls : ∀ b ps, H b = some (.tbl ps) → ∃ more, H' b = some (.tbl (ps ++ more))
section
variable {fs fs' ex ex' : List Addr} {H H1 H2 : Hp} {h h1 h2 h' : Heap} {a x e : Addr} {o : HO}
theorem Un.any (u : Un fs ex H H1 h h1) {b : Addr} {ob : Obj} (q : h.get? b = some ob) (n : H b = none) (hx : b ∉ ex) : ∃ sl, h1.get? b = some { ob with slots := sl } := by
  by_cases hb : b ∈ fs
  · exact u.slot b ob q n hb hx
  · exact ⟨ob.slots, u.keep b ob q n hb hx⟩
theorem Un.trans (a : Un fs ex H H1 h h1) (b : Un fs ex H1 H2 h1 h2) : Un fs ex H H2 h h2 where
  keep := fun c ob q n hc hx => b.keep c ob (a.keep c ob q n hc hx) (a.free c ob q n hx) hc hx
  slot := fun c ob q n hc hx => by
    obtain ⟨sl, e1⟩ := a.slot c ob q n hc hx
    obtain ⟨sl', e2⟩ := b.slot c _ e1 (a.free c ob q n hx) hc hx
    exact ⟨sl', e2⟩
  free := fun c ob q n hx => by
    obtain ⟨o', e1⟩ := a.there c ob q hx
    exact b.free c o' e1 (a.free c ob q n hx) hx
  there := fun c ob q hx => by
    obtain ⟨o', e1⟩ := a.there c ob q hx
    exact b.there c o' e1 hx
  tups := fun c xs q => b.tups c xs (a.tups c xs q)
  frzs := fun c ob xs q => b.frzs c ob xs (a.frzs c ob xs q)
  tbls := fun c ps q => by
    obtain ⟨m1, e1⟩ := a.tbls c ps q
    obtain ⟨m2, e2⟩ := b.tbls c _ e1
    exact ⟨m1 ++ m2, by rw [e2, Array.append_assoc]⟩
theorem Un.kept (k : ∀ b u, h.get? b = some u → h'.get? b = some u) : Un fs ex H H h h' :=
  ⟨fun b ob q _ _ _ => k b ob q, fun b ob q _ _ _ => ⟨ob.slots, k b ob q⟩, fun _ _ _ n _ => n, fun b ob q _ => ⟨ob, k b ob q⟩, fun _ _ q => q, fun _ _ _ q => q, fun _ ps q => ⟨#[], by rw [q]; simp⟩⟩
theorem Un.refl : Un fs ex H H h h := Un.kept fun _ _ q => q
theorem Un.laid (k : ∀ b u, h.get? b = some u → h'.get? b = some u) (hp : h.objs.size ≤ a) (hn : H a = none) : Un fs ex H (upd H a o) h h' where
  keep := fun b u q _ _ _ => k b u q
  slot := fun b u q _ _ _ => ⟨u.slots, k b u q⟩
  free := fun b u q n _ => by rw [upd_ne (Nat.ne_of_lt (Nat.lt_of_lt_of_le (Heap.lt_size q) hp))]; exact n
  there := fun b u q _ => ⟨u, k b u q⟩
  tups := fun b xs q => by rw [upd_ne (ne_of_none q hn)]; exact q
  frzs := fun b u xs q => by rw [upd_ne (ne_of_none q hn)]; exact q
  tbls := fun b ps q => ⟨#[], by rw [upd_ne (ne_of_none q hn), q]; simp⟩
theorem Un.write (mu : Mut (H x)) (he : e = x ∨ H e = some (.own x)) (k : ∀ b u, b ≠ e → h.get? b = some u → h'.get? b = some u) (heo : ∃ u, h'.get? e = some u) : Un fs ex H (upd H x o) h h' := by
  have hx : ∀ b, H b = none → b ≠ x := fun b n z => by subst z; rw [n] at mu; exact mu
  have hb : ∀ b, H b = none → b ≠ e := fun b n z => by
    subst z
    rcases he with r | r
    · exact hx b n r
    · rw [n] at r; cases r
  have hm : ∀ b u, H b = some u → ¬ Mut (some u) → b ≠ x := fun b u q nm z => by subst z; rw [q] at mu; exact nm mu
  refine ⟨fun b u q n _ _ => k b u (hb b n) q, fun b u q n _ _ => ⟨u.slots, k b u (hb b n) q⟩, fun b u q n _ => by rw [upd_ne (hx b n)]; exact n, fun b u q _ => ?_,
    fun b xs q => by rw [upd_ne (hm b _ q fun z => z)]; exact q, fun b u xs q => by rw [upd_ne (hm b _ q fun z => z)]; exact q, fun b ps q => ⟨#[], by rw [upd_ne (hm b _ q fun z => z), q]; simp⟩⟩
  by_cases hbe : b = e
  · subst hbe; exact heo
  · exact ⟨u, k b u hbe q⟩
end

/-! ### the heap without what is tracked -/
def trk (h : Heap) (H : Hp) : List Addr := (List.range h.objs.size).filter fun a => (H a).isSome
def hidT (h : Heap) (H : Hp) : Heap := PySem.W.hideAll h (trk h H)
theorem hidT_size (h : Heap) (H : Hp) : (hidT h H).objs.size = h.objs.size := PySem.W.hideAll_size _ _
theorem hidT_get {h : Heap} {H : Hp} {b : Addr} {o : Obj} (e : h.get? b = some o) (n : H b = none) : (hidT h H).get? b = some o :=
  PySem.W.hideAll_get _ e fun hm => by
    have q : (H b).isSome = true := (List.mem_filter.mp hm).2
    rw [n] at q; simp at q
theorem of_hidT {h : Heap} {H : Hp} {b : Addr} {o : Obj} (e : (hidT h H).get? b = some o) : h.get? b = some o ∧ H b = none := by
  have e' : h.get? b = some o := PySem.W.of_hideAll (trk h H) e
  refine ⟨e', ?_⟩
  cases q : H b with
  | none => rfl
  | some x =>
    have hm : b ∈ trk h H := List.mem_filter.mpr ⟨List.mem_range.mpr (Heap.lt_size e'), by simp [q]⟩
    have z : (hidT h H).get? b = none := PySem.W.hideAll_none (trk h H) hm
    rw [z] at e; cases e

/-! ### OpenK's ledger, filled with every new object but one -/
def allNews (g h : Heap) (L : Addr) : List (Addr × Obj) := (List.range h.objs.size).filterMap fun a => if a = L ∨ (g.get? a).isSome = true then none else (h.get? a).map fun o => (a, o)
def rest (g h : Heap) (L d : Addr) : List (Addr × Obj) := (allNews g h L).filter fun p => decide (p.1 ≠ d)
end L2

namespace L2
open PySem PySem.Spec PyProof.Rows

/-- the module's facts, over the base: the heap at the law's entry without what is tracked there -/
structure Mod (K : PySem.W.Frag) (mg : Str → Option Value) (base : Heap) : Prop where
  kin : K.In base
  glob : base.Ns mainGlobals mg
  blt : ∃ mb, base.Ns builtinsNs mb ∧ ∀ x : Str, x ≠ "__name__" → mb x = bootBuiltins x
  nolimit : base.NoLimit

/-- the context: a def's body (or a comprehension's block) running. base: fixed through the whole law; s₀, H₀: the entry; outer: the frames whose slots others may change (a def's callers); stack: all frames that run;
   ex: iterators that were made ahead of the entry and are walked here (a comprehension's); fn: the names whose cells were made at the entry (a def: all; a comprehension's block: its own); calm: not within an except suite; pn: pins that every state bears; xe: what is wanted of an exception that leaves the code -/
structure Cx where
  prog : Program
  w : World
  K : PySem.W.Frag
  mg : Str → Option Value
  base : Heap
  A : Around
  N : List Str
  s₀ : Shared
  H₀ : Hp
  env : Env
  outer : List Env
  stack : List Env
  ex : List Addr
  fn : Str → Bool
  calm : Bool
  pn : List (Addr × Obj)
  xe : Value → Shared → Prop
/-- the callers' frames -/
def frs (l : List Env) : List Addr := l.filterMap (·.frame)
abbrev Cx.fs (X : Cx) : List Addr := frs X.outer

def Vis (sc : Scope) (x : Str) : Prop := sc.names.lookup x = some .local ∨ sc.names.lookup x = some .cell ∨ sc.names.lookup x = some .free
def Loc (sc : Scope) (x : Str) : Prop := sc.names.lookup x = some .local ∨ sc.names.lookup x = some .cell
def Look (env : Env) (h : Heap) (m : Str → Option Value) (x : Str) (u : Value) : Prop :=
  (env.kindOf x = some .local ∧ m x = some u) ∨ ((env.kindOf x = some .cell ∨ env.kindOf x = some .free) ∧ ∃ c, env.cells.lookup x = some c ∧ h.IsCell c (some u))

structure Cx.Ok (X : Cx) : Prop where
  mod : Mod X.K X.mg X.base
  kind : X.env.scope.kind = .function
  glob : X.env.globals = mainGlobals
  blt : X.env.builtins = builtinsNs
  above : X.s₀.heap.objs.size ≤ X.env.locals
  inj : ∀ x y c, X.env.cells.lookup x = some c → X.env.cells.lookup y = some c → x = y
  has : ∀ x, (X.env.kindOf x = some .cell ∨ X.env.kindOf x = some .free) → ∃ c, X.env.cells.lookup x = some c
  cab : ∀ x c, X.fn x = true → X.env.cells.lookup x = some c → X.s₀.heap.objs.size ≤ c
  hd : X.calm = true → X.A.handled = none
  frames : X.A.frames = some X.stack
  stk : X.stack = X.outer ∨ (X.stack = X.env :: X.outer ∧ X.env.frame = some X.env.locals)
  exf : ∀ b ∈ X.ex, b ≠ X.env.locals ∧ ∀ x c, X.env.cells.lookup x = some c → c ≠ b
  bs : ∀ b o, X.base.get? b = some o → X.s₀.heap.get? b = some o ∧ X.H₀ b = none
  bsz : X.base.objs.size ≤ X.s₀.heap.objs.size
  noex : ∀ b o, X.base.get? b = some o → b ∉ X.ex
  exfs : ∀ b ∈ X.ex, b ∉ X.fs
  funs : X.s₀.heap.FunFrames X.base X.outer
  frf : ∀ b ∈ X.fs, X.H₀ b = none

structure Inv (X : Cx) (pins : List (Addr × Obj)) (σ : List (Option V)) (H : Hp) (s : Shared) : Prop where
  ok : X.Ok
  os : s.os = X.s₀.os
  bare : AllBare s.gens
  base : Un X.fs X.ex X.H₀ H X.s₀.heap s.heap
  loc : ∃ m, s.heap.Ns X.env.locals m ∧ ∀ (i : Nat) (x : Str) (v : V), X.N[i]? = some x → σ[i]? = some (some v) → Vis X.env.scope x → ∃ u, RelV v u ∧ Look X.env s.heap m x u
  cell : ∀ x c, X.env.cells.lookup x = some c → ∃ v, s.heap.IsCell c v
  free : H X.env.locals = none
  freeC : ∀ x c, X.env.cells.lookup x = some c → H c = none
  pin : ∀ p ∈ X.pn ++ pins, s.heap.get? p.1 = some p.2 ∧ H p.1 = none ∧ p.1 ≠ X.env.locals ∧ p.1 ∉ X.fs ∧ ∀ v, p.2.data ≠ .cell v
  hok : HOk X.prog X.w H s.heap
  len : σ.length = X.N.length

section
variable {X : Cx} {pins : List (Addr × Obj)} {σ : List (Option V)} {H H' : Hp} {s : Shared} {h' : Heap}

theorem Cx.Ok.nofr (ok : X.Ok) {b : Addr} {o : Obj} (e : X.base.get? b = some o) : b ∉ X.fs := fun hb => by
  have := (ok.funs.mem hb).1
  rw [e] at this; cases this
theorem Inv.bs (I : Inv X pins σ H s) : ∀ b o, X.base.get? b = some o → s.heap.get? b = some o ∧ H b = none := fun b o e =>
  ⟨I.base.keep b o (I.ok.bs b o e).1 (I.ok.bs b o e).2 (I.ok.nofr e) (I.ok.noex b o e), I.base.free b o (I.ok.bs b o e).1 (I.ok.bs b o e).2 (I.ok.noex b o e)⟩
theorem Inv.bk (I : Inv X pins σ H s) : ∀ b o, X.base.get? b = some o → s.heap.get? b = some o := fun b o e => (I.bs b o e).1
theorem Inv.mod (I : Inv X pins σ H s) : Mod X.K X.mg X.base := I.ok.mod
theorem Inv.kIn (I : Inv X pins σ H s) : X.K.In s.heap := I.ok.mod.kin.keeps I.bk
theorem Inv.lt (I : Inv X pins σ H s) : X.env.locals < s.heap.objs.size := let ⟨_, hn, _⟩ := I.loc; hn.lt
theorem Inv.sz (I : Inv X pins σ H s) : X.s₀.heap.objs.size ≤ s.heap.objs.size := Nat.le_trans I.ok.above (Nat.le_of_lt I.lt)
theorem Inv.nofs (I : Inv X pins σ H s) {a : Addr} (h : s.heap.objs.size ≤ a) : a ∉ X.fs := fun hb => by
  obtain ⟨_, o, ho, _⟩ := I.ok.funs.mem hb
  exact absurd (Nat.lt_of_lt_of_le (Heap.lt_size ho) (Nat.le_trans I.sz h)) (Nat.lt_irrefl _)
theorem Inv.cne (I : Inv X pins σ H s) : ∀ x c, X.env.cells.lookup x = some c → c ≠ X.env.locals := fun x c e z => by
  obtain ⟨v, o, ho, hd⟩ := I.cell x c e
  obtain ⟨m, ⟨o', es, ep, ho', hd', _⟩, _⟩ := I.loc
  rw [z, ho'] at ho; cases ho; rw [hd'] at hd; cases hd
theorem Inv.funs (I : Inv X pins σ H s) : s.heap.FunFrames X.base X.outer := by
  have all : ∀ (l : List Env), (∀ b ∈ frs l, b ∈ X.fs) → X.s₀.heap.FunFrames X.base l → s.heap.FunFrames X.base l := by
    intro l
    induction l with
    | nil => intro _ _; trivial
    | cons env r ih =>
      intro hs hl
      obtain ⟨hk, ⟨L, o, hf, hn, ho, hd⟩, hr⟩ := hl
      have hL : L ∈ X.fs := hs L (by unfold frs; rw [List.filterMap_cons, hf]; exact List.mem_cons_self)
      obtain ⟨sl, e⟩ := I.base.slot L o ho (I.ok.frf L hL) hL fun z => I.ok.exfs L z hL
      exact ⟨hk, ⟨L, _, hf, hn, e, hd⟩, ih (fun b hb => hs b (by unfold frs; rw [List.filterMap_cons, hf]; exact List.mem_cons_of_mem _ hb)) hr⟩
  exact all X.outer (fun _ hb => hb) I.ok.funs

/-- the frames that run, for a call -/
theorem Inv.stack (I : Inv X pins σ H s) : s.heap.FunFrames X.base X.stack := by
  rcases I.ok.stk with e | ⟨e, hf⟩
  · rw [e]; exact I.funs
  · rw [e]
    obtain ⟨m, hn, _⟩ := I.loc
    refine .cons (by rw [I.ok.kind]; decide) hf hn ?_ I.funs
    exact Heap.get?_none_of_le (Nat.le_trans I.ok.bsz I.ok.above)
theorem Inv.stkSub (I : Inv X pins σ H s) : ∀ b ∈ frs X.stack, b ∈ X.env.locals :: X.fs := fun b hb => by
  rcases I.ok.stk with e | ⟨e, hf⟩
  · rw [e] at hb; exact List.mem_cons_of_mem _ hb
  · rw [e] at hb
    unfold frs at hb
    rw [List.filterMap_cons, hf] at hb
    exact hb
theorem Inv.stkFree (I : Inv X pins σ H s) : ∀ b ∈ frs X.stack, H b = none := fun b hb => by
  rcases List.mem_cons.mp (I.stkSub b hb) with e | hb
  · rw [e]; exact I.free
  · obtain ⟨_, o, ho, _⟩ := I.ok.funs.mem hb
    exact I.base.free b o ho (I.ok.frf b hb) fun z => I.ok.exfs b z hb

/-- THE STEP: the untracked objects but the frame and the records at ch are kept (the callers' frames up to slots), the frame's map is kept, the new abstract heap is held -/
theorem Inv.step {g' : Array GenState} {t' : Nat} {d' : Drawn} {ch : List Addr} (I : Inv X pins σ H s)
    (hch : ∀ b ∈ ch, (b ∈ X.ex ∨ X.s₀.heap.objs.size ≤ b) ∧ b ≠ X.env.locals ∧ (∀ x c, X.env.cells.lookup x = some c → c ≠ b) ∧ ∀ p ∈ X.pn ++ pins, p.1 ≠ b)
    (keep : ∀ b o, b ≠ X.env.locals → b ∉ X.fs → b ∉ ch → s.heap.get? b = some o → H b = none → h'.get? b = some o)
    (slot : ∀ b o, b ≠ X.env.locals → b ∈ X.fs → b ∉ ch → s.heap.get? b = some o → H b = none → ∃ sl, h'.get? b = some { o with slots := sl }) (free : ∀ b o, b ∉ ch → s.heap.get? b = some o → H b = none → H' b = none)
    (there : ∀ b o, b ∉ ch → s.heap.get? b = some o → ∃ o', h'.get? b = some o')
    (tups : ∀ b xs, H b = some (.tup xs) → H' b = some (.tup xs)) (frzs : ∀ b o u, H b = some (.frz o u) → H' b = some (.frz o u)) (tbls : ∀ b ps, H b = some (.tbl ps) → ∃ more, H' b = some (.tbl (ps ++ more)))
    (ns : ∀ m, s.heap.Ns X.env.locals m → h'.Ns X.env.locals m) (hok : HOk X.prog X.w H' h') (hg : AllBare g') :
    Inv X pins σ H' { s with heap := h', gens := g', drawn := d', toks := t' } := by
  have neL : ∀ b o, X.s₀.heap.get? b = some o → b ≠ X.env.locals := fun b o e => Nat.ne_of_lt (Nat.lt_of_lt_of_le (Heap.lt_size e) I.ok.above)
  have neC : ∀ b o, X.s₀.heap.get? b = some o → b ∉ X.ex → b ∉ ch := fun b o e hx hb => by
    rcases (hch b hb).1 with z | z
    · exact hx z
    · exact absurd (Nat.lt_of_lt_of_le (Heap.lt_size e) z) (Nat.lt_irrefl _)
  have cellK : ∀ x c, X.env.cells.lookup x = some c → ∀ v, s.heap.IsCell c v → h'.IsCell c v := fun x c e v ⟨o, ho, hd⟩ => by
    have nch : c ∉ ch := fun z => (hch c z).2.2.1 x c e rfl
    by_cases hc : c ∈ X.fs
    · obtain ⟨sl, q⟩ := slot c o (I.cne x c e) hc nch ho (I.freeC x c e)
      exact ⟨_, q, hd⟩
    · exact ⟨o, keep c o (I.cne x c e) hc nch ho (I.freeC x c e), hd⟩
  refine ⟨I.ok, I.os, hg, ⟨fun b o e n hb hx => ?_, fun b o e n hb hx => ?_, fun b o e n hx => ?_, fun b o e hx => ?_, fun b xs e => tups b xs (I.base.tups b xs e), fun b o xs e => frzs b o xs (I.base.frzs b o xs e), fun b ps e => ?_⟩, ?_, fun x c e => ?_, ?_, fun x c e => ?_, fun p hp => ?_, hok, I.len⟩
  · exact keep b o (neL b o e) hb (neC b o e hx) (I.base.keep b o e n hb hx) (I.base.free b o e n hx)
  · obtain ⟨sl, e1⟩ := I.base.slot b o e n hb hx
    obtain ⟨sl', e2⟩ := slot b _ (neL b o e) hb (neC b o e hx) e1 (I.base.free b o e n hx)
    exact ⟨sl', e2⟩
  · obtain ⟨o', e1⟩ := I.base.there b o e hx
    exact free b o' (neC b o e hx) e1 (I.base.free b o e n hx)
  · obtain ⟨o', e1⟩ := I.base.there b o e hx
    exact there b o' (neC b o e hx) e1
  · obtain ⟨m1, e1⟩ := I.base.tbls b ps e
    obtain ⟨m2, e2⟩ := tbls b _ e1
    exact ⟨m1 ++ m2, by rw [e2, Array.append_assoc]⟩
  · obtain ⟨m, hn, hl⟩ := I.loc
    refine ⟨m, ns m hn, fun i x v e1 e2 e3 => ?_⟩
    obtain ⟨u, r, l⟩ := hl i x v e1 e2 e3
    refine ⟨u, r, ?_⟩
    rcases l with l | ⟨k, c, e, z⟩
    · exact .inl l
    · exact .inr ⟨k, c, e, cellK x c e _ z⟩
  · obtain ⟨v, z⟩ := I.cell x c e
    exact ⟨v, cellK x c e v z⟩
  · obtain ⟨m, ⟨o, _, _, ho, _⟩, _⟩ := I.loc
    exact free _ o (fun z => (hch _ z).2.1 rfl) ho I.free
  · obtain ⟨v, o, ho, hd⟩ := I.cell x c e
    exact free c o (fun z => (hch c z).2.2.1 x c e rfl) ho (I.freeC x c e)
  · obtain ⟨e, n, ne, nf, d⟩ := I.pin p hp
    have nch : p.1 ∉ ch := fun z => (hch p.1 z).2.2.2 p hp rfl
    exact ⟨keep p.1 p.2 ne nf nch e n, free p.1 p.2 nch e n, ne, nf, d⟩
/-- .. where the frame's own object is kept too -/
theorem Inv.un {t' : Nat} (I : Inv X pins σ H s) (u : Un X.fs [] H H' s.heap h') (hok : HOk X.prog X.w H' h') : Inv X pins σ H' { s with heap := h', toks := t' } := by
  obtain ⟨m, ⟨o, es, ep, ho, r⟩, _⟩ := id I.loc
  obtain ⟨sl, hL⟩ := u.any ho I.free (by simp)
  exact I.step (g' := s.gens) (d' := s.drawn) (ch := []) (fun _ z => nomatch z) (fun b o _ hb _ e n => u.keep b o e n hb (by simp)) (fun b o _ hb _ e n => u.slot b o e n hb (by simp)) (fun b o _ e n => u.free b o e n (by simp)) (fun b o _ e => u.there b o e (by simp)) u.tups u.frzs u.tbls (fun m' hm => by
    obtain ⟨o', es', ep', ho', r'⟩ := hm
    rw [ho] at ho'; cases ho'
    exact ⟨_, es', ep', hL, r'⟩) hok I.bare
/-- behind a call (or a comprehension's block): the slots of this frame may have changed too, the records at ch may have turned -/
theorem Inv.call {g' : Array GenState} {t' : Nat} {d' : Drawn} {ch : List Addr} (I : Inv X pins σ H s) (u : Un (frs X.stack) ch H H' s.heap h') (hok : HOk X.prog X.w H' h') (hg : AllBare g')
    (hch : ∀ b ∈ ch, (b ∈ X.ex ∨ X.s₀.heap.objs.size ≤ b) ∧ b ≠ X.env.locals ∧ (∀ x c, X.env.cells.lookup x = some c → c ≠ b) ∧ ∀ p ∈ X.pn ++ pins, p.1 ≠ b) :
    Inv X pins σ H' { s with heap := h', gens := g', drawn := d', toks := t' } := by
  obtain ⟨m, ⟨o, es, ep, ho, r⟩, _⟩ := id I.loc
  obtain ⟨sl, hL⟩ := u.any ho I.free fun z => (hch _ z).2.1 rfl
  exact I.step (ch := ch) hch (fun b o hL hb hc e n => u.keep b o e n (fun z => (List.mem_cons.mp (I.stkSub b z)).elim hL hb) hc) (fun b o _ _ hc e n => u.any e n hc) (fun b o hc e n => u.free b o e n hc) (fun b o hc e => u.there b o e hc) u.tups u.frzs u.tbls (fun m' hm => by
    obtain ⟨o', es', ep', ho', r'⟩ := hm
    rw [ho] at ho'; cases ho'
    exact ⟨_, es', ep', hL, r'⟩) hok hg
/-- an untracked record of ours (an iterator) has turned -/
theorem Inv.turned {t' : Nat} {it : Addr} (I : Inv X pins σ H s) (k : ∀ b o, b ≠ it → s.heap.get? b = some o → h'.get? b = some o) (hn : H it = none) (hL : it ≠ X.env.locals)
    (h1 : it ∈ X.ex ∨ X.s₀.heap.objs.size ≤ it) (h2 : ∀ x c, X.env.cells.lookup x = some c → c ≠ it) (h3 : ∀ p ∈ X.pn ++ pins, p.1 ≠ it) : Inv X pins σ H { s with heap := h', toks := t' } := by
  have nit : ∀ b u, H b = some u → b ≠ it := fun b u e z => by rw [z, hn] at e; cases e
  refine I.step (g' := s.gens) (d' := s.drawn) (ch := [it]) (fun b hb => ?_) (fun b o _ _ hc e _ => k b o (fun z => hc (by simp [z])) e) (fun b o _ _ hc e _ => ⟨o.slots, k b o (fun z => hc (by simp [z])) e⟩) (fun _ _ _ _ n => n)
    (fun b o hc e => ⟨o, k b o (fun z => hc (by simp [z])) e⟩) (fun _ _ e => e) (fun _ _ _ e => e) (fun b ps e => ⟨#[], by rw [e]; simp⟩) (fun m hm => ?_) (fun b u e => ?_) I.bare
  · have e : b = it := by simpa using hb
    subst e
    exact ⟨h1, hL, h2, h3⟩
  · obtain ⟨o, es, ep, ho, r⟩ := hm
    exact ⟨o, es, ep, k _ o (Ne.symm hL) ho, r⟩
  · refine (I.hok b u e).stay (fun c v hc q => k c v ?_ q) (fun _ q => q) fun _ _ q => q
    rcases hc with z | z
    · rw [z]; exact nit b u e
    · exact nit c _ z
theorem Inv.tok (I : Inv X pins σ H s) (t : Nat) : Inv X pins σ H { s with toks := t } := I.un (h' := s.heap) (t' := t) Un.refl I.hok
/-- all objects kept -/
theorem Inv.kept {t' : Nat} (I : Inv X pins σ H s) (k : ∀ b u, s.heap.get? b = some u → h'.get? b = some u) : Inv X pins σ H { s with heap := h', toks := t' } := I.un (Un.kept k) (I.hok.kept k)
/-- a new object laid and tracked -/
theorem Inv.laid {a : Addr} {o : HO} {t' : Nat} (I : Inv X pins σ H s) (k : ∀ b u, s.heap.get? b = some u → h'.get? b = some u) (hp : s.heap.objs.size ≤ a) (new : ObjOk X.prog X.w (upd H a o) h' a o) :
    Inv X pins σ (upd H a o) { s with heap := h', toks := t' } := I.un (Un.laid k hp (I.hok.fresh hp)) (I.hok.laid k hp new)
/-- an object written -/
theorem Inv.write {x e : Addr} {o : HO} {t' : Nat} (I : Inv X pins σ H s) (mu : Mut (H x)) (he : e = x ∨ H e = some (.own x)) (k : ∀ b u, b ≠ e → s.heap.get? b = some u → h'.get? b = some u) (heo : ∃ u, h'.get? e = some u)
    (new : ObjOk X.prog X.w (upd H x o) h' x o) : Inv X pins σ (upd H x o) { s with heap := h', toks := t' } := I.un (Un.write mu he k heo) (I.hok.write mu he k heo new)
theorem Inv.pins_of {pins' : List (Addr × Obj)} (I : Inv X pins σ H s) (h : ∀ p ∈ pins', s.heap.get? p.1 = some p.2 ∧ H p.1 = none ∧ p.1 ≠ X.env.locals ∧ p.1 ∉ X.fs ∧ ∀ v, p.2.data ≠ .cell v) : Inv X pins' σ H s :=
  ⟨I.ok, I.os, I.bare, I.base, I.loc, I.cell, I.free, I.freeC, fun p hp => (List.mem_append.mp hp).elim (fun z => I.pin p (List.mem_append_left _ z)) (h p), I.hok, I.len⟩

theorem nodup_ix {N : List Str} (hN : N.Nodup) {i j : Nat} {x : Str} (a : N[i]? = some x) (b : N[j]? = some x) : i = j := by
  obtain ⟨h1, e1⟩ := List.getElem?_eq_some_iff.mp a
  obtain ⟨h2, e2⟩ := List.getElem?_eq_some_iff.mp b
  exact (List.getElem_inj hN).mp (e1.trans e2.symm)

/-- a name is stored; what changed -/
theorem store_ok2 {M : Model} {A : Around} {E : Value → Shared → Prop} {i : Nat} {x : Str} {v : V} {u : Value} {Q : Unit → Shared → Prop} (I : Inv X pins σ H s) (hN : X.N.Nodup) (hi : X.N[i]? = some x) (hx : Loc X.env.scope x) (r : RelV v u)
    (h : ∀ s', Inv X pins (σ.set i (some v)) H s' → (∃ a, Heap.SameBut a s.heap s'.heap ∧ (a = X.env.locals ∨ X.env.cells.lookup x = some a)) → Q () s') (hf : X.fn x = true ∨ X.env.scope.names.lookup x = some .local := by first | exact .inl rfl | exact .inr rfl | assumption) : wpAny M A (storeName X.env x u) Q E s := by
  obtain ⟨m, hn, hl⟩ := id I.loc
  have hcls : (X.env.scope.kind == .class || (X.env.scope.kind == .module && X.env.locals != X.env.globals)) = false := by rw [I.ok.kind]; rfl
  have hiσ : i < σ.length := by rw [I.len]; exact (List.getElem?_eq_some_iff.mp hi).1
  have cne := I.cne
  have tracked : ∀ {a : Addr} {h' : Heap}, (∃ o, s.heap.get? a = some o ∧ H a = none) → Heap.SameBut a s.heap h' → HOk X.prog X.w H h' := fun {a h'} ha hs b ob e => by
    obtain ⟨_, _, hfree⟩ := ha
    refine (I.hok b ob e).stay (fun c w' hc q => (hs.2 c ?_).trans q) (fun _ q => q) fun _ _ q => q
    rintro rfl
    rcases hc with rfl | hc
    · rw [hfree] at e; cases e
    · rw [hfree] at hc; cases hc
  rcases hx with hk | hk
  · refine wpAny_storeName_local hk hn (fun h' hn' hs => ?_) hcls
    obtain ⟨oL, _, _, hoL, _⟩ := id hn
    refine h _ ⟨I.ok, I.os, I.bare, ⟨fun b o e n hb hx => ?_, fun b o e n hb hx => ?_, I.base.free, fun b o e hx => ?_, I.base.tups, I.base.frzs, I.base.tbls⟩, ⟨_, hn', fun j y v' e1 e2 e3 => ?_⟩, fun y c e => ?_, I.free, I.freeC, fun p hp => ?_, tracked ⟨oL, hoL, I.free⟩ hs, by simpa using I.len⟩ ⟨_, hs, .inl rfl⟩
    · exact (hs.2 b (Nat.ne_of_lt (Nat.lt_of_lt_of_le (Heap.lt_size e) I.ok.above))).trans (I.base.keep b o e n hb hx)
    · obtain ⟨sl, e1⟩ := I.base.slot b o e n hb hx
      exact ⟨sl, (hs.2 b (Nat.ne_of_lt (Nat.lt_of_lt_of_le (Heap.lt_size e) I.ok.above))).trans e1⟩
    · obtain ⟨o', e1⟩ := I.base.there b o e hx
      exact ⟨o', (hs.2 b (Nat.ne_of_lt (Nat.lt_of_lt_of_le (Heap.lt_size e) I.ok.above))).trans e1⟩
    · by_cases hj : j = i
      · subst hj
        rw [hi] at e1; cases e1
        rw [List.getElem?_set_self hiσ] at e2
        cases e2
        exact ⟨u, r, .inl ⟨hk, by simp⟩⟩
      · rw [List.getElem?_set_ne (Ne.symm hj)] at e2
        obtain ⟨u', r', q⟩ := hl j y v' e1 e2 e3
        refine ⟨u', r', ?_⟩
        rcases q with ⟨k, e⟩ | ⟨k, c, e, z⟩
        · refine .inl ⟨k, ?_⟩
          have : y ≠ x := fun e => hj (nodup_ix hN e1 (e ▸ hi))
          simp [this, e]
        · exact .inr ⟨k, c, e, z.sameBut hs (cne y c e)⟩
    · obtain ⟨w', z⟩ := I.cell y c e
      exact ⟨w', z.sameBut hs (cne y c e)⟩
    · obtain ⟨e, n, ne, nf, d⟩ := I.pin p hp
      exact ⟨(hs.2 p.1 ne).trans e, n, ne, nf, d⟩
  · have hfn : X.fn x = true := by
      rcases hf with z | z
      · exact z
      · rw [z] at hk; cases hk
    obtain ⟨c, hc⟩ := I.ok.has x (.inl hk)
    obtain ⟨w', z⟩ := I.cell x c hc
    refine wpAny_storeName_cell I.ok.kind hk hc z (fun h' hc' hs => ?_)
    obtain ⟨oc, hoc, hocd⟩ := id z
    refine h { s with heap := h' } ⟨I.ok, I.os, I.bare, ⟨fun b o e n hb hx => ?_, fun b o e n hb hx => ?_, I.base.free, fun b o e hx => ?_, I.base.tups, I.base.frzs, I.base.tbls⟩, ⟨m, hn.sameBut hs (Ne.symm (cne x c hc)), fun j y v' e1 e2 e3 => ?_⟩, fun y c' e => ?_, I.free, I.freeC, fun p hp => ?_, tracked ⟨oc, hoc, I.freeC x c hc⟩ hs, by simpa using I.len⟩ ⟨c, hs, .inr hc⟩
    · exact (hs.2 b (Nat.ne_of_lt (Nat.lt_of_lt_of_le (Heap.lt_size e) (I.ok.cab x c hfn hc)))).trans (I.base.keep b o e n hb hx)
    · obtain ⟨sl, e1⟩ := I.base.slot b o e n hb hx
      exact ⟨sl, (hs.2 b (Nat.ne_of_lt (Nat.lt_of_lt_of_le (Heap.lt_size e) (I.ok.cab x c hfn hc)))).trans e1⟩
    · obtain ⟨o', e1⟩ := I.base.there b o e hx
      exact ⟨o', (hs.2 b (Nat.ne_of_lt (Nat.lt_of_lt_of_le (Heap.lt_size e) (I.ok.cab x c hfn hc)))).trans e1⟩
    · by_cases hj : j = i
      · subst hj
        rw [hi] at e1; cases e1
        rw [List.getElem?_set_self hiσ] at e2
        cases e2
        exact ⟨u, r, .inr ⟨.inl hk, c, hc, hc'⟩⟩
      · rw [List.getElem?_set_ne (Ne.symm hj)] at e2
        obtain ⟨u', r', q⟩ := hl j y v' e1 e2 e3
        refine ⟨u', r', ?_⟩
        rcases q with q | ⟨k, c', e, z'⟩
        · exact .inl q
        · refine .inr ⟨k, c', e, z'.sameBut hs ?_⟩
          rintro rfl
          exact hj (nodup_ix hN e1 (I.ok.inj _ _ _ e hc ▸ hi))
    · by_cases hcc : c' = c
      · subst hcc; exact ⟨_, hc'⟩
      · obtain ⟨w2, z2⟩ := I.cell y c' e
        exact ⟨w2, z2.sameBut hs hcc⟩
    · obtain ⟨e, n, ne, nf, d⟩ := I.pin p hp
      refine ⟨(hs.2 p.1 ?_).trans e, n, ne, nf, d⟩
      intro q
      rw [q, hoc] at e
      have q' : oc = p.2 := Option.some.inj e
      exact d w' (by rw [← q']; exact hocd)
theorem store_ok {M : Model} {A : Around} {E : Value → Shared → Prop} {i : Nat} {x : Str} {v : V} {u : Value} {Q : Unit → Shared → Prop} (I : Inv X pins σ H s) (hN : X.N.Nodup) (hi : X.N[i]? = some x) (hx : Loc X.env.scope x) (r : RelV v u)
    (h : ∀ s', Inv X pins (σ.set i (some v)) H s' → Q () s') (hf : X.fn x = true ∨ X.env.scope.names.lookup x = some .local := by first | exact .inl rfl | exact .inr rfl | assumption) : wpAny M A (storeName X.env x u) Q E s :=
  store_ok2 I hN hi hx r (fun s' I' _ => h s' I') hf
/-- behind a call or a block, the state as it is -/
theorem Inv.call' {s' : Shared} {ch : List Addr} (I : Inv X pins σ H s) (ho : s'.os = s.os) (u : Un (frs X.stack) ch H H' s.heap s'.heap) (hok : HOk X.prog X.w H' s'.heap) (hg : AllBare s'.gens)
    (hch : ∀ b ∈ ch, (b ∈ X.ex ∨ X.s₀.heap.objs.size ≤ b) ∧ b ≠ X.env.locals ∧ (∀ x c, X.env.cells.lookup x = some c → c ≠ b) ∧ ∀ p ∈ X.pn ++ pins, p.1 ≠ b) : Inv X pins σ H' s' := by
  obtain ⟨h', g', d', t', o'⟩ := s'
  have e : o' = s.os := ho
  subst e
  exact I.call (g' := g') (t' := t') (d' := d') u hok hg hch
end

/-! ### the judgements -/
/-- an exception: its class, its own dict's address (where it has one), the abstract heap behind it -/
abbrev XK := Value → Option Addr → Hp → Prop
abbrev St := List (Option V)
abbrev VK := V → Hp → Prop
/-- an expression's reading; a test's; an argument list's -/
abbrev TE := St → Hp → VK → Prop
abbrev TT := St → Hp → (Bool → Hp → Prop) → Prop
abbrev TA := St → Hp → (List V → Hp → Prop) → Prop
/-- what is wanted behind a statement -/
structure Ends where
  nx : St → Hp → Prop
  rt : VK
  bk : St → Hp → Prop := fun _ _ => False
  ct : St → Hp → Prop := fun _ _ => False
abbrev TS := Ends → St → Hp → Prop

def EP (X : Cx) (pins : List (Addr × Obj)) (σ : St) (Q : VK) (u : Value) (s' : Shared) : Prop := ∃ v H', Inv X pins σ H' s' ∧ RelV v u ∧ Q v H'
def TP (X : Cx) (pins : List (Addr × Obj)) (σ : St) (Q : Bool → Hp → Prop) (b : Bool) (s' : Shared) : Prop := ∃ H', Inv X pins σ H' s' ∧ Q b H'
def AP (X : Cx) (pins : List (Addr × Obj)) (σ : St) (Q : List V → Hp → Prop) (us : List Value) (s' : Shared) : Prop := ∃ vs H', Inv X pins σ H' s' ∧ Vals vs us ∧ Q vs H'
def SP (X : Cx) (pins : List (Addr × Obj)) (D : Ends) (f : Flow) (s' : Shared) : Prop :=
  match f with
  | .next => ∃ σ' H', Inv X pins σ' H' s' ∧ D.nx σ' H'
  | .brk => ∃ σ' H', Inv X pins σ' H' s' ∧ D.bk σ' H'
  | .cont => ∃ σ' H', Inv X pins σ' H' s' ∧ D.ct σ' H'
  | .ret u => ∃ v σ' H', Inv X pins σ' H' s' ∧ RelV v u ∧ D.rt v H'

def PE (X : Cx) (e : Expr) (t : TE) : Prop :=
  ∀ (pins : List (Addr × Obj)) (s : Shared) (σ : St) (H : Hp) (Q : VK), Inv X pins σ H s → t σ H Q → wpAny (model X.prog X.w) X.A (eval e X.env) (EP X pins σ Q) X.xe s
def PT (X : Cx) (e : Expr) (t : TT) : Prop :=
  ∀ (pins : List (Addr × Obj)) (s : Shared) (σ : St) (H : Hp) (Q : Bool → Hp → Prop), Inv X pins σ H s → t σ H Q → wpAny (model X.prog X.w) X.A (isTrue e X.env (eval e X.env)) (TP X pins σ Q) X.xe s
/-- a test whatever its 'whole' is (and, or) -/
def PW (X : Cx) (e : Expr) (t : TT) : Prop :=
  ∀ (whole : Sem Value) (pins : List (Addr × Obj)) (s : Shared) (σ : St) (H : Hp) (Q : Bool → Hp → Prop), Inv X pins σ H s → t σ H Q → wpAny (model X.prog X.w) X.A (isTrue e X.env whole) (TP X pins σ Q) X.xe s
theorem PW.pt {X : Cx} {e : Expr} {t : TT} (h : PW X e t) : PT X e t := h _
/-- an argument list (no star), from the left -/
def PA (X : Cx) (es : List Expr) (t : TA) : Prop :=
  ∀ (pos : Pos) (pins : List (Addr × Obj)) (s : Shared) (σ : St) (H : Hp) (Q : List V → Hp → Prop), Inv X pins σ H s → t σ H Q → wpAny (model X.prog X.w) X.A (spliced (backTo pos (starEach es X.env))) (AP X pins σ Q) X.xe s
def PS (X : Cx) (st : Stmt) (t : TS) : Prop :=
  ∀ (pins : List (Addr × Obj)) (s : Shared) (σ : St) (H : Hp) (D : Ends), Inv X pins σ H s → t D σ H → wpAny (model X.prog X.w) X.A (exec st X.env) (SP X pins D) X.xe s
def PSs (X : Cx) (st : List Stmt) (t : TS) : Prop :=
  ∀ (pins : List (Addr × Obj)) (s : Shared) (σ : St) (H : Hp) (D : Ends), Inv X pins σ H s → t D σ H → wpAny (model X.prog X.w) X.A (execs st X.env) (SP X pins D) X.xe s
/-- weaken the end -/
theorem thn {α : Type} {t : Sem α} {Q Q' : α → Shared → Prop} {M : Model} {A : Around} {E : Value → Shared → Prop} {s : Shared} (h : wpAny M A t Q E s) (hQ : ∀ a s, Q a s → Q' a s) : wpAny M A t Q' E s := wpAny_mono h hQ fun _ _ x => x
end L2

namespace L2
open PySem PySem.Spec PyProof.Rows
section
variable {X : Cx}

/-- two expressions in a row -/
theorem bin {a b : Expr} {ta tb : TE} (ha : PE X a ta) (hb : PE X b tb) {pins : List (Addr × Obj)} {s : Shared} {σ : St} {H : Hp} {R : V → V → Hp → Prop} (I : Inv X pins σ H s) (h : ta σ H fun x H1 => tb σ H1 fun y H2 => R x y H2)
    {α : Type} {Q : α → Shared → Prop} {f : Value → Value → Sem α}
    (hf : ∀ v u s2 x y H2, Inv X pins σ H2 s2 → RelV x v → RelV y u → R x y H2 → wpAny (model X.prog X.w) X.A (f v u) Q X.xe s2) :
    wpAny (model X.prog X.w) X.A (eval a X.env) (fun v s₁ => wpAny (model X.prog X.w) X.A (eval b X.env) (fun u s₂ => wpAny (model X.prog X.w) X.A (f v u) Q X.xe s₂) X.xe s₁) X.xe s := by
  refine thn (ha pins s σ H _ I h) fun v s1 ⟨x, H1, I1, r1, q1⟩ => ?_
  refine thn (hb pins s1 σ H1 _ I1 q1) fun u s2 ⟨y, H2, I2, r2, q2⟩ => ?_
  exact hf v u s2 x y H2 I2 r1 r2 q2

/-! ### names and constants -/
def tVar (i : Nat) : TE := fun σ H Q => ∃ v, σ[i]? = some (some v) ∧ Q v H
def tC (v : V) : TE := fun _ H Q => Q v H
theorem pe_var {i : Nat} {x : Str} {pos : Pos} (hN : X.N[i]? = some x) (hv : Vis X.env.scope x) (hd : (x == ("__debug__" : Str)) = false := by decide) (hcd : (x == ("__classdict__" : Str)) = false := by decide) : PE X (.Name x pos) (tVar i) := by
  intro pins s σ H Q I h
  obtain ⟨v, e, h⟩ := h
  obtain ⟨m, hn, hl⟩ := I.loc
  obtain ⟨u, r, l⟩ := hl i x v hN e hv
  have fin : EP X pins σ Q u s := ⟨v, H, I, r, h⟩
  rcases l with ⟨hk, hm⟩ | ⟨hk, c, hc, hcell⟩
  · exact wpAny_Name (wpAny_loadName_local I.ok.kind hk hn hm fin) hd
  · rcases hk with hk | hk
    · exact wpAny_Name (wpAny_loadName_cell I.ok.kind hk hc hcell fin) hd
    · exact wpAny_Name (wpAny_loadName_free I.ok.kind hk hc hcell fin hcd) hd
theorem pe_int {i j pos} : PE X (.Constant (.int i) j pos) (tC (.int i)) := fun _ _ _ H _ I h => wpAny_Constant_int ⟨.int i, H, I.tok _, ⟨_, rfl⟩, h⟩
theorem pe_bl {b j pos} : PE X (.Constant (.bool b) j pos) (tC (.bl b)) := fun _ _ _ H _ I h => Constant_bool ⟨.bl b, H, I, rfl, h⟩
theorem pe_non {j pos} : PE X (.Constant .none j pos) (tC .non) := fun _ _ _ H _ I h => Constant_none ⟨.non, H, I, rfl, h⟩
/-- a global name of the def -/
def Gl (X : Cx) (x : Str) : Prop := X.env.kindOf x = some .globalImplicit
theorem ld_glob {E : Value → Shared → Prop} {pins : List (Addr × Obj)} {s : Shared} {σ : St} {H : Hp} {x : Str} {u : Value} {pos : Pos} {Q : Value → Shared → Prop} (I : Inv X pins σ H s) (hg : Gl X x) (hm : X.mg x = some u) (h : Q u s)
    (hd : (x == ("__debug__" : Str)) = false := by decide) : wpAny (model X.prog X.w) X.A (eval (.Name x pos) X.env) Q E s :=
  Calls.Name_function_global I.ok.kind hg (Calls.loadGlobal_global (by rw [I.ok.glob]; exact I.mod.glob.keeps I.bk) hm h) hd
theorem ld_blt {E : Value → Shared → Prop} {pins : List (Addr × Obj)} {s : Shared} {σ : St} {H : Hp} {x : Str} {u : Value} {pos : Pos} {Q : Value → Shared → Prop} (I : Inv X pins σ H s) (hg : Gl X x) (hm : X.mg x = none) (hv : bootBuiltins x = some u) (h : Q u s)
    (hn : x ≠ "__name__" := by decide) (hd : (x == ("__debug__" : Str)) = false := by decide) : wpAny (model X.prog X.w) X.A (eval (.Name x pos) X.env) Q E s := by
  obtain ⟨mb, h1, h2⟩ := I.mod.blt
  exact Calls.Name_function_global I.ok.kind hg (Calls.loadGlobal_builtin (by rw [I.ok.glob]; exact I.mod.glob.keeps I.bk) hm (by rw [I.ok.blt]; exact h1.keeps I.bk) ((h2 x hn).trans hv) h) hd
/-! ### arithmetic -/
/-- two ints -/
def t2I (ta tb : TE) (k : Int → Int → Hp → Prop) : St → Hp → Prop := fun σ H => ta σ H fun x H1 => tb σ H1 fun y H2 => ∃ i j, x = .int i ∧ y = .int j ∧ k i j H2
def tAdd (ta tb : TE) : TE := fun σ H Q => t2I ta tb (fun i j H2 => Q (.int (i + j)) H2) σ H
def tSub (ta tb : TE) : TE := fun σ H Q => t2I ta tb (fun i j H2 => Q (.int (i - j)) H2) σ H
/-- the left factor below 2^64 -/
def tMul (ta tb : TE) : TE := fun σ H Q => t2I ta tb (fun i j H2 => (-(2 ^ 64) < i ∧ i < 2 ^ 64) ∧ Q (.int (i * j)) H2) σ H
variable {a b : Expr} {ta tb : TE} {pos : Pos}
/-! ### comparisons -/
def PC (X : Cx) (op : CmpOp) (a b : Expr) (t : TE) : Prop :=
  ∀ (pins : List (Addr × Obj)) (s : Shared) (σ : St) (H : Hp) (Q : VK), Inv X pins σ H s → t σ H Q →
    wpAny (model X.prog X.w) X.A (eval a X.env) (fun v s₁ => wpAny (model X.prog X.w) X.A (eval b X.env) (fun u s₂ => wpAny (model X.prog X.w) X.A (compareOp op v u) (EP X pins σ Q) X.xe s₂) X.xe s₁) X.xe s
def tCmp (p : Int → Int → Bool) (ta tb : TE) : TE := fun σ H Q => t2I ta tb (fun i j H2 => Q (.bl (p i j)) H2) σ H
abbrev tLt : TE → TE → TE := tCmp fun i j => decide (i < j)
abbrev tLe : TE → TE → TE := tCmp fun i j => decide (i ≤ j)
abbrev tGt : TE → TE → TE := tCmp fun i j => decide (j < i)
abbrev tGe : TE → TE → TE := tCmp fun i j => decide (j ≤ i)
abbrev tEqI : TE → TE → TE := tCmp fun i j => decide (i = j)
abbrev tNeI : TE → TE → TE := tCmp fun i j => !decide (i = j)
/-- is None -/
def tIsN (ta : TE) : TE := fun σ H Q => ta σ H fun x H1 => Q (.bl (decide (x = .non))) H1
def tNotN (ta : TE) : TE := fun σ H Q => ta σ H fun x H1 => Q (.bl (!decide (x = .non))) H1
/-- a comparison as a value, as a test -/
def tB (t : TE) : TT := fun σ H Q => t σ H fun x H1 => ∃ c, x = .bl c ∧ Q c H1
theorem pt_cmp {op : CmpOp} {t : TE} (h : PC X op a b t) (h1 : behindInMarks op b = false := by first | exact nobehind _ (by decide) (by decide) | rfl) : PT X (.Compare a [op] [b] pos) (tB t) := by
  intro pins s σ H Q I hw
  refine wpAny_isTrue_Compare1 (thn (h pins s σ H _ I hw) fun v s1 h1 => thn h1 fun u s2 h2 => thn h2 fun c s3 ⟨x, H1, I1, r1, q1⟩ => ?_) h1
  obtain ⟨d, rfl, q⟩ := q1
  cases r1
  exact wpAny_truthy_bool ⟨H1, I1, q⟩
/-- an expression whose value is a bool, as a test -/
theorem pt_val {e : Expr} {t : TE} (h : PE X e t) (he : ∀ whole, isTrue e X.env whole = (do let v ← whole; standAt e.pos; holding [v] (truthy v)) := by intro _; rfl) : PT X e (tB t) := by
  intro pins s σ H Q I hw
  refine isTrue_plain (thn (h pins s σ H _ I hw) fun v s1 ⟨x, H1, I1, r1, q1⟩ => ?_) (he _)
  obtain ⟨d, rfl, q⟩ := q1
  cases r1
  exact wpAny_truthy_bool ⟨H1, I1, q⟩

/-! ### and, or, not -/
variable {tA tB' : TT} {rest : List Expr}
def tAnd (t u : TT) : TT := fun σ H Q => t σ H fun c H1 => if c = true then u σ H1 Q else Q false H1
def tOr (t u : TT) : TT := fun σ H Q => t σ H fun c H1 => if c = true then Q true H1 else u σ H1 Q
def tNot (t : TT) : TT := fun σ H Q => t σ H fun c H1 => Q (!c) H1
theorem pw_and1 (ha : PT X a tA) : PW X (.BoolOp .And [a] pos) tA := by
  intro wh pins s σ H Q I h
  refine isTrue_and (thn (ha pins s σ H Q I h) fun c s1 e => ?_)
  cases c with
  | true => exact isTrue_and_nil e
  | false => exact e
theorem pw_or1 (ha : PT X a tA) : PW X (.BoolOp .Or [a] pos) tA := by
  intro wh pins s σ H Q I h
  refine isTrue_or (thn (ha pins s σ H Q I h) fun c s1 e => ?_)
  cases c with
  | false => exact isTrue_or_nil e
  | true => exact e
theorem pw_and (ha : PT X a tA) (hb : PW X (.BoolOp .And (b :: rest) pos) tB') : PW X (.BoolOp .And (a :: b :: rest) pos) (tAnd tA tB') := by
  intro wh pins s σ H Q I h
  refine isTrue_and (thn (ha pins s σ H _ I h) fun c s1 ⟨H1, I1, q1⟩ => ?_)
  cases c with
  | true => exact hb wh pins s1 σ H1 Q I1 q1
  | false => exact ⟨H1, I1, q1⟩
theorem pw_or (ha : PT X a tA) (hb : PW X (.BoolOp .Or (b :: rest) pos) tB') : PW X (.BoolOp .Or (a :: b :: rest) pos) (tOr tA tB') := by
  intro wh pins s σ H Q I h
  refine isTrue_or (thn (ha pins s σ H _ I h) fun c s1 ⟨H1, I1, q1⟩ => ?_)
  cases c with
  | true => exact ⟨H1, I1, q1⟩
  | false => exact hb wh pins s1 σ H1 Q I1 q1
theorem pt_not (ha : PT X a tA) : PT X (.UnaryOp .Not a pos) (tNot tA) := by
  intro pins s σ H Q I h
  exact isTrue_not (ha pins s σ H (fun c H1 => Q (!c) H1) I h)
/-- .. as values (bools) -/
def tAndV (ta tb : TE) : TE := fun σ H Q => ta σ H fun x H1 => ∃ c, x = .bl c ∧ if c = true then tb σ H1 Q else Q (.bl false) H1
def tOrV (ta tb : TE) : TE := fun σ H Q => ta σ H fun x H1 => ∃ c, x = .bl c ∧ if c = true then Q (.bl true) H1 else tb σ H1 Q
def tNotV (ta : TE) : TE := fun σ H Q => ta σ H fun x H1 => ∃ c, x = .bl c ∧ Q (.bl (!c)) H1
theorem pe_one {op} {t : TE} (h : PE X a t) : PE X (.BoolOp op [a] pos) t := fun pins s σ H Q I hw => BoolOp_one (h pins s σ H Q I hw)
theorem pe_and (ha : PE X a ta) (hb : PE X (.BoolOp .And (b :: rest) pos) tb) : PE X (.BoolOp .And (a :: b :: rest) pos) (tAndV ta tb) := by
  intro pins s σ H Q I h
  refine BoolOp_and (thn (ha pins s σ H _ I h) fun v s1 ⟨x, H1, I1, r1, q1⟩ => ?_)
  obtain ⟨c, rfl, q1⟩ := q1
  cases r1
  refine wpAny_truthy_bool ?_
  cases c with
  | true => exact hb pins s1 σ H1 Q I1 q1
  | false => exact ⟨.bl false, H1, I1, rfl, q1⟩
/-- a if t else b -/
def tIf (t : TT) (ta tb : TE) : TE := fun σ H Q => t σ H fun c H1 => if c = true then ta σ H1 Q else tb σ H1 Q
end
end L2

namespace L2
open PySem PySem.Spec PyProof.Rows

/-! ### a list, a tuple that is read: tracked, frozen, or an object of the module -/
def SqL (K : PySem.W.Frag) (H : Hp) (a : Addr) (xs : List V) : Prop :=
  Rd H a (.lst xs) ∨
    ∃ (o : Obj) (its : Array Value) (n : Nat), K.lookup a = some o ∧ o.cls = .type "list" ∧ o.dict = none ∧ o.data = .seq its n ∧ its.size ≤ sizeLine ∧ Vals xs its.toList
def SqT (K : PySem.W.Frag) (H : Hp) (a : Addr) (xs : List V) : Prop :=
  Rd H a (.tup xs) ∨
    ∃ (o : Obj) (its : Array Value) (n : Nat), K.lookup a = some o ∧ o.cls = .type "tuple" ∧ o.data = .seq its n ∧ its.size ≤ sizeLine ∧ Vals xs its.toList
def absV : Value → Option V
  | .none => some .non
  | .bool b => some (.bl b)
  | .int i _ => some (.int i)
  | .str x _ => some (.str x)
  | .bytes b _ => some (.byt b)
  | .float b _ => some (.flt b)
  | .ref a => some (.ref a)
  | .type n => some (.ty n)
  | _ => none
theorem RelV.abs {x : V} {u : Value} (r : RelV x u) : absV u = some x := by
  cases x with
  | non => cases r; rfl
  | bl _ => cases r; rfl
  | int _ => obtain ⟨t, rfl⟩ := r; rfl
  | str _ => obtain ⟨t, rfl⟩ := r; rfl
  | byt _ => obtain ⟨t, rfl⟩ := r; rfl
  | flt _ => obtain ⟨t, rfl⟩ := r; rfl
  | ref _ => cases r; rfl
  | ty _ => cases r; rfl
theorem RelV.inj {x y : V} {u : Value} (r : RelV x u) (q : RelV y u) : x = y := Option.some.inj (r.abs.symm.trans q.abs)
theorem Vals.inj : ∀ {xs ys : List V} {us : List Value}, Vals xs us → Vals ys us → xs = ys
  | _, _, _, .nil, .nil => rfl
  | _, _, _, .cons r t, .cons r' t' => by rw [r.inj r', Vals.inj t t']
section
variable {X : Cx} {pins : List (Addr × Obj)} {σ : St} {H : Hp} {s : Shared} {a : Addr} {xs ys : List V}
theorem SqL.of {K : PySem.W.Frag} (h : H a = some (.lst xs)) : SqL K H a xs := .inl (.inl h)
theorem SqT.of {K : PySem.W.Frag} (h : H a = some (.tup xs)) : SqT K H a xs := .inl (.inl h)
theorem Inv.list (I : Inv X pins σ H s) (h : SqL X.K H a xs) : ∃ its : List Value, Vals xs its ∧ PlainL s.heap a its.toArray ∧ xs.length ≤ sizeLine := by
  rcases h with h | ⟨o, its, n, hk, hc, hd, hs, hz, r⟩
  · obtain ⟨z, its, n, r, e⟩ := h.ok I.hok
    exact ⟨its, r, ⟨_, n, e, rfl, rfl, rfl⟩, z⟩
  · refine ⟨its.toList, r, ⟨o, n, I.kIn a o hk, hc, hd, by simpa using hs⟩, ?_⟩
    have e := r.length
    simp only [Array.length_toList] at e
    (first | lia | omega)
theorem Inv.tuple (I : Inv X pins σ H s) (h : SqT X.K H a xs) : ∃ its : List Value, Vals xs its ∧ IsTup s.heap a its.toArray ∧ xs.length ≤ sizeLine := by
  rcases h with h | ⟨o, its, n, hk, hc, hs, hz, r⟩
  · obtain ⟨z, its, r, p⟩ := h.ok I.hok
    exact ⟨its, r, p, z⟩
  · refine ⟨its.toList, r, ⟨o, I.kIn a o hk, hc, n, by simpa using hs⟩, ?_⟩
    have e := r.length
    simp only [Array.length_toList] at e
    (first | lia | omega)
theorem Inv.list_inj (I : Inv X pins σ H s) (h : SqL X.K H a xs) (h' : SqL X.K H a ys) : xs = ys := by
  obtain ⟨its, r, ⟨o, n, e, _, _, d⟩, _⟩ := I.list h
  obtain ⟨its', r', ⟨o', n', e', _, _, d'⟩, _⟩ := I.list h'
  rw [e] at e'; cases e'
  rw [d] at d'
  injection d' with d1 _
  have : its = its' := by simpa using congrArg Array.toList d1
  subst this
  exact r.inj r'
theorem Inv.tuple_inj (I : Inv X pins σ H s) (h : SqT X.K H a xs) (h' : SqT X.K H a ys) : xs = ys := by
  obtain ⟨its, r, ⟨o, e, _, n, d⟩, _⟩ := I.tuple h
  obtain ⟨its', r', ⟨o', e', _, n', d'⟩, _⟩ := I.tuple h'
  rw [e] at e'; cases e'
  rw [d] at d'
  injection d' with d1 _
  have : its = its' := by simpa using congrArg Array.toList d1
  subst this
  exact r.inj r'
end

/-! ### another wish about exceptions -/
abbrev Cx.wish (X : Cx) (E : Value → Shared → Prop) : Cx := { X with xe := E }
/-- no exception leaves -/
abbrev Cx.nox (X : Cx) : Cx := X.wish fun _ _ => False
theorem Cx.Ok.wish {X : Cx} (ok : X.Ok) (E : Value → Shared → Prop) : (X.wish E).Ok :=
  ⟨ok.mod, ok.kind, ok.glob, ok.blt, ok.above, ok.inj, ok.has, ok.cab, ok.hd, ok.frames, ok.stk, ok.exf, ok.bs, ok.bsz, ok.noex, ok.exfs, ok.funs, ok.frf⟩
theorem Cx.Ok.unwish {X : Cx} {E : Value → Shared → Prop} (ok : (X.wish E).Ok) : X.Ok :=
  ⟨ok.mod, ok.kind, ok.glob, ok.blt, ok.above, ok.inj, ok.has, ok.cab, ok.hd, ok.frames, ok.stk, ok.exf, ok.bs, ok.bsz, ok.noex, ok.exfs, ok.funs, ok.frf⟩
section
variable {X : Cx} {pins : List (Addr × Obj)} {σ : St} {H : Hp} {s : Shared} {E : Value → Shared → Prop}
theorem Inv.wish (I : Inv X pins σ H s) (E : Value → Shared → Prop) : Inv (X.wish E) pins σ H s := ⟨I.ok.wish E, I.os, I.bare, I.base, I.loc, I.cell, I.free, I.freeC, I.pin, I.hok, I.len⟩
theorem Inv.unwish (I : Inv (X.wish E) pins σ H s) : Inv X pins σ H s := ⟨I.ok.unwish, I.os, I.bare, I.base, I.loc, I.cell, I.free, I.freeC, I.pin, I.hok, I.len⟩
theorem SP.unwish {D : Ends} {f : Flow} {s' : Shared} (h : SP (X.wish E) pins D f s') : SP X pins D f s' := by
  cases f with
  | next => obtain ⟨σ', H', I, q⟩ := h; exact ⟨σ', H', I.unwish, q⟩
  | brk => obtain ⟨σ', H', I, q⟩ := h; exact ⟨σ', H', I.unwish, q⟩
  | cont => obtain ⟨σ', H', I, q⟩ := h; exact ⟨σ', H', I.unwish, q⟩
  | ret u => obtain ⟨v, σ', H', I, r, q⟩ := h; exact ⟨v, σ', H', I.unwish, r, q⟩
theorem PSs.nox {st : List Stmt} {t : TS} (h : PSs X.nox st t) : PSs X st t := fun pins s σ H D I hw =>
  wpAny_mono (h pins s σ H D (I.wish _) hw) (fun _ _ q => q.unwish) fun _ _ z => False.elim z
end

/-! ### blocks and small statements -/
section
variable {X : Cx} {st : Stmt} {rest : List Stmt} {t u : TS} {e : Expr} {te : TE} {pos : Pos}
def tNext : TS := fun D σ H => D.nx σ H
def tSeq (t u : TS) : TS := fun D σ H => t { D with nx := u D } σ H
theorem pss_nil : PSs X [] tNext := fun _ _ σ H _ I h => wpAny_execs_nil ⟨σ, H, I, h⟩
theorem pss_cons (h1 : PS X st t) (h2 : PSs X rest u) : PSs X (st :: rest) (tSeq t u) := by
  intro pins s σ H D I h
  refine wpAny_execs_cons (thn (h1 pins s σ H { D with nx := u D } I h) fun f s1 q => ?_)
  cases f with
  | next =>
    obtain ⟨σ', H', I', q⟩ := q
    exact h2 pins s1 σ' H' D I' q
  | ret v => exact q
  | brk => exact q
  | cont => exact q
theorem pss_one (h1 : PS X st t) : PSs X [st] t := by
  intro pins s σ H D I h
  refine wpAny_execs_cons (thn (h1 pins s σ H D I h) fun f s1 q => ?_)
  cases f with
  | next => exact wpAny_execs_nil q
  | ret v => exact q
  | brk => exact q
  | cont => exact q
def tBreak : TS := fun D σ H => D.bk σ H
def tCont : TS := fun D σ H => D.ct σ H
/-- in a def's body nothing is shown -/
theorem Inv.quiet {pins : List (Addr × Obj)} {σ : St} {H : Hp} {s : Shared} (I : Inv X pins σ H s) : interactive X.env = false := by simp [interactive, I.ok.kind]
/-- an expression whose value is dropped -/
def tDrop (te : TE) : TS := fun D σ H => te σ H fun _ H1 => D.nx σ H1
theorem ps_expr (he : PE X e te) (hs : swapsWith e none pos.line X.env = pure false := by rfl) : PS X (.Expr e pos) (tDrop te) := by
  intro pins s σ H D I h
  exact wpAny_Expr_any (thn (he pins s σ H _ I h) fun v s1 ⟨x, H1, I1, r1, q1⟩ => ⟨σ, H1, I1, q1⟩) I.quiet hs
def tRet (te : TE) : TS := fun D σ H => te σ H D.rt
theorem ps_ret (he : PE X e te) : PS X (.Return (some e) pos) (tRet te) := by
  intro pins s σ H D I h
  exact wpAny_Return_some (thn (he pins s σ H _ I h) fun v s1 ⟨x, H1, I1, r1, q1⟩ => ⟨x, σ, H1, I1, r1, q1⟩)
def tRetN : TS := fun D _ H => D.rt .non H
def tIfS (c : TT) (t u : TS) : TS := fun D σ H => c σ H fun b H1 => if b = true then t D σ H1 else u D σ H1
theorem ps_if {c : Expr} {a b : List Stmt} {tc : TT} (hc : PT X c tc) (ha : PSs X a t) (hb : PSs X b u) : PS X (.If c a b pos) (tIfS tc t u) := by
  intro pins s σ H D I h
  refine wpAny_If (thn (hc pins s σ H _ I h) fun d s1 ⟨H1, I1, q1⟩ => ?_)
  cases d with
  | true => exact ha pins s1 σ H1 D I1 q1
  | false => exact hb pins s1 σ H1 D I1 q1
/-- code that the proof never comes to -/
def tNever : TS := fun _ _ _ => False
theorem ps_never : PS X st tNever := fun _ _ _ _ _ _ h => h.elim
end

/-! ### targets -/
abbrev TG := V → St → Hp → (St → Hp → Prop) → Prop
abbrev TGs := List V → St → Hp → (St → Hp → Prop) → Prop
def PG (X : Cx) (target : Expr) (t : TG) : Prop :=
  ∀ (pins : List (Addr × Obj)) (s : Shared) (σ : St) (H : Hp) (v : V) (u : Value) (Q : St → Hp → Prop), Inv X pins σ H s → RelV v u → t v σ H Q →
    wpAny (model X.prog X.w) X.A (assign target X.env u) (fun _ s' => ∃ σ' H', Inv X pins σ' H' s' ∧ Q σ' H') X.xe s
/-- several targets, one after another -/
def PGs (X : Cx) (ts : List Expr) (t : TGs) : Prop :=
  ∀ (pins : List (Addr × Obj)) (s : Shared) (σ : St) (H : Hp) (vs : List V) (us : List Value) (Q : St → Hp → Prop), Inv X pins σ H s → Vals vs us → t vs σ H Q →
    wpAny (model X.prog X.w) X.A (assignInOrder ((assignEach ts X.env).map (·.2)) us) (fun _ s' => ∃ σ' H', Inv X pins σ' H' s' ∧ Q σ' H') X.xe s
/-- o[i] = v, by values -/
abbrev TSet := V → V → V → Hp → (Hp → Prop) → Prop
def PSet (X : Cx) (t : TSet) : Prop :=
  ∀ (pins : List (Addr × Obj)) (s : Shared) (σ : St) (H : Hp) (o i v : V) (ov iv u : Value) (Q : Hp → Prop), Inv X pins σ H s → RelV o ov → RelV i iv → RelV v u → t o i v H Q →
    wpAny (model X.prog X.w) X.A (setItem ov iv u) (fun _ s' => ∃ H', Inv X pins σ H' s' ∧ Q H') X.xe s
/-- a op= b, by values -/
abbrev TIp := V → V → Hp → VK → Prop
def PIp (X : Cx) (op : Operator) (t : TIp) : Prop :=
  ∀ (pins : List (Addr × Obj)) (s : Shared) (σ : St) (H : Hp) (x y : V) (v u : Value) (Q : VK), Inv X pins σ H s → RelV x v → RelV y u → t x y H Q →
    wpAny (model X.prog X.w) X.A (inplaceOp op v u) (EP X pins σ Q) X.xe s
section
variable {X : Cx} {pos : Pos}
def gName (i : Nat) : TG := fun v σ H Q => Q (σ.set i (some v)) H
theorem pg_name {i : Nat} {x : Str} (hN : X.N.Nodup) (hi : X.N[i]? = some x) (hx : Loc X.env.scope x) (hf : X.fn x = true ∨ X.env.scope.names.lookup x = some .local := by first | exact .inl rfl | exact .inr rfl | assumption) : PG X (.Name x pos) (gName i) := by
  intro pins s σ H v u Q I r h
  exact wpAny_assign_Name (store_ok I hN hi hx r (fun s' I' => ⟨_, H, I', h⟩) hf)
def gNil : TGs := fun vs σ H Q => vs = [] ∧ Q σ H
def gCons (t : TG) (u : TGs) : TGs := fun vs σ H Q => ∃ v r, vs = v :: r ∧ t v σ H fun σ' H' => u r σ' H' Q
theorem pgs_nil : PGs X [] gNil := by
  intro pins s σ H vs us Q I r h
  obtain ⟨e, h⟩ := h
  subst e
  cases r
  exact assignInOrder_nil ⟨σ, H, I, h⟩
theorem pgs_cons {e : Expr} {es : List Expr} {t : TG} {u : TGs} (h1 : PG X e t) (h2 : PGs X es u)
    (hs : (assignEach (e :: es) X.env).map (·.2) = assign e X.env :: (assignEach es X.env).map (·.2) := by rfl) : PGs X (e :: es) (gCons t u) := by
  intro pins s σ H vs us Q I r h
  obtain ⟨v, vr, e1, h⟩ := h
  subst e1
  cases r with
  | cons r rr =>
    rw [hs]
    refine assignInOrder_cons (thn (h1 pins s σ H _ _ _ I r h) fun _ s1 ⟨σ1, H1, I1, q1⟩ => ?_)
    exact h2 pins s1 σ1 H1 _ _ Q I1 rr q1
/-- (a, b, ..) = a tuple of that length -/
def gTup (K : PySem.W.Frag) (n : Nat) (t : TGs) : TG := fun v σ H Q => ∃ a xs, v = .ref a ∧ SqT K H a xs ∧ xs.length = n ∧ t xs σ H Q
theorem pg_tup {es : List Expr} {k : Nat} {t : TGs} {n : Nat} (hc : X.calm = true) (h : PGs X es t)
    (hn : (assignEach es X.env).length = n := by rfl) (hst : (assignEach es X.env).findIdx? (·.1) = none := by rfl) : PG X (.Tuple es k pos) (gTup X.K n t) := by
  intro pins s σ H v u Q I r hw
  obtain ⟨a, xs, e1, hq, hl, hw⟩ := hw
  subst e1
  cases r
  obtain ⟨its, rv, ht, hz⟩ := I.tuple hq
  refine assign_Tuple_tuple (I.ok.hd hc) ht (by simp [hn, ← hl, rv.length]) hst fun h' hx => ?_
  have I1 : Inv X pins σ H { s with heap := h' } := I.kept (t' := s.toks) fun b o e => hx b o (Nat.ne_of_lt (Heap.lt_size e)) e
  exact h pins _ σ H xs _ Q I1 (by simpa using rv) hw
/-- o[i] = .. -/
def gSub (to ti : TE) (t : TSet) : TG := fun v σ H Q => to σ H fun o H1 => ti σ H1 fun i H2 => t o i v H2 fun H3 => Q σ H3
/-- target = value -/
def tAsg (te : TE) (g : TG) : TS := fun D σ H => te σ H fun x H1 => g x σ H1 D.nx
theorem ps_asg {tg e : Expr} {te : TE} {g : TG} (he : PE X e te) (hg : PG X tg g) (hs : swapsWithSole [tg] e pos.line X.env = pure false := by rfl) (hw : swappedStores [tg] e X.env = pure none := by rfl)
    (h1 : (assignEach [tg] X.env).map (·.2) = [assign tg X.env] := by rfl) : PS X (.Assign [tg] e pos) (tAsg te g) := by
  intro pins s σ H D I h
  refine wpAny_Assign_stores (thn (he pins s σ H _ I h) fun v s1 ⟨x, H1, I1, r1, q1⟩ => ?_) hs hw
  rw [h1]
  exact thn (hg pins s1 σ H1 x v _ I1 r1 q1) fun _ s2 q => q
/-- name = value -/
theorem ps_set {i : Nat} {x : Str} {e : Expr} {te : TE} {pos' : Pos} (hN : X.N.Nodup) (hi : X.N[i]? = some x) (hx : Loc X.env.scope x) (he : PE X e te) (hs : swapsWith e (some (.Name x pos')) pos.line X.env = pure false := by rfl) (hf : X.fn x = true ∨ X.env.scope.names.lookup x = some .local := by first | exact .inl rfl | exact .inr rfl | assumption) :
    PS X (.Assign [.Name x pos'] e pos) (tAsg te (gName i)) := by
  intro pins s σ H D I h
  refine wpAny_Assign_Name (thn (he pins s σ H _ I h) fun v s1 ⟨y, H1, I1, r1, q1⟩ => ?_) hs
  exact store_ok I1 hN hi hx r1 (fun s2 I2 => ⟨_, H1, I2, q1⟩) hf
/-- a, b = x, y with plain local names: stored from the right; the pair itself is not tracked (the opening rows as in PyProof/Rows/TupAssign.lean:23) -/
def tPar (i j : Nat) (ta : TA) : TS := fun D σ H => ta σ H fun vs H1 => ∃ v w, vs = [v, w] ∧ D.nx ((σ.set i (some v)).set j (some w)) H1
/-- name op= e -/
def tAug (i : Nat) (te : TE) (ti : TIp) : TS := fun D σ H => ∃ x, σ[i]? = some (some x) ∧ te σ H fun y H1 => ti x y H1 fun z H2 => D.nx (σ.set i (some z)) H2
theorem ps_aug {i : Nat} {x : Str} {e : Expr} {te : TE} {op : Operator} {ti : TIp} {pos' : Pos} (hN : X.N.Nodup) (hi : X.N[i]? = some x) (hx : Loc X.env.scope x) (he : PE X e te) (ho : PIp X op ti) (hf : X.fn x = true ∨ X.env.scope.names.lookup x = some .local := by first | exact .inl rfl | exact .inr rfl | assumption) :
    PS X (.AugAssign (.Name x pos') op e pos) (tAug i te ti) := by
  intro pins s σ H D I h
  obtain ⟨v, e1, h⟩ := h
  obtain ⟨m, hn, hl⟩ := I.loc
  have vis : Vis X.env.scope x := by rcases hx with k | k; exact .inl k; exact .inr (.inl k)
  obtain ⟨u, r, l⟩ := hl i x v hi e1 vis
  refine wpAny_AugAssign_Name ?_
  have go : wpAny (model X.prog X.w) X.A (eval e X.env) (fun w s₂ => wpAny (model X.prog X.w) X.A (inplaceOp op u w) (fun r s₃ => wpAny (model X.prog X.w) X.A (storeName X.env x r) (fun _ => SP X pins D .next) X.xe s₃) X.xe s₂) X.xe s := by
    refine thn (he pins s σ H _ I h) fun w s1 ⟨y, H1, I1, r1, q1⟩ => ?_
    refine thn (ho pins s1 σ H1 v y u w _ I1 r r1 q1) fun z s2 ⟨zv, H2, I2, r2, q2⟩ => ?_
    exact store_ok I2 hN hi hx r2 (fun s3 I3 => ⟨_, H2, I3, q2⟩) hf
  rcases l with ⟨hk, hm⟩ | ⟨hk, c, hc, hcell⟩
  · exact wpAny_loadName_local I.ok.kind hk hn hm go
  · rcases hk with hk | hk
    · exact wpAny_loadName_cell I.ok.kind hk hc hcell go
    · rcases hx with k | k
      · have : X.env.scope.names.lookup x = some .free := hk
        rw [k] at this; cases this
      · have : X.env.scope.names.lookup x = some .free := hk
        rw [k] at this; cases this
/-- o[i] op= e -/
def tAugS (to ti te : TE) (tget : V → V → Hp → VK → Prop) (tip : TIp) (tset : TSet) : TS := fun D σ H => to σ H fun o H1 => ti σ H1 fun i H2 => tget o i H2 fun x H3 => te σ H3 fun y H4 => tip x y H4 fun z H5 => tset o i z H5 fun H6 => D.nx σ H6
/-- o[i], by values -/
def PGet (X : Cx) (t : V → V → Hp → VK → Prop) : Prop :=
  ∀ (pins : List (Addr × Obj)) (s : Shared) (σ : St) (H : Hp) (o i : V) (ov iv : Value) (Q : VK), Inv X pins σ H s → RelV o ov → RelV i iv → t o i H Q →
    wpAny (model X.prog X.w) X.A (getItem ov iv) (EP X pins σ Q) X.xe s
/-- ints -/
def ipI (f : Int → Int → Int) : TIp := fun x y H Q => ∃ i j, x = .int i ∧ y = .int j ∧ Q (.int (f i j)) H
theorem ip_add : PIp X .Add (ipI fun i j => i + j) := by
  intro pins s σ H x y v u Q I r1 r2 h
  obtain ⟨i, j, e1, e2, q⟩ := h
  subst e1; subst e2
  obtain ⟨t, rfl⟩ := r1
  obtain ⟨t', rfl⟩ := r2
  exact iadd_int ⟨.int _, H, I.tok _, ⟨_, rfl⟩, q⟩
end

/-! ### while -/
section
variable {X : Cx} {pos : Pos}
/-- the invariant W with its measure -/
def tWhile (c : TT) (tb : TS) : TS := fun D σ H => ∃ W : Nat → St → Hp → Prop, (∃ m, W m σ H) ∧ ∀ m σ H, W m σ H →
  c σ H fun b H1 => if b = true then ∃ N : St → Hp → Prop, (∀ σ' H', N σ' H' → ∃ m', m' < m ∧ W m' σ' H') ∧ tb { D with nx := N, ct := N, bk := D.nx } σ H1 else D.nx σ H1
theorem ps_while {c : Expr} {body : List Stmt} {tc : TT} {tb : TS} (hp : PassesOwn (model X.prog X.w) X.A X.env X.xe) (hc : PT X c tc) (hb : PSs X body tb) : PS X (.While c body [] pos) (tWhile tc tb) := by
  intro pins s σ H D I h
  obtain ⟨W, ⟨m0, w0⟩, turn⟩ := h
  refine wpAny_While (codeAny_whileLoop (fun n s' => ∃ σ' H', Inv X pins σ' H' s' ∧ W n σ' H') ?_ m0 ⟨σ, H, I, w0⟩)
  rintro n s1 ⟨σ1, H1, I1, w1⟩
  refine wpAny_passesOwn hp (thn (hc pins s1 σ1 H1 _ I1 (turn n σ1 H1 w1)) fun b s2 ⟨H2, I2, q2⟩ => ?_)
  cases b with
  | true =>
    obtain ⟨N, hN, q2⟩ := q2
    rw [if_pos rfl]
    refine wpAny_passesOwn hp (thn (hb pins s2 σ1 H2 _ I2 q2) fun f s3 q3 => ?_)
    cases f with
    | next =>
      obtain ⟨σ3, H3, I3, n3⟩ := q3
      obtain ⟨m', hm, w3⟩ := hN σ3 H3 n3
      exact ⟨m', hm, σ3, H3, I3, w3⟩
    | cont =>
      obtain ⟨σ3, H3, I3, n3⟩ := q3
      obtain ⟨m', hm, w3⟩ := hN σ3 H3 n3
      exact ⟨m', hm, σ3, H3, I3, w3⟩
    | brk => exact q3
    | ret v => exact q3
  | false =>
    rw [if_neg Bool.false_ne_true]
    exact wpAny_execs_nil ⟨σ1, H2, I2, q2⟩
end

/-! ### what a loop or a comprehension walks -/
/-- at turn i: it yields x (the heap may grow), or it stops -/
structure It where
  go : Nat → Hp → Prop
  yld : Nat → Hp → V → Hp → Prop
  stop : Nat → Hp → Prop
/-- the iterator's own objects may turn: they are not the frame's, not pinned, younger than the entry (or a comprehension's own) -/
def FpOk (X : Cx) (pins : List (Addr × Obj)) (H : Hp) (b : Addr) : Prop :=
  H b = none ∧ b ≠ X.env.locals ∧ b ∉ X.fs ∧ (b ∈ X.ex ∨ X.s₀.heap.objs.size ≤ b) ∧ (∀ x c, X.env.cells.lookup x = some c → c ≠ b) ∧ ∀ p ∈ X.pn ++ pins, p.1 ≠ b
theorem Inv.fpOk {X : Cx} {pins : List (Addr × Obj)} {σ : St} {H H' : Hp} {s : Shared} {b : Addr} (I : Inv X pins σ H s) (hb : s.heap.objs.size ≤ b) (hn : H' b = none) : FpOk X pins H' b := by
  refine ⟨hn, Nat.ne_of_gt (Nat.lt_of_lt_of_le I.lt hb), I.nofs hb, .inr (Nat.le_trans I.sz hb), fun x c e z => ?_, fun p hp z => ?_⟩
  · obtain ⟨v, q⟩ := I.cell x c e
    exact absurd (Nat.lt_of_lt_of_le q.lt (by rw [z]; exact hb)) (Nat.lt_irrefl _)
  · exact absurd (Nat.lt_of_lt_of_le (Heap.lt_size (I.pin p hp).1) (by rw [z]; exact hb)) (Nat.lt_irrefl _)
structure Turn (P : Program) (w : World) (K : PySem.W.Frag) (tg : Expr) (J : It) (fp : List Addr) (it : Addr) (tn : Nat → Heap → Prop) : Prop where
  mem : it ∈ fp
  obj : ∀ i h, tn i h → ∀ b ∈ fp, ∃ o, h.get? b = some o ∧ ∀ v, o.data ≠ .cell v
  keep : ∀ i h h', tn i h → (∀ b ∈ fp, ∀ o, h.get? b = some o → h'.get? b = some o) → tn i h'
  item : ∀ (X : Cx), X.prog = P → X.w = w → X.K = K → X.calm = true → ∀ (i : Nat) (pins : List (Addr × Obj)) (s : Shared) (σ : St) (H : Hp) (E : Value → Shared → Prop), Inv X pins σ H s → (∀ b ∈ fp, FpOk X pins H b) → tn i s.heap → J.go i H →
    wpAny (model P w) X.A (pyNext (.ref it)) (fun r s1 => ∃ u, r = some u ∧
      wpAny (model P w) X.A (letOwnedTupleGo tg (.ref it) u) (fun _ s2 => ∃ x H', Inv X pins σ H' s2 ∧ RelV x u ∧ J.yld i H x H' ∧ tn (i + 1) s2.heap ∧ ∀ b ∈ fp, H' b = none) E s1) E s
  done : ∀ (X : Cx), X.prog = P → X.w = w → X.K = K → X.calm = true → ∀ (i : Nat) (pins : List (Addr × Obj)) (s : Shared) (σ : St) (H : Hp) (E : Value → Shared → Prop), Inv X pins σ H s → (∀ b ∈ fp, FpOk X pins H b) → tn i s.heap → J.stop i H →
    wpAny (model P w) X.A (pyNext (.ref it)) (fun r s1 => r = none ∧ Inv X pins σ H s1) E s
  self : ∀ (A : Around) (i : Nat) (s : Shared) (Q : Value → Shared → Prop) (E : Value → Shared → Prop), tn i s.heap → Q (.ref it) s → wpAny (model P w) A (pyIter (.ref it)) Q E s
abbrev TI := St → Hp → (It → Hp → Prop) → Prop
/-- an iterator has come -/
def PIE (X : Cx) (pins : List (Addr × Obj)) (σ : St) (tg : Expr) (R : It → Hp → Prop) (itv : Value) (s2 : Shared) : Prop :=
  ∃ (it : Addr) (fp : List Addr) (tn : Nat → Heap → Prop) (J : It) (H' : Hp), itv = .ref it ∧ Inv X pins σ H' s2 ∧ Turn X.prog X.w X.K tg J fp it tn ∧ tn 0 s2.heap ∧ (∀ b ∈ fp, FpOk X pins H' b) ∧ R J H'
def PI (X : Cx) (tg iter : Expr) (wi : TI) : Prop :=
  ∀ (pins : List (Addr × Obj)) (s : Shared) (σ : St) (H : Hp) (R : It → Hp → Prop), Inv X pins σ H s → wi σ H R →
    wpAny (model X.prog X.w) X.A (eval iter X.env) (fun v s1 => wpAny (model X.prog X.w) X.A (pyIter v) (PIE X pins σ tg R) X.xe s1) X.xe s

/-- the step ahead of the store is nothing for an iterator that keeps no tuple -/
theorem go_of {M : Model} {A : Around} {E : Value → Shared → Prop} {s : Shared} {tg : Expr} {it : Addr} {u : Value} {o : Obj} {n : String} {vs : Array Value} {Q : Unit → Shared → Prop} (ho : s.heap.get? it = some o) (hc : o.cls = .type n) (hd : o.data = .fields vs)
    (hn : ["enumerate", "zip", "dict_itemiterator", "dict_reverseitemiterator", "odict_iterator", "itertools.zip_longest", "itertools.pairwise"].contains n = false) (hQ : Q () s) : wpAny M A (letOwnedTupleGo tg (.ref it) u) Q E s := by
  unfold letOwnedTupleGo
  cases tg <;> first
    | exact wpAny_pure hQ
    | (cases u <;> first
        | exact wpAny_pure hQ
        | (refine wpAny_bind (wpAny_load ho ?_)
           rw [hc, hd]
           show wpAny M A (if (["enumerate", "zip", "dict_itemiterator", "dict_reverseitemiterator", "odict_iterator", "itertools.zip_longest", "itertools.pairwise"].contains n && vs[0]? == some (rawInt _)) = true then _ else _) Q E s
           rw [if_neg (by intro h; rw [hn, Bool.false_and] at h; cases h)]
           exact wpAny_pure hQ))

/-- the list at a, as it stands at each turn (a loop may append to it) -/
def Itl (K : PySem.W.Frag) (a : Addr) : It :=
  ⟨fun i H => ∃ xs x, SqL K H a xs ∧ xs[i]? = some x, fun i H x H' => H' = H ∧ ∀ xs, SqL K H a xs → xs[i]? = some x, fun i H => ∃ xs, SqL K H a xs ∧ xs.length ≤ i⟩
def Itt (K : PySem.W.Frag) (a : Addr) : It :=
  ⟨fun i H => ∃ xs x, SqT K H a xs ∧ xs[i]? = some x, fun i H x H' => H' = H ∧ ∀ xs, SqT K H a xs → xs[i]? = some x, fun i H => ∃ xs, SqT K H a xs ∧ xs.length ≤ i⟩
/-- lo, lo + 1, .. (n of them) -/
def Itr (lo : Int) (n : Nat) : It := ⟨fun i _ => i < n, fun i H x H' => H' = H ∧ x = .int (lo + i), fun i _ => n ≤ i⟩
theorem turn_list {P : Program} {w : World} {K : PySem.W.Frag} {tg : Expr} (a it : Addr) : Turn P w K tg (Itl K a) [it] it (fun i h => h.IsListIter it a i) where
  mem := by simp
  obj := fun i h st b hb => by
    have e : b = it := by simpa using hb
    subst e
    obtain ⟨o, e, c, d⟩ := st
    exact ⟨o, e, fun v z => by rw [d] at z; cases z⟩
  keep := fun i h h' st k => st.at fun o e => k it (by simp) o e
  item := by
    intro X hP hw hK hc i pins s σ H E I hf st hg
    subst hP hw hK
    obtain ⟨xs, x, hq, hx⟩ := hg
    obtain ⟨its, rv, p, hz⟩ := I.list hq
    obtain ⟨u, hu, ru⟩ := rv.get hx
    obtain ⟨f0, f1, f2, f3, f4, f5⟩ := hf it (by simp)
    refine wpAny_pyNext_list_item st p.isList (x := u) (by simpa using hu) fun h' st' sb => ?_
    have I1 : Inv X pins σ H { s with heap := h' } := I.turned (t' := s.toks) (fun b o hb e => (sb.2 b hb).trans e) f0 f1 f3 f4 f5
    obtain ⟨o, e, c, d⟩ := id st'
    exact ⟨u, rfl, go_of (s := { s with heap := h' }) e c d (by decide) ⟨x, H, I1, ru, ⟨rfl, fun ys hy => by rw [I.list_inj hy hq]; exact hx⟩, st', fun b hb => (hf b hb).1⟩⟩
  done := by
    intro X hP hw hK hc i pins s σ H E I hf st hg
    subst hP hw hK
    obtain ⟨xs, hq, hx⟩ := hg
    obtain ⟨its, rv, p, hz⟩ := I.list hq
    obtain ⟨f0, f1, f2, f3, f4, f5⟩ := hf it (by simp)
    have hl := rv.length
    exact wpAny_pyNext_list_end (I.ok.hd hc) st p.isList (by simp; (first | lia | omega)) fun h' eb => ⟨rfl, I.turned (t' := s.toks) (fun b o hb e => eb b o hb e) f0 f1 f3 f4 f5⟩
  self := fun _ _ _ _ _ st h => wpAny_pyIter_listiter st h
theorem turn_range {P : Program} {w : World} {K : PySem.W.Frag} {tg : Expr} (it : Addr) (lo : Int) (n : Nat) : Turn P w K tg (Itr lo n) [it] it (fun i h => IsRangeIter h it (lo + (i : Nat) * 1) ((n : Int) - (i : Nat)) 1) where
  mem := by simp
  obj := fun i h st b hb => by
    have e : b = it := by simpa using hb
    subst e
    exact ⟨_, st, fun v z => by
      have z' : Data.fields _ = Data.cell v := z
      cases z'⟩
  keep := fun i h h' st k => k it (by simp) _ st
  item := by
    intro X hP hw hK hc i pins s σ H E I hf st hg
    subst hP hw hK
    obtain ⟨f0, f1, f2, f3, f4, f5⟩ := hf it (by simp)
    have W := Walks.range (prog := X.prog) (w := X.w) (I.ok.hd hc) it lo 1 n
    refine W.item i s _ _ hg st fun v h' tk hv st' kk => ?_
    obtain ⟨t, rfl⟩ := hv
    have I1 : Inv X pins σ H { s with heap := h', toks := tk } := I.turned (fun b o hb e => kk b o (by simpa using hb) e) f0 f1 f3 f4 f5
    refine ⟨_, rfl, go_of (s := { s with heap := h', toks := tk }) (n := "range_iterator") st' rfl rfl (by decide) ⟨.int (lo + i), H, I1, ⟨t, ?_⟩, ⟨rfl, rfl⟩, st', fun b hb => (hf b hb).1⟩⟩
    rw [Int.mul_one]
  done := by
    intro X hP hw hK hc i pins s σ H E I hf st hg
    subst hP hw hK
    obtain ⟨f0, f1, f2, f3, f4, f5⟩ := hf it (by simp)
    exact wpAny_pyNext_range_end (I.ok.hd hc) st (by have : n ≤ i := hg; (first | lia | omega)) fun h' eb => ⟨rfl, I.turned (t' := s.toks) (fun b o hb e => eb b o hb e) f0 f1 f3 f4 f5⟩
  self := fun _ _ _ _ _ st h => wpAny_pyIter_rangeiter st h
end L2

namespace L2
open PySem PySem.Spec PyProof.Rows
section
variable {X : Cx} {tg : Expr}
def iList (K : PySem.W.Frag) (tl : TE) : TI := fun σ H R => tl σ H fun x H1 => ∃ a, x = .ref a ∧ (∃ xs, SqL K H1 a xs) ∧ R (Itl K a) H1
def iTup (K : PySem.W.Frag) (tl : TE) : TI := fun σ H R => tl σ H fun x H1 => ∃ a, x = .ref a ∧ (∃ xs, SqT K H1 a xs) ∧ R (Itt K a) H1
theorem pi_list {l : Expr} {tl : TE} (hl : PE X l tl) : PI X tg l (iList X.K tl) := by
  intro pins s σ H R I h
  refine thn (hl pins s σ H _ I h) fun v s1 ⟨x, H1, I1, r1, q1⟩ => ?_
  obtain ⟨a, e, ⟨xs, hq⟩, q⟩ := q1
  subst e
  cases r1
  obtain ⟨its, rv, p, hz⟩ := I1.list hq
  refine wpAny_pyIter_list p.isList ?_
  refine ⟨s1.heap.objs.size, [s1.heap.objs.size], _, _, H1, rfl, I1.kept (t' := s1.toks) fun b o e => Heap.get?_push_of_some _ e, turn_list a _, ⟨_, Heap.get?_push_size _ rfl, rfl, rfl⟩, fun b hb => ?_, q⟩
  have e : b = s1.heap.objs.size := by simpa using hb
  subst e
  exact I1.fpOk (Nat.le_refl _) (I1.hok.fresh (Nat.le_refl _))
/-- a range object just made, walked -/
theorem range_it {pins : List (Addr × Obj)} {σ : St} {H : Hp} {s : Shared} {R : It → Hp → Prop} {E : Value → Shared → Prop} {lo hi : Int} {t u v : Tok} {tk : Nat} (I : Inv X pins σ H s) (h1 : -(2 ^ 62) ≤ lo) (h2 : lo < 2 ^ 62) (h3 : -(2 ^ 62) ≤ hi) (h4 : hi < 2 ^ 62)
    (q : R (Itr lo (hi - lo).toNat) H) : wpAny (model X.prog X.w) X.A (pyIter (.ref s.heap.objs.size)) (PIE X pins σ tg R) E { s with heap := s.heap.push { cls := .type "range", data := .fields #[.int lo t, .int hi u, .int 1 v] }, toks := tk } := by
  refine wpAny_pyIter_range (IsRange.new ..) (small_one h1 h2 h3 h4) ?_
  have I1 : Inv X pins σ H { s with heap := s.heap.push { cls := .type "range", data := .fields #[.int lo t, .int hi u, .int 1 v] }, toks := tk } := I.kept fun b o e => Heap.get?_push_of_some _ e
  refine ⟨(s.heap.push { cls := .type "range", data := .fields #[.int lo t, .int hi u, .int 1 v] }).objs.size, [(s.heap.push { cls := .type "range", data := .fields #[.int lo t, .int hi u, .int 1 v] }).objs.size], _, _, H, rfl,
    I1.kept (t' := tk) fun b o e => Heap.get?_push_of_some _ e, turn_range _ lo (hi - lo).toNat, ?_, fun b hb => ?_, q⟩
  · have e1 : lo + ((0 : Nat) : Int) * 1 = lo := by simp
    have e2 : (((hi - lo).toNat : Nat) : Int) - ((0 : Nat) : Int) = Builtin.Range.rangeSize lo hi 1 := by rw [rangeSize_one]; split <;> (first | lia | omega)
    show IsRangeIter _ _ (lo + ((0 : Nat) : Int) * 1) ((((hi - lo).toNat : Nat) : Int) - ((0 : Nat) : Int)) 1
    rw [e1, e2]
    exact Heap.get?_push_size _ rfl
  · have e : b = (s.heap.push { cls := .type "range", data := .fields #[.int lo t, .int hi u, .int 1 v] }).objs.size := by simpa using hb
    subst e
    exact I1.fpOk (Nat.le_refl _) (I1.hok.fresh (Nat.le_refl _))
def iRng1 (ta : TA) : TI := fun σ H R => ta σ H fun vs H1 => ∃ j : Int, vs = [.int j] ∧ -(2 ^ 62) ≤ j ∧ j < 2 ^ 62 ∧ R (Itr 0 j.toNat) H1
def iRng2 (ta : TA) : TI := fun σ H R => ta σ H fun vs H1 => ∃ i j : Int, vs = [.int i, .int j] ∧ (-(2 ^ 62) ≤ i ∧ i < 2 ^ 62 ∧ -(2 ^ 62) ≤ j ∧ j < 2 ^ 62) ∧ R (Itr i (j - i).toNat) H1
theorem pi_range1 {a : Expr} {ta : TA} {p pos : Pos} (hg : Gl X "range") (hm : X.mg "range" = none) (ha : PA X [a] ta) (hs : starEach [a] X.env = [(false, eval a X.env)] := by rfl) : PI X tg (.Call (.Name "range" p) [a] [] pos) (iRng1 ta) := by
  intro pins s σ H R I h
  refine Call_ (ld_blt I hg hm boot_range (PyProof.Rows.callWith_type1 (thn (ha pos pins s σ H _ I h) fun us s1 ⟨vs, H1, I1, r1, q1⟩ => ?_) hs rfl))
  obtain ⟨j, e, q1, q2, q⟩ := q1
  subst e
  cases r1 with
  | cons r rr =>
    cases rr
    obtain ⟨t, rfl⟩ := r
    exact call_range_1 (range_it I1 (by (first | lia | omega)) (by (first | lia | omega)) q1 q2 (by simpa using q))
theorem pi_range2 {a b : Expr} {ta : TA} {p pos : Pos} (hg : Gl X "range") (hm : X.mg "range" = none) (ha : PA X [a, b] ta) (hs : starEach [a, b] X.env = [(false, eval a X.env), (false, eval b X.env)] := by rfl) (hs2 : starEach [b] X.env = [(false, eval b X.env)] := by rfl) :
    PI X tg (.Call (.Name "range" p) [a, b] [] pos) (iRng2 ta) := by
  intro pins s σ H R I h
  refine Call_ (ld_blt I hg hm boot_range (PyProof.Rows.callWith_type1 (thn (ha pos pins s σ H _ I h) fun us s1 ⟨vs, H1, I1, r1, q1⟩ => ?_) (by rw [hs, hs2]) (by rw [hs2]; rfl)))
  obtain ⟨i, j, e, ⟨q1, q2, q3, q4⟩, q⟩ := q1
  subst e
  cases r1 with
  | cons r rr =>
    cases rr with
    | cons r' rr =>
      cases rr
      obtain ⟨t, rfl⟩ := r
      obtain ⟨t', rfl⟩ := r'
      exact call_range_2 (range_it I1 q1 q2 q3 q4 q)

/-! ### for -/
/-- W: the invariant by the turn and a measure; N: what the body is to reach -/
def tFor (wi : TI) (g : TG) (tb : TS) : TS := fun D σ H => wi σ H fun J H1 => ∃ W : Nat → Nat → St → Hp → Prop, (∃ m, W 0 m σ H1) ∧ ∀ i m σ H, W i m σ H →
  (J.stop i H ∧ D.nx σ H) ∨ (J.go i H ∧ ∃ N : St → Hp → Prop, (∀ σ' H', N σ' H' → ∃ m', m' < m ∧ W (i + 1) m' σ' H') ∧ ∀ x H', J.yld i H x H' → g x σ H' fun σ2 H2 => tb { D with nx := N, ct := N, bk := D.nx } σ2 H2)
/-- the records at fp as they stand -/
def pinsAt (fp : List Addr) (h : Heap) : List (Addr × Obj) := fp.filterMap fun b => (h.get? b).map fun o => (b, o)
theorem mem_pinsAt {fp : List Addr} {h : Heap} {b : Addr} {o : Obj} (hb : b ∈ fp) (e : h.get? b = some o) : (b, o) ∈ pinsAt fp h := List.mem_filterMap.mpr ⟨b, hb, by rw [e]; rfl⟩
theorem of_pinsAt {fp : List Addr} {h : Heap} {p : Addr × Obj} (hp : p ∈ pinsAt fp h) : p.1 ∈ fp ∧ h.get? p.1 = some p.2 := by
  obtain ⟨b, hb, e⟩ := List.mem_filterMap.mp hp
  cases q : h.get? b with
  | none => rw [q] at e; cases e
  | some o =>
    rw [q] at e
    have e' : (b, o) = p := Option.some.inj e
    subst e'
    exact ⟨hb, q⟩
theorem Inv.pinned {pins : List (Addr × Obj)} {σ : St} {H : Hp} {s : Shared} {fp : List Addr} (I : Inv X pins σ H s) (hf : ∀ b ∈ fp, FpOk X pins H b) (ho : ∀ b ∈ fp, ∃ o, s.heap.get? b = some o ∧ ∀ v, o.data ≠ .cell v) : Inv X (pins ++ pinsAt fp s.heap) σ H s :=
  I.pins_of fun p hp => (List.mem_append.mp hp).elim (fun z => I.pin p (List.mem_append_right _ z)) fun z => by
    obtain ⟨hb, e⟩ := of_pinsAt z
    obtain ⟨f0, f1, f2, _⟩ := hf p.1 hb
    obtain ⟨o, e', d⟩ := ho p.1 hb
    rw [e] at e'; cases e'
    exact ⟨e, f0, f1, f2, d⟩
theorem Inv.unpinned {pins pl : List (Addr × Obj)} {σ : St} {H : Hp} {s : Shared} (I : Inv X (pins ++ pl) σ H s) : Inv X pins σ H s := I.pins_of fun p hp => I.pin p (List.mem_append_right _ (List.mem_append_left _ hp))
theorem ps_for {iter : Expr} {body : List Stmt} {wi : TI} {g : TG} {tb : TS} {pos : Pos} (hp : PassesOwn (model X.prog X.w) X.A X.env X.xe) (hc : X.calm = true) (hi : PI X tg iter wi) (hg : PG X tg g) (hb : PSs X body tb)
    (hs : ∀ x, foldedSetIterable iter X.env x = pure x := by intro _; rfl) : PS X (.For tg iter body [] pos) (tFor wi g tb) := by
  intro pins s σ H D I h
  refine wpAny_For (thn (hi pins s σ H _ I h) fun v s1 h1 => thn h1 fun itv s2 h2 => ?_) hs
  obtain ⟨it, fp, tn, J, H2, e, I2, T, st2, f2, W, ⟨m0, w0⟩, turn⟩ := h2
  subst e
  -- what stays true of the iterator's objects through the loop
  have stat : ∀ {H' : Hp}, (∀ b ∈ fp, H' b = none) → ∀ b ∈ fp, FpOk X pins H' b := fun hn b hb => ⟨hn b hb, (f2 b hb).2⟩
  refine codeAny_forLoop_any (fun n s' => ∃ i σ' H', Inv X pins σ' H' s' ∧ tn i s'.heap ∧ (∀ b ∈ fp, H' b = none) ∧ W i n σ' H') ?_ m0 ⟨0, σ, H2, I2, st2, fun b hb => (f2 b hb).1, w0⟩
  rintro n s3 ⟨i, σ3, H3, I3, st3, fr3, w3⟩
  rcases turn i n σ3 H3 w3 with ⟨stop, qn⟩ | ⟨go, N, hN, step⟩
  · refine wpAny_passesOwn hp (thn (T.done X rfl rfl rfl hc i pins s3 σ3 H3 X.xe I3 (stat fr3) st3 stop) fun r s4 ⟨hr, I4⟩ => ?_)
    subst hr
    exact wpAny_execs_nil ⟨σ3, H3, I4, qn⟩
  · refine wpAny_passesOwn hp (thn (T.item X rfl rfl rfl hc i pins s3 σ3 H3 X.xe I3 (stat fr3) st3 go) fun r s4 ⟨u, hr, h4⟩ => ?_)
    subst hr
    refine wpAny_passesOwn hp (thn h4 fun _ s5 ⟨x, H5, I5, r5, y5, st5, fr5⟩ => ?_)
    have I5' := I5.pinned (stat fr5) (T.obj _ _ st5)
    refine wpAny_passesOwn hp (thn (hg _ s5 σ3 H5 x u _ I5' r5 (step x H5 y5)) fun _ s6 ⟨σ6, H6, I6, q6⟩ => ?_)
    refine wpAny_passesOwn hp (thn (hb _ s6 σ6 H6 _ I6 q6) fun f s7 q7 => ?_)
    have again : ∀ {σ7 : St} {H7 : Hp}, Inv X (pins ++ pinsAt fp s5.heap) σ7 H7 s7 → N σ7 H7 → ∃ m, m < n ∧ ∃ i σ' H', Inv X pins σ' H' s7 ∧ tn i s7.heap ∧ (∀ b ∈ fp, H' b = none) ∧ W i m σ' H' := fun {σ7 H7} I7 n7 => by
      obtain ⟨m', hm, w7⟩ := hN σ7 H7 n7
      refine ⟨m', hm, i + 1, σ7, H7, I7.unpinned, T.keep _ _ _ st5 fun b hb o e => (I7.pin (b, o) (List.mem_append_right _ (List.mem_append_right _ (mem_pinsAt hb e)))).1, fun b hb => ?_, w7⟩
      obtain ⟨o, e, d⟩ := T.obj _ _ st5 b hb
      exact (I7.pin (b, o) (List.mem_append_right _ (List.mem_append_right _ (mem_pinsAt hb e)))).2.1
    cases f with
    | next => obtain ⟨σ7, H7, I7, n7⟩ := q7; exact again I7 n7
    | cont => obtain ⟨σ7, H7, I7, n7⟩ := q7; exact again I7 n7
    | brk => obtain ⟨σ7, H7, I7, q7⟩ := q7; exact ⟨σ7, H7, I7.unpinned, q7⟩
    | ret v => obtain ⟨x7, σ7, H7, I7, r7, q7⟩ := q7; exact ⟨x7, σ7, H7, I7.unpinned, r7, q7⟩
end

/-! ### the forms one uses -/
/-- over a list that the body leaves as it is -/
theorem for_list {K : PySem.W.Frag} {a : Addr} {xs : List V} {g : TG} {tb : TS} {D : Ends} {σ : St} {H : Hp} (Pv : Nat → St → Hp → Prop) (h0 : Pv 0 σ H) (hl : ∀ i σ H, i ≤ xs.length → Pv i σ H → SqL K H a xs)
    (hs : ∀ i x σ H, xs[i]? = some x → Pv i σ H → g x σ H fun σ2 H2 => tb { D with nx := Pv (i + 1), ct := Pv (i + 1), bk := D.nx } σ2 H2) (hd : ∀ σ H, Pv xs.length σ H → D.nx σ H) :
    ∃ W : Nat → Nat → St → Hp → Prop, (∃ m, W 0 m σ H) ∧ ∀ i m σ H, W i m σ H →
      ((Itl K a).stop i H ∧ D.nx σ H) ∨ ((Itl K a).go i H ∧ ∃ N : St → Hp → Prop, (∀ σ' H', N σ' H' → ∃ m', m' < m ∧ W (i + 1) m' σ' H') ∧ ∀ x H', (Itl K a).yld i H x H' → g x σ H' fun σ2 H2 => tb { D with nx := N, ct := N, bk := D.nx } σ2 H2) := by
  refine ⟨fun i m σ H => m = xs.length - i ∧ i ≤ xs.length ∧ Pv i σ H, ⟨xs.length, by simp, Nat.zero_le _, h0⟩, ?_⟩
  rintro i m σ H ⟨rfl, hi, p⟩
  have q := hl i σ H hi p
  by_cases hlt : i < xs.length
  · refine .inr ⟨⟨xs, xs[i], q, by simp [hlt]⟩, Pv (i + 1), fun σ' H' p' => ⟨xs.length - (i + 1), by (first | lia | omega), rfl, hlt, p'⟩, fun x H' y => ?_⟩
    obtain ⟨e, y⟩ := y
    subst e
    exact hs i x σ _ (y xs q) p
  · have e : i = xs.length := by (first | lia | omega)
    subst e
    exact .inl ⟨⟨xs, q, Nat.le_refl _⟩, hd σ H p⟩
theorem for_range {lo : Int} {n : Nat} {g : TG} {tb : TS} {D : Ends} {σ : St} {H : Hp} (Pv : Nat → St → Hp → Prop) (h0 : Pv 0 σ H)
    (hs : ∀ i σ H, i < n → Pv i σ H → g (.int (lo + i)) σ H fun σ2 H2 => tb { D with nx := Pv (i + 1), ct := Pv (i + 1), bk := D.nx } σ2 H2) (hd : ∀ σ H, Pv n σ H → D.nx σ H) :
    ∃ W : Nat → Nat → St → Hp → Prop, (∃ m, W 0 m σ H) ∧ ∀ i m σ H, W i m σ H →
      ((Itr lo n).stop i H ∧ D.nx σ H) ∨ ((Itr lo n).go i H ∧ ∃ N : St → Hp → Prop, (∀ σ' H', N σ' H' → ∃ m', m' < m ∧ W (i + 1) m' σ' H') ∧ ∀ x H', (Itr lo n).yld i H x H' → g x σ H' fun σ2 H2 => tb { D with nx := N, ct := N, bk := D.nx } σ2 H2) := by
  refine ⟨fun i m σ H => m = n - i ∧ i ≤ n ∧ Pv i σ H, ⟨n, by simp, Nat.zero_le _, h0⟩, ?_⟩
  rintro i m σ H ⟨rfl, hi, p⟩
  by_cases hlt : i < n
  · refine .inr ⟨hlt, Pv (i + 1), fun σ' H' p' => ⟨n - (i + 1), by (first | lia | omega), rfl, hlt, p'⟩, fun x H' y => ?_⟩
    obtain ⟨e, y⟩ := y
    subst e y
    exact hs i σ _ hlt p
  · have e : i = n := by (first | lia | omega)
    subst e
    exact .inl ⟨Nat.le_refl _, hd σ H p⟩
end L2

namespace L2
open PySem PySem.Spec PyProof.Rows

abbrev R2 := V → V → Hp → VK → Prop
/-- a two-place operation on values: f is binaryOp op, inplaceOp op or compareOp op -/
def OpR (X : Cx) (f : Value → Value → Sem Value) (r : R2) : Prop :=
  ∀ (pins : List (Addr × Obj)) (s : Shared) (σ : St) (H : Hp) (x y : V) (v u : Value) (Q : VK), Inv X pins σ H s → RelV x v → RelV y u → r x y H Q →
    wpAny (model X.prog X.w) X.A (f v u) (EP X pins σ Q) X.xe s
/-- a one-place operation -/
def UnR (X : Cx) (f : Value → Sem Value) (r : V → Hp → VK → Prop) : Prop :=
  ∀ (pins : List (Addr × Obj)) (s : Shared) (σ : St) (H : Hp) (x : V) (v : Value) (Q : VK), Inv X pins σ H s → RelV x v → r x H Q →
    wpAny (model X.prog X.w) X.A (f v) (EP X pins σ Q) X.xe s
/-- a call of a value that is known (a builtin, a type) with values -/
def CallR (X : Cx) (f : Value) (r : List V → Hp → VK → Prop) : Prop :=
  ∀ (pins : List (Addr × Obj)) (s : Shared) (σ : St) (H : Hp) (xs : List V) (us : List Value) (Q : VK), Inv X pins σ H s → Vals xs us → r xs H Q →
    wpAny (model X.prog X.w) X.A (call f us) (EP X pins σ Q) X.xe s
/-- a value's truth -/
def TruR (X : Cx) (r : V → Hp → (Bool → Hp → Prop) → Prop) : Prop :=
  ∀ (pins : List (Addr × Obj)) (s : Shared) (σ : St) (H : Hp) (x : V) (v : Value) (Q : Bool → Hp → Prop), Inv X pins σ H s → RelV x v → r x H Q →
    wpAny (model X.prog X.w) X.A (truthy v) (TP X pins σ Q) X.xe s

def tOp (r : R2) (ta tb : TE) : TE := fun σ H Q => ta σ H fun x H1 => tb σ H1 fun y H2 => r x y H2 Q
def tUn (r : V → Hp → VK → Prop) (ta : TE) : TE := fun σ H Q => ta σ H fun x H1 => r x H1 Q
/-- ints in, under C, and a value out -/
def rI (C : Int → Int → Prop) (g : Int → Int → V) : R2 := fun x y H Q => ∃ i j, x = .int i ∧ y = .int j ∧ C i j ∧ Q (g i j) H
def rI0 (g : Int → Int → V) : R2 := fun x y H Q => ∃ i j, x = .int i ∧ y = .int j ∧ Q (g i j) H
def rU (g : Int → V) : V → Hp → VK → Prop := fun x H Q => ∃ i, x = .int i ∧ Q (g i) H

section
variable {X : Cx} {a b c : Expr} {ta tb tc : TE} {pos : Pos}

theorem binT (ha : PE X a ta) (hb : PE X b tb) {pins : List (Addr × Obj)} {s : Shared} {σ : St} {H : Hp} {R : V → V → Hp → Prop} (I : Inv X pins σ H s)
    (h : ta σ H fun x H1 => tb σ H1 fun y H2 => R x y H2) {Q : Value → Shared → Prop} {f : Value → Value → Sem Value}
    (hf : ∀ v u s2 x y H2, Inv X pins σ H2 s2 → RelV x v → RelV y u → R x y H2 → wpAny (model X.prog X.w) X.A (f v u) Q X.xe s2) :
    wpAny (model X.prog X.w) X.A (eval a X.env) (fun v s₁ => wpAny (model X.prog X.w) X.A (eval b X.env) (fun u s₂ => wpAny (model X.prog X.w) X.A (f v u) Q X.xe s₂) X.xe s₁) X.xe s := by
  refine thn (ha pins s σ H _ I h) fun v s1 ⟨x, H1, I1, r1, q1⟩ => ?_
  refine thn (hb pins s1 σ H1 _ I1 q1) fun u s2 ⟨y, H2, I2, r2, q2⟩ => ?_
  exact hf v u s2 x y H2 I2 r1 r2 q2

theorem pe_op {op : Operator} {r : R2} (ho : OpR X (binaryOp op) r) (ha : PE X a ta) (hb : PE X b tb) : PE X (.BinOp a op b pos) (tOp r ta tb) := by
  intro pins s σ H Q I h
  exact wpAny_BinOp (binT ha hb I h fun v u s2 x y H2 I2 rx ry q => ho pins s2 σ H2 x y v u Q I2 rx ry q)
theorem pe_un {op : UnaryOp} {r : V → Hp → VK → Prop} (ho : UnR X (unaryOp op) r) (ha : PE X a ta) : PE X (.UnaryOp op a pos) (tUn r ta) := by
  intro pins s σ H Q I h
  exact UnaryOp_ (thn (ha pins s σ H _ I h) fun v s1 ⟨x, H1, I1, r1, q1⟩ => ho pins s1 σ H1 x v Q I1 r1 q1)
/-! ### ints -/
theorem opI {f : Value → Value → Sem Value} {C : Int → Int → Prop} {g : Int → Int → Int}
    (rule : ∀ (i j : Int) (t u : Tok) (s : Shared) (Q : Value → Shared → Prop) (E : Value → Shared → Prop), C i j → Q (.int (g i j) s.toks) { s with toks := s.toks + 1 } → wpAny (model X.prog X.w) X.A (f (.int i t) (.int j u)) Q E s) :
    OpR X f (rI C fun i j => .int (g i j)) := by
  intro pins s σ H x y v u Q I rx ry h
  obtain ⟨i, j, rfl, rfl, hc, q⟩ := h
  obtain ⟨t, rfl⟩ := rx
  obtain ⟨t', rfl⟩ := ry
  exact rule i j t t' s _ _ hc ⟨.int (g i j), H, I.tok _, ⟨_, rfl⟩, q⟩
theorem opI0 {f : Value → Value → Sem Value} {g : Int → Int → Int}
    (rule : ∀ (i j : Int) (t u : Tok) (s : Shared) (Q : Value → Shared → Prop) (E : Value → Shared → Prop), Q (.int (g i j) s.toks) { s with toks := s.toks + 1 } → wpAny (model X.prog X.w) X.A (f (.int i t) (.int j u)) Q E s) :
    OpR X f (rI0 fun i j => .int (g i j)) := by
  intro pins s σ H x y v u Q I rx ry h
  obtain ⟨i, j, rfl, rfl, q⟩ := h
  obtain ⟨t, rfl⟩ := rx
  obtain ⟨t', rfl⟩ := ry
  exact rule i j t t' s _ _ ⟨.int (g i j), H, I.tok _, ⟨_, rfl⟩, q⟩
theorem opB0 {f : Value → Value → Sem Value} {g : Int → Int → Bool}
    (rule : ∀ (i j : Int) (t u : Tok) (s : Shared) (Q : Value → Shared → Prop) (E : Value → Shared → Prop), Q (.bool (g i j)) s → wpAny (model X.prog X.w) X.A (f (.int i t) (.int j u)) Q E s) :
    OpR X f (rI0 fun i j => .bl (g i j)) := by
  intro pins s σ H x y v u Q I rx ry h
  obtain ⟨i, j, rfl, rfl, q⟩ := h
  obtain ⟨t, rfl⟩ := rx
  obtain ⟨t', rfl⟩ := ry
  exact rule i j t t' s _ _ ⟨.bl (g i j), H, I, rfl, q⟩

def CDiv (i j : Int) : Prop := 0 < j ∧ j < 1073741824
def CDivN (i j : Int) : Prop := j ≠ 0 ∧ j.natAbs < 1073741824
def CPow (i j : Int) : Prop := 0 ≤ j ∧ j ≤ 1000000 ∧ i.natAbs < 2 ^ 64
def CMul (i j : Int) : Prop := (-(2 ^ 64) < i ∧ i < 2 ^ 64) ∨ (-(2 ^ 64) < j ∧ j < 2 ^ 64)
theorem CMul.ok {i j : Int} (h : CMul i j) : IntMulOk i j := by
  rcases h with ⟨h1, h2⟩ | ⟨h1, h2⟩
  · exact .of_left (intBits_le_64 h1 h2)
  · exact .of_right (intBits_le_64 h1 h2)
theorem two_pow_nn (k : Nat) : (0 : Int) ≤ 2 ^ k := by
  rw [two_pow_cast]
  exact Int.natCast_nonneg _

theorem op_add : OpR X (binaryOp .Add) (rI0 fun i j => .int (i + j)) := opI0 fun _ _ _ _ _ _ _ q => add_int q
theorem op_sub : OpR X (binaryOp .Sub) (rI0 fun i j => .int (i - j)) := opI0 fun _ _ _ _ _ _ _ q => sub_int q
theorem op_mul : OpR X (binaryOp .Mult) (rI CMul fun i j => .int (i * j)) := opI fun _ _ _ _ _ _ _ hc q => mul_int q hc.ok
/-- // by a positive divisor -/
theorem op_fdiv : OpR X (binaryOp .FloorDiv) (rI CDiv fun i j => .int (i / j)) := opI fun i j _ _ _ _ _ hc q => by
  have h1 : (0 : Int) < j := hc.1
  have h2 : j < 1073741824 := hc.2
  exact floordiv_int (by (first | lia | omega)) (by rw [Int.fdiv_eq_ediv_of_nonneg i (by (first | lia | omega))]; exact q) (.inl (PyProof.noPylong_small (by (first | lia | omega))))
/-- % by a positive divisor of any size -/
theorem op_mod : OpR X (binaryOp .Mod) (rI (fun _ j => 0 < j) fun i j => .int (i % j)) := opI fun i j _ _ _ _ _ hc q => by
  have h1 : (0 : Int) < j := hc
  exact mod_int' (by (first | lia | omega)) (by rw [Int.fmod_eq_emod_of_nonneg i (by (first | lia | omega))]; exact q)
theorem op_pow : OpR X (binaryOp .Pow) (rI CPow fun i j => .int (i ^ j.toNat)) := opI fun _ _ _ _ _ _ _ hc q => pow_int_small hc.1 hc.2.1 hc.2.2 q
theorem op_shr : OpR X (binaryOp .RShift) (rI (fun _ j => 0 ≤ j) fun i j => .int (i / 2 ^ j.toNat)) := opI fun i j _ _ _ _ _ hc q =>
  rshift_int hc (by rw [Int.fdiv_eq_ediv_of_nonneg i (two_pow_nn _)]; exact q)
theorem unI {f : Value → Sem Value} {g : Int → Int}
    (rule : ∀ (i : Int) (t : Tok) (s : Shared) (Q : Value → Shared → Prop) (E : Value → Shared → Prop), Q (.int (g i) s.toks) { s with toks := s.toks + 1 } → wpAny (model X.prog X.w) X.A (f (.int i t)) Q E s) :
    UnR X f (rU fun i => .int (g i)) := by
  intro pins s σ H x v Q I rx h
  obtain ⟨i, rfl, q⟩ := h
  obtain ⟨t, rfl⟩ := rx
  exact rule i t s _ _ ⟨.int (g i), H, I.tok _, ⟨_, rfl⟩, q⟩
theorem un_neg : UnR X (unaryOp .USub) (rU fun i => .int (-i)) := unI fun _ _ _ _ _ q => neg_int q
/-! ### bools among ints: n += (a < b) -/
end

/-! ### comparisons -/
/-- the scalars that == tells apart as data does -/
def scal : V → V → Bool
  | .non, .non => true | .non, .int _ => true | .int _, .non => true | .non, .bl _ => true | .bl _, .non => true | .non, .str _ => true | .str _, .non => true
  | .int _, .int _ => true | .bl _, .bl _ => true | .str _, .str _ => true | .byt _, .byt _ => true
  | .int _, .str _ => true | .str _, .int _ => true | .bl _, .str _ => true | .str _, .bl _ => true
  | _, _ => false
def rEq : R2 := fun x y H Q => scal x y = true ∧ Q (.bl (decide (x = y))) H
def rNe : R2 := fun x y H Q => scal x y = true ∧ Q (.bl (!decide (x = y))) H

theorem dec_int {i j : Int} : decide (V.int i = V.int j) = (i == j) := by
  rw [Bool.eq_iff_iff]
  simp
theorem dec_bl {i j : Bool} : decide (V.bl i = V.bl j) = (i == j) := by
  rw [Bool.eq_iff_iff]
  simp
theorem dec_str {i j : Str} : decide (V.str i = V.str j) = (i == j) := by
  rw [Bool.eq_iff_iff]
  simp
theorem dec_byt {i j : Array UInt8} : decide (V.byt i = V.byt j) = (i.toList == j.toList) := by
  rw [Bool.eq_iff_iff]
  cases i
  cases j
  simp

section
variable {X : Cx} {a b c : Expr} {ta tb tc : TE} {pos : Pos}
theorem fin_bl {pins : List (Addr × Obj)} {σ : St} {H : Hp} {s : Shared} {Q : VK} {k k' : Bool} (I : Inv X pins σ H s) (q : Q (.bl k) H) (e : k = k') : EP X pins σ Q (.bool k') s := by
  subst e
  exact ⟨.bl k, H, I, rfl, q⟩
theorem op_eq : OpR X (compareOp .Eq) rEq := by
  intro pins s σ H x y v u Q I rx ry h
  obtain ⟨hs, q⟩ := h
  cases x with
  | non =>
    cases rx
    cases y with
    | non => cases ry; exact PySem.EqNone.eq_none_none (fin_bl I q (by simp))
    | bl j => cases ry; exact PySem.EqNone.eq_none_bool (fin_bl I q (by simp))
    | int j => obtain ⟨t', rfl⟩ := ry; exact PySem.EqNone.eq_none_int (fin_bl I q (by simp))
    | str j => obtain ⟨t', rfl⟩ := ry; exact PySem.EqNone.eq_none_str (fin_bl I q (by simp))
    | _ => exact absurd (show false = true from hs) Bool.false_ne_true
  | bl i =>
    cases rx
    cases y with
    | non => cases ry; exact PySem.EqNone.eq_bool_none (fin_bl I q (by simp))
    | bl j => cases ry; exact eq_bool (fin_bl I q dec_bl)
    | str j => obtain ⟨t', rfl⟩ := ry; exact PySem.EqMixed.eq_bool_str (fin_bl I q (by simp))
    | _ => exact absurd (show false = true from hs) Bool.false_ne_true
  | int i =>
    obtain ⟨t, rfl⟩ := rx
    cases y with
    | non => cases ry; exact PySem.EqNone.eq_int_none (fin_bl I q (by simp))
    | int j => obtain ⟨t', rfl⟩ := ry; exact eq_int (fin_bl I q dec_int)
    | str j => obtain ⟨t', rfl⟩ := ry; exact PySem.EqMixed.eq_int_str (fin_bl I q (by simp))
    | _ => exact absurd (show false = true from hs) Bool.false_ne_true
  | str i =>
    obtain ⟨t, rfl⟩ := rx
    cases y with
    | non => cases ry; exact PySem.EqNone.eq_str_none (fin_bl I q (by simp))
    | bl j => cases ry; exact PySem.EqMixed.eq_str_bool (fin_bl I q (by simp))
    | int j => obtain ⟨t', rfl⟩ := ry; exact PySem.EqMixed.eq_str_int (fin_bl I q (by simp))
    | str j => obtain ⟨t', rfl⟩ := ry; exact eq_str (fin_bl I q dec_str)
    | _ => exact absurd (show false = true from hs) Bool.false_ne_true
  | byt i =>
    obtain ⟨t, rfl⟩ := rx
    cases y with
    | byt j => obtain ⟨t', rfl⟩ := ry; exact PySem.W.eq_bytes (fin_bl I q dec_byt)
    | _ => exact absurd (show false = true from hs) Bool.false_ne_true
  | _ => cases y <;> exact absurd (show false = true from hs) Bool.false_ne_true
theorem op_ne : OpR X (compareOp .NotEq) rNe := by
  intro pins s σ H x y v u Q I rx ry h
  obtain ⟨hs, q⟩ := h
  cases x with
  | non =>
    cases rx
    cases y with
    | non => cases ry; exact PySem.EqNone.ne_none_none (fin_bl I q (by simp))
    | bl j => cases ry; exact PySem.EqNone.ne_none_bool (fin_bl I q (by simp))
    | int j => obtain ⟨t', rfl⟩ := ry; exact PySem.EqNone.ne_none_int (fin_bl I q (by simp))
    | str j => obtain ⟨t', rfl⟩ := ry; exact PySem.EqNone.ne_none_str (fin_bl I q (by simp))
    | _ => exact absurd (show false = true from hs) Bool.false_ne_true
  | bl i =>
    cases rx
    cases y with
    | non => cases ry; exact PySem.EqNone.ne_bool_none (fin_bl I q (by simp))
    | bl j => cases ry; exact ne_bool (fin_bl I q (congrArg not dec_bl))
    | str j => obtain ⟨t', rfl⟩ := ry; exact PySem.EqMixed.ne_bool_str (fin_bl I q (by simp))
    | _ => exact absurd (show false = true from hs) Bool.false_ne_true
  | int i =>
    obtain ⟨t, rfl⟩ := rx
    cases y with
    | non => cases ry; exact PySem.EqNone.ne_int_none (fin_bl I q (by simp))
    | int j => obtain ⟨t', rfl⟩ := ry; exact ne_int (fin_bl I q (congrArg not dec_int))
    | str j => obtain ⟨t', rfl⟩ := ry; exact PySem.EqMixed.ne_int_str (fin_bl I q (by simp))
    | _ => exact absurd (show false = true from hs) Bool.false_ne_true
  | str i =>
    obtain ⟨t, rfl⟩ := rx
    cases y with
    | non => cases ry; exact PySem.EqNone.ne_str_none (fin_bl I q (by simp))
    | bl j => cases ry; exact PySem.EqMixed.ne_str_bool (fin_bl I q (by simp))
    | int j => obtain ⟨t', rfl⟩ := ry; exact PySem.EqMixed.ne_str_int (fin_bl I q (by simp))
    | str j => obtain ⟨t', rfl⟩ := ry; exact ne_str (fin_bl I q (congrArg not dec_str))
    | _ => exact absurd (show false = true from hs) Bool.false_ne_true
  | byt i =>
    obtain ⟨t, rfl⟩ := rx
    cases y with
    | byt j => obtain ⟨t', rfl⟩ := ry; exact PySem.W.ne_bytes (fin_bl I q (congrArg not dec_byt))
    | _ => exact absurd (show false = true from hs) Bool.false_ne_true
  | _ => cases y <;> exact absurd (show false = true from hs) Bool.false_ne_true

theorem op_lt : OpR X (compareOp .Lt) (rI0 fun i j => .bl (decide (i < j))) := opB0 fun _ _ _ _ _ _ _ q => lt_int q
theorem op_gt : OpR X (compareOp .Gt) (rI0 fun i j => .bl (decide (j < i))) := opB0 fun _ _ _ _ _ _ _ q => gt_int q
theorem op_ge : OpR X (compareOp .GtE) (rI0 fun i j => .bl (decide (j ≤ i))) := opB0 fun _ _ _ _ _ _ _ q => ge_int q
/-- is None, is not None: the right side a value none -/
theorem op_isN : OpR X (compareOp .Is) (fun x y H Q => y = .non ∧ Q (.bl (decide (x = .non))) H) := by
  intro pins s σ H x y v u Q I rx ry h
  obtain ⟨rfl, q⟩ := h
  cases ry
  refine is_none_gen (fin_bl I q ?_)
  cases x <;> first
    | (cases rx; rfl)
    | (obtain ⟨t, rfl⟩ := rx; rfl)
/-- is, is not of two objects that are tracked lists or instances -/
def isObj : HO → Bool
  | .lst _ => true
  | .ins _ _ _ => true
  | _ => false
theorem nomark (b : Expr) {op : CmpOp} (h : op ≠ .In := by decide) (h2 : op ≠ .NotIn := by decide) : behindInMarks op b = false := by
  have e1 : (op == CmpOp.In) = false := by cases op <;> first | rfl | exact absurd rfl h
  have e2 : (op == CmpOp.NotIn) = false := by cases op <;> first | rfl | exact absurd rfl h2
  cases b <;> simp [behindInMarks, e1, e2]
/-- a comparison as a value; hm: nomark b, or (for in, not in) by with_unfolding_all rfl -/
theorem pe_cmpR {op : CmpOp} {r : R2} (ho : OpR X (compareOp op) r) (ha : PE X a ta) (hb : PE X b tb) (hm : behindInMarks op b = false) : PE X (.Compare a [op] [b] pos) (tOp r ta tb) := by
  intro pins s σ H Q I h
  exact wpAny_Compare1 (binT ha hb I h fun v u s2 x y H2 I2 rx ry q => ho pins s2 σ H2 x y v u Q I2 rx ry q) hm
/-- a reading of a value as a test -/
def tTest (t : TE) : TT := fun σ H Q => t σ H fun x H' => ∃ k, x = .bl k ∧ Q k H'
theorem pt_cmpR {op : CmpOp} {r : R2} (ho : OpR X (compareOp op) r) (ha : PE X a ta) (hb : PE X b tb) (hm : behindInMarks op b = false) : PT X (.Compare a [op] [b] pos) (tTest (tOp r ta tb)) := by
  intro pins s σ H Q I h
  refine wpAny_isTrue_Compare1 (thn (ha pins s σ H _ I h) fun v s1 ⟨x, H1, I1, r1, q1⟩ => thn (hb pins s1 σ H1 _ I1 q1) fun u s2 ⟨y, H2, I2, r2, q2⟩ =>
    thn (ho pins s2 σ H2 x y v u _ I2 r1 r2 q2) fun c s3 ⟨z, H3, I3, r3, k, e, q3⟩ => ?_) hm
  subst e
  cases r3
  exact wpAny_truthy_bool ⟨H3, I3, q3⟩
/-- a op1 b op2 c -/
def tChain (r r' : R2) (ta tb tc : TE) : TE := fun σ H Q => ta σ H fun x H1 => tb σ H1 fun y H2 => r x y H2 fun z H3 => ∃ k, z = .bl k ∧
  (if k = true then tc σ H3 fun w' H4 => r' y w' H4 Q else Q (.bl false) H3)
/-! ### truth -/
/-- a value's truth by the abstract heap -/
def TruV (K : PySem.W.Frag) (x : V) (H : Hp) (k : Bool) : Prop :=
  match x with
  | .non => k = false
  | .bl b => k = b
  | .int i => k = (i != 0)
  | .str y => y.length ≤ sizeLine ∧ k = ((y.length : Int) != 0)
  | .byt y => y.size ≤ sizeLine ∧ k = ((y.size : Int) != 0)
  | .ref p => (∃ xs, SqL K H p xs ∧ k = !xs.isEmpty) ∨ (∃ xs, SqT K H p xs ∧ k = !xs.isEmpty) ∨ ∃ kvs, H p = some (.dK kvs) ∧ k = !kvs.isEmpty
  | _ => False
theorem isEmpty_kv {κ : Type} {kvs : List (κ × V)} {vs : List (κ × Value)} (r : KV kvs vs) : (!vs.isEmpty) = !kvs.isEmpty := by
  cases r <;> rfl
theorem isEmpty_of {xs : List V} {its : List Value} (r : Vals xs its) : (!its.toArray.isEmpty) = !xs.isEmpty := by
  cases r <;> simp
theorem line63 : (sizeLine : Nat) < 2 ^ 63 := by rw [sizeLine_eq]; decide
theorem tru_ok : TruR X (fun x H Q => ∃ k, TruV X.K x H k ∧ Q k H) := by
  intro pins s σ H x v Q I rx h
  obtain ⟨k, e, q⟩ := h
  have hl := line63
  have hs : sizeLine = 16777216 := sizeLine_eq
  cases x with
  | non =>
    cases rx
    have e' : k = false := e
    subst e'
    exact truthy_none ⟨H, I, q⟩
  | bl b =>
    cases rx
    have e' : k = b := e
    subst e'
    exact wpAny_truthy_bool ⟨H, I, q⟩
  | int i =>
    obtain ⟨t, rfl⟩ := rx
    have e' : k = (i != 0) := e
    subst e'
    exact PySem.P.truthy_int ⟨H, I, q⟩
  | str y =>
    obtain ⟨t, rfl⟩ := rx
    obtain ⟨hy, e'⟩ : y.length ≤ sizeLine ∧ k = ((y.length : Int) != 0) := e
    subst e'
    exact PySem.P.truthy_str (by (first | lia | omega)) ⟨H, I.tok _, q⟩
  | byt y =>
    obtain ⟨t, rfl⟩ := rx
    obtain ⟨hy, e'⟩ : y.size ≤ sizeLine ∧ k = ((y.size : Int) != 0) := e
    subst e'
    exact PySem.W.truthy_bytes (by (first | lia | omega)) ⟨H, I.tok _, q⟩
  | ref p =>
    cases rx
    have e' : (∃ xs, SqL X.K H p xs ∧ k = !xs.isEmpty) ∨ (∃ xs, SqT X.K H p xs ∧ k = !xs.isEmpty) ∨ ∃ kvs, H p = some (.dK kvs) ∧ k = !kvs.isEmpty := e
    rcases e' with ⟨xs, hx, e'⟩ | ⟨xs, hx, e'⟩ | ⟨kvs, hx, e'⟩
    · subst e'
      obtain ⟨its, r, pl, hz⟩ := I.list hx
      have hlen := r.length
      exact wpAny_truthy_list pl.isList (by simp only [List.size_toArray]; (first | lia | omega)) ⟨H, I.tok _, by rw [isEmpty_of r]; exact q⟩
    · subst e'
      obtain ⟨its, r, pl, hz⟩ := I.tuple hx
      have hlen := r.length
      exact truthy_tuple pl (by simp only [List.size_toArray]; (first | lia | omega)) ⟨H, I.tok _, by rw [isEmpty_of r]; exact q⟩
    · subst e'
      obtain ⟨hz, hS, vs, r, m⟩ : kvs.length ≤ sizeLine ∧ (p == sysModules) = false ∧ ∃ vs, KV kvs vs ∧ s.heap.DictOf (mixKind X.prog X.w) p vs := I.hok p _ hx
      have hlen : kvs.length = vs.length := Paired.length r
      exact wpAny_truthy_dict hS m (by (first | lia | omega)) ⟨H, I.tok _, by rw [isEmpty_kv r]; exact q⟩
  | _ => exact (show False from e).elim
/-- any expression whose test is its value's truth (a name, a call, a subscript, a field ..: he by fun _ => rfl) -/
theorem pt_truth (ha : PE X a ta) (he : ∀ whole, isTrue a X.env whole = (do let v ← whole; standAt a.pos; holding [v] (truthy v))) :
    PT X a (fun σ H Q => ta σ H fun x H' => ∃ k, TruV X.K x H' k ∧ Q k H') := by
  intro pins s σ H Q I h
  exact isTrue_plain (thn (ha pins s σ H _ I h) fun v s1 ⟨x, H1, I1, r1, q1⟩ => tru_ok pins s1 σ H1 x v Q I1 r1 q1) (he _)

/-! ### strs and bytes -/
def PlainIxT (b : Expr) : Prop := ∀ o i, subscripted b false o i = operate [o, i] (getItem o i)
/-! ### scalar builtins, by CallR -/
theorem vals1 {x : V} {us : List Value} (r : Vals [x] us) : ∃ u, us = [u] ∧ RelV x u := by
  cases r with
  | cons r1 r2 => cases r2; exact ⟨_, rfl, r1⟩
theorem vals2 {x y : V} {us : List Value} (r : Vals [x, y] us) : ∃ u w', us = [u, w'] ∧ RelV x u ∧ RelV y w' := by
  cases r with
  | cons r1 r2 =>
    cases r2 with
    | cons r3 r4 => cases r4; exact ⟨_, _, rfl, r1, r3⟩
theorem call_min2 (hc : X.calm = true) : CallR X (.builtin "min") (fun xs H Q => ∃ i j, xs = [.int i, .int j] ∧ Q (.int (if j < i then j else i)) H) := by
  intro pins s σ H xs us Q I r h
  obtain ⟨i, j, rfl, q⟩ := h
  obtain ⟨u, w', rfl, ⟨t, rfl⟩, ⟨t', rfl⟩⟩ := vals2 r
  refine min_two_ints (I.ok.hd hc) fun h' tk k => ⟨_, H, I.kept k, ?_, q⟩
  by_cases hj : j < i
  · rw [if_pos hj, if_pos hj]; exact ⟨_, rfl⟩
  · rw [if_neg hj, if_neg hj]; exact ⟨_, rfl⟩
theorem call_int1 : CallR X (.type "int") (fun xs H Q => (∃ i, xs = [.int i] ∧ Q (.int i) H) ∨ ∃ k, xs = [.bl k] ∧ Q (.int (if k then 1 else 0)) H) := by
  intro pins s σ H xs us Q I r h
  rcases h with ⟨i, rfl, q⟩ | ⟨k, rfl, q⟩
  · obtain ⟨u, rfl, t, rfl⟩ := vals1 r
    exact call_int_int ⟨.int i, H, I, ⟨_, rfl⟩, q⟩
  · obtain ⟨u, rfl, r1⟩ := vals1 r
    cases r1
    exact call_int_bool ⟨.int (if k then 1 else 0), H, I.tok _, ⟨_, rfl⟩, q⟩
/-- len of a str, a bytes, a list, a tuple -/
def LenV (K : PySem.W.Frag) (x : V) (H : Hp) (n : Nat) : Prop :=
  match x with
  | .str y => y.length ≤ sizeLine ∧ n = y.length
  | .byt y => y.size ≤ sizeLine ∧ n = y.size
  | .ref p => (∃ xs, SqL K H p xs ∧ n = xs.length) ∨ ∃ xs, SqT K H p xs ∧ n = xs.length
  | _ => False
end
end L2

namespace L2
open PySem PySem.Spec PyProof.Rows

/-! ### an instance, its attributes a map -/
structure ObjM (h : Heap) (x dx C : Addr) (mA : Str → Option Value) : Prop where
  obj : h.get? x = some (PySem.W.instObj C dx)
  ns : h.Ns1 dx mA
  ne : dx ≠ x

section
variable {prog : Program} {w : World} {A : Around} {E : Value → Shared → Prop} {s : Shared} {K : PySem.W.Frag} {x dx C f : Addr} {mA : Str → Option Value} {name : Str} {v : Value}

end

/-! ### the attributes as a list of pairs -/
def putF (f : Str) (v : V) : List (Str × V) → List (Str × V)
  | [] => [(f, v)]
  | (g, x) :: r => if g = f then (g, v) :: r else (g, x) :: putF f v r
theorem RelO.some_of {v : V} {o : Option Value} (r : RelO (some v) o) : ∃ u, o = some u ∧ RelV v u := by
  cases o with
  | none => exact (show False from r).elim
  | some u => exact ⟨u, rfl, r⟩
section
variable {P : Program} {w : World} {H H' : Hp} {h h' : Heap} {a C dx : Addr} {fs fs' : List (Str × V)}
end

/-! ### what of the text a class must have -/
structure Cls (K : PySem.W.Frag) (C : Addr) : Prop where
  pg : PySem.W.plainGet K C Str.empty = true
  hd : PySem.W.hasDictIn K C = true
  po : PySem.W.plainOver K C = true
  sa : PySem.W.findIn K (.ref C) "__setattr__" = some (some (.builtin "object.__setattr__"))
/-- no class of it has the name -/
def NoAttr (K : PySem.W.Frag) (C : Addr) (f : Str) : Prop := PySem.W.findIn K (.ref C) f = some none
/-- a constant of the class -/
structure Con (K : PySem.W.Frag) (C : Addr) (f : Str) (v : V) (u : Value) : Prop where
  at_ : PySem.W.findIn K (.ref C) f = some (some u)
  rel : RelV v u
  get : PySem.W.specialIn K u "__get__" = some none
  cp : PySem.W.copiedNames.contains f = false
/-- a method: a plain def of the class or of one above it -/
structure Meth (K : PySem.W.Frag) (C : Addr) (m : Str) (f : Addr) : Prop where
  at_ : PySem.W.findIn K (.ref C) m = some (some (.ref f))
  fn : PySem.W.isFn K (.ref f) = true
  kp : PySem.W.keepIn K (.ref f) = true

section
variable {X : Cx} {pins : List (Addr × Obj)} {σ : St} {H : Hp} {s : Shared} {a C dx : Addr} {fs : List (Str × V)} {f : Str} {v : V} {A : Around} {E : Value → Shared → Prop}

end

/-! ### readings and rules -/
/-- e.f, an attribute of the instance -/
def tFld (K : PySem.W.Frag) (ta : TE) (f : Str) : TE := fun σ H Q => ta σ H fun x H1 => ∃ a C dx fs v, x = .ref a ∧ H1 a = some (.ins C dx fs) ∧ Cls K C ∧ NoAttr K C f ∧ fs.lookup f = some v ∧ Q v H1
/-- e.f, a constant of the class -/
def tCon (K : PySem.W.Frag) (ta : TE) (f : Str) : TE := fun σ H Q => ta σ H fun x H1 => ∃ a C dx fs v u, x = .ref a ∧ H1 a = some (.ins C dx fs) ∧ Cls K C ∧ Con K C f v u ∧ fs.lookup f = none ∧ Q v H1
/-- e.f = value -/
def sFld (K : PySem.W.Frag) (ta tv : TE) (f : Str) : TS := fun D σ H => tv σ H fun y H1 => ta σ H1 fun x H2 => ∃ a C dx fs, x = .ref a ∧ H2 a = some (.ins C dx fs) ∧ Cls K C ∧ NoAttr K C f ∧ fs.length < 1000 ∧
  D.nx σ (upd H2 a (.ins C dx (putF f y fs)))
/-- an augmented operator on two values -/
def InOp (X : Cx) (op : Operator) (rd : V → V → Hp → VK → Prop) : Prop :=
  ∀ (pins : List (Addr × Obj)) (s : Shared) (σ : St) (H : Hp) (x y : V) (u v : Value) (Q : VK), Inv X pins σ H s → RelV x u → RelV y v → rd x y H Q → wpAny (model X.prog X.w) X.A (inplaceOp op u v) (EP X pins σ Q) X.xe s
/-- e.f op= value -/
def sFldAug (K : PySem.W.Frag) (ta tv : TE) (rd : V → V → Hp → VK → Prop) (f : Str) : TS := fun D σ H => ta σ H fun x H1 => ∃ a C dx fs v, x = .ref a ∧ H1 a = some (.ins C dx fs) ∧ Cls K C ∧ NoAttr K C f ∧ fs.lookup f = some v ∧
  tv σ H1 fun y H2 => rd v y H2 fun z H3 => ∃ dx' fs', H3 a = some (.ins C dx' fs') ∧ fs'.length < 1000 ∧ D.nx σ (upd H3 a (.ins C dx' (putF f z fs')))

section
variable {X : Cx} {o e value : Expr} {f : Str} {pos pos' tpos : Pos} {ta tv : TE}
def rAdd : V → V → Hp → VK → Prop := fun x y H Q => ∃ i j, x = .int i ∧ y = .int j ∧ Q (.int (i + j)) H
def rSub : V → V → Hp → VK → Prop := fun x y H Q => ∃ i j, x = .int i ∧ y = .int j ∧ Q (.int (i - j)) H
end

/-! ### isinstance -/
section
variable {X : Cx} {pins : List (Addr × Obj)} {σ : St} {H : Hp} {s : Shared} {A : Around} {E : Value → Shared → Prop} {Q : Value → Shared → Prop} {c : Value} {b : Bool}
/-- the type of a value, as the fragment's deciders take it; for an instance its class -/
inductive TyOf (K : PySem.W.Frag) (H : Hp) : V → Value → Prop where
  | non : TyOf K H .non (.type "NoneType")
  | bl (x : Bool) : TyOf K H (.bl x) (.type "bool")
  | int (i : Int) : TyOf K H (.int i) (.type "int")
  | str (x : Str) : TyOf K H (.str x) (.type "str")
  | flt (x : UInt64) : TyOf K H (.flt x) (.type "float")
  | lst {a : Addr} {xs : List V} (e : H a = some (.lst xs)) : TyOf K H (.ref a) (.type "list")
  | frz {a : Addr} {o : Obj} {xs : List V} (e : H a = some (.frz o (.lst xs))) : TyOf K H (.ref a) (.type "list")
  | tup {a : Addr} {xs : List V} (e : H a = some (.tup xs)) : TyOf K H (.ref a) (.type "tuple")
  | dK {a : Addr} {kvs : List (Key × V)} (e : H a = some (.dK kvs)) : TyOf K H (.ref a) (.type "dict")
  | dT {a : Addr} {kvs : List (List Key × V)} (e : H a = some (.dT kvs)) : TyOf K H (.ref a) (.type "dict")
  | ins {a C dx : Addr} {fs : List (Str × V)} (e : H a = some (.ins C dx fs)) (cl : Cls K C) (ha : PySem.W.findIn K (.ref C) "__class__" = some (some (.builtin "object.__class__")))
      (hn : PySem.W.specialIn K (.builtin "object.__class__") "__get__" = some (some (.builtin "getset_descriptor.__get__"))) (htk : PySem.W.takesIn K (.builtin "object.__class__") = some true)
      (hm : PySem.W.mroIn K C (.type "object") = some true) : TyOf K H (.ref a) (.ref C)
end
end L2

namespace L2
open PySem PySem.Spec PyProof.Rows

/-! ### room -/
structure Room (k : Nat) (A : Around) : Prop where
  hd : A.handled = none
  dp : A.depth + 3 * k + 5 < recursionLimit
  un : A.units + 16 * k + 200 < cLine
theorem Room.mono {j k : Nat} {A : Around} (r : Room k A) (h : j ≤ k) : Room j A := ⟨r.hd, by have := r.dp; (first | lia | omega), by have := r.un; (first | lia | omega)⟩
theorem Room.deeper {k : Nat} {A : Around} (r : Room (k + 1) A) (env : Env) : Room k (A.deeper env) :=
  ⟨r.hd, by have := r.dp; show A.depth + 1 + 3 * k + 5 < _; (first | lia | omega), by have := r.un; show A.units + 3 + 16 * k + 200 < _; (first | lia | omega)⟩
theorem Room.depth {k : Nat} {A : Around} (r : Room k A) : A.depth < recursionLimit := by have := r.dp; (first | lia | omega)
theorem Room.units {k : Nat} {A : Around} (r : Room k A) : A.units + 64 < cLine := by have := r.un; (first | lia | omega)
/-! ### argument lists and displays -/
def tNil : TA := fun _ H Q => Q [] H
def tCons (ta : TE) (tr : TA) : TA := fun σ H Q => ta σ H fun x H1 => tr σ H1 fun xs H2 => Q (x :: xs) H2
section
variable {X : Cx} {e : Expr} {es : List Expr} {te : TE} {t : TA} {pos : Pos}
theorem pa_nil : PA X [] tNil := fun _ _ _ _ H Q I h => Calls.spliced_nil ⟨[], H, I, .nil, h⟩
theorem pa_cons (ha : PE X e te) (hr : PA X es t) (hs : starEach (e :: es) X.env = (false, eval e X.env) :: starEach es X.env := by rfl) : PA X (e :: es) (tCons te t) := by
  intro pos pins s σ H Q I h
  rw [hs]
  show wpAny _ _ (spliced ((false, eval e X.env) :: backTo pos (starEach es X.env))) _ _ s
  refine Calls.spliced_cons (thn (ha pins s σ H _ I h) fun u s1 ⟨x, H1, I1, r1, q1⟩ => ?_)
  exact thn (hr pos pins s1 σ H1 _ I1 q1) fun us s2 ⟨xs, H2, I2, r2, q2⟩ => ⟨x :: xs, H2, I2, .cons r1 r2, q2⟩

/-- a tuple, a list of written items -/
def tTup (t : TA) : TE := fun σ H Q => t σ H fun xs H1 => xs.length ≤ sizeLine ∧ ∀ p, H1 p = none → Q (.ref p) (upd H1 p (.tup xs))
def tLst (t : TA) : TE := fun σ H Q => t σ H fun xs H1 => xs.length ≤ sizeLine ∧ ∀ p, H1 p = none → Q (.ref p) (upd H1 p (.lst xs))
theorem pe_tup {x1} (h : PA X es t) : PE X (.Tuple es x1 pos) (tTup t) := by
  intro pins s σ H Q I hq
  refine wpAny_Tuple_spliced (thn (h pos pins s σ H _ I hq) fun us s1 ⟨xs, H1, I1, r, z, q⟩ => ⟨by rw [← r.length]; exact z, ?_⟩)
  have hf : H1 s1.heap.objs.size = none := I1.hok.fresh (Nat.le_refl _)
  refine ⟨.ref s1.heap.objs.size, upd H1 s1.heap.objs.size (.tup xs), I1.laid (t' := s1.toks) (fun b u e => Heap.get?_push_of_some _ e) (Nat.le_refl _) ?_, rfl, q _ hf⟩
  exact ⟨z, us, r, ⟨_, Heap.get?_push_size _ rfl, rfl, _, rfl⟩⟩
theorem pe_lst (h : PA X es t) : PE X (.List es pos) (tLst t) := by
  intro pins s σ H Q I hq
  refine wpAny_List_spliced (thn (h pos pins s σ H _ I hq) fun us s1 ⟨xs, H1, I1, r, z, q⟩ => ⟨by rw [← r.length]; exact z, ?_⟩)
  have hf : H1 s1.heap.objs.size = none := I1.hok.fresh (Nat.le_refl _)
  refine ⟨.ref s1.heap.objs.size, upd H1 s1.heap.objs.size (.lst xs), I1.laid (t' := s1.toks) (fun b u e => Heap.get?_push_of_some _ e) (Nat.le_refl _) ?_, rfl, q _ hf⟩
  exact ⟨z, us, 0, r, Heap.get?_push_size _ rfl⟩
end

/-! ### what a def promises -/
/-- a def's promise: the bound arguments in the parameters' order, the heap, the wanted end, the wanted exception -/
abbrev Sp := List V → Hp → VK → XK → Prop
/-- how an exception lies behind a call (file 08 gives it): the callers' frames, abstract heap and state ahead of the call, the wish, the exception, the state -/
abbrev CXT := List Env → Hp → Shared → XK → Value → Shared → Prop

/-- the state at a call -/
structure Env0 (P : Program) (w : World) (K : PySem.W.Frag) (mg : Str → Option Value) (base : Heap) (A : Around) (outer : List Env) (s : Shared) (H : Hp) : Prop where
  frames : A.frames = some outer
  mod : Mod K mg base
  bs : ∀ b o, base.get? b = some o → s.heap.get? b = some o ∧ H b = none
  bsz : base.objs.size ≤ s.heap.objs.size
  funs : s.heap.FunFrames base outer
  frf : ∀ b ∈ frs outer, H b = none
  hok : HOk P w H s.heap
  bare : AllBare s.gens
/-- a call's end -/
def CE (outer : List Env) (P : Program) (w : World) (H : Hp) (s : Shared) (Q : VK) (u : Value) (s' : Shared) : Prop :=
  ∃ v H', s'.os = s.os ∧ AllBare s'.gens ∧ Un (frs outer) [] H H' s.heap s'.heap ∧ HOk P w H' s'.heap ∧ RelV v u ∧ Q v H'
def CR (CX : CXT) (outer : List Env) (P : Program) (w : World) (H : Hp) (s : Shared) (Q : VK) (E : XK) (r : Result) (s' : Shared) : Prop :=
  match r with
  | .ok (.ret u) => CE outer P w H s Q u s'
  | .ok _ => False
  | .error e => CX outer H s E e s'
structure FnOk (P : Program) (w : World) (K : PySem.W.Frag) (mg : Str → Option Value) (base : Heap) (CX : CXT) (k : Nat) (f : Addr) (fd : FuncData) (ps : List Str) (sp : Sp) : Prop where
  len : ∀ vs H Q E, sp vs H Q E → vs.length = ps.length
  run : ∀ (A : Around) (outer : List Env) (s : Shared) (H : Hp) (args : Args) (us : List Value) (vs : List V) (Q : VK) (E : XK), Room k A → Env0 P w K mg base A outer s H → BindsTo s fd args (ps.zip us) → Vals vs us → sp vs H Q E →
    codeAny (model P w) A (.call (.ref f) args) (CR CX outer P w H s Q E) s
theorem FnOk.mono {P : Program} {w : World} {K : PySem.W.Frag} {mg : Str → Option Value} {base : Heap} {CX : CXT} {j k : Nat} {f : Addr} {fd : FuncData} {ps : List Str} {sp : Sp} (F : FnOk P w K mg base CX j f fd ps sp) (h : j ≤ k) :
    FnOk P w K mg base CX k f fd ps sp := ⟨F.len, fun A outer s H args us vs Q E hr => F.run A outer s H args us vs Q E (hr.mono h)⟩
section
variable {X : Cx} {pins : List (Addr × Obj)} {σ : St} {H : Hp} {s s' : Shared}
/-- from a body: what a callee wants -/
theorem Inv.env0 (I : Inv X pins σ H s) : Env0 X.prog X.w X.K X.mg X.base X.A X.stack s H :=
  ⟨I.ok.frames, I.ok.mod, I.bs, Nat.le_trans I.ok.bsz I.sz, I.stack, I.stkFree, I.hok, I.bare⟩
/-- behind a call -/
theorem Inv.after {Q : VK} {u : Value} (I : Inv X pins σ H s) (h : CE X.stack X.prog X.w H s Q u s') : EP X pins σ Q u s' := by
  obtain ⟨v, H', os, bare, un, hok, r, q⟩ := h
  obtain ⟨hh, g, d, t, os'⟩ := s'
  obtain rfl : os' = s.os := os
  exact ⟨v, H', I.call (h' := hh) (g' := g) (d' := d) (t' := t) (ch := []) un hok bare (fun b z => absurd z (by simp)), r, q⟩
end

/-! ### calls -/
/-- f(..): the written arguments, then the defaults dvs; E: what is wanted of an exception -/
def tCall (sp : Sp) (dvs : List V) (E : XK) (t : TA) : TE := fun σ H Q => t σ H fun vs H1 => sp (vs ++ dvs) H1 Q E
/-- o.m(..) of an instance of the class at C -/
def tMeth (C : Addr) (m : Str) (sp : Sp) (dvs : List V) (E : XK) (ta : TE) (t : TA) : TE := fun σ H Q => ta σ H fun x H1 => ∃ a dx fs, x = .ref a ∧ H1 a = some (.ins C dx fs) ∧ fs.lookup m = none ∧
  t σ H1 fun vs H2 => sp (x :: (vs ++ dvs)) H2 Q E
/-- C(..): a new instance and its dict, then __init__ -/
def tMake (C : Addr) (sp : Sp) (dvs : List V) (E : XK) (t : TA) : TE := fun σ H Q => t σ H fun vs H1 => ∀ x dx, H1 x = none → H1 dx = none → dx ≠ x →
  sp (.ref x :: (vs ++ dvs)) (upd (upd H1 dx (.own x)) x (.ins C dx [])) (fun v H2 => v = .non ∧ Q (.ref x) H2) E

/-- how the parameters are bound: us the positional arguments, kw the keywords' values by name, ds the defaults that fill up -/
def Binds (K : PySem.W.Frag) (fd : FuncData) (ps : List Str) (ds : List Value) : Prop :=
  ∀ (s : Shared) (us : List Value), K.In s.heap → (us ++ ds).length = ps.length → BindsTo s fd ⟨us, []⟩ (ps.zip (us ++ ds))
/-- every parameter is given -/
theorem Binds.all {K : PySem.W.Frag} {fd : FuncData} {ps : List Str} (h : ∀ us : List Value, us.length = ps.length → bindArgs fd ⟨us, []⟩ = pure (ps.zip us)) : Binds K fd ps [] := fun s us _ hl => by
  rw [List.append_nil] at hl ⊢
  exact .of_eq (h us hl)

/-- an exception of a callee reaches what this body wants of exceptions -/
def Passes (CX : CXT) (X : Cx) (E : XK) : Prop := ∀ (pins : List (Addr × Obj)) (σ : St) (H : Hp) (s : Shared) (e : Value) (s' : Shared), Inv X pins σ H s → CX X.stack H s E e s' → X.xe e s'

section
variable {X : Cx} {CX : CXT} {k : Nat} {f C : Addr} {fd : FuncData} {ps : List Str} {sp : Sp} {dvs : List V} {ds : List Value} {E : XK} {x m : Str} {p pos apos : Pos} {e o : Expr} {es : List Expr} {ta : TE} {t : TA}

/-- the callee runs -/
theorem run_fn {pins : List (Addr × Obj)} {σ : St} {H : Hp} {s : Shared} {Q : VK} {us : List Value} {vs : List V} (F : FnOk X.prog X.w X.K X.mg X.base CX k f fd ps sp) (hr : Room k X.A) (hb : Binds X.K fd ps ds) (hd : Vals dvs ds) (hx : Passes CX X E)
    (I : Inv X pins σ H s) (r : Vals vs us) (h : sp (vs ++ dvs) H Q E) : wpAny (model X.prog X.w) X.A (call (.ref f) us) (EP X pins σ Q) X.xe s := by
  have r2 : Vals (vs ++ dvs) (us ++ ds) := r.append hd
  have hl : (us ++ ds).length = ps.length := by rw [← r2.length]; exact F.len _ _ _ _ h
  refine wpAny_call (codeAny_mono (F.run X.A X.stack s H ⟨us, []⟩ (us ++ ds) (vs ++ dvs) Q E hr I.env0 (hb s us I.kIn hl) r2 h) fun r s' hq => ?_)
  cases r with
  | error e => exact hx pins σ H s e s' I hq
  | ok fl =>
    cases fl with
    | ret u => exact I.after hq
    | next => exact False.elim hq
    | brk => exact False.elim hq
    | cont => exact False.elim hq

theorem pe_call (F : FnOk X.prog X.w X.K X.mg X.base CX k f fd ps sp) (hr : Room k X.A) (hg : Gl X x) (hm : X.mg x = some (.ref f)) (hk : PySem.W.keepIn X.K (.ref f) = true) (hb : Binds X.K fd ps ds) (hd : Vals dvs ds) (hx : Passes CX X E)
    (ha : PA X (e :: es) t) (hdb : (x == ("__debug__" : Str)) = false := by decide) (he : starEach (e :: es) X.env = (false, eval e X.env) :: starEach es X.env := by rfl) (hpl : (backTo pos (starEach es X.env)).any (·.1) = false := by rfl) :
    PE X (.Call (.Name x p) (e :: es) [] pos) (tCall sp dvs E t) := by
  intro pins s σ H Q I h
  refine wpAny_Call_Name_kw (ld_glob I hg hm ?_ hdb)
  refine PySem.W.callWith_K (h₀ := X.base) I.ok.mod.kin hk (thn (ha pos pins s σ H _ I h) fun us s1 ⟨vs, H1, I1, r, q⟩ => ⟨I1.kIn, ?_⟩) he hpl
  exact run_fn F hr hb hd hx I1 r q
/-- what a class must have to be made -/
structure Mk (K : PySem.W.Frag) (C f : Addr) : Prop where
  makes : PySem.W.makesIn K C = true
  init : PySem.W.findIn K (.ref C) "__init__" = some (some (.ref f))
  fn : PySem.W.isFn K (.ref f) = true
  kp : PySem.W.keepIn K (.ref C) = true

end

/-! ### keywords -/
/-- the values of the keywords, from the left -/
def PK (X : Cx) (kws : List Keyword) (t : TA) : Prop :=
  ∀ (pos : Pos) (pins : List (Addr × Obj)) (s : Shared) (σ : St) (H : Hp) (Q : List V → Hp → Prop), Inv X pins σ H s → t σ H Q → wpAny (model X.prog X.w) X.A (evalAll ((backToKw pos (keywordEach kws X.env)).map (·.2))) (AP X pins σ Q) X.xe s
section
variable {X : Cx} {CX : CXT} {k : Nat} {f C : Addr} {fd : FuncData} {ps ks : List Str} {sp : Sp} {E : XK} {x m : Str} {p pos apos kpos : Pos} {e o : Expr} {es : List Expr} {kws : List Keyword} {te ta : TE} {t tk : TA} {nm : Option Str}
/-- how a call with keywords binds: g puts the positional values us and the keywords' values ws (names ks) in the parameters' order, defaults among them -/
structure KBinds (K : PySem.W.Frag) (fd : FuncData) (ps ks : List Str) (g : List Value → List Value → List Value) (gV : List V → List V → List V) : Prop where
  to : ∀ (s : Shared) (us ws : List Value), K.In s.heap → (g us ws).length = ps.length → BindsTo s fd ⟨us, ks.zip ws⟩ (ps.zip (g us ws))
  rel : ∀ {vs : List V} {us : List Value} {zs : List V} {ws : List Value}, Vals vs us → Vals zs ws → Vals (gV vs zs) (g us ws)
def tCallK (sp : Sp) (gV : List V → List V → List V) (E : XK) (t tk : TA) : TE := fun σ H Q => t σ H fun vs H1 => tk σ H1 fun zs H2 => sp (gV vs zs) H2 Q E
variable {g : List Value → List Value → List Value} {gV : List V → List V → List V}
end

/-! ### a def's body keeps its promise -/
/-- names: the parameters first -/
structure FnScope (N P : List Str) (sc : Scope) : Prop where
  kind : sc.kind = .function
  co : sc.isCoroutine = false
  gen : sc.isGenerator = false
  nd : N.Nodup
  pre : N.take P.length = P
  par : ∀ x ∈ P, sc.names.lookup x = some .local ∨ sc.names.lookup x = some .cell
  nofree : ∀ y ∈ sc.names, y.2 ≠ .free

theorem bindL_out {kindOf : Str → Option NameKind} {x : Str} : ∀ {binds : List (Str × Value)} {m : Str → Option Value}, (∀ v, (x, v) ∉ binds) → bindL kindOf binds m x = m x
  | [], _, _ => rfl
  | (n, v) :: r, m, h => by
    unfold bindL
    rw [bindL_out fun w hw => h w (List.mem_cons_of_mem _ hw)]
    split
    · have : x ≠ n := by rintro rfl; exact h v List.mem_cons_self
      simp [this]
    · rfl
theorem bindC_out {kindOf : Str → Option NameKind} {x : Str} : ∀ {binds : List (Str × Value)} {m : Str → Option Value}, (∀ v, (x, v) ∉ binds) → bindC kindOf binds m x = m x
  | [], _, _ => rfl
  | (n, v) :: r, m, h => by
    unfold bindC
    rw [bindC_out fun w hw => h w (List.mem_cons_of_mem _ hw)]
    split
    · rfl
    · have : x ≠ n := by rintro rfl; exact h v List.mem_cons_self
      simp [this]
theorem bindL_get {kindOf : Str → Option NameKind} {x : Str} {v : Value} : ∀ {P : List Str} {vs : List Value} {i : Nat} {m : Str → Option Value}, P.Nodup → P[i]? = some x → vs[i]? = some v → kindOf x = some .local →
    bindL kindOf (P.zip vs) m x = some v
  | [], _, _, _, _, h, _, _ => by simp at h
  | _ :: _, [], _, _, _, _, h, _ => by simp at h
  | p :: P, w :: vs, 0, m, nd, h1, h2, hk => by
    simp at h1 h2; subst h1; subst h2
    show bindL kindOf ((p, w) :: P.zip vs) m p = _
    unfold bindL
    rw [bindL_out fun v hv => (List.nodup_cons.mp nd).1 (List.of_mem_zip hv).1, if_pos hk]
    simp
  | p :: P, w :: vs, i + 1, m, nd, h1, h2, hk => by
    show bindL kindOf ((p, w) :: P.zip vs) m x = _
    unfold bindL
    exact bindL_get (i := i) (List.nodup_cons.mp nd).2 (by simpa using h1) (by simpa using h2) hk
theorem bindC_get {kindOf : Str → Option NameKind} {x : Str} {v : Value} : ∀ {P : List Str} {vs : List Value} {i : Nat} {m : Str → Option Value}, P.Nodup → P[i]? = some x → vs[i]? = some v → kindOf x ≠ some .local →
    bindC kindOf (P.zip vs) m x = some v
  | [], _, _, _, _, h, _, _ => by simp at h
  | _ :: _, [], _, _, _, _, h, _ => by simp at h
  | p :: P, w :: vs, 0, m, nd, h1, h2, hk => by
    simp at h1 h2; subst h1; subst h2
    show bindC kindOf ((p, w) :: P.zip vs) m p = _
    unfold bindC
    rw [bindC_out fun v hv => (List.nodup_cons.mp nd).1 (List.of_mem_zip hv).1, if_neg hk]
    simp
  | p :: P, w :: vs, i + 1, m, nd, h1, h2, hk => by
    show bindC kindOf ((p, w) :: P.zip vs) m x = _
    unfold bindC
    exact bindC_get (i := i) (List.nodup_cons.mp nd).2 (by simpa using h1) (by simpa using h2) hk

/-- the names' values at the entry -/
def start (N : List Str) (vs : List V) : St := vs.map some ++ List.replicate (N.length - vs.length) none

/-- the context of a def's body, at its entry; an exception leaves the frame, then lies as CX says -/
def cxOf (CX : CXT) (P : Program) (w : World) (K : PySem.W.Frag) (mg : Str → Option Value) (base : Heap) (N : List Str) (qual : Str) (scope : Scope) (f : Addr) (cd : Value) (A : Around) (outer : List Env) (s : Shared) (H : Hp) (E : XK) : Cx where
  prog := P
  w := w
  K := K
  mg := mg
  base := base
  A := A.deeper (envOfC qual scope s.heap.objs.size f cd)
  N := N
  s₀ := s
  H₀ := H
  env := envOfC qual scope s.heap.objs.size f cd
  outer := outer
  stack := envOfC qual scope s.heap.objs.size f cd :: outer
  ex := []
  calm := true
  fn := fun _ => true
  pn := []
  xe := fun e s' => wpAny (model P w) (A.deeper (envOfC qual scope s.heap.objs.size f cd)) (leaving (envOfC qual scope s.heap.objs.size f cd) e) (fun _ s'' => CX outer H s E e s'') (fun e' s'' => CX outer H s E e' s'') s'

theorem cell_has {sc : Scope} {n : Nat} {x : Str} (h : sc.names.lookup x = some .cell) : ∃ c, (cellsFrom n sc.names []).lookup x = some c := by
  have q := PySem.W.cellsFrom_some sc.names n [] (.inl h)
  exact Option.isSome_iff_exists.mp q

theorem inv_start {CX : CXT} {P : Program} {w : World} {K : PySem.W.Frag} {mg : Str → Option Value} {base : Heap} {N ps : List Str} {qual : Str} {scope : Scope} {f : Addr} {cd : Value} {A : Around} {outer : List Env} {s s1 : Shared} {H : Hp} {E : XK} {us : List Value} {vs : List V}
    (S : FnScope N ps scope) (hd : A.handled = none) (e0 : Env0 P w K mg base A outer s H) (hl : vs.length = ps.length) (r : Vals vs us)
    (x : InCallC s s.heap.objs.size (bindL (envOfC qual scope s.heap.objs.size f cd).kindOf (ps.zip us) fun _ => none) (cellsFrom (s.heap.objs.size + 1) scope.names []) (bindC (envOfC qual scope s.heap.objs.size f cd).kindOf (ps.zip us) fun _ => none) s1) :
    Inv (cxOf CX P w K mg base N qual scope f cd A outer s H E) [] (start N vs) H s1 := by
  have hpl : ps.length ≤ N.length := by have := congrArg List.length S.pre; rw [List.length_take] at this; (first | lia | omega)
  obtain ⟨h1, tk, rfl, hk⟩ := x.done
  have noA : ∀ b : Addr, b ∉ (cxOf CX P w K mg base N qual scope f cd A outer s H E).ex := fun b z => absurd (show b ∈ ([] : List Addr) from z) (by simp)
  refine ⟨⟨e0.mod, S.kind, rfl, rfl, Nat.le_refl _, fun y z c h1 h2 => ?_, fun y hy => ?_, fun y c _ h => ?_, fun _ => hd, Around.frames_deeper e0.frames, .inr ⟨rfl, rfl⟩, fun b z => absurd z (noA b), e0.bs, e0.bsz, fun b _ _ => noA b, fun b z => absurd z (noA b), e0.funs, e0.frf⟩,
    rfl, e0.bare, Un.kept hk, ⟨_, x.toInCall.ns, fun i y v h1 h2 h3 => ?_⟩, fun y c h => ⟨_, x.cell y c h⟩, e0.hok.fresh (Nat.le_refl _), fun y c h => ?_, fun p hp => absurd (show p ∈ ([] : List (Addr × Obj)) from hp) (by simp), e0.hok.kept hk, ?_⟩
  · exact name_of_addr x.apart (PySem.mem_of_lookup h1) (PySem.mem_of_lookup h2)
  · have hy : scope.names.lookup y = some .cell ∨ scope.names.lookup y = some .free := hy
    rcases hy with hy | hy
    · exact cell_has hy
    · exact absurd rfl (S.nofree _ (PySem.mem_of_lookup hy))
  · exact Nat.le_of_lt (x.above y c (PySem.mem_of_lookup h))
  · have hi : i < vs.length := by
      unfold start at h2
      by_cases hi : i < vs.length
      · exact hi
      · rw [List.getElem?_append_right (by simpa using hi)] at h2
        rw [List.getElem?_replicate] at h2
        split at h2 <;> cases h2
    have ha : vs[i]? = some v := by
      unfold start at h2
      rw [List.getElem?_append_left (by simpa using hi), List.getElem?_map] at h2
      cases e : vs[i]? with
      | none => rw [e] at h2; cases h2
      | some a => rw [e] at h2; cases h2; rfl
    obtain ⟨u, hu, rv⟩ := r.get ha
    have hp : ps[i]? = some y := by
      rw [← S.pre, List.getElem?_take_of_lt (by (first | lia | omega))]; exact h1
    have ndP : ps.Nodup := by rw [← S.pre]; exact S.nd.sublist (List.take_sublist _ _)
    refine ⟨u, rv, ?_⟩
    rcases S.par y (List.mem_of_getElem? hp) with k | k
    · exact .inl ⟨k, bindL_get ndP hp hu k⟩
    · obtain ⟨c, e⟩ := cell_has (n := s.heap.objs.size + 1) k
      refine .inr ⟨.inl k, c, e, ?_⟩
      have q := x.cell y c e
      rw [bindC_get ndP hp hu (by show scope.names.lookup y ≠ _; rw [k]; decide)] at q
      exact q
  · exact e0.hok.fresh (Nat.le_of_lt (x.above y c (PySem.mem_of_lookup h)))
  · unfold start
    show _ = N.length
    rw [List.length_append, List.length_map, List.length_replicate]
    (first | lia | omega)

/-- THE RULE: a def (or a method) of the text, by its body. The body's reading t is chosen for each entry; it is run at the parameters' values -/
theorem fn_of {CX : CXT} {P : Program} {w : World} {K : PySem.W.Frag} {mg : Str → Option Value} {base : Heap} {k : Nat} {f : Addr} {name qual : Str} {params : Arguments} {body : List Stmt} {scope : Scope} {dV kV doc pm cdv ct oc : Value} {an od : Option Addr}
    {osl : Array (Option Value)} {N ps : List Str} {sp : Sp} (lk : K.lookup f = some ⟨oc, od, .func (PySem.W.fnOf name qual params body scope dV kV doc pm an cdv ct), osl⟩) (hcd : PySem.W.codeIn K cdv qual = true) (S : FnScope N ps scope)
    (len : ∀ vs H Q E, sp vs H Q E → vs.length = ps.length)
    (hbody : ∀ (A : Around) (outer : List Env) (s : Shared) (H : Hp) (vs : List V) (Q : VK) (E : XK), Room k (A.deeper (envOfC qual scope s.heap.objs.size f cdv)) → sp vs H Q E →
      ∃ t, PSs (cxOf CX P w K mg base N qual scope f cdv A outer s H E) body t ∧ t { nx := fun _ H' => Q .non H', rt := Q } (start N vs) H) :
    FnOk P w K mg base CX (k + 1) f (PySem.W.fnOf name qual params body scope dV kV doc pm an cdv ct) ps sp := by
  refine ⟨len, fun A outer s H args us vs Q E hr e0 hb r hsp => ?_⟩
  have hl := len _ _ _ _ hsp
  have KX : K.In s.heap := e0.mod.kin.keeps fun b o e => (e0.bs b o e).1
  have lim : s.heap.NoLimit := e0.mod.nolimit.keeps fun b o e => (e0.bs b o e).1
  have hkind : ∀ y ∈ ps.zip us, scope.names.lookup y.1 = some .local ∨ (scope.names.lookup y.1 = some .cell ∧ ((cellsFrom (s.heap.objs.size + 1) scope.names []).lookup y.1).isSome = true) := fun ⟨n, v⟩ hy => by
    rcases S.par n (List.of_mem_zip hy).1 with q | q
    · exact .inl q
    · exact .inr ⟨q, PySem.W.cellsFrom_some _ _ _ (.inl q)⟩
  refine codeAny_call_function hr.depth (KX _ _ lk) rfl S.co S.gen rfl (PySem.W.codeRec_of KX hcd) (hb _ _ _ _ ?_)
  refine wpAny_newFunctionEnv_cells S.kind hkind fun env he s1 x => ?_
  subst he
  refine ⟨lim.keeps x.toInCall.keep, codeAny_func ?_⟩
  obtain ⟨t, ht, hq⟩ := hbody A outer s H vs Q E (hr.deeper _) hsp
  have I : Inv (cxOf CX P w K mg base N qual scope f cdv A outer s H E) [] (start N vs) H s1 := inv_start S hr.hd e0 hl r x
  refine wpAny_mono (ht [] s1 (start N vs) H _ I hq) (fun fl s' hs => ?_) fun e s' hs => hs
  have fin : ∀ {σ' : St} {H' : Hp} {v : V} {u : Value}, Inv (cxOf CX P w K mg base N qual scope f cdv A outer s H E) [] σ' H' s' → RelV v u → Q v H' → CE outer P w H s Q u s' :=
    fun {σ' H' v u} J rv q => ⟨v, H', J.os, J.bare, J.base, J.hok, rv, q⟩
  cases fl with
  | ret u =>
    obtain ⟨v, σ', H', J, rv, q⟩ := hs
    exact fin J rv q
  | next =>
    obtain ⟨σ', H', J, q⟩ := hs
    exact fin (v := V.non) (u := Value.none) J rfl q
  | brk =>
    obtain ⟨_, _, _, q⟩ := hs
    exact False.elim q
  | cont =>
    obtain ⟨_, _, _, q⟩ := hs
    exact False.elim q
end L2

namespace L2
open PySem PySem.Spec PyProof.Rows
section
variable {X : Cx} {x : Str} {p pos : Pos} {e : Expr} {es : List Expr} {t : TA} {id T : String} {r : List V → Hp → VK → Prop}

def tCB (r : List V → Hp → VK → Prop) (t : TA) : TE := fun σ H Q => t σ H fun vs H1 => r vs H1 Q
/-- f(e, ..), f a built-in function -/
theorem pe_callB (hc : CallR X (.builtin id) r) (hg : Gl X x) (hm : X.mg x = none) (hv : bootBuiltins x = some (.builtin id)) (ha : PA X (e :: es) t) (hn : x ≠ "__name__" := by decide) (hdb : (x == ("__debug__" : Str)) = false := by decide)
    (he : starEach (e :: es) X.env = (false, eval e X.env) :: starEach es X.env := by rfl) (hpl : (backTo pos (starEach es X.env)).any (·.1) = false := by rfl) : PE X (.Call (.Name x p) (e :: es) [] pos) (tCB r t) := by
  intro pins s σ H Q I h
  refine wpAny_Call_Name_kw (ld_blt I hg hm hv ?_ hn hdb)
  exact PyProof.Rows.callWith_builtin1 (thn (ha pos pins s σ H _ I h) fun us s1 ⟨vs, H1, I1, r1, q1⟩ => hc pins s1 σ H1 vs us Q I1 r1 q1) he hpl
/-- T(e, ..), T a built-in type -/
theorem pe_callTy (hc : CallR X (.type T) r) (hg : Gl X x) (hm : X.mg x = none) (hv : bootBuiltins x = some (.type T)) (ha : PA X (e :: es) t) (hn : x ≠ "__name__" := by decide) (hdb : (x == ("__debug__" : Str)) = false := by decide)
    (he : starEach (e :: es) X.env = (false, eval e X.env) :: starEach es X.env := by rfl) (hpl : (backTo pos (starEach es X.env)).any (·.1) = false := by rfl) : PE X (.Call (.Name x p) (e :: es) [] pos) (tCB r t) := by
  intro pins s σ H Q I h
  refine wpAny_Call_Name_kw (ld_blt I hg hm hv ?_ hn hdb)
  exact PyProof.Rows.callWith_type1 (thn (ha pos pins s σ H _ I h) fun us s1 ⟨vs, H1, I1, r1, q1⟩ => hc pins s1 σ H1 vs us Q I1 r1 q1) he hpl
end
end L2

namespace HT
open PySem PyProof.Rows

/-- t < u of tuples of ints -/
def lexLt : List Int → List Int → Bool
  | [], [] => false
  | [], _ :: _ => true
  | _ :: _, [] => false
  | x :: xs, y :: ys => if x = y then lexLt xs ys else decide (x < y)
section
open PySem.SeqAt
open PySem.AutoSeq1 (wpAny_loadPart')
open PySem.MeetsSeq PySem.MeetsSeq2 PySem.MeetsSeq3

end

section
variable {prog : Program} {w : World} {A : Around} {E : Value → Shared → Prop} {s : Shared}

/-! ### t[a:b], not the whole -/
/-- a slice's bound as a place among n (d where it is left out) -/
def sIx (n d : Nat) : Option Int → Nat
  | none => d
  | some v => if v < 0 then (v + (n : Int)).toNat else min v.toNat n
theorem sIx_none (n d : Nat) : sIx n d none = d := rfl
theorem sIx_nat (n d k : Nat) : sIx n d (some (k : Int)) = min k n := by
  show (if (k : Int) < 0 then ((k : Int) + (n : Int)).toNat else min (k : Int).toNat n) = min k n
  rw [if_neg (by (first | lia | omega)), Int.toNat_natCast]
end
end HT

namespace L2
open PySem PySem.Spec PyProof.Rows

/-! ### the parts of a slice -/
abbrev TO := St → Hp → (Option Int → Hp → Prop) → Prop
/-- a slice's part (left out, or an int) -/
def PO (X : Cx) (e : Option Expr) (t : TO) : Prop :=
  ∀ (pins : List (Addr × Obj)) (s : Shared) (σ : St) (H : Hp) (Q : Option Int → Hp → Prop), Inv X pins σ H s → t σ H Q →
    wpAny (model X.prog X.w) X.A (evalPart e X.env) (fun u s' => ∃ o H', Inv X pins σ H' s' ∧ IsPart u o ∧ Q o H') X.xe s
def tNoPart : TO := fun _ H Q => Q none H
def tPart (t : TE) : TO := fun σ H Q => t σ H fun x H1 => ∃ i, x = .int i ∧ Q (some i) H1

theorem intsAre_of {ns : List Int} : ∀ {us : List Value}, Vals (ns.map V.int) us → IntsAre us ns := by
  induction ns with
  | nil => intro us r; rw [List.map_nil] at r; cases r; exact .nil
  | cons n ns ih =>
    intro us r
    rw [List.map_cons] at r
    cases r with
    | cons r1 r2 =>
      obtain ⟨t, e⟩ := r1
      subst e
      exact .cons n t (ih r2)

section
variable {X : Cx} {e : Expr} {te : TE} {lo hi : Option Expr} {tl th : TO} {pos p2 : Pos}

theorem po_none : PO X none tNoPart := by
  intro pins s σ H Q I h
  rw [evalPart_none]
  exact wpAny_pure ⟨none, H, I, .none, h⟩
theorem po_some (h : PE X e te) : PO X (some e) (tPart te) := by
  intro pins s σ H Q I hw
  rw [evalPart_some]
  refine thn (h pins s σ H _ I hw) fun u s1 ⟨x, H1, I1, r1, q1⟩ => ?_
  obtain ⟨i, rfl, q⟩ := q1
  obtain ⟨t, rfl⟩ := r1
  exact ⟨some i, H1, I1, .int i t, q⟩

/-- what a slice of a value is, by values: the slice object stands at sl -/
def SlR (X : Cx) (r : V → Option Int → Option Int → Hp → VK → Prop) : Prop :=
  ∀ (pins : List (Addr × Obj)) (s : Shared) (σ : St) (H : Hp) (x : V) (v vl vu : Value) (lo hi : Option Int) (sl : Addr) (Q : VK), Inv X pins σ H s → RelV x v → s.heap.IsSliceOf sl vl vu .none → IsPart vl lo → IsPart vu hi → r x lo hi H Q →
    ∃ T id, typeLookup (.type T) "__getitem__" = pure (some (.builtin id)) ∧ s.TypeIs v T ∧ wpAny (model X.prog X.w) X.A (getItem v (.ref sl)) (EP X pins σ Q) X.xe s
def tSl (r : V → Option Int → Option Int → Hp → VK → Prop) (te : TE) (tl th : TO) : TE := fun σ H Q => te σ H fun x H1 => tl σ H1 fun l H2 => th σ H2 fun u H3 => r x l u H3 Q
/-- a[lo:hi], any a -/
theorem pe_slice {r : V → Option Int → Option Int → Hp → VK → Prop} (hr : SlR X r) (he : PE X e te) (hl : PO X lo tl) (hu : PO X hi th) : PE X (.Subscript e (.Slice lo hi none p2) pos) (tSl r te tl th) := by
  intro pins s σ H Q I h
  refine Subscript_ (thn (he pins s σ H _ I h) fun v s1 ⟨x, H1, I1, r1, q1⟩ => ?_)
  refine wpAny_Slice (thn (hl pins s1 σ H1 _ I1 q1) fun vl s2 ⟨l, H2, I2, pl, q2⟩ => thn (hu pins s2 σ H2 _ I2 q2) fun vu s3 ⟨u, H3, I3, pu, q3⟩ => ?_)
  rw [evalPart_none]
  refine wpAny_pure ?_
  have I4 : Inv X pins σ H3 { s3 with heap := s3.heap.push { cls := .type "slice", data := .fields #[vl, vu, .none] } } := I3.kept (t' := s3.toks) fun b ob q => Heap.get?_push_of_some _ q
  obtain ⟨T, id, hT, ht, hg⟩ := hr pins { s3 with heap := s3.heap.push { cls := .type "slice", data := .fields #[vl, vu, .none] } } σ H3 x v vl vu l u s3.heap.objs.size Q I4 r1 (Heap.IsSliceOf.new ..) pl pu q3
  show wpAny (model X.prog X.w) X.A (subscriptTail e (.Slice lo hi none p2) v (.ref s3.heap.objs.size)) (EP X pins σ Q) X.xe { s3 with heap := s3.heap.push { cls := .type "slice", data := .fields #[vl, vu, .none] } }
  exact tail_any (ops := [.ref s3.heap.objs.size, v]) ht hT hg (by with_unfolding_all rfl)

/-- the items of xs[lo:hi] -/
def cutV (xs : List V) (lo hi : Option Int) : List V := (xs.drop (HT.sIx xs.length 0 lo)).take (HT.sIx xs.length xs.length hi - HT.sIx xs.length 0 lo)
theorem cutV_length (xs : List V) (lo hi : Option Int) : (cutV xs lo hi).length ≤ xs.length := by
  unfold cutV
  rw [List.length_take, List.length_drop]
  (first | lia | omega)
/-- t[lo:hi], not the whole of it (the whole would be t itself) -/
def rSlT (K : PySem.W.Frag) : V → Option Int → Option Int → Hp → VK → Prop := fun x lo hi H Q => ∃ a xs, x = .ref a ∧ SqT K H a xs ∧
  ¬ (HT.sIx xs.length 0 lo = 0 ∧ HT.sIx xs.length xs.length hi = xs.length) ∧ ∀ p, H p = none → Q (.ref p) (upd H p (.tup (cutV xs lo hi)))
/-! ### t < u, t + u -/
def rLtT (K : PySem.W.Frag) : R2 := fun x y H Q => ∃ a b ns ms, x = .ref a ∧ y = .ref b ∧ SqT K H a (ns.map V.int) ∧ SqT K H b (ms.map V.int) ∧ Q (.bl (HT.lexLt ns ms)) H
/-- t + u, t not empty: u empty gives t itself -/
def rCatT (K : PySem.W.Frag) : R2 := fun x y H Q => ∃ a b xs ys, x = .ref a ∧ y = .ref b ∧ SqT K H a xs ∧ SqT K H b ys ∧ xs ≠ [] ∧ xs.length + ys.length ≤ sizeLine ∧
  (ys = [] → Q (.ref a) H) ∧ (ys ≠ [] → ∀ p, H p = none → Q (.ref p) (upd H p (.tup (xs ++ ys))))
end
end L2

namespace L2
open PySem PySem.Spec PyProof.Rows

/-! ### places -/
/-- the place that an index of any sign means -/
def ixN (n : Nat) (i : Int) : Option Nat := if 0 ≤ i then (if i < n then some i.toNat else none) else if -(n : Int) ≤ i then some (i + n).toNat else none
def atI {α : Type} (xs : List α) (i : Int) : Option α := (ixN xs.length i).bind fun j => xs[j]?
theorem ixN_seq {n : Nat} {i : Int} {j : Nat} (h : ixN n i = some j) : seqIndex? i n = some j ∧ j < n ∧ -(n : Int) ≤ i ∧ i < n := by
  unfold ixN at h
  by_cases h0 : 0 ≤ i
  · rw [if_pos h0] at h
    by_cases h1 : i < n
    · rw [if_pos h1] at h
      have e : i.toNat = j := Option.some.inj h
      exact ⟨by rw [seqIndex_of h0 h1, e], by (first | lia | omega), by (first | lia | omega), h1⟩
    · rw [if_neg h1] at h; cases h
  · rw [if_neg h0] at h
    by_cases h1 : -(n : Int) ≤ i
    · rw [if_pos h1] at h
      have e : (i + n).toNat = j := Option.some.inj h
      exact ⟨by rw [seqIndex_neg (by (first | lia | omega)) h1, e], by (first | lia | omega), h1, by (first | lia | omega)⟩
    · rw [if_neg h1] at h; cases h
theorem atI_get {α : Type} {xs : List α} {i : Int} {v : α} (h : atI xs i = some v) : ∃ j, seqIndex? i xs.length = some j ∧ xs[j]? = some v ∧ j < xs.length ∧ -(xs.length : Int) ≤ i ∧ i < xs.length := by
  unfold atI at h
  cases e : ixN xs.length i with
  | none => rw [e] at h; cases h
  | some j =>
    rw [e] at h
    obtain ⟨h1, h2, h3, h4⟩ := ixN_seq e
    exact ⟨j, h1, h, h2, h3, h4⟩
theorem atI_nat {α : Type} {xs : List α} {j : Nat} {v : α} (h : xs[j]? = some v) : atI xs (j : Int) = some v := by
  have hj : j < xs.length := (List.getElem?_eq_some_iff.mp h).1
  have e : ixN xs.length (j : Int) = some j := by
    unfold ixN
    rw [if_pos (by (first | lia | omega)), if_pos (by (first | lia | omega))]; simp
  unfold atI; rw [e]; exact h
theorem atI_last {α : Type} (xs : List α) (v : α) : atI (xs ++ [v]) (-1) = some v := by
  have hl : (xs ++ [v]).length = xs.length + 1 := by simp
  have e : ixN (xs ++ [v]).length (-1) = some xs.length := by
    unfold ixN
    rw [hl, if_neg (by decide), if_pos (by (first | lia | omega))]
    congr 1
    (first | lia | omega)
  unfold atI
  rw [e]
  show (xs ++ [v])[xs.length]? = some v
  simp

/-! ### what may be subscripted -/
/-- what stands as an index of a plain subscript -/
def PlainIx (b : Expr) : Prop := ∀ o i, subscripted b false o i = operate [o, i] (getItem o i)
/-- a subscript by values -/
def IxR (X : Cx) (r : R2) : Prop :=
  ∀ (value slice : Expr) (pins : List (Addr × Obj)) (s : Shared) (σ : St) (H : Hp) (x y : V) (v u : Value) (Q : VK), Inv X pins σ H s → RelV x v → RelV y u → r x y H Q →
    subscripted slice false v u = operate [v, u] (getItem v u) → wpAny (model X.prog X.w) X.A (subscriptTail value slice v u) (EP X pins σ Q) X.xe s
/-- a call of a builtin's method by values: the receiver, the arguments -/
def MtR (X : Cx) (id : String) (r : V → List V → Hp → VK → Prop) : Prop :=
  ∀ (pins : List (Addr × Obj)) (s : Shared) (σ : St) (H : Hp) (x : V) (xs : List V) (v : Value) (us : List Value) (Q : VK), Inv X pins σ H s → RelV x v → Vals xs us → r x xs H Q →
    wpAny (model X.prog X.w) X.A (call (.builtin id) (v :: us)) (EP X pins σ Q) X.xe s
section
variable {X : Cx} {a b : Expr} {ta tb : TE} {pos : Pos}
/-- a[b] -/
theorem pe_ix {r : R2} (hr : IxR X r) (ha : PE X a ta) (hb : PE X b tb) (hs : PlainIx b) : PE X (.Subscript a b pos) (tOp r ta tb) := by
  intro pins s σ H Q I h
  exact Subscript_ (binT ha hb I h fun v u s2 x y H2 I2 rx ry q => hr a b pins s2 σ H2 x y v u Q I2 rx ry q (hs _ _))

def rIxL (K : PySem.W.Frag) : R2 := fun x y H Q => ∃ p xs i v, x = .ref p ∧ y = .int i ∧ SqL K H p xs ∧ atI xs i = some v ∧ Q v H
def rIxT (K : PySem.W.Frag) : R2 := fun x y H Q => ∃ p xs i v, x = .ref p ∧ y = .int i ∧ SqT K H p xs ∧ atI xs i = some v ∧ Q v H
def rIxS : R2 := fun x y H Q => ∃ z i c, x = .str z ∧ y = .int i ∧ z.length ≤ sizeLine ∧ atI z.cps.toList i = some c ∧ Q (.str ⟨#[c]⟩) H
theorem ix_list : IxR X (rIxL X.K) := by
  intro value slice pins s σ H x y v u Q I rx ry h hs
  obtain ⟨p, xs, i, z, rfl, rfl, hq, he, q⟩ := h
  cases rx
  obtain ⟨t, rfl⟩ := ry
  obtain ⟨its, r, pl, hz⟩ := I.list hq
  obtain ⟨j, h1, h2, h3, h4, h5⟩ := atI_get he
  obtain ⟨w, ew, rw'⟩ := r.get h2
  have hl := r.length
  have hn := line63
  have fin : EP X pins σ Q w s := ⟨z, H, I, rw', q⟩
  by_cases h0 : 0 ≤ i
  · have hj : i.toNat = j := by
      rw [seqIndex_of h0 h5] at h1
      exact Option.some.inj h1
    exact item_listR pl.isList h0 (by (first | lia | omega)) (by rw [hj]; simpa using ew) fin hs
  · have hj : (i + (its.toArray.size : Int)).toNat = j := by
      rw [seqIndex_neg (by (first | lia | omega)) h4] at h1
      rw [List.size_toArray, ← hl]
      exact Option.some.inj h1
    exact subscriptTail_builtinR (x := w) pl.isList.typeIs slot_list_getitem.lookup
      (wpAny_getItem_list_neg (Q := fun r s' => r = w ∧ EP X pins σ Q r s') pl.isList (by (first | lia | omega)) (by rw [List.size_toArray] <;> (first | lia | omega)) (by (first | lia | omega)) (by rw [hj]; simpa using ew) ⟨rfl, fin⟩) hs
theorem ix_tup : IxR X (rIxT X.K) := by
  intro value slice pins s σ H x y v u Q I rx ry h hs
  obtain ⟨p, xs, i, z, rfl, rfl, hq, he, q⟩ := h
  cases rx
  obtain ⟨t, rfl⟩ := ry
  obtain ⟨its, r, pl, hz⟩ := I.tuple hq
  obtain ⟨j, h1, h2, h3, h4, h5⟩ := atI_get he
  obtain ⟨w, ew, rw'⟩ := r.get h2
  have hl := r.length
  have hn := line63
  have fin : EP X pins σ Q w s := ⟨z, H, I, rw', q⟩
  exact subscriptTail_builtinR (x := w) pl.typeIs slot_tuple_getitem.lookup
    (getItem_tuple (j := j) (Q := fun r s' => r = w ∧ EP X pins σ Q r s') pl (by (first | lia | omega)) (by (first | lia | omega)) (by rw [List.size_toArray, ← hl]; exact h1) (by simpa using ew) ⟨rfl, fin⟩) hs
/-- list, tuple or str -/
def rIx (K : PySem.W.Frag) : R2 := fun x y H Q => rIxL K x y H Q ∨ rIxT K x y H Q ∨ rIxS x y H Q
/-! ### xs[i] = v, any sign -/
def rSetL : V → V → V → Hp → (Hp → Prop) → Prop := fun o i v H Q => ∃ p xs k j, o = .ref p ∧ i = .int k ∧ H p = some (.lst xs) ∧ ixN xs.length k = some j ∧ Q (upd H p (.lst (xs.set j v)))
/-! ### slices -/
theorem slice_bounds (lo hi : Option Int) (n : Nat) : (sliceBounds lo hi none n).1 = ((HT.sIx n 0 lo : Nat) : Int) ∧ (sliceBounds lo hi none n).2.1 = ((HT.sIx n n hi : Nat) : Int) ∧ (sliceBounds lo hi none n).2.2 = 1 := by
  refine ⟨?_, ?_, rfl⟩
  · cases lo with
    | none => simp [sliceBounds, HT.sIx]
    | some i =>
      simp only [sliceBounds, HT.sIx, Option.getD_none, show (1 : Int) > 0 by decide, if_true]
      by_cases h : i < 0
      · simp only [h, if_true] <;> (first | lia | omega)
      · simp only [h, if_false] <;> (first | lia | omega)
  · cases hi with
    | none => simp [sliceBounds, HT.sIx]
    | some i =>
      simp only [sliceBounds, HT.sIx, Option.getD_none, show (1 : Int) > 0 by decide, if_true]
      by_cases h : i < 0
      · simp only [h, if_true] <;> (first | lia | omega)
      · simp only [h, if_false] <;> (first | lia | omega)
theorem slicePick_cut (its : List Value) (lo hi : Option Int) : slicePick its.toArray lo hi none = ((its.drop (HT.sIx its.length 0 lo)).take (HT.sIx its.length its.length hi - HT.sIx its.length 0 lo)).toArray := by
  obtain ⟨h1, h2, h3⟩ := slice_bounds lo hi its.toArray.size
  unfold slicePick
  rw [h1, h2, h3]
  simp only [sliceRange_one, pick_run, List.size_toArray] <;> rfl
/-- xs[lo:hi] of a list: a new list -/
def rSlL (K : PySem.W.Frag) : V → Option Int → Option Int → Hp → VK → Prop := fun x lo hi H Q => ∃ a xs, x = .ref a ∧ SqL K H a xs ∧ ∀ p, H p = none → Q (.ref p) (upd H p (.lst (cutV xs lo hi)))
theorem sl_list : SlR X (rSlL X.K) := by
  intro pins s σ H x v vl vu lo hi sl Q I rx hs pl pu h
  obtain ⟨a, xs, rfl, hx, q⟩ := h
  cases rx
  obtain ⟨its, r, ht, hz⟩ := I.list hx
  have hlen := r.length
  refine ⟨"list", _, slot_list_getitem.lookup, ht.isList.typeIs, ?_⟩
  refine wpAny_getItem_list_slice ht.isList hs pl pu .none (by simp) ?_ (by rw [List.size_toArray] <;> (first | lia | omega))
  rw [slicePick_cut, ← hlen]
  refine ⟨.ref s.heap.objs.size, _, I.laid (t' := s.toks) (o := .lst (cutV xs lo hi)) (fun b ob q => Heap.get?_push_of_some _ q) (Nat.le_refl _) ?_, rfl, q _ (I.hok.fresh (Nat.le_refl _))⟩
  exact ⟨Nat.le_trans (cutV_length xs lo hi) hz, _, 0, (r.drop (HT.sIx xs.length 0 lo)).take (HT.sIx xs.length xs.length hi - HT.sIx xs.length 0 lo), Heap.get?_push_size _ rfl⟩

/-! ### in, not in: flat items -/
def flatV : V → Bool
  | .non => true
  | .bl _ => true
  | .int _ => true
  | .str _ => true
  | _ => false
/-- == of flat values -/
def eqV : V → V → Bool
  | .non, .non => true
  | .bl a, .bl b => a == b
  | .bl a, .int b => (if a then 1 else 0) == b
  | .int a, .bl b => a == (if b then 1 else 0)
  | .int a, .int b => a == b
  | .str a, .str b => a == b
  | _, _ => false
theorem eqAt_V {A : Around} {s : Shared} {y x : V} {u v : Value} (ry : RelV y u) (rx : RelV x v) (fy : flatV y = true) (fx : flatV x = true) : SeqAt.EqAt A s u v (eqV y x) := by
  cases y with
  | non =>
    cases ry
    cases x with
    | non => cases rx; exact SeqAt.EqAt.same _
    | bl b => cases rx; exact SeqAt.EqAt.none_bool b
    | int b => obtain ⟨t, rfl⟩ := rx; exact SeqAt.EqAt.none_int b t
    | str b => obtain ⟨t, rfl⟩ := rx; exact SeqAt.EqAt.none_str b t
    | _ => exact absurd (show false = true from fx) Bool.false_ne_true
  | bl a =>
    cases ry
    cases x with
    | non => cases rx; exact SeqAt.EqAt.bool_none a
    | bl b => cases rx; exact SeqAt.EqAt.bool_bool a b
    | int b => obtain ⟨t, rfl⟩ := rx; exact SeqAt.EqAt.bool_int a b t
    | str b => obtain ⟨t, rfl⟩ := rx; exact SeqAt.EqAt.bool_str a b t
    | _ => exact absurd (show false = true from fx) Bool.false_ne_true
  | int a =>
    obtain ⟨t', rfl⟩ := ry
    cases x with
    | non => cases rx; exact SeqAt.EqAt.int_none a t'
    | bl b => cases rx; exact SeqAt.EqAt.int_bool a t' b
    | int b => obtain ⟨t, rfl⟩ := rx; exact SeqAt.EqAt.int_int a t' b t
    | str b => obtain ⟨t, rfl⟩ := rx; exact SeqAt.EqAt.int_str a t' b t
    | _ => exact absurd (show false = true from fx) Bool.false_ne_true
  | str a =>
    obtain ⟨t', rfl⟩ := ry
    cases x with
    | non => cases rx; exact SeqAt.EqAt.str_none a t'
    | bl b => cases rx; exact SeqAt.EqAt.str_bool a t' b
    | int b => obtain ⟨t, rfl⟩ := rx; exact SeqAt.EqAt.str_int a t' b t
    | str b => obtain ⟨t, rfl⟩ := rx; exact SeqAt.EqAt.str_str a t' b t
    | _ => exact absurd (show false = true from fx) Bool.false_ne_true
  | _ => exact absurd (show false = true from fy) Bool.false_ne_true
/-- the items' answers, read off the values (a value's own answer does not lean on its token) -/
def eqU (x : V) (u : Value) : Bool := match u with
  | .none => eqV .non x
  | .bool b => eqV (.bl b) x
  | .int i _ => eqV (.int i) x
  | .str z _ => eqV (.str z) x
  | _ => false
def inV (x : V) (xs : List V) : Bool := xs.any fun y => eqV y x
/-- x in a list or tuple of flat items -/
def rIn (K : PySem.W.Frag) (neg : Bool) : R2 := fun x y H Q => ∃ p xs, y = .ref p ∧ (SqL K H p xs ∨ SqT K H p xs) ∧ flatV x = true ∧ xs.all flatV = true ∧ Q (.bl (if neg then !inV x xs else inV x xs)) H
/-! ### len, list(x), tuple(x) of any list or tuple that is read -/
theorem call_len_seq : CallR X (.builtin "len") (fun xs H Q => ∃ p ys, xs = [.ref p] ∧ (SqL X.K H p ys ∨ SqT X.K H p ys) ∧ Q (.int ys.length) H) := by
  intro pins s σ H xs us Q I r h
  obtain ⟨p, ys, rfl, hq, q⟩ := h
  obtain ⟨u, rfl, rx⟩ := vals1 r
  cases rx
  have hn := line63
  rcases hq with hq | hq
  · obtain ⟨its, r', pl, hz⟩ := I.list hq
    have hlen := r'.length
    exact Calls.call_len_list pl.isList (by simp only [List.size_toArray] <;> (first | lia | omega)) ⟨.int ys.length, H, I.tok _, ⟨s.toks + 1, by rw [List.size_toArray, hlen]⟩, q⟩
  · obtain ⟨its, r', pl, hz⟩ := I.tuple hq
    have hlen := r'.length
    exact len_tuple pl (by simp only [List.size_toArray] <;> (first | lia | omega)) ⟨.int ys.length, H, I.tok _, ⟨s.toks + 1, by rw [List.size_toArray, hlen]⟩, q⟩
theorem call_list_of : CallR X (.type "list") (fun xs H Q => ∃ p ys, xs = [.ref p] ∧ (SqL X.K H p ys ∨ SqT X.K H p ys) ∧ ∀ l, H l = none → Q (.ref l) (upd H l (.lst ys))) := by
  intro pins s σ H xs us Q I r h
  obtain ⟨p, ys, rfl, hq, q⟩ := h
  obtain ⟨u, rfl, rx⟩ := vals1 r
  cases rx
  have fin : ∀ (its : List Value), Vals ys its → ys.length ≤ sizeLine → ∀ (h' : Heap) (c' : Nat), (∀ b o', s.heap.get? b = some o' → h'.get? b = some o') →
      h'.get? s.heap.objs.size = some { cls := .type "list", dict := none, data := .seq its.toArray c', slots := #[] } → EP X pins σ Q (.ref s.heap.objs.size) { s with heap := h' } := fun its r' hz h' c' kp e =>
    ⟨.ref s.heap.objs.size, _, I.laid (t' := s.toks) kp (Nat.le_refl _) (show ObjOk X.prog X.w _ h' _ (.lst ys) from ⟨hz, its, c', r', e⟩), rfl, q _ (I.hok.fresh (Nat.le_refl _))⟩
  rcases hq with hq | hq
  · obtain ⟨its, r', pl, hz⟩ := I.list hq
    have hlen := r'.length
    obtain ⟨o, ho, hc, n, hd⟩ := pl.isList
    exact call_list_seq p (.inl rfl) ho hc hd (fun h' c' kp e => fin its r' hz h' c' kp e) (by simp only [List.size_toArray] <;> (first | lia | omega))
  · obtain ⟨its, r', pl, hz⟩ := I.tuple hq
    have hlen := r'.length
    obtain ⟨o, ho, hc, n, hd⟩ := pl
    exact call_list_seq p (.inr rfl) ho hc hd (fun h' c' kp e => fin its r' hz h' c' kp e) (by simp only [List.size_toArray] <;> (first | lia | omega))
/-! ### the call of a builtin's method: o.m(..) -/
/-- the value is of that builtin type -/
def tyV (K : PySem.W.Frag) (T : String) (x : V) (H : Hp) : Prop := match x with
  | .str _ => T = "str"
  | .int _ => T = "int"
  | .ref p => (T = "list" ∧ ∃ xs, SqL K H p xs) ∨ (T = "tuple" ∧ ∃ o, K.lookup p = some o ∧ o.cls = .type "tuple" ∧ o.dict = none) ∨
      (T = "dict" ∧ ((∃ kvs, H p = some (.dK kvs)) ∨ ∃ kvs, H p = some (.dT kvs))) ∨ (T = "set" ∧ ∃ S n, H p = some (.set S n))
  | _ => False
theorem tyV_is {pins : List (Addr × Obj)} {σ : St} {H : Hp} {s : Shared} {T : String} {x : V} {v : Value} (I : Inv X pins σ H s) (r : RelV x v) (ty : tyV X.K T x H) :
    s.TypeIs v T ∧ ∀ a, v = .ref a → ∃ ob, s.heap.get? a = some ob ∧ ob.dict = none := by
  cases x with
  | str z =>
    obtain ⟨t, rfl⟩ := r
    cases (show T = "str" from ty)
    exact ⟨typeIs_str s z t, fun _ e => nomatch e⟩
  | int i =>
    obtain ⟨t, rfl⟩ := r
    cases (show T = "int" from ty)
    exact ⟨typeIs_int s i t, fun _ e => nomatch e⟩
  | ref p =>
    cases r
    rcases ty with ⟨rfl, xs, hq⟩ | ⟨rfl, o, hk, hc, hd⟩ | ⟨rfl, hk⟩ | ⟨rfl, S, n, hk⟩
    · obtain ⟨its, _, pl, _⟩ := I.list hq
      refine ⟨pl.isList.typeIs, fun a e => ?_⟩
      cases e
      obtain ⟨o, n, e, c, hd, _⟩ := pl
      exact ⟨o, e, hd⟩
    · refine ⟨⟨o, I.kIn p o hk, hc⟩, fun a e => ?_⟩
      cases e
      exact ⟨o, I.kIn _ o hk, hd⟩
    · have z : ∃ o, s.heap.get? p = some o ∧ o.ExactDict := by
        rcases hk with ⟨kvs, hk⟩ | ⟨kvs, hk⟩
        · obtain ⟨_, _, _, _, o, _, _, e, ex, _⟩ := I.hok p _ hk
          exact ⟨o, e, ex⟩
        · obtain ⟨_, _, _, _, o, _, _, e, ex, _⟩ := I.hok p _ hk
          exact ⟨o, e, ex⟩
      obtain ⟨o, e, ex⟩ := z
      refine ⟨⟨o, e, ex.1⟩, fun a e2 => ?_⟩
      cases e2
      exact ⟨o, e, ex.2.1⟩
    · obtain ⟨o, _, _, _, e, ex, _⟩ := I.hok p _ hk
      refine ⟨⟨o, e, ex.1⟩, fun a e2 => ?_⟩
      cases e2
      exact ⟨o, e, ex.2.1⟩
  | _ => exact False.elim ty
def tBM0 (K : PySem.W.Frag) (T : String) (r : V → List V → Hp → VK → Prop) (to : TE) : TE := fun σ H Q => to σ H fun x H1 => tyV K T x H1 ∧ r x [] H1 Q
def tBM (K : PySem.W.Frag) (T : String) (r : V → List V → Hp → VK → Prop) (to : TE) (t : TA) : TE := fun σ H Q => to σ H fun x H1 => tyV K T x H1 ∧ t σ H1 fun xs H2 => r x xs H2 Q
variable {o e : Expr} {es : List Expr} {to : TE} {t : TA} {name : Str} {apos cpos : Pos} {T id : String} {r : V → List V → Hp → VK → Prop}
theorem pe_bm0 (pa : PlainAttrs T) (slot : Slot T name id) (hty : typeOf (.builtin id) = pure (.type "method_descriptor")) (hm : MtR X id r) (ho : PE X o to)
    (hbase : attributeBase o name X.env (eval o X.env) = eval o X.env := by rfl) (hline : (apos.endLine == cpos.line) = true := by rfl) : PE X (.Call (.Attribute o name apos) [] [] cpos) (tBM0 X.K T r to) := by
  intro pins s σ H Q I h
  refine wpAny_Call_method0_late hbase hline (thn (ho pins s σ H _ I h) fun v s1 ⟨x, H1, I1, r1, ty, q1⟩ => ?_)
  obtain ⟨h1, h2⟩ := tyV_is I1 r1 ty
  exact ⟨T, id, pa, slot, hty, h1, h2, Calls.callWith_builtin rfl (PySem.evalArgs_none (hm pins s1 σ H1 x [] v [] Q I1 r1 .nil q1))⟩
theorem pe_bm (pa : PlainAttrs T) (slot : Slot T name id) (hty : typeOf (.builtin id) = pure (.type "method_descriptor")) (hm : MtR X id r) (ho : PE X o to) (ha : PA X (e :: es) t)
    (hbase : attributeBase o name X.env (eval o X.env) = eval o X.env := by rfl)
    (hfew : ((backTo cpos (starEach (e :: es) X.env)).all (fun x => !x.1) && (backToKw cpos (keywordEach [] X.env)).all (fun x => x.1.isSome)
      && decide ((e :: es).length + ([] : List Keyword).length + (if ([] : List Keyword).isEmpty then 0 else 1) < 30)) = true := by rfl)
    (hline : (apos.endLine == cpos.line) = true := by rfl) (hs : starEach (e :: es) X.env = (false, eval e X.env) :: starEach es X.env := by rfl) (hplain : (backTo cpos (starEach es X.env)).any (·.1) = false := by rfl) :
    PE X (.Call (.Attribute o name apos) (e :: es) [] cpos) (tBM X.K T r to t) := by
  intro pins s σ H Q I h
  refine wpAny_Call_method_late hbase hfew hline rfl (thn (ho pins s σ H _ I h) fun v s1 ⟨x, H1, I1, r1, ty, q1⟩ => ?_)
  obtain ⟨h1, h2⟩ := tyV_is I1 r1 ty
  refine ⟨T, id, pa, slot, hty, h1, h2, ?_⟩
  have hA := ha cpos pins s1 σ H1 _ I1 q1
  rw [hs] at hA ⊢
  refine Calls.callWith_builtin (by show (false || (backTo cpos (starEach es X.env)).any (·.1)) = false; rw [hplain] <;> rfl) (Calls.evalArgs_plain ?_)
  exact thn hA fun us s2 ⟨vs, H2, I2, r2, q2⟩ => hm pins s2 σ H2 x vs v us Q I2 r1 r2 q2
/- xs.append(e), list.index on a module's tuple .. are MtR facts of 06m -/
end
end L2

namespace L2
open PySem PySem.Spec PyProof.Rows

def MtM (X : Cx) (id : String) (r : V → List V → Hp → VK → Prop) : Prop :=
  ∀ (pins : List (Addr × Obj)) (s : Shared) (σ : St) (H : Hp) (x : V) (xs : List V) (v : Value) (us : List Value) (Q : VK), Inv X pins σ H s → RelV x v → Vals xs us → r x xs H Q →
    wpAny (model X.prog X.w) X.A (call (.builtin id) (v :: us)) (EP X pins σ Q) X.xe s

/-! ### lists of values -/
theorem Vals.one : ∀ {x : V} {us : List Value}, Vals [x] us → ∃ u, us = [u] ∧ RelV x u
  | _, _, .cons r .nil => ⟨_, rfl, r⟩
theorem Vals.zero : ∀ {us : List Value}, Vals [] us → us = []
  | _, .nil => rfl
theorem Vals.dropLast {xs : List V} {us : List Value} (h : Vals xs us) : Vals xs.dropLast us.dropLast := by
  induction h with
  | nil => exact .nil
  | cons r t ih =>
    cases t with
    | nil => exact .nil
    | cons q t' => exact .cons r ih
theorem Vals.eraseIdx : ∀ {xs : List V} {us : List Value} (i : Nat), Vals xs us → Vals (xs.eraseIdx i) (us.eraseIdx i)
  | _, _, _, .nil => .nil
  | _, _, 0, .cons _ t => t
  | _, _, i + 1, .cons r t => .cons r (Vals.eraseIdx i t)
theorem erase_last {α : Type} (l : List α) : l.eraseIdx (l.length - 1) = l.dropLast := by
  induction l with
  | nil => rfl
  | cons a r ih =>
    cases r with
    | nil => rfl
    | cons b r =>
      have e : (a :: b :: r).length - 1 = ((b :: r).length - 1) + 1 := by
        have h1 : (a :: b :: r).length = r.length + 2 := rfl
        have h2 : (b :: r).length = r.length + 1 := rfl
        (first | lia | omega)
      rw [e, List.eraseIdx_cons_succ, ih]
      all_goals rfl
theorem len_erase {α : Type} : ∀ (l : List α) (i : Nat), (l.eraseIdx i).length ≤ l.length
  | [], _ => Nat.le_refl _
  | _ :: _, 0 => Nat.le_succ _
  | _ :: r, i + 1 => Nat.succ_le_succ (len_erase r i)
section
variable {X : Cx} {pins : List (Addr × Obj)} {σ : St} {H : Hp} {s : Shared} {l b : Addr} {xs ys zs : List V}

/-! ### the two steps: a tracked list is rewritten, a new list is laid -/
theorem Inv.lset {its its' : List Value} {n : Nat} {f : Array Value → Array Value} {t' : Nat} (I : Inv X pins σ H s) (hH : H l = some (.lst xs))
    (e : s.heap.get? l = some { cls := .type "list", data := .seq its.toArray n }) (hf : f its.toArray = its'.toArray) (hv : Vals ys its') (hz : ys.length ≤ sizeLine) :
    Inv X pins σ (upd H l (.lst ys)) { s with heap := s.heap.update l (Obj.mapSeq f), toks := t' } := by
  have q := PySem.IsL.update e f
  rw [hf] at q
  refine I.write (x := l) (e := l) (by rw [hH]; exact trivial) (.inl rfl) (fun b' u hb hu => (Heap.get?_update_other s.heap (Obj.mapSeq f) (Ne.symm hb)).trans hu) ⟨_, q⟩ ?_
  exact ⟨hz, its', _, hv, q⟩
theorem Inv.lnew {its : List Value} {t' : Nat} (I : Inv X pins σ H s) (hv : Vals ys its) (hz : ys.length ≤ sizeLine) :
    Inv X pins σ (upd H s.heap.objs.size (.lst ys)) { s with heap := s.heap.push { cls := .type "list", data := .seq its.toArray }, toks := t' } :=
  I.laid (fun _ _ q => Heap.get?_push_of_some _ q) (Nat.le_refl _) ⟨hz, its, 0, hv, Heap.get?_push_size _ rfl⟩
theorem Inv.fresh (I : Inv X pins σ H s) : H s.heap.objs.size = none := I.hok.fresh (Nat.le_refl _)
theorem Inv.lstM (I : Inv X pins σ H s) (hH : H l = some (.lst xs)) : xs.length ≤ sizeLine ∧ ∃ (its : List Value) (n : Nat), Vals xs its ∧ xs.length = its.length ∧ s.heap.get? l = some { cls := .type "list", data := .seq its.toArray n } := by
  obtain ⟨z, its, n, r, e⟩ := I.hok l _ hH
  exact ⟨z, its, n, r, r.length, e⟩

theorem notLongL {n : Nat} (h : n ≤ sizeLine) : Builtin.List.listTooLong n = false := by
  unfold Builtin.List.listTooLong
  exact decide_eq_false (by (first | lia | omega))
end

section
variable {X : Cx}

/-! ### methods -/
def rAppend : V → List V → Hp → VK → Prop := fun x vs H Q => ∃ l xs y, x = .ref l ∧ vs = [y] ∧ H l = some (.lst xs) ∧ xs.length < sizeLine ∧ Q .non (upd H l (.lst (xs ++ [y])))
theorem mt_append : MtM X "list.append" rAppend := by
  intro pins s σ H x vs v us Q I rx rv h
  obtain ⟨l, xs, y, rfl, rfl, hH, hz, q⟩ := h
  cases rx
  obtain ⟨u, rfl, ru⟩ := rv.one
  obtain ⟨z, its, n, r, hl, e⟩ := I.lstM hH
  refine call_meets F.slot_list_append ⟨_, e, rfl⟩ F.entry_list_append (F.args_list_append_2 _ _) (PySem.list_append l its.toArray n u (by rw [List.size_toArray]; (first | lia | omega))) ⟨e, ?_⟩
  refine ⟨.non, _, I.lset (its' := its ++ [u]) hH e (by simp) (r.append (.cons ru .nil)) ?_, rfl, q⟩
  rw [List.length_append, List.length_singleton]
  (first | lia | omega)

def rExtend : V → List V → Hp → VK → Prop := fun x vs H Q => ∃ l b xs zs, x = .ref l ∧ vs = [.ref b] ∧ H l = some (.lst xs) ∧ H b = some (.lst zs) ∧ xs.length + zs.length ≤ sizeLine ∧ Q .non (upd H l (.lst (xs ++ zs)))
theorem mt_extend : MtM X "list.extend" rExtend := by
  intro pins s σ H x vs v us Q I rx rv h
  obtain ⟨l, b, xs, zs, rfl, rfl, hH, hB, hz, q⟩ := h
  cases rx
  obtain ⟨u, rfl, ru⟩ := rv.one
  cases ru
  obtain ⟨z, its, n, r, hl, e⟩ := I.lstM hH
  obtain ⟨z2, its2, n2, r2, hl2, e2⟩ := I.lstM hB
  have hsz : its.toArray.size + its2.toArray.size ≤ sizeLine := by rw [List.size_toArray, List.size_toArray]; (first | lia | omega)
  have hlong : ¬ (!its.toArray.isEmpty && Builtin.List.listTooLong (its.toArray.size + its2.toArray.size)) = true := by
    rw [notLongL hsz, Bool.and_false]
    exact Bool.false_ne_true
  refine call_meets F.slot_list_extend ⟨_, e, rfl⟩ F.entry_list_extend (F.args_list_extend_2 _ _)
    (AutoSeq1.list_extend_list_list_0 l its.toArray n b its2.toArray n2 hlong (by rw [List.size_toArray]; (first | lia | omega)) (by (first | lia | omega))) ⟨e, e2, ?_⟩
  refine ⟨.non, _, I.lset (its' := its ++ its2) hH e (by simp) (r.append r2) ?_, rfl, q⟩
  rw [List.length_append]
  (first | lia | omega)

def rPop : V → List V → Hp → VK → Prop := fun x vs H Q => ∃ l xs y, x = .ref l ∧ vs = [] ∧ H l = some (.lst xs) ∧ xs[xs.length - 1]? = some y ∧ Q y (upd H l (.lst xs.dropLast))
theorem mt_pop : MtM X "list.pop" rPop := by
  intro pins s σ H x vs v us Q I rx rv h
  obtain ⟨l, xs, y, rfl, rfl, hH, hy, q⟩ := h
  cases rx
  have hus := rv.zero
  subst hus
  obtain ⟨z, its, n, r, hl, e⟩ := I.lstM hH
  obtain ⟨u, hu, ru⟩ := r.get hy
  have hy' : its.toArray[its.toArray.size - 1]? = some u := by
    show its.toArray[its.length - 1]? = some u
    rw [← Array.getElem?_toList, ← hl]
    exact hu
  refine call_meets F.slot_list_pop ⟨_, e, rfl⟩ F.entry_list_pop (F.args_list_pop_1 _) (MeetsSeq.list_pop_last l its.toArray n u hy' (by rw [List.size_toArray]; (first | lia | omega))) ⟨e, ?_⟩
  refine ⟨y, _, I.lset (its' := its.dropLast) hH e ?_ r.dropLast ?_, ru, q⟩
  · show its.toArray.eraseIdxIfInBounds (its.toArray.size - 1) = its.dropLast.toArray
    rw [List.size_toArray, List.eraseIdxIfInBounds_toArray, erase_last]
  · rw [List.length_dropLast]
    (first | lia | omega)

def rPopAt : V → List V → Hp → VK → Prop := fun x vs H Q => ∃ l xs i k y, x = .ref l ∧ vs = [.int i] ∧ H l = some (.lst xs) ∧ -(2 ^ 63) ≤ i ∧ i < 2 ^ 63 ∧ seqIndex? i xs.length = some k ∧ xs[k]? = some y ∧ Q y (upd H l (.lst (xs.eraseIdx k)))
theorem mt_popAt : MtM X "list.pop" rPopAt := by
  intro pins s σ H x vs v us Q I rx rv h
  obtain ⟨l, xs, i, k, y, rfl, rfl, hH, h1, h2, hk, hy, q⟩ := h
  cases rx
  obtain ⟨u, rfl, ru⟩ := rv.one
  obtain ⟨t, rfl⟩ := ru
  obtain ⟨z, its, n, r, hl, e⟩ := I.lstM hH
  obtain ⟨w, hw, rw'⟩ := r.get hy
  refine call_meets F.slot_list_pop ⟨_, e, rfl⟩ F.entry_list_pop (F.args_list_pop_2 _ _)
    (MeetsSeq.list_pop_at l its.toArray n i t k w (fitsIndex_both h1 h2) (by rw [List.size_toArray, ← hl]; exact hk) (by rw [← Array.getElem?_toList]; exact hw) (by rw [List.size_toArray]; (first | lia | omega))) ⟨e, ?_⟩
  refine ⟨y, _, I.lset (its' := its.eraseIdx k) hH e ?_ (r.eraseIdx k) ?_, rw', q⟩
  · show its.toArray.eraseIdxIfInBounds k = (its.eraseIdx k).toArray
    rw [List.eraseIdxIfInBounds_toArray]
  · have := len_erase xs k
    (first | lia | omega)

def rReverse : V → List V → Hp → VK → Prop := fun x vs H Q => ∃ l xs, x = .ref l ∧ vs = [] ∧ H l = some (.lst xs) ∧ Q .non (upd H l (.lst xs.reverse))
def rClear : V → List V → Hp → VK → Prop := fun x vs H Q => ∃ l xs, x = .ref l ∧ vs = [] ∧ H l = some (.lst xs) ∧ Q .non (upd H l (.lst []))
/-! ### list + list, list += list, list * int -/
def rCat : R2 := fun x y H Q => ∃ l b xs zs, x = .ref l ∧ y = .ref b ∧ H l = some (.lst xs) ∧ H b = some (.lst zs) ∧ xs.length + zs.length ≤ sizeLine ∧ ∀ p, H p = none → Q (.ref p) (upd H p (.lst (xs ++ zs)))
theorem op_cat : OpR X (binaryOp .Add) rCat := by
  intro pins s σ H x y v u Q I rx ry h
  obtain ⟨l, b, xs, zs, rfl, rfl, hH, hB, hz, q⟩ := h
  cases rx
  cases ry
  obtain ⟨z, its, n, r, hl, e⟩ := I.lstM hH
  obtain ⟨z2, its2, n2, r2, hl2, e2⟩ := I.lstM hB
  refine PySem.P.add_list e e2 ?_ (by rw [List.size_toArray, List.size_toArray]; (first | lia | omega))
  have ea : its.toArray ++ its2.toArray = (its ++ its2).toArray := by simp
  rw [ea]
  exact ⟨.ref _, _, I.lnew (t' := s.toks) (r.append r2) (by rw [List.length_append]; (first | lia | omega)), rfl, q _ I.fresh⟩
/-- a list times an int (a negative one is nothing) -/
def rRep : R2 := fun x y H Q => ∃ l k xs, x = .ref l ∧ y = .int k ∧ H l = some (.lst xs) ∧ -(2 ^ 63) ≤ k ∧ k < 2 ^ 63 ∧ xs.length * k.toNat ≤ sizeLine ∧
  ∀ p, H p = none → Q (.ref p) (upd H p (.lst (List.replicate k.toNat xs).flatten))
/-! ### del xs[i] -/
end

/-! ### xs[a:b] = ys -/
section
variable {prog : Program} {w : World} {A : Around} {E : Value → Shared → Prop} {s : Shared}
theorem splice_eq (its its2 : List Value) (a c : Nat) : its.toArray.extract 0 a ++ its2.toArray ++ its.toArray.extract c its.toArray.size = (its.take a ++ its2 ++ its.drop c).toArray := by
  apply Array.toList_inj.mp
  first
    | (simp
       exact List.take_of_length_le (by simp))
    | simp [List.take_of_length_le]
    | simp
theorem bounds_run {a c n : Nat} (hac : a ≤ c) (hc : c ≤ n) : sliceBounds (some (a : Int)) (some (c : Int)) none n = ((a : Int), (c : Int), 1) := by
  simp only [sliceBounds, Option.getD_none]
  have h1 : ¬ ((a : Int) < 0) := by (first | lia | omega)
  have h2 : ¬ ((c : Int) < 0) := by (first | lia | omega)
  simp only [h1, h2, if_false, show (1 : Int) > 0 by decide, if_true]
  congr 1
  · (first | lia | omega)
  · congr 1; (first | lia | omega)
set_option maxRecDepth 100000 in
/-- list.__setitem__ with a slice of step one and another list -/
theorem setItem_slice {l b sl : Addr} {items new : Array Value} {n n2 : Nat} {vl vu : Value} {a c : Nat} {Q : Unit → Shared → Prop}
    (e : s.heap.get? l = some { cls := .type "list", data := .seq items n }) (e2 : s.heap.get? b = some { cls := .type "list", data := .seq new n2 }) (hne : l ≠ b)
    (hs : s.heap.IsSliceOf sl vl vu .none) (pl : IsPart vl (some (a : Int))) (pu : IsPart vu (some (c : Int))) (hac : a ≤ c) (hc : c ≤ items.size)
    (hsz : items.size + new.size ≤ sizeLine) (h : Q () { s with heap := s.heap.update l (Obj.mapSeq fun xs => xs.extract 0 a ++ new ++ xs.extract c xs.size) }) :
    wpAny (model prog w) A (setItem (.ref l) (.ref sl) (.ref b)) Q E s := by
  have hl : s.heap.IsList l items := PySem.IsL.isList e
  have hb : s.heap.IsList b new := PySem.IsL.isList e2
  obtain ⟨os, hos, hcs, hds⟩ := id hs
  have hTs : s.TypeIs (.ref sl) "slice" := ⟨os, hos, hcs⟩
  have hstep : ¬ ((rawPart none == rawInt 0) = true) := Bool.false_ne_true
  have hsame : Builtin.List.listSameRef (.ref l) (.ref b) = false := by
    unfold Builtin.List.listSameRef
    exact beq_eq_false_iff_ne.mpr hne
  have hmax : (max (a : Int) (c : Int)).toNat = c := by (first | lia | omega)
  have hz' : ((fun xs : Array Value => xs.extract 0 a ++ new ++ xs.extract c xs.size) items).size ≤ sizeLine + 1 := by
    simp only [Array.size_append, Array.size_extract]
    (first | lia | omega)
  unfold setItem
  try with_reducible refine wpAny_holding ?_
  first | refine wpAny_bind (wpAny_pure ?_) | skip
  refine wpAny_bind (wpAny_sequenceKey hl.typeIs (by decide) ?_)
  refine wpAny_bind (wpAny_callSpecial?_slot (name := Str.ofString "__setitem__") hl.typeIs slot_list_setitem
    (wpAny_call_entry slot_list_setitem hl.typeIs entry_list_setitem ?_ (args_list_setitem _ _ _)))
  show wpAny _ _ (Builtin.List.listSubscript? (.ref sl) >>= _) _ _ s
  refine wpAny_bind ?_
  unfold Builtin.List.listSubscript?
  refine wpAny_bind (wpAny_specialOf hTs slice_no_index ?_)
  simp only [Option.isNone_none, if_true]
  refine wpAny_pure ?_
  show wpAny _ _ (typeOf (.ref sl) >>= _) _ _ s
  refine wpAny_bind (wpAny_typeOf hTs ?_)
  first
    | rw [if_neg (by decide)]
    | refine PySem.W.KFB.if_not (by decide) ?_
  rw [listSliceParts_eq]
  refine wpAny_bind (wpAny_bind (wpAny_field hos hds (x := .none) rfl (wpAny_bind (wpAny_listPart .none ?_))))
  rw [if_neg hstep]
  refine wpAny_bind (wpAny_field hos hds (x := vl) rfl (wpAny_bind (wpAny_listPart pl ?_)))
  refine wpAny_bind (wpAny_field hos hds (x := vu) rfl (wpAny_bind (wpAny_listPart pu (wpAny_pure ?_))))
  first
    | simp only [hsame, Bool.false_eq_true, if_false]
    | refine PySem.W.KFB.if_not hsame ?_
    | (dsimp only
       rw [if_neg (by rw [hsame]; exact Bool.false_ne_true)])
  refine wpAny_bind (m := Builtin.List.listAllItems (.ref b) "must assign iterable to extended slice") ?_
  unfold Builtin.List.listAllItems
  refine wpAny_bind (wpAny_typeOf hb.typeIs ?_)
  first
    | refine PySem.W.KFB.if_so (by decide) ?_
    | rw [if_pos (by decide)]
    | simp only [beq_self_eq_true, Bool.true_or, if_true]
  unfold Builtin.List.listItems
  refine wpAny_bind (wpAny_seqItems e2 rfl (wpAny_pure ?_))
  refine wpAny_bind (wpAny_bind (wpAny_seqItems e rfl (wpAny_pure ?_)))
  refine wpAny_bind (wpAny_of_eq ((sliceIndices_raw (some (a : Int)) (some (c : Int)) none items.size (by simp)).trans (congrArg (pure : Int × Int × Int → Sem (Int × Int × Int)) (bounds_run hac hc))) ?_)
  show wpAny _ _ (if ((1 : Int) == 1) = true then _ else _) _ _ s
  rw [if_pos (by decide)]
  refine wpAny_bind (wpAny_rule ?_)
  first
    | simp only [notLongL hsz, Bool.false_eq_true, if_false]
    | refine PySem.W.KFB.if_not (notLongL hsz) ?_
  first | refine wpAny_bind (wpAny_pure ?_) | skip
  show wpAny _ _ (updateSeq l (fun xs => xs.extract 0 ((a : Int)).toNat ++ new ++ xs.extract (max (a : Int) (c : Int)).toNat xs.size) >>= _) _ _ s
  rw [hmax, Int.toNat_natCast]
  refine wpAny_bind (wpAny_updateSeq (hz := Nat.le_trans (Nat.le_add_right _ _) hsz) (_hz' := hz') e rfl ?_)
  refine wpAny_bind (wpAny_letGo ?_)
  first
    | exact wpAny_bind (wpAny_pure (wpAny_pure ⟨.none, rfl, wpAny_pure h⟩))
    | exact wpAny_pure ⟨.none, rfl, wpAny_pure h⟩
end

section
variable {X : Cx}
/-- xs[a:c] = ys of another list, at the value level: sl is the slice object that was just made -/
theorem set_slice {pins : List (Addr × Obj)} {s : Shared} {σ : St} {H : Hp} {l b sl : Addr} {xs ys : List V} {a c : Int} {vl vu : Value} {Q : Unit → Shared → Prop} (I : Inv X pins σ H s)
    (hH : H l = some (.lst xs)) (hB : H b = some (.lst ys)) (hne : l ≠ b) (hs : s.heap.IsSliceOf sl vl vu .none) (ra : RelV (.int a) vl) (rc : RelV (.int c) vu) (h0 : 0 ≤ a) (hac : a ≤ c) (hc : c ≤ xs.length)
    (hz : xs.length + ys.length ≤ sizeLine) (h : ∀ s', Inv X pins σ (upd H l (.lst (xs.take a.toNat ++ ys ++ xs.drop c.toNat))) s' → Q () s') :
    wpAny (model X.prog X.w) X.A (setItem (.ref l) (.ref sl) (.ref b)) Q X.xe s := by
  obtain ⟨ta, rfl⟩ := ra
  obtain ⟨tc, rfl⟩ := rc
  obtain ⟨z, its, n, r, hl, e⟩ := I.lstM hH
  obtain ⟨z2, its2, n2, r2, hl2, e2⟩ := I.lstM hB
  obtain ⟨a', rfl⟩ := Int.eq_ofNat_of_zero_le h0
  obtain ⟨c', rfl⟩ := Int.eq_ofNat_of_zero_le (Int.le_trans h0 hac)
  simp only [Int.toNat_natCast] at h
  refine setItem_slice (a := a') (c := c') e e2 hne hs (.int _ _) (.int _ _) (by (first | lia | omega)) (by rw [List.size_toArray]; (first | lia | omega)) (by rw [List.size_toArray, List.size_toArray]; (first | lia | omega)) (h _ ?_)
  refine I.lset (its' := its.take a' ++ its2 ++ its.drop c') (t' := s.toks) hH e ?_ (Vals.append (Vals.append (r.take _) r2) (r.drop _)) ?_
  · exact splice_eq its its2 a' c'
  · rw [List.length_append, List.length_append, List.length_take, List.length_drop]
    (first | lia | omega)
end
end L2

namespace Att
open PySem PySem.W PySem.Calls PyProof.Rows

/-! ### the script -/
theorem ints_of_wellAll {P : Params} {h : Heap} : ∀ (ns : List Int) (vs : List Value), WellAll P h vs (ns.map WData.int) → IntsAre vs ns := by
  intro ns
  induction ns with
  | nil =>
    intro vs w
    rw [List.map_nil] at w
    cases w
    exact .nil
  | cons n ns ih =>
    intro vs w
    rw [List.map_cons] at w
    cases w with
    | cons a b =>
      cases a
      exact .cons _ _ (ih _ b)

theorem script_of {l : OpenLaw} {n : Nat} (hn : l.most = some n) {P : Params} {h : Heap} {args : List WData} {vals : List Value}
    (hpre : l.row.toRowW.claim.pre args = true) (hwl : WellAll P h vals args) :
    ∃ a vs ns, vals = [Value.ref a] ∧ args = [WData.list (ns.map WData.int)] ∧ h.get? a = some { cls := .type "list", data := .seq vs.toArray } ∧ IntsAre vs ns ∧ ns.length ≤ n := by
  have hsh : WShape.hasAll [] args [.list .int] = true := (pre_splitW hpre).1
  have hc : l.pre.holds [] { args := args } = true := (pre_splitW hpre).2
  obtain ⟨d, r, rfl, h1, h2⟩ := hasAllW_cons hsh
  obtain rfl := hasAllW_nil h2
  obtain ⟨xs, rfl, h3⟩ := hasW_list h1
  obtain ⟨ns, rfl⟩ := items_int h3
  have hlen : ns.length ≤ n := by
    unfold OpenLaw.pre at hc
    have h4 : (WTm.not (.lt (.lit (.int (n : Int))) (.len (.arg 0)))).holds [] { args := [.list (ns.map .int)] } = true := by
      have h4 := (holds_andW hc).1
      rw [hn] at h4
      exact h4
    have h5 := condW_of h4 (w_not (w_lt w_lit (w_len_list (w_arg rfl))))
    rw [List.length_map] at h5
    refine Nat.le_of_not_lt fun q => ?_
    have q' : (n : Int) < ((ns.length : Nat) : Int) := by (first | lia | omega)
    first
      | (rw [decide_eq_true q'] at h5; exact absurd h5 (by decide))
      | (simp at h5; (first | lia | omega))
  cases hwl with
  | cons w1 w2 =>
    cases w2
    cases w1 with
    | list ho hall => exact ⟨_, _, ns, rfl, rfl, ho, ints_of_wellAll ns _ hall, hlen⟩

theorem post_true (l : OpenLaw) (args : List WData) : l.row.toRowW.claim.post args (.bool true) args = true :=
  postW_of (r := l.row.toRowW) (X := (true == true))
    (show WShape.has [] (.bool true) .bool = true by first | rfl | decide | simp [WShape.has, WShape.arms, WShape.armsAll])
    (show (WTm.eq .res (.lit (.bool true))).value [] { args := args, res := some (.bool true), after := args } = some (.bool (true == true)) from w_eq_bool (w_res rfl) w_lit) rfl

/-! ### the attachment: holds_open's last premise (the goal 'hc' behind k_head) from a wpAny of the law's body -/
/-- the same from a codeAny of the CALL (for a layer whose function contracts speak of calls) -/
theorem attach_call {l : OpenLaw} {n : Nat} {q : Program} {loose : List Str} {XP : (Str → Option Value) → Heap → Prop} {YP : World → Heap → Prop} {d : DefRec}
    (hn : l.most = some n) (hdf : d.params.defaults = [])
    (call : ∀ (w : World) (s₀ s₁ : Shared) (mg mb : Str → Option Value) (fa : Addr) (o : Obj) (pm cd doc : Value) (a : Addr) (vs : List Value) (ns : List Int),
      Ground q loose [] XP w s₀ mg mb s₁.heap → YP w s₁.heap →
      s₁.heap.get? fa = some o → o.data = .func (docDef d.name d.params d.body d.scope pm cd doc) → s₁.heap.CodeRec cd d.name → mg d.name = some (.ref fa) →
      s₁.heap.get? a = some { cls := .type "list", data := .seq vs.toArray } → IntsAre vs ns → ns.length ≤ n → s₁.gens = #[] →
      codeAny (model l.prog w) callerA (.call (.ref fa) ⟨[.ref a], []⟩) (fun r s' => r = .ok (.ret (.bool true)) ∧ OldK s₁.heap s'.heap ∧ s'.os = s₁.os ∧ AllBare s'.gens) s₁) :
    WalkO q loose XP YP l.row.toRowW d [] (fun f vs => PySem.call f vs) := by
  intro w s₀ s₁ mg mb G Y fa o pm cd doc dV kV ho hd hcd hD hmg hg args vals as hpre hlay hrd hwl hlo
  obtain rfl : dV = .none := Dflts.none hD hdf
  obtain rfl : kV = .none := Dflts.noKw hD
  obtain ⟨a, vs, ns, rfl, rfl, hobj, hints, hlen⟩ := script_of hn hpre hwl
  refine enter_call (codeAny_mono (call w s₀ s₁ mg mb fa o pm cd doc a vs ns G Y ho (fd_plain hd) hcd hmg hobj hints hlen hg) fun r s' hq => ?_)
  obtain ⟨rfl, h2, h3, h4⟩ := hq
  exact ⟨.inl ⟨.bool true, .bool true, [], rfl, fun _ => rfl, .bool true, post_true l _, fun _ => ⟨List.Pairwise.nil, fun _ hm => (nomatch hm)⟩⟩, h2, h3, h4⟩

/-! ### rules over ANY heap (no ledger) from facts about the written part K: the library's own take a ledger (News) for what they write -/
section
variable {prog : Program} {w : World} {A : Around} {E : Value → Shared → Prop} {s : Shared} {K : Frag}

/-! the whole heap as the ledger: makes every rule that writes through a ledger a rule over any heap -/
def noObjs (h : Heap) : Heap := { h with objs := #[] }
def ledger (h : Heap) (L d : Addr) : List (Addr × Obj) := (List.range h.objs.size).filterMap fun a => if a = L ∨ a = d then none else (h.get? a).map fun o => (a, o)
end
end Att

namespace L2
open PySem PySem.Spec PyProof.Rows

theorem vals_ints : ∀ {vs : List Value} {ns : List Int}, IntsAre vs ns → Vals (ns.map V.int) vs
  | _, _, .nil => .nil
  | _, _, .cons n t h => .cons ⟨t, rfl⟩ (vals_ints h)

/-- nothing is tracked but the script, known to the object (or it is an object of the module) -/
def Only (H : Hp) : Prop := ∀ b, H b = none ∨ ∃ o xs, H b = some (.frz o (.lst xs))

/-- THE HEAD: the law's promise, at the heap behind the top. F, the promise of the law's def, may use that base is part of the heap (so K.In base, base.Ns mainGlobals mg stand in Mod) -/
theorem law_call {P : Program} {w : World} {K : PySem.W.Frag} {mg mb : Str → Option Value} {CX : CXT} {k : Nat} {fa a : Addr} {fd : FuncData} {x : Str} {sp : Sp} {s₁ : Shared} {vs : List Value} {ns : List Int}
    (KX : K.In s₁.heap) (hns : s₁.heap.Ns mainGlobals mg) (hb : s₁.heap.Ns builtinsNs mb) (hbb : ∀ x : Str, x ≠ "__name__" → mb x = bootBuiltins x) (hlim : s₁.heap.NoLimit) (hg : s₁.gens = #[])
    (ha : s₁.heap.get? a = some { cls := .type "list", data := .seq vs.toArray }) (hi : IntsAre vs ns) (hl : ns.length ≤ sizeLine) (hr : Room k callerA)
    (F : ∀ base : Heap, K.In base → base.Ns mainGlobals mg → FnOk P w K mg base CX k fa fd [x] sp) (hbind : ∀ (s : Shared) (u : Value), BindsTo s fd ⟨[u], []⟩ [(x, u)])
    (hsp : ∀ H : Hp, Only H → SqL K H a (ns.map V.int) → sp [.ref a] H (fun v _ => v = .bl true) fun _ _ _ => False)
    (hCX : ∀ H e s', CX [] H s₁ (fun _ _ _ => False) e s' → False) :
    codeAny (model P w) callerA (.call (.ref fa) ⟨[.ref a], []⟩) (fun r s' => r = .ok (.ret (.bool true)) ∧ OldK s₁.heap s'.heap ∧ s'.os = s₁.os ∧ AllBare s'.gens) s₁ := by
  have rv := vals_ints hi
  have lenV := hi.length
  -- from an abstract heap in which nothing but the script may be tracked
  have core : ∀ H : Hp, Only H → SqL K H a (ns.map V.int) → HOk P w H s₁.heap → (∀ b, H b ≠ none → b = a) → (H a ≠ none → K.lookup a = none) →
      codeAny (model P w) callerA (.call (.ref fa) ⟨[.ref a], []⟩) (fun r s' => r = .ok (.ret (.bool true)) ∧ OldK s₁.heap s'.heap ∧ s'.os = s₁.os ∧ AllBare s'.gens) s₁ := by
    intro H hO hS hok hA hK
    have base_of : ∀ {b : Addr} {o : Obj}, s₁.heap.get? b = some o → H b = none → (hidT s₁.heap H).get? b = some o := fun e n => hidT_get e n
    have noA : ∀ {b : Addr} {o : Obj} {es : Array DictEntry} {ep : Nat}, s₁.heap.get? b = some o → o.data = .dict es ep → H b = none := fun {b o es ep} e d => by
      cases q : H b with
      | none => rfl
      | some u =>
        have e' : b = a := hA b (by rw [q]; simp)
        subst e'
        rw [ha] at e; cases e
        have d' : Data.seq vs.toArray _ = Data.dict es ep := d
        cases d'
    have nsK : ∀ {b : Addr} {m : Str → Option Value}, s₁.heap.Ns b m → (hidT s₁.heap H).Ns b m := fun {b m} ⟨o, es, ep, e, d, r⟩ => ⟨o, es, ep, base_of e (noA e d), d, r⟩
    have hKb : K.In (hidT s₁.heap H) := fun b o e => base_of (KX b o e) (by
      cases q : H b with
      | none => rfl
      | some u =>
        have e' : b = a := hA b (by rw [q]; simp)
        subst e'
        rw [hK (by rw [q]; simp)] at e; cases e)
    have hM : Mod K mg (hidT s₁.heap H) := ⟨hKb, nsK hns, ⟨mb, nsK hb, hbb⟩, let ⟨mc, h1, h2⟩ := hlim; ⟨mc, nsK h1, h2⟩⟩
    have e0 : Env0 P w K mg (hidT s₁.heap H) callerA [] s₁ H := ⟨rfl, hM, fun b o e => of_hidT e, Nat.le_of_eq (hidT_size _ _), trivial, fun b hb => absurd (show b ∈ ([] : List Addr) from hb) (by simp), hok, .of_eq hg⟩
    refine codeAny_mono ((F _ hKb (nsK hns)).run callerA [] s₁ H ⟨[.ref a], []⟩ [.ref a] [.ref a] _ _ hr e0 (hbind s₁ (.ref a)) (.cons rfl .nil) (hsp H hO hS)) fun r s' h => ?_
    cases r with
    | error e => exact (hCX H e s' h).elim
    | ok fl =>
      cases fl with
      | next => exact False.elim h
      | brk => exact False.elim h
      | cont => exact False.elim h
      | ret u =>
        obtain ⟨v, H', os, bare, un, hok', r', q⟩ := h
        have q' : v = .bl true := q
        subst q'
        obtain rfl : u = Value.bool true := r'
        refine ⟨rfl, OldK.of_keep fun b o e => ?_, os, bare⟩
        cases q : H b with
        | none => exact un.keep b o e q (by intro z; exact absurd (show b ∈ ([] : List Addr) from z) (by simp)) (by simp)
        | some u =>
          rcases hO b with z | ⟨ob, xs, z⟩
          · rw [q] at z; cases z
          · have z2 := un.frzs b ob _ z
            obtain ⟨e1, _⟩ := hok b _ z
            obtain ⟨e2, _⟩ := hok' b _ z2
            rw [e] at e1; cases e1
            exact e2
  cases hk : K.lookup a with
  | some o =>
    -- the script is one of the module's own objects
    have e := KX a o hk
    rw [ha] at e
    cases e
    refine core (fun _ => none) (fun _ => .inl rfl) (.inr ⟨_, vs.toArray, _, hk, rfl, rfl, rfl, by rw [List.size_toArray, lenV]; exact hl, by simpa using rv⟩) (fun b u z => by have z' : (none : Option HO) = some u := z; cases z') (fun b z => absurd rfl z) fun z => absurd rfl z
  | none =>
    refine core (fun b => if b = a then some (.frz { cls := .type "list", data := .seq vs.toArray } (.lst (ns.map V.int))) else none) (fun b => ?_) (.inl (.inr ⟨{ cls := .type "list", data := .seq vs.toArray }, if_pos rfl⟩)) (fun b u z => ?_) (fun b z => ?_) fun _ => hk
    · by_cases hb : b = a
      · exact .inr ⟨_, _, if_pos hb⟩
      · exact .inl (if_neg hb)
    · by_cases hb : b = a
      · have z' := (if_pos hb).symm.trans z
        cases z'
        subst hb
        exact ⟨ha, by rw [List.length_map]; exact hl, vs, _, rv, ha⟩
      · have z' := (if_neg hb).symm.trans z
        cases z'
    · by_cases hb : b = a
      · exact hb
      · exact absurd (if_neg hb) z
end L2

namespace L2
open PySem PySem.Spec PyProof.Rows

abbrev KOf {K : PySem.W.Frag} {h : Heap} (_ : K.In h) : PySem.W.Frag := K

/-- the goal that k_head leaves (case hc), from the law's promise. F gives the function object fd (K's own) once, then the promise over every base -/
theorem walk_of {l : PySem.W.OpenLaw} {n k : Nat} {q : Program} {loose : List Str} {XP : (Str → Option Value) → Heap → Prop} {YP : World → Heap → Prop} {d : DefRec} {K : Params → PySem.W.Frag} {CX : World → CXT} {sp : World → Sp} {x : Str}
    (hn : l.most = some n) (hn2 : n ≤ sizeLine) (hdf : d.params.defaults = []) (hr : Room k callerA)
    (hY : ∀ (w : World) (h : Heap), YP w h → (K w.params).In h)
    (F : ∀ (w : World) (mg : Str → Option Value) (fa : Addr) (h : Heap), (K w.params).In h → h.Ns mainGlobals mg → mg d.name = some (.ref fa) →
      ∃ fd : FuncData, (∀ (s : Shared) (u : Value), BindsTo s fd ⟨[u], []⟩ [(x, u)]) ∧
        ∀ base : Heap, (K w.params).In base → base.Ns mainGlobals mg → FnOk l.prog w (K w.params) mg base (CX w) k fa fd [x] (sp w))
    (hsp : ∀ (w : World) (H : Hp) (a : Addr) (ns : List Int), ns.length ≤ n → Only H → SqL (K w.params) H a (ns.map V.int) → sp w [.ref a] H (fun v _ => v = .bl true) fun _ _ _ => False)
    (hCX : ∀ (w : World) (H : Hp) (s : Shared) (e : Value) (s' : Shared), CX w [] H s (fun _ _ _ => False) e s' → False) :
    PySem.W.WalkO q loose XP YP l.row.toRowW d [] (fun f vs => PySem.call f vs) := by
  refine Att.attach_call hn hdf fun w s₀ s₁ mg mb fa o pm cd doc a vs ns G Y ho hd hcd hmg hobj hints hlen hg => ?_
  have KX := hY w _ Y
  obtain ⟨fd, hb, hF⟩ := F w mg fa _ KX G.T.g hmg
  exact law_call KX G.T.g G.T.b G.T.builtins G.T.nolimit hg hobj hints (Nat.le_trans hlen hn2) hr hF hb (fun H hO hS => hsp w H a ns hlen hO hS) fun H e s' => hCX w H s₁ e s'
end L2

/- THE LAST THEOREM (shape; LID, My.* are yours):
   My.Adr: a structure of the addresses that your layer names (classes, functions); My.Txt K t: a structure (Prop) of the equations over K;
   My.txt_mk : {K} {implicit addresses ..} (e1 : nsIn K mainGlobals "law" = some (some (.ref f))) (e2 : K.lookup f = some ⟨oc, od, .func (fnOf "law" "law" params body scope dV kV doc pm an cdv ct), sl⟩) (e3 : codeIn K cdv "law" = true) .. : ∃ t, My.Txt K t

set_option maxRecDepth 100000 in
set_option maxHeartbeats 0 in
theorem PySem.Challenge.cw_LID_holds : PySem.Challenge.rw_LID.Holds := by
  w_on; o_law; k_head; (case hw => w_witness2)
  k_fill
  refine L2.walk_of (l := PySem.Challenge.rw_LID) (n := 63) (k := 40) (x := "script") (CX := fun w => ..) (sp := fun _ => My.sp_law) rfl (by decide) rfl ⟨rfl, by decide, by decide⟩ (fun w h Y => PySem.W.kIn_of Y) ?F ?S ?C
  case F =>
    intro w mg fa h KX G hmg
    have T : ∃ t, My.Txt (L2.KOf KX) t := by
      dsimp only [L2.KOf]                          -- K must stand as «<heap const> w.params» for k_is
      refine' My.txt_mk ?e1 ?e2 ?e3 ..
      (case e1 => PySem.W.k_is)                    -- in the order: a name -> its address -> its object -> its parts
      (case e2 => PySem.W.k_is)
      ..
    obtain ⟨t, T⟩ := T
    have e0 := hmg.symm.trans (PySem.W.mg_of KX G T.law)
    cases e0                                       -- fa is the law's own address
    exact ⟨_, fun s u => .of_eq rfl, fun base kb nb => My.law_fn T kb nb⟩     -- if «.of_eq rfl» comes too early: refine' ⟨_, ?b, fun base kb nb => My.law_fn T kb nb⟩; exact fun s u => .of_eq rfl
  case S => exact fun w H a ns hl hO hS => ..
  case C => exact ..
(the tactic k_is has no namespace: write k_is) -/

/-! SHORT WORDS over the layer: a def of the text, its body, what a loop and a test want. -/
namespace L2
open PySem PySem.Spec PyProof.Rows

/-! ### the text by places -/
/-- the j-th statement of a class's body -/
def inClass (s : Stmt) (j : Nat) : Stmt := match s with
  | .ClassDef _ _ _ body _ _ _ _ _ _ _ => body.getD j (.Pass ⟨0, 0, 0, 0⟩)
  | _ => .Pass ⟨0, 0, 0, 0⟩
def defArgs (s : Stmt) : Arguments := match s with
  | .FunctionDef _ a _ _ _ _ _ _ _ _ => a
  | _ => { posonlyargs := [], args := [], vararg := none, kwonlyargs := [], kw_defaults := [], kwarg := none, defaults := [] }
def defBody (s : Stmt) : List Stmt := match s with
  | .FunctionDef _ _ b _ _ _ _ _ _ _ => b
  | _ => []
def defScope (s : Stmt) : Scope := match s with
  | .FunctionDef _ _ _ _ _ _ sc _ _ _ => sc
  | _ => { kind := .function, names := [], isGenerator := false, isCoroutine := false }

/-! ### no exception leaves a def -/
abbrev CX0 : CXT := fun _ _ _ _ _ _ => False
abbrev E0 : XK := fun _ _ _ => False
theorem pass0 {X : Cx} : Passes CX0 X E0 := fun _ _ _ _ _ _ _ h => h.elim

/-! ### a def (or method) of the text as it stands behind the top -/
structure Fun (K : PySem.W.Frag) (x qual : Str) (st : Stmt) (f : Addr) (fd : FuncData) : Prop where
  ex : ∃ (oc : Value) (od : Option Addr) (kV doc pm : Value) (an : Option Addr) (cdv ct : Value) (osl : Array (Option Value)),
    fd = PySem.W.fnOf x qual (defArgs st) (defBody st) (defScope st) .none kV doc pm an cdv ct ∧ K.lookup f = some ⟨oc, od, .func fd, osl⟩ ∧ PySem.W.codeIn K cdv qual = true
  kp : PySem.W.keepIn K (.ref f) = true
section
variable {P : Program} {w : World} {K : PySem.W.Frag} {mg : Str → Option Value} {base : Heap}
/-- THE RULE for a def: its body as a term of rules, and the reading of that term -/
theorem Fun.ok {x qual : Str} {st : Stmt} {f : Addr} {fd : FuncData} {N ps : List Str} {k : Nat} {sp : Sp} (F : Fun K x qual st f fd) (S : FnScope N ps (defScope st)) (len : ∀ vs H Q E, sp vs H Q E → vs.length = ps.length)
    (hbody : ∀ (cdv : Value) (A : Around) (outer : List Env) (s : Shared) (H : Hp) (vs : List V) (Q : VK) (E : XK), Room k (A.deeper (envOfC qual (defScope st) s.heap.objs.size f cdv)) → sp vs H Q E →
      ∃ t, PSs (cxOf CX0 P w K mg base N qual (defScope st) f cdv A outer s H E).nox (defBody st) t ∧ t { nx := fun _ H' => Q .non H', rt := Q } (start N vs) H) : FnOk P w K mg base CX0 (k + 1) f fd ps sp := by
  obtain ⟨oc, od, kV, doc, pm, an, cdv, ct, osl, rfl, lk, hcd⟩ := F.ex
  refine fn_of lk hcd S len fun A outer s H vs Q E hr hsp => ?_
  obtain ⟨t, h, q⟩ := hbody cdv A outer s H vs Q E hr hsp
  exact ⟨t, h.nox, q⟩
/-- how its arguments bind (no defaults): h is «fun _ _ _ _ _ _ us hl => match us, hl with | [_, _], _ => rfl», one _ a parameter -/
theorem Fun.binds {x qual : Str} {st : Stmt} {f : Addr} {fd : FuncData} {ps : List Str} (F : Fun K x qual st f fd)
    (h : ∀ (kV doc pm : Value) (an : Option Addr) (cdv ct : Value) (us : List Value), us.length = ps.length → bindArgs (PySem.W.fnOf x qual (defArgs st) (defBody st) (defScope st) .none kV doc pm an cdv ct) ⟨us, []⟩ = pure (ps.zip us)) : Binds K fd ps [] := by
  obtain ⟨oc, od, kV, doc, pm, an, cdv, ct, osl, rfl, lk, hcd⟩ := F.ex
  exact .all (h kV doc pm an cdv ct)
theorem fun_mk {x qual : Str} {st : Stmt} {f : Addr} {oc : Value} {od an : Option Addr} {osl : Array (Option Value)} {kV doc pm cdv ct : Value} (l : K.lookup f = some ⟨oc, od, .func (PySem.W.fnOf x qual (defArgs st) (defBody st) (defScope st) .none kV doc pm an cdv ct), osl⟩)
    (c : PySem.W.codeIn K cdv qual = true) (k : PySem.W.keepIn K (.ref f) = true) : Fun K x qual st f (PySem.W.fnOf x qual (defArgs st) (defBody st) (defScope st) .none kV doc pm an cdv ct) := ⟨⟨oc, od, kV, doc, pm, an, cdv, ct, osl, rfl, l, c⟩, k⟩
end
theorem hu_of {A : Around} {k : Nat} (hr : Room k A) : A.units + 1 < cLine := Nat.lt_of_le_of_lt (Nat.add_le_add_left (by decide : 1 ≤ 64) _) hr.units
/-! ### expressions in short: the name that stands in the i-th slot -/
section
variable {X : Cx}
theorem pv (i : Nat) {x : Str} {pos : Pos} (hN : X.N[i]? = some x := by rfl) (hv : Vis X.env.scope x := by first | exact Or.inl rfl | exact Or.inr (Or.inl rfl) | exact Or.inr (Or.inr rfl)) (hd : (x == ("__debug__" : Str)) = false := by decide)
    (hcd : (x == ("__classdict__" : Str)) = false := by decide) : PE X (.Name x pos) (tVar i) := pe_var hN hv hd hcd
end

/-! ### tests -/
theorem iteF {A B : Prop} (h : B) : if false = true then A else B := by
  rw [if_neg Bool.false_ne_true]
  exact h
theorem iteT {A B : Prop} (h : A) : if true = true then A else B := by
  rw [if_pos rfl]
  exact h
/-! ### heaps -/
/-- all that was tracked is as it was -/
def Same (H H' : Hp) : Prop := ∀ b o, H b = some o → H' b = some o
theorem Same.refl (H : Hp) : Same H H := fun _ _ h => h
theorem Same.trans {H H1 H2 : Hp} (a : Same H H1) (b : Same H1 H2) : Same H H2 := fun c o h => b c o (a c o h)
theorem Same.free {H H' : Hp} (e : Same H H') {l : Addr} (h : H' l = Option.none) : H l = Option.none := by
  cases q : H l with
  | none => rfl
  | some o =>
    rw [e l o q] at h
    cases h
end L2
section
namespace L2
open PySem PySem.Spec PyProof.Rows

/-! ### lists of pairs as tables -/
section
variable {κ : Type} [DecidableEq κ]
def valV (kvs : List (κ × V)) (k : κ) : Option V := (kvs.find? fun kv => decide (kv.1 = k)).map (·.2)
/-- in its place, or at the end -/
def putK (kvs : List (κ × V)) (k : κ) (v : V) : List (κ × V) :=
  if (kvs.any fun kv => decide (kv.1 = k)) = true then kvs.map (fun kv => if kv.1 = k then (kv.1, v) else kv) else kvs ++ [(k, v)]
def dropK (kvs : List (κ × V)) (k : κ) : List (κ × V) := kvs.filter fun kv => decide (kv.1 ≠ k)

theorem valV_pos {p : κ × V} {r : List (κ × V)} {k : κ} (e : p.1 = k) : valV (p :: r) k = some p.2 := by simp [valV, List.find?_cons, e]
theorem valV_neg {p : κ × V} {r : List (κ × V)} {k : κ} (e : ¬ p.1 = k) : valV (p :: r) k = valV r k := by simp [valV, List.find?_cons, e]
theorem valV_any (k : κ) : ∀ kvs : List (κ × V), (kvs.any fun kv => decide (kv.1 = k)) = (valV kvs k).isSome
  | [] => rfl
  | p :: r => by
    rw [List.any_cons]
    by_cases e : p.1 = k
    · simp only [valV_pos e, decide_eq_true e, Bool.true_or, Option.isSome_some]
    · rw [valV_neg e, decide_eq_false e, Bool.false_or]; exact valV_any k r
theorem valV_map (k j : κ) (y : V) : ∀ kvs : List (κ × V), valV (kvs.map fun kv => if kv.1 = k then (kv.1, y) else kv) j = (valV kvs j).map fun x => if j = k then y else x
  | [] => rfl
  | p :: r => by
    have ih := valV_map k j y r
    rw [List.map_cons]
    by_cases h : p.1 = k
    · rw [if_pos h]
      by_cases e : p.1 = j
      · rw [valV_pos (p := (p.1, y)) e, valV_pos e, Option.map_some, if_pos (e.symm.trans h)]
      · rw [valV_neg (p := (p.1, y)) e, valV_neg e, ih]
    · rw [if_neg h]
      by_cases e : p.1 = j
      · rw [valV_pos (p := p) e, valV_pos e, Option.map_some, if_neg (fun z => h (e.trans z))]
      · rw [valV_neg (p := p) e, valV_neg e, ih]
theorem valV_snoc (k j : κ) (y : V) : ∀ kvs : List (κ × V), valV kvs k = none → valV (kvs ++ [(k, y)]) j = if j = k then some y else valV kvs j
  | [], _ => by
    by_cases e : k = j
    · rw [if_pos e.symm]; exact valV_pos (p := (k, y)) e
    · rw [if_neg (fun z => e z.symm)]; exact valV_neg (p := (k, y)) e
  | p :: r, hn => by
    rw [List.cons_append]
    have hk : ¬ p.1 = k := fun z => by rw [valV_pos z] at hn; cases hn
    rw [valV_neg hk] at hn
    have ih := valV_snoc k j y r hn
    by_cases e : p.1 = j
    · rw [valV_pos e, valV_pos e, if_neg (fun z => hk (e.trans z))]
    · rw [valV_neg e, valV_neg e, ih]
theorem valV_put (kvs : List (κ × V)) (k j : κ) (y : V) : valV (putK kvs k y) j = if j = k then some y else valV kvs j := by
  unfold putK
  by_cases a : (kvs.any fun kv => decide (kv.1 = k)) = true
  · rw [if_pos a, valV_map]
    rw [valV_any] at a
    by_cases e : j = k
    · obtain ⟨x, hx⟩ := Option.isSome_iff_exists.mp a
      rw [if_pos e, e, hx, Option.map_some, if_pos rfl]
    · rw [if_neg e]
      cases valV kvs j with
      | none => rfl
      | some x => rw [Option.map_some, if_neg e]
  · rw [if_neg a]
    refine valV_snoc k j y kvs ?_
    rw [valV_any] at a
    cases q : valV kvs k with
    | none => rfl
    | some x => rw [q] at a; exact (a rfl).elim
theorem length_putK (kvs : List (κ × V)) (k : κ) (v : V) : (putK kvs k v).length ≤ kvs.length + 1 := by
  unfold putK
  split
  · rw [List.length_map]; (first | lia | omega)
  · rw [List.length_append, List.length_cons, List.length_nil]; (first | lia | omega)
theorem RelO.isSome_eq {o : Option V} {u : Option Value} (r : RelO o u) : o.isSome = u.isSome := by
  cases o with
  | none => cases u with
    | none => rfl
    | some _ => exact (show False from r).elim
  | some _ => cases u with
    | none => exact (show False from r).elim
    | some _ => rfl
theorem RelO.getD {o : Option V} {u : Option Value} {d : V} {d' : Value} (r : RelO o u) (rd : RelV d d') : RelV (o.getD d) (u.getD d') := by
  cases o with
  | none => cases u with
    | none => exact rd
    | some _ => exact (show False from r).elim
  | some _ => cases u with
    | none => exact (show False from r).elim
    | some _ => exact r

/-- raw tables of the same keys -/
theorem KV.val {kvs : List (κ × V)} {vs : List (κ × Value)} (r : KV kvs vs) (k : κ) : RelO (valV kvs k) (valueAt vs k) := by
  unfold KV at r
  induction r with
  | nil => exact True.intro
  | @cons p q ps qs h t ih =>
    obtain ⟨h1, h2⟩ := h
    by_cases e : p.1 = k
    · have e' : q.1 = k := h1.symm.trans e
      have b : valueAt (q :: qs) k = some q.2 := by simp [valueAt, List.find?_cons, e']
      rw [valV_pos e, b]; exact h2
    · have e' : ¬ q.1 = k := fun z => e (h1.trans z)
      have b : valueAt (q :: qs) k = valueAt qs k := by simp [valueAt, List.find?_cons, e']
      rw [valV_neg e, b]; exact ih
theorem KV.any {kvs : List (κ × V)} {vs : List (κ × Value)} (r : KV kvs vs) (k : κ) : (kvs.any fun kv => decide (kv.1 = k)) = vs.any fun kv => decide (kv.1 = k) := by
  unfold KV at r
  induction r with
  | nil => rfl
  | cons h t ih => rw [List.any_cons, List.any_cons, ih, h.1]
theorem KV.repl {kvs : List (κ × V)} {vs : List (κ × Value)} (r : KV kvs vs) (k : κ) {y : V} {u : Value} (ry : RelV y u) :
    KV (kvs.map fun kv => if kv.1 = k then (kv.1, y) else kv) (vs.map fun kv => if kv.1 = k then (kv.1, u) else kv) := by
  unfold KV at r ⊢
  induction r with
  | nil => exact .nil
  | @cons p q ps qs h t ih =>
    rw [List.map_cons, List.map_cons]
    refine .cons ?_ ih
    obtain ⟨h1, h2⟩ := h
    by_cases e : p.1 = k
    · rw [if_pos e, if_pos (h1.symm.trans e)]; exact ⟨h1, ry⟩
    · rw [if_neg e, if_neg (fun z => e (h1.trans z))]; exact ⟨h1, h2⟩
theorem KV.put {kvs : List (κ × V)} {vs : List (κ × Value)} (r : KV kvs vs) (k : κ) {y : V} {u : Value} (ry : RelV y u) : KV (putK kvs k y) (stored vs k u) := by
  unfold putK stored
  rw [r.any k]
  by_cases e : (vs.any fun kv => decide (kv.1 = k)) = true
  · rw [if_pos e, if_pos e]; exact r.repl k ry
  · rw [if_neg e, if_neg e]; exact Paired.snoc r ⟨rfl, ry⟩
theorem KV.length {kvs : List (κ × V)} {vs : List (κ × Value)} (r : KV kvs vs) : kvs.length = vs.length := Paired.length r
end


/-! ### a tracked dict, its keys ints and texts or tuples of these -/
theorem kV_is {P : Program} {w : World} {k : Key} {u : Value} (r : RelV (kV k) u) : (mixKind P w).is k u = true := by
  cases k with
  | inl i => obtain ⟨t, e⟩ := (show ∃ t, u = Value.int i t from r); subst e; exact mixKind_int P w i t
  | inr x => obtain ⟨t, e⟩ := (show ∃ t, u = Value.str x t from r); subst e; exact mixKind_str P w x t
theorem items_are {P : Program} {w : World} : ∀ {ks : List Key} {us : List Value}, Vals (ks.map kV) us → ItemsAre (mixKind P w) ks us
  | [], _, r => by rw [List.map_nil] at r; cases r; exact .nil
  | k :: ks, _, r => by
    rw [List.map_cons] at r
    cases r with
    | cons h t => exact .cons (kV_is h) (items_are t)

/-- raw entries of a dict with tuple keys -/
abbrev KT (H : Hp) : List (List Key × V) → List (List Key × Addr × Value) → Prop := Paired fun p q => p.1 = q.1 ∧ H q.2.1 = some (.tup (p.1.map kV)) ∧ RelV p.2 q.2.2
theorem KT.val {H : Hp} {kvs : List (List Key × V)} {xs : List (List Key × Addr × Value)} (r : KT H kvs xs) (k : List Key) : RelO (valV kvs k) ((atKey xs k).map (·.2)) := by
  induction r with
  | nil => exact True.intro
  | @cons p q ps qs h t ih =>
    obtain ⟨h1, _, h2⟩ := h
    by_cases e : p.1 = k
    · have e' : q.1 = k := h1.symm.trans e
      have b : atKey (q :: qs) k = some q.2 := by simp [atKey, List.find?_cons, e']
      rw [valV_pos e, b]; exact h2
    · have e' : ¬ q.1 = k := fun z => e (h1.trans z)
      have b : atKey (q :: qs) k = atKey qs k := by simp [atKey, List.find?_cons, e']
      rw [valV_neg e, b]; exact ih
theorem KT.repl {H : Hp} {kvs : List (List Key × V)} {xs : List (List Key × Addr × Value)} (r : KT H kvs xs) (k : List Key) {y : V} {u : Value} (ry : RelV y u) :
    KT H (kvs.map fun kv => if kv.1 = k then (kv.1, y) else kv) (xs.map (putAt k u)) := by
  induction r with
  | nil => exact .nil
  | @cons p q ps qs h t ih =>
    rw [List.map_cons, List.map_cons]
    refine .cons ?_ ih
    obtain ⟨h1, h2, h3⟩ := h
    unfold putAt
    by_cases e : p.1 = k
    · rw [if_pos e, if_pos (h1.symm.trans e)]; exact ⟨h1, h2, ry⟩
    · rw [if_neg e, if_neg (fun z => e (h1.trans z))]; exact ⟨h1, h2, h3⟩
theorem KT.put {H : Hp} {kvs : List (List Key × V)} {xs : List (List Key × Addr × Value)} (r : KT H kvs xs) (k : List Key) {b : Addr} {y : V} {u : Value} (hb : H b = some (.tup (k.map kV))) (ry : RelV y u) :
    KT H (putK kvs k y) (storedH xs k b u) := by
  have e : (kvs.any fun kv => decide (kv.1 = k)) = (atKey xs k).isSome := by
    rw [valV_any, (r.val k).isSome_eq, Option.isSome_map]
  unfold putK storedH
  rw [e]
  by_cases q : (atKey xs k).isSome = true
  · rw [if_pos q, if_pos q]; exact r.repl k ry
  · rw [if_neg q, if_neg q]; exact Paired.snoc r ⟨rfl, hb, ry⟩
theorem KT.keeps {H H' : Hp} {kvs : List (List Key × V)} {xs : List (List Key × Addr × Value)} (r : KT H kvs xs) (ht : ∀ b ys, H b = some (.tup ys) → H' b = some (.tup ys)) : KT H' kvs xs :=
  Paired.mapP r fun _ _ z => ⟨z.1, ht _ _ z.2.1, z.2.2⟩

section
variable {P : Program} {w : World} {H : Hp} {h : Heap} {a : Addr}
theorem rd_of {u : HO} (ok : HOk P w H h) (e : Rd H a u) : ObjOk P w H h a u := e.ok ok
theorem dk_rd {kvs : List (Key × V)} (ok : HOk P w H h) (e : Rd H a (.dK kvs)) : kvs.length ≤ sizeLine ∧ (a == sysModules) = false ∧ ∃ vs, KV kvs vs ∧ h.DictOf (mixKind P w) a vs :=
  show ObjOk P w H h a (.dK kvs) from rd_of ok e
theorem dk_of {kvs : List (Key × V)} (ok : HOk P w H h) (e : H a = some (.dK kvs)) : kvs.length ≤ sizeLine ∧ (a == sysModules) = false ∧ ∃ vs, KV kvs vs ∧ h.DictOf (mixKind P w) a vs := dk_rd ok (.inl e)
/-- a tracked tuple of ints and texts is a key -/
theorem key_of {ks : List Key} (ok : HOk P w H h) (e : H a = some (.tup (ks.map kV))) : (tupleKind (mixKind P w)).is h ks a := by
  obtain ⟨_, its, r, o, h1, h2, n, h3⟩ := (show ObjOk P w H h a (.tup (ks.map kV)) from ok a _ e)
  exact ⟨o, its.toArray, n, h1, h2, h3, by simpa using items_are r⟩
theorem dt_rd {kvs : List (List Key × V)} (ok : HOk P w H h) (e : Rd H a (.dT kvs)) : kvs.length ≤ sizeLine ∧ (a == sysModules) = false ∧
    ∃ xs, KT H kvs xs ∧ h.DictOfH (tupleKind (mixKind P w)) a xs := by
  obtain ⟨z, y, xs, r, o, es, ep, h1, h2, h3, h4, h5⟩ := (show ObjOk P w H h a (.dT kvs) from rd_of ok e)
  refine ⟨z, y, xs, r, o, es, ep, h1, h2, h3, h4, fun x hx => ?_, h5⟩
  have all : ∀ {l : List (List Key × V)} {m : List (List Key × Addr × Value)}, KT H l m → ∀ x ∈ m, (tupleKind (mixKind P w)).is h x.1 x.2.1 := by
    intro l m q
    induction q with
    | nil => intro x hx; exact nomatch hx
    | @cons p q ps qs hq t ih =>
      intro x hx
      rcases List.mem_cons.mp hx with e | hx
      · subst e
        exact key_of ok (by rw [← hq.1]; exact hq.2.1)
      · exact ih x hx
  exact all r x hx
theorem dt_of {kvs : List (List Key × V)} (ok : HOk P w H h) (e : H a = some (.dT kvs)) : kvs.length ≤ sizeLine ∧ (a == sysModules) = false ∧
    ∃ xs, KT H kvs xs ∧ h.DictOfH (tupleKind (mixKind P w)) a xs := dt_rd ok (.inl e)
end

/-- what the dict at a holds at the key y -/
def DGet (H : Hp) (a : Addr) (y : V) (r : Option V) : Prop :=
  (∃ kvs k, Rd H a (.dK kvs) ∧ y = kV k ∧ r = valV kvs k) ∨ ∃ kvs k b, Rd H a (.dT kvs) ∧ y = .ref b ∧ H b = some (.tup (k.map kV)) ∧ r = valV kvs k
/-- the heap behind a[y] = v -/
def DPut (H : Hp) (a : Addr) (y v : V) (H' : Hp) : Prop :=
  (∃ kvs k, H a = some (.dK kvs) ∧ y = kV k ∧ kvs.length < sizeLine ∧ H' = upd H a (.dK (putK kvs k v))) ∨
  ∃ kvs k b, H a = some (.dT kvs) ∧ y = .ref b ∧ H b = some (.tup (k.map kV)) ∧ kvs.length < sizeLine ∧ H' = upd H a (.dT (putK kvs k v))
theorem DGet.k {H : Hp} {a : Addr} {kvs : List (Key × V)} {k : Key} (e : H a = some (.dK kvs)) : DGet H a (kV k) (valV kvs k) := .inl ⟨kvs, k, .inl e, rfl, rfl⟩
theorem DPut.k {H : Hp} {a : Addr} {kvs : List (Key × V)} {k : Key} {v : V} (e : H a = some (.dK kvs)) (hl : kvs.length < sizeLine) : DPut H a (kV k) v (upd H a (.dK (putK kvs k v))) := .inl ⟨kvs, k, e, rfl, hl, rfl⟩
section
variable {X : Cx} {pins : List (Addr × Obj)} {σ : St} {H : Hp} {s : Shared} {a : Addr} {y v : V} {u r : Value} {o : Option V} {A : Around} {E : Value → Shared → Prop}

theorem Inv.big (I : Inv X pins σ H s) : sysModules < s.heap.objs.size := by
  have h : mainGlobals < s.heap.objs.size := (I.mod.glob.keeps I.bk).lt
  exact Nat.lt_trans (by decide) h

/-- d[y], there -/
theorem d_getItem {Q : Value → Shared → Prop} (hu : A.units + 1 < cLine) (I : Inv X pins σ H s) (g : DGet H a y (some v)) (ry : RelV y u) (h : ∀ w' s', Inv X pins σ H s' → RelV v w' → Q w' s') :
    wpAny (model X.prog X.w) A (getItem (.ref a) u) Q E s := by
  rcases g with ⟨kvs, k, e, ey, l⟩ | ⟨kvs, k, b, e, ey, eb, l⟩
  · subst ey
    obtain ⟨z, hd, vs, rel, dd⟩ := dk_rd I.hok e
    obtain ⟨w', hw, rw'⟩ := RelO.some_of (v := v) (o := valueAt vs k) (by rw [l]; exact rel.val k)
    exact wpAny_getItem_of (kV_is ry) dd.mapOf hw (h w' _ (I.tok _) rw')
  · subst ey
    cases (show u = Value.ref b from ry)
    obtain ⟨z, hd, xs, rel, dd⟩ := dt_rd I.hok e
    obtain ⟨w', hw, rw'⟩ := RelO.some_of (v := v) (o := (atKey xs k).map (·.2)) (by rw [l]; exact rel.val k)
    obtain ⟨p, hp, hp2⟩ := Option.map_eq_some_iff.mp hw
    refine wpAny_getItem_heap (tupleKind_room_in1 hu) (key_of I.hok eb) dd hp ?_
    rw [hp2]
    exact h w' _ (I.tok _) rw'
/-- a dict's object is replaced -/
theorem d_write {h' : Heap} {t' : Nat} {ob : HO} (I : Inv X pins σ H s) (mu : Mut (H a)) (hs : Heap.SameBut a s.heap h') (he : ∃ q, h'.get? a = some q) (new : ObjOk X.prog X.w (upd H a ob) h' a ob) :
    Inv X pins σ (upd H a ob) { s with heap := h', toks := t' } :=
  I.write (x := a) (e := a) mu (.inl rfl) (fun b q hb z => (hs.2 b hb).trans z) he new
theorem dk_new {P : Program} {w : World} {H' : Hp} {h' : Heap} {kvs : List (Key × V)} {vs : List (Key × Value)} (z : kvs.length ≤ sizeLine) (hd : (a == sysModules) = false) (rel : KV kvs vs) (dd : h'.DictOf (mixKind P w) a vs) :
    ObjOk P w H' h' a (.dK kvs) := ⟨z, hd, vs, rel, dd⟩
/-- d[y] = v -/
theorem d_setItem {H' : Hp} {Q : Unit → Shared → Prop} (hu : A.units + 1 < cLine) (I : Inv X pins σ H s) (g : DPut H a y v H') (ry : RelV y u) (rv : RelV v r) (h : ∀ s', Inv X pins σ H' s' → Q () s') :
    wpAny (model X.prog X.w) A (setItem (.ref a) u r) Q E s := by
  rcases g with ⟨kvs, k, e, ey, l, eH⟩ | ⟨kvs, k, b, e, ey, eb, l, eH⟩
  · subst ey eH
    obtain ⟨z, hd, vs, rel, dd⟩ := dk_of I.hok e
    have hz : vs.length ≤ sizeLine := by rw [← rel.length]; exact z
    have hl : (putK kvs k v).length ≤ sizeLine := by have := length_putK kvs k v; (first | lia | omega)
    refine wpAny_setItem_pairs (hsz := hz) (kV_is ry) dd fun h' dd' hs => h _ ?_
    have he : ∃ q, h'.get? a = some q := let ⟨q, _, _, hq, _⟩ := dd'; ⟨q, hq⟩
    exact d_write I (by rw [e]; exact True.intro) hs he (dk_new hl hd (rel.put k rv) dd')
  · subst ey eH
    cases (show u = Value.ref b from ry)
    obtain ⟨z, hd, xs, rel, dd⟩ := dt_of I.hok e
    have hz : xs.length ≤ sizeLine := by rw [← Paired.length rel]; exact z
    have hl : (putK kvs k v).length ≤ sizeLine := by have := length_putK kvs k v; (first | lia | omega)
    refine wpAny_setItem_heap (hsz := hz) (tupleKind_room_in1 hu) (key_of I.hok eb) dd fun h' dd' hs => h _ ?_
    obtain ⟨q, es, ep, hq, h2, h3, h4, _, h5⟩ := dd'
    refine d_write I (by rw [e]; exact True.intro) hs ⟨q, hq⟩ ⟨hl, hd, _, (rel.put k eb rv).keeps fun c ys ec => ?_, q, es, ep, hq, h2, h3, h4, h5⟩
    rw [upd_ne (ne_of ec e (fun z => nomatch z))]
    exact ec
end

section
variable {X : Cx} {pins : List (Addr × Obj)} {σ : St} {H : Hp} {s : Shared} {a : Addr} {kvs : List (Key × V)} {k : Key} {u : Value} {A : Around} {E : Value → Shared → Prop}
end


/-! ### readings and rules -/
/-- the element of a subscription, not a slice -/
def NoSl (i : Expr) : Prop := ∀ ov iv, subscripted i false ov iv = operate [ov, iv] (getItem ov iv)
theorem subD_of {prog : Program} {w : World} {A : Around} {E : Value → Shared → Prop} {s : Shared} {env : Env} {value slice : Expr} {pos : Pos} {T id : String} {Q : Value → Shared → Prop}
    (hl : typeLookup (.type T) "__getitem__" = pure (some (.builtin id))) (hs : NoSl slice)
    (h : wpAny (model prog w) A (eval value env) (fun o s₁ => wpAny (model prog w) A (eval slice env) (fun i s₂ => s₂.TypeIs o T ∧ wpAny (model prog w) A (getItem o i) Q E s₂) E s₁) E s) :
    wpAny (model prog w) A (eval (.Subscript value slice pos) env) Q E s := by
  refine Subscript_ (wpAny_mono h (fun o s₁ h₁ => wpAny_mono h₁ (fun i s₂ h₂ => ?_) fun _ _ x => x) fun _ _ x => x)
  obtain ⟨hT, h₂⟩ := h₂
  unfold subscriptTail
  refine wpAny_bind ?_
  rw [getitemInPython_of_ne hT.not_modules]
  refine wpAny_bind (wpAny_specialOf hT hl ?_)
  have fin : wpAny (model prog w) A (subscripted slice false o i) (fun r s₃ => wpAny (model prog w) A (letTemporaryGo value o r >>= fun _ => pure r) Q E s₃) E s₂ := by
    rw [hs o i]
    exact wpAny_operating (wpAny_mono h₂ (fun r s₃ h₃ => wpAny_bind (wpAny_letTemporaryGo (wpAny_pure h₃))) fun _ _ x => x)
  first
    | exact wpAny_pure (wpAny_bind fin)
    | exact wpAny_bind (wpAny_pure (wpAny_bind fin))
    | exact wpAny_bind fin

theorem dict_typeIs {X : Cx} {pins : List (Addr × Obj)} {σ : St} {H : Hp} {s : Shared} {a : Addr} {y : V} {o : Option V} (I : Inv X pins σ H s) (g : DGet H a y o) : s.TypeIs (.ref a) "dict" := by
  rcases g with ⟨kvs, k, e, _, _⟩ | ⟨kvs, k, b, e, _, _, _⟩
  · obtain ⟨_, _, vs, _, dd⟩ := dk_rd I.hok e
    exact dd.typeIs
  · obtain ⟨_, _, xs, _, dd⟩ := dt_rd I.hok e
    exact dd.typeIs
/-- d[y] -/
def tDGet (td ty : TE) : TE := fun σ H Q => td σ H fun x H1 => ty σ H1 fun y H2 => ∃ a v, x = .ref a ∧ DGet H2 a y (some v) ∧ Q v H2
/-- y in d, y not in d -/
def tDIn (ty td : TE) : TE := fun σ H Q => ty σ H fun y H1 => td σ H1 fun x H2 => ∃ a o, x = .ref a ∧ DGet H2 a y o ∧ Q (.bl o.isSome) H2
def tDNotIn (ty td : TE) : TE := fun σ H Q => ty σ H fun y H1 => td σ H1 fun x H2 => ∃ a o, x = .ref a ∧ DGet H2 a y o ∧ Q (.bl (!o.isSome)) H2
/-- d[y] = v -/
def sDPut (td ty tv : TE) : TS := fun D σ H => tv σ H fun v H1 => td σ H1 fun x H2 => ty σ H2 fun y H3 => ∃ a H4, x = .ref a ∧ DPut H3 a y v H4 ∧ D.nx σ H4
/-- d[y] op= v -/
def sDAug (td ty tv : TE) (rd : V → V → Hp → VK → Prop) : TS := fun D σ H => td σ H fun x H1 => ty σ H1 fun y H2 => ∃ a v, x = .ref a ∧ DGet H2 a y (some v) ∧
  tv σ H2 fun y2 H3 => rd v y2 H3 fun z H4 => ∃ H5, DPut H4 a y z H5 ∧ D.nx σ H5
/-- del d[y] -/
def sDDel (td ty : TE) : TS := fun D σ H => td σ H fun x H1 => ty σ H1 fun y H2 => ∃ a kvs k, x = .ref a ∧ H2 a = some (.dK kvs) ∧ y = kV k ∧ (valV kvs k).isSome = true ∧ D.nx σ (upd H2 a (.dK (dropK kvs k)))

section
variable {X : Cx} {o i e value : Expr} {pos pos' tpos : Pos} {td ty tv : TE}
theorem pe_dget (hu : X.A.units + 1 < cLine) (ho : PE X o td) (hi : PE X i ty) (hs : NoSl i) : PE X (.Subscript o i pos) (tDGet td ty) := by
  intro pins s σ H Q I h
  refine subD_of PySem.F.slot_dict_getitem.lookup hs (thn (ho pins s σ H _ I h) fun u s1 ⟨x, H1, I1, rx, q1⟩ => thn (hi pins s1 σ H1 _ I1 q1) fun iv s2 ⟨y, H2, I2, ry, a, v, ex, g, q2⟩ => ?_)
  subst ex
  obtain rfl : u = Value.ref a := rx
  exact ⟨dict_typeIs I2 g, d_getItem hu I2 g ry fun w' s3 I3 rw' => ⟨v, H2, I3, rw', q2⟩⟩
theorem ps_dput (hu : X.A.units + 1 < cLine) (ho : PE X o td) (hi : PE X i ty) (hv : PE X value tv) (hs : swapsWith value (some (.Subscript o i pos')) pos.line X.env = pure false) :
    PS X (.Assign [.Subscript o i pos'] value pos) (sDPut td ty tv) := by
  intro pins s σ H D I h
  refine wpAny_Assign_Subscript (thn (hv pins s σ H _ I h) fun r s1 ⟨v, H1, I1, rv, q1⟩ => thn (ho pins s1 σ H1 _ I1 q1) fun u s2 ⟨x, H2, I2, rx, q2⟩ => thn (hi pins s2 σ H2 _ I2 q2) fun iv s3 ⟨y, H3, I3, ry, a, H4, ex, g, q3⟩ => ?_) hs
  subst ex
  obtain rfl : u = Value.ref a := rx
  exact d_setItem hu I3 g ry rv fun s4 I4 => ⟨σ, H4, I4, q3⟩
end


/-! ### displays -/
theorem dk_empty {P : Program} {w : World} {H : Hp} (h : Heap) (hb : sysModules < h.objs.size) : ObjOk P w H (h.push { cls := .type "dict", data := .dict #[] }) h.objs.size (.dK []) :=
  ⟨Nat.zero_le _, beq_eq_false_iff_ne.mpr (Ne.symm (Nat.ne_of_lt hb)), [], .nil, Heap.DictOf.new h⟩
/-- {}, to be a dict of the kind that is wanted -/
def tDNewK : TE := fun _ H Q => ∀ p, H p = none → Q (.ref p) (upd H p (.dK []))
def tDNewT : TE := fun _ H Q => ∀ p, H p = none → Q (.ref p) (upd H p (.dT []))
section
variable {X : Cx} {pos : Pos}
theorem pe_dnewK : PE X (.Dict [] [] pos) tDNewK := fun pins s σ H Q I h =>
  wpAny_Dict_empty ⟨.ref s.heap.objs.size, _, I.laid (a := s.heap.objs.size) (o := .dK []) (t' := s.toks) (fun _ _ q => Heap.get?_push_of_some _ q) (Nat.le_refl _) (dk_empty s.heap I.big), rfl, h _ (I.hok.fresh (Nat.le_refl _))⟩
end

/-- the pairs of a display, from the left -/
def tPairs : List (TE × TE) → St → Hp → (List (V × V) → Hp → Prop) → Prop
  | [], _, H, Q => Q [] H
  | (tk, tv) :: r, σ, H, Q => tk σ H fun x H1 => tv σ H1 fun y H2 => tPairs r σ H2 fun ps H3 => Q ((x, y) :: ps) H3
abbrev VV : List (V × V) → List (Value × Value) → Prop := Paired fun p q => RelV p.1 q.1 ∧ RelV p.2 q.2
def PPs (X : Cx) (pos : Pos) (keys : List (Option Expr)) (values : List Expr) (trs : List (TE × TE)) : Prop :=
  ∀ (pins : List (Addr × Obj)) (s : Shared) (σ : St) (H : Hp) (Q : List (V × V) → Hp → Prop), Inv X pins σ H s → tPairs trs σ H Q →
    wpAny (model X.prog X.w) X.A (evalPairs (pairTrees keys values X.env pos)) (fun vs s' => ∃ ps H', Inv X pins σ H' s' ∧ VV ps vs ∧ Q ps H') X.xe s
def mergeK (kvs more : List (Key × V)) : List (Key × V) := more.foldl (fun acc kv => putK acc kv.1 kv.2) kvs
/-- {k: v, ..} with keys ints and texts; the new dict stands empty while the pairs are made -/
def tDisp (trs : List (TE × TE)) : TE := fun σ H Q => ∀ p, H p = none → tPairs trs σ (upd H p (.dK [])) fun ps H2 => H2 p = some (.dK []) ∧ ∃ kvs : List (Key × V), ps = kvs.map (fun kv => (kV kv.1, kv.2)) ∧ kvs.length ≤ 15 ∧ Q (.ref p) (upd H2 p (.dK (mergeK [] kvs)))
/-! ### methods -/
/-- a method call o.m(e) of a built-in, with one argument: what must be seen of the text -/
structure M1 (X : Cx) (o : Expr) (m : Str) (apos : Pos) (e : Expr) (cpos : Pos) : Prop where
  base : attributeBase o m X.env (eval o X.env) = eval o X.env
  few : ((backTo cpos (starEach [e] X.env)).all (fun x => !x.1) && (backToKw cpos (keywordEach [] X.env)).all (fun x => x.1.isSome)
    && decide (([e] : List Expr).length + ([] : List Keyword).length + (if ([] : List Keyword).isEmpty then 0 else 1) < 30)) = true
  line : (apos.endLine == cpos.line) = true
  trees : backTo cpos (starEach [e] X.env) = [(false, eval e X.env)]
structure M2 (X : Cx) (o : Expr) (m : Str) (apos : Pos) (e f : Expr) (cpos : Pos) : Prop where
  base : attributeBase o m X.env (eval o X.env) = eval o X.env
  few : ((backTo cpos (starEach [e, f] X.env)).all (fun x => !x.1) && (backToKw cpos (keywordEach [] X.env)).all (fun x => x.1.isSome)
    && decide (([e, f] : List Expr).length + ([] : List Keyword).length + (if ([] : List Keyword).isEmpty then 0 else 1) < 30)) = true
  line : (apos.endLine == cpos.line) = true
  trees : backTo cpos (starEach [e, f] X.env) = [(false, eval e X.env), (false, eval f X.env)]

/-- a is a dict, whatever its keys -/
def IsD (H : Hp) (a : Addr) : Prop := (∃ kvs, Rd H a (.dK kvs)) ∨ ∃ kvs, Rd H a (.dT kvs)
theorem isD_at {X : Cx} {pins : List (Addr × Obj)} {σ : St} {H : Hp} {s : Shared} {a : Addr} (I : Inv X pins σ H s) (d : IsD H a) :
    s.TypeIs (.ref a) "dict" ∧ (∀ b, Value.ref a = .ref b → ∃ ob, s.heap.get? b = some ob ∧ ob.dict = none) ∧ (a == sysModules) = false := by
  rcases d with ⟨kvs, e⟩ | ⟨kvs, e⟩
  · obtain ⟨_, hd, vs, _, dd⟩ := dk_rd I.hok e
    refine ⟨dd.typeIs, fun b q => ?_, hd⟩
    cases q
    obtain ⟨ob, _, _, h1, h2, _⟩ := dd
    exact ⟨ob, h1, h2.2.1⟩
  · obtain ⟨_, hd, xs, _, dd⟩ := dt_rd I.hok e
    refine ⟨dd.typeIs, fun b q => ?_, hd⟩
    cases q
    obtain ⟨ob, _, _, h1, h2, _⟩ := dd
    exact ⟨ob, h1, h2.2.1⟩

section
variable {X : Cx} {pins : List (Addr × Obj)} {σ : St} {H : Hp} {s : Shared} {a : Addr} {y d : V} {u r : Value} {o : Option V} {A : Around} {E : Value → Shared → Prop}
/-- d.get(y, x) -/
theorem d_get2 {Q : Value → Shared → Prop} (hu : A.units + 1 < cLine) (I : Inv X pins σ H s) (g : DGet H a y o) (ry : RelV y u) (rd : RelV d r) (h : ∀ w' s', Inv X pins σ H s' → RelV (o.getD d) w' → Q w' s') :
    wpAny (model X.prog X.w) A (call (.builtin "dict.get") [.ref a, u, r]) Q E s := by
  rcases g with ⟨kvs, k, e, ey, l⟩ | ⟨kvs, k, b, e, ey, eb, l⟩
  · subst ey
    obtain ⟨z, hd, vs, rel, dd⟩ := dk_rd I.hok e
    refine call_meetsIn PySem.F.slot_dict_get dd.typeIs PySem.F.entry_dict_get (PySem.F.args_dict_get_3 _ _ _) (meets_dict_get_default (mixKind X.prog X.w) a (kV_is ry) hd r) ⟨_, dd.mapOf, h _ _ (I.tok _) ?_⟩
    rw [l]
    exact (rel.val k).getD rd
  · subst ey
    cases (show u = Value.ref b from ry)
    obtain ⟨z, hd, xs, rel, dd⟩ := dt_rd I.hok e
    refine call_meetsIn PySem.F.slot_dict_get dd.typeIs PySem.F.entry_dict_get (PySem.F.args_dict_get_3 _ _ _) (meetsH_dict_get_default (tupleKind (mixKind X.prog X.w)) a b hd r) ⟨tupleKind_room_in1 hu, k, xs, key_of I.hok eb, dd, h _ _ (I.tok _) ?_⟩
    rw [l]
    exact (rel.val k).getD rd
end

def tDGet1 (td ty : TE) : TE := fun σ H Q => td σ H fun x H1 => ∃ a, x = .ref a ∧ IsD H1 a ∧ ty σ H1 fun y H2 => ∃ o, DGet H2 a y o ∧ Q (o.getD .non) H2
def tDGet2 (td ty tx : TE) : TE := fun σ H Q => td σ H fun x H1 => ∃ a, x = .ref a ∧ IsD H1 a ∧ ty σ H1 fun y H2 => tx σ H2 fun z H3 => ∃ o, DGet H3 a y o ∧ Q (o.getD z) H3
/-- d.pop(k): there; d.pop(k, x): there or not -/
def tDPop1 (td ty : TE) : TE := fun σ H Q => td σ H fun x H1 => ∃ a, x = .ref a ∧ IsD H1 a ∧ ty σ H1 fun y H2 => ∃ kvs k v, H2 a = some (.dK kvs) ∧ y = kV k ∧ valV kvs k = some v ∧ Q v (upd H2 a (.dK (dropK kvs k)))
def tDPop2 (td ty tx : TE) : TE := fun σ H Q => td σ H fun x H1 => ∃ a, x = .ref a ∧ IsD H1 a ∧ ty σ H1 fun y H2 => tx σ H2 fun z H3 => ∃ kvs k, H3 a = some (.dK kvs) ∧ y = kV k ∧
  (∀ v, valV kvs k = some v → Q v (upd H3 a (.dK (dropK kvs k)))) ∧ (valV kvs k = none → Q z H3)
section
variable {X : Cx} {o e f : Expr} {apos cpos : Pos} {td ty tx : TE}
theorem pe_dget2 (hu : X.A.units + 1 < cLine) (ho : PE X o td) (he : PE X e ty) (hf : PE X f tx) (m : M2 X o "get" apos e f cpos) : PE X (.Call (.Attribute o "get" apos) [e, f] [] cpos) (tDGet2 td ty tx) := by
  intro pins s σ H Q I h
  refine wpAny_Call_method m.base m.few m.line PySem.F.plainAttrs_dict PySem.F.slot_dict_get PySem.F.type_dict_get (thn (ho pins s σ H _ I h) fun u s1 ⟨x, H1, I1, rx, a, ex, d, q1⟩ => ?_)
  subst ex
  obtain rfl : u = Value.ref a := rx
  obtain ⟨t1, t2, _⟩ := isD_at I1 d
  refine ⟨t1, t2, ?_⟩
  rw [m.trees]
  refine Calls.callWith_builtin rfl (Calls.evalArgs_plain (Calls.spliced_cons (thn (he pins s1 σ H1 _ I1 q1) fun iv s2 ⟨y, H2, I2, ry, q2⟩ =>
    Calls.spliced_cons (thn (hf pins s2 σ H2 _ I2 q2) fun fv s3 ⟨z, H3, I3, rz, ov, g, q3⟩ => Calls.spliced_nil ?_))))
  exact d_get2 hu I3 g ry rz fun w' s4 I4 rw' => ⟨_, H3, I4, rw', q3⟩
end

/-! ### dict(d): a copy -/
section
variable {X : Cx} {pins : List (Addr × Obj)} {σ : St} {H : Hp} {s : Shared} {a : Addr} {kvs : List (Key × V)} {A : Around} {E : Value → Shared → Prop}
end


section
variable {X : Cx} {pins : List (Addr × Obj)} {σ : St} {H : Hp} {s : Shared} {a : Addr} {y : V} {u : Value} {A : Around} {E : Value → Shared → Prop}
end
end L2
namespace L2
open PySem PySem.Spec PyProof.Rows
/-! ### a dict's pairs: keys that differ -/
section
variable {κ : Type} [DecidableEq κ]
end
end L2
end
section
set_option Elab.async false
set_option linter.all false
set_option maxRecDepth 100000
set_option maxHeartbeats 4000000
namespace L2
open PySem PySem.Spec PyProof.Rows

/-! ### a list comprehension of one clause -/
def clOf (env : Env) : List (Str × NameKind) → List (Str × Addr) → List (Str × Addr)
  | [], acc => acc
  | (n, k) :: r, acc => clOf env r (if k == .free then (match env.cells.lookup n with | some c => (n, c) :: acc | none => acc) else acc)
theorem clOf_sub {env : Env} {x : Str} {c : Addr} : ∀ (ns : List (Str × NameKind)) (acc : List (Str × Addr)), (∀ x c, acc.lookup x = some c → env.cells.lookup x = some c) → (clOf env ns acc).lookup x = some c → env.cells.lookup x = some c
  | [], acc, h, e => h x c e
  | (n, k) :: r, acc, h, e => by
    refine clOf_sub r _ (fun y d => ?_) e
    split
    · cases q : env.cells.lookup n with
      | none => exact h y d
      | some d' =>
        intro z
        rw [List.lookup_cons] at z
        cases b : y == n with
        | true =>
          rw [b] at z
          have b' : y = n := eq_of_beq b
          rw [b', q]; exact z
        | false => rw [b] at z; exact h y d z
    · exact h y d
theorem clOf_mono {env : Env} {x : Str} : ∀ (ns : List (Str × NameKind)) (acc : List (Str × Addr)), (∃ c, acc.lookup x = some c) → ∃ c, (clOf env ns acc).lookup x = some c
  | [], acc, h => h
  | (n, k) :: r, acc, h => by
    refine clOf_mono r _ ?_
    obtain ⟨c, h⟩ := h
    split
    · cases q : env.cells.lookup n with
      | none => exact ⟨c, h⟩
      | some d' =>
        show ∃ c, List.lookup x ((n, d') :: acc) = some c
        rw [List.lookup_cons]
        cases b : x == n with
        | true => exact ⟨d', rfl⟩
        | false => exact ⟨c, h⟩
    · exact ⟨c, h⟩
theorem clOf_has {env : Env} {x : Str} {c : Addr} (hc : env.cells.lookup x = some c) : ∀ (ns : List (Str × NameKind)) (acc : List (Str × Addr)), (x, NameKind.free) ∈ ns → ∃ c, (clOf env ns acc).lookup x = some c
  | [], acc, h => by cases h
  | (n, k) :: r, acc, h => by
    rcases List.mem_cons.mp h with h | h
    · cases h
      refine clOf_mono r _ ?_
      rw [if_pos (by rfl), hc]
      exact ⟨c, by simp⟩
    · exact clOf_has hc r _ h
theorem lookup_relabel {env : Env} {x : Str} : ∀ (names : List (Str × NameKind)),
    (names.map fun (n, k) => if (k == NameKind.free && env.scope.kind == .function && env.kindOf n == some .cell) then (n, NameKind.cell) else (n, k)).lookup x
      = (names.lookup x).map fun k => if (k == NameKind.free && env.scope.kind == .function && env.kindOf x == some .cell) then NameKind.cell else k
  | [] => rfl
  | (n, k) :: r => by
    have ih := lookup_relabel (env := env) (x := x) r
    show List.lookup x ((if (k == NameKind.free && env.scope.kind == .function && env.kindOf n == some .cell) = true then (n, NameKind.cell) else (n, k)) :: _) = _
    rw [List.lookup_cons (k := n)]
    cases hx : x == n with
    | true =>
      have e : x = n := eq_of_beq hx
      subst e
      split <;> simp_all [List.lookup_cons]
    | false =>
      split <;> simp only [List.lookup_cons, hx] <;> exact ih

/-- the block's context -/
def blk (X : Cx) (N' : List Str) (scope : Scope) (C : Addr) (s : Shared) (H : Hp) (fp : List Addr) : Cx where
  prog := X.prog
  w := X.w
  K := X.K
  mg := X.mg
  base := X.base
  A := X.A
  N := N'
  s₀ := s
  H₀ := H
  env := compEnvC scope (clOf X.env scope.names []) C X.env
  outer := X.stack
  stack := X.stack
  ex := fp
  calm := X.calm
  fn := fun _ => false
  pn := []
  xe := fun _ _ => False

/-- the tests of a clause -/
def PTs (X : Cx) (ifs : List Expr) (t : TT) : Prop :=
  ∀ (pins : List (Addr × Obj)) (s : Shared) (σ : St) (H : Hp) (Q : Bool → Hp → Prop), Inv X pins σ H s → t σ H Q →
    wpAny (model X.prog X.w) X.A (forIn ifs true fun c r => if r = true then do let ok ← isTrue c X.env (eval c X.env); pure (ForInStep.yield ok) else pure (ForInStep.yield r)) (TP X pins σ Q) X.xe s
def tTrue : TT := fun _ H Q => Q true H
theorem pts_nil {X : Cx} : PTs X [] tTrue := fun _ _ _ H _ I h => wpAny_tests_nil ⟨H, I, h⟩
def subSt (σ : St) (ix : List (Option Nat)) : St := ix.map fun o => o.bind fun j => (σ[j]?).join
def CompW (J : It) (g : TG) (tc : TT) (te : TE) (τ0 : St) (H1 : Hp) (acc : Addr) (Q : VK) : Prop :=
  ∃ W : Nat → Nat → St → List V → Hp → Prop, (∃ m, W 0 m τ0 [] (upd H1 acc (.lst []))) ∧ ∀ i m τ ys H, W i m τ ys H → H acc = some (.lst ys) ∧
    ((J.stop i H ∧ Q (.ref acc) H) ∨ (J.go i H ∧ ys.length < sizeLine ∧ ∀ x H', J.yld i H x H' → g x τ H' fun τ2 H2 => tc τ2 H2 fun b H3 =>
      if b = true then te τ2 H3 fun y H4 => H4 acc = some (.lst ys) ∧ ∃ m', m' < m ∧ W (i + 1) m' τ2 (ys ++ [y]) (upd H4 acc (.lst (ys ++ [y]))) else ∃ m', m' < m ∧ W (i + 1) m' τ2 ys H3))
def tComp (wi : TI) (g : TG) (tc : TT) (te : TE) (ix : List (Option Nat)) : TE := fun σ H Q => wi σ H fun J H1 => ∀ acc, H1 acc = none → CompW J g tc te (subSt σ ix) H1 acc Q

theorem comp_loop {prog : Program} {w : World} {A : Around} {R : Result → Shared → Prop} {s : Shared} {elt target iter : Expr} {ifs : List Expr} {scope : Scope} {pos : Pos} {it acc : Value} {env : Env} (I : Nat → Shared → Prop)
    (turn : ∀ n s, I n s → wpAny (model prog w) A (pyNext it) (fun r s₁ => match r with
      | none => R (.ok .next) s₁
      | some v => wpAny (model prog w) A (letOwnedTupleGo target it v) (fun _ s₀ => wpAny (model prog w) A (assign target env v) (fun _ s₂ =>
          wpAny (model prog w) A (forIn ifs true fun c r => if r = true then do let ok ← isTrue c env (eval c env); pure (ForInStep.yield ok) else pure (ForInStep.yield r)) (fun ok s₃ =>
            if ok = true then wpAny (model prog w) A (eval elt env) (fun x s₄ =>
              wpAny (model prog w) A (call (.builtin "list.append") [acc, x]) (fun _ s₅ => ∃ m, m < n ∧ I m s₅) (fun _ _ => False) s₄) (fun _ _ => False) s₃
            else ∃ m, m < n ∧ I m s₃) (fun _ _ => False) s₂) (fun _ _ => False) s₀) (fun _ _ => False) s₁) (fun _ _ => False) s)
    (n : Nat) (h : I n s) :
    codeAny (model prog w) A (.compLoop (.ListComp elt [⟨target, iter, ifs, 0⟩] scope pos) 0 it acc env) R s := by
  refine codeAny_loop rfl I (fun n s hI => ?_) n h
  show wpAny _ A ((compTurn (.ListComp elt [⟨target, iter, ifs, 0⟩] scope pos) 0 it acc env).onRaise (fun x => do noteFrame x env; theTreesLotGoes x)) _ _ s
  refine wpAny_noted ?_
  rw [compTurn_list]
  refine wpAny_bind (wpAny_standAt (wpAny_bind (wpAny_mono (turn n s hI) (fun r s₁ h₁ => ?_) fun _ _ z => z.elim)))
  cases r with
  | none => exact wpAny_pure h₁
  | some v =>
    refine wpAny_bind (wpAny_mono h₁ (fun _ s₀ h₀' => ?_) fun _ _ z => z.elim)
    refine wpAny_bind (wpAny_mono h₀' (fun _ s₂ h₂ => wpAny_bind (wpAny_mono h₂ (fun ok s₃ h₃ => ?_) fun _ _ z => z.elim)) fun _ _ z => z.elim)
    cases ok with
    | false => exact wpAny_pure ⟨rfl, h₃⟩
    | true =>
      exact wpAny_bind (wpAny_bind (wpAny_mono h₃ (fun x s₄ h₄ => wpAny_bind (wpAny_mono h₄ (fun _ s₅ h₅ => wpAny_pure (wpAny_pure ⟨rfl, h₅⟩)) fun _ _ z => z.elim)) fun _ _ z => z.elim))

section
variable {X : Cx} {elt tg iter : Expr} {ifs : List Expr} {scope : Scope} {pos : Pos} {wi : TI} {g : TG} {tc : TT} {te : TE} {N' : List Str} {ix : List (Option Nat)}

/-- the block's entry -/
theorem blk_start {pins : List (Addr × Obj)} {σ : St} {H : Hp} {s : Shared} {h₁ : Heap} {t' : Nat} {fp : List Addr} {m : Str → Option Value}
    (hkind : scope.kind = .function) (hcell : ∀ y ∈ scope.names, y.2 ≠ .cell)
    (hfr : ∀ y ∈ scope.names, y.2 = .free → X.env.kindOf y.1 = some .cell ∨ X.env.kindOf y.1 = some .free)
    (hlen : ix.length = N'.length)
    (hix : ∀ (i j : Nat) (x : Str), ix[i]? = some (some j) → N'[i]? = some x → X.N[j]? = some x ∧ scope.names.lookup x = some .free)
    (I : Inv X pins σ H s) (hf : ∀ b ∈ fp, FpOk X pins H b) (hob : ∀ b ∈ fp, ∃ o, s.heap.get? b = some o)
    (hn : h₁.Ns s.heap.objs.size m) (hk : ∀ b o, s.heap.get? b = some o → h₁.get? b = some o) :
    Inv (blk X N' scope s.heap.objs.size s H fp) [] (subSt σ ix) H { s with heap := h₁, toks := t' } := by
  have kinds : ∀ x, scope.names.lookup x = some .free → (relabel scope X.env).names.lookup x = some .cell ∨ (relabel scope X.env).names.lookup x = some .free := fun x e => by
    have q := lookup_relabel (env := X.env) (x := x) scope.names
    rw [e] at q
    show List.lookup x (scope.names.map _) = _ ∨ List.lookup x (scope.names.map _) = _
    rw [q]
    simp only [Option.map_some]
    split
    · exact .inl rfl
    · exact .inr rfl
  have kinds' : ∀ x, ((relabel scope X.env).names.lookup x = some .cell ∨ (relabel scope X.env).names.lookup x = some .free) → scope.names.lookup x = some .free := fun x e => by
    have q := lookup_relabel (env := X.env) (x := x) scope.names
    have e' : List.lookup x (scope.names.map fun (n, k) => if (k == NameKind.free && X.env.scope.kind == .function && X.env.kindOf n == some .cell) then (n, NameKind.cell) else (n, k)) = some .cell ∨
      List.lookup x (scope.names.map fun (n, k) => if (k == NameKind.free && X.env.scope.kind == .function && X.env.kindOf n == some .cell) then (n, NameKind.cell) else (n, k)) = some .free := e
    rw [q] at e'
    cases z : scope.names.lookup x with
    | none => rw [z] at e'; rcases e' with e' | e' <;> simp at e'
    | some k =>
      rw [z] at e'
      simp only [Option.map_some, Option.some.injEq] at e'
      cases k with
      | free => rfl
      | cell => exact absurd rfl (hcell _ (PySem.mem_of_lookup z))
      | _ =>
        rcases e' with e' | e'
        · simp at e'
        · simp at e'
  have sub : ∀ x c, (clOf X.env scope.names []).lookup x = some c → X.env.cells.lookup x = some c := fun x c e => clOf_sub scope.names [] (fun _ _ z => by simp at z) e
  have has : ∀ x, scope.names.lookup x = some .free → ∃ c, (clOf X.env scope.names []).lookup x = some c := fun x e => by
    obtain ⟨c, hc⟩ := I.ok.has x (hfr (x, .free) (PySem.mem_of_lookup e) rfl)
    exact clOf_has hc scope.names [] (PySem.mem_of_lookup e)
  have cellK : ∀ c v, s.heap.IsCell c v → h₁.IsCell c v := fun c v ⟨o, ho, hd⟩ => ⟨o, hk c o ho, hd⟩
  refine ⟨⟨I.ok.mod, hkind, I.ok.glob, I.ok.blt, Nat.le_refl _, fun x y c h1 h2 => I.ok.inj x y c (sub x c h1) (sub y c h2), fun x hx => has x (kinds' x hx), fun x c z _ => Bool.noConfusion z, I.ok.hd, I.ok.frames, .inl rfl, fun b hb => ?_, fun b o e => ⟨(I.bs b o e).1, (I.bs b o e).2⟩,
    Nat.le_trans I.ok.bsz I.sz, fun b o e hb => ?_, fun b hb hz => ?_, I.stack, I.stkFree⟩, rfl, I.bare, Un.kept hk, ⟨m, hn, fun i x v h1 h2 h3 => ?_⟩, fun x c e => ?_, ?_, fun x c e => I.freeC x c (sub x c e), fun p hp => absurd (show p ∈ ([] : List (Addr × Obj)) from hp) (by simp), I.hok.kept hk, ?_⟩
  · obtain ⟨o, ho⟩ := hob b hb
    exact ⟨Nat.ne_of_lt (Heap.lt_size ho), fun x c e => (hf b hb).2.2.2.2.1 x c (sub x c e)⟩
  · obtain ⟨_, _, _, f3, _⟩ := hf b hb
    rcases f3 with z | z
    · exact I.ok.noex b o e z
    · exact absurd (Nat.lt_of_lt_of_le (Heap.lt_size (I.ok.bs b o e).1) z) (Nat.lt_irrefl _)
  · obtain ⟨_, f1, f2, _⟩ := hf b hb
    rcases List.mem_cons.mp (I.stkSub b hz) with z | z
    · exact f1 z
    · exact f2 z
  · -- a name of the block: a free one
    have h2' : (ix[i]?.map fun o : Option Nat => o.bind fun j => (σ[j]?).join) = some (some v) := by rw [← List.getElem?_map]; exact h2
    cases q : ix[i]? with
    | none => rw [q] at h2'; cases h2'
    | some o =>
      rw [q] at h2'
      cases o with
      | none => cases h2'
      | some j =>
        have h2'' : (σ[j]?).join = some v := by simpa using h2'
        have hj : σ[j]? = some (some v) := by
          cases z : σ[j]? with
          | none => rw [z] at h2''; cases h2''
          | some y => rw [z] at h2''; simp at h2''; rw [h2'']
        obtain ⟨e1, e2⟩ := hix i j x q h1
        obtain ⟨m', hn', hl⟩ := I.loc
        have kk := hfr (x, .free) (PySem.mem_of_lookup e2) rfl
        have vis : Vis X.env.scope x := by
          rcases kk with z | z
          · exact .inr (.inl z)
          · exact .inr (.inr z)
        obtain ⟨u, r, lk⟩ := hl j x v e1 hj vis
        refine ⟨u, r, .inr ⟨kinds x e2, ?_⟩⟩
        rcases lk with ⟨z, _⟩ | ⟨_, c, hc, hv⟩
        · rcases kk with z' | z' <;> (rw [z] at z'; cases z')
        · obtain ⟨c', hc'⟩ := has x e2
          have : c' = c := by
            have := sub x c' hc'
            rw [hc] at this
            exact (Option.some.inj this).symm
          subst this
          exact ⟨c', hc', cellK _ _ hv⟩
  · obtain ⟨v, z⟩ := I.cell x c (sub x c e)
    exact ⟨v, cellK c v z⟩
  · exact I.hok.fresh (Nat.le_refl _)
  · show (ix.map _).length = N'.length
    rw [List.length_map, hlen]

theorem Inv.letgo {pins : List (Addr × Obj)} {σ : St} {H : Hp} {s : Shared} {C : Addr} {h' : Heap} (I : Inv X pins σ H s) (f : FpOk X pins H C) (sb : Heap.SameBut C s.heap h') : Inv X pins σ H { s with heap := h' } := by
  have ne : ∀ b, b ∉ [C] → b ≠ C := fun b hb z => hb (by rw [z]; exact List.mem_singleton.mpr rfl)
  have U : Un (frs X.stack) [C] H H s.heap h' := ⟨fun b o e _ _ hx => (sb.2 b (ne b hx)).trans e, fun b o e _ _ hx => ⟨o.slots, (sb.2 b (ne b hx)).trans e⟩, fun _ _ _ n _ => n, fun b o e hx => ⟨o, (sb.2 b (ne b hx)).trans e⟩, fun _ _ z => z, fun _ _ _ z => z, fun _ ps z => ⟨#[], by rw [Array.append_empty]; exact z⟩⟩
  have hok : HOk X.prog X.w H h' := fun b ob e => by
    refine (I.hok b ob e).stay (fun c w' hc z => (sb.2 c ?_).trans z) (fun _ z => z) fun _ _ z => z
    rintro rfl
    rcases hc with rfl | hc
    · rw [f.1] at e; cases e
    · rw [f.1] at hc; cases hc
  exact I.call' (s' := { s with heap := h' }) (ch := [C]) rfl U hok I.bare (fun b hb => by
    obtain rfl := List.mem_singleton.mp hb
    exact ⟨f.2.2.2.1, f.2.1, f.2.2.2.2.1, f.2.2.2.2.2⟩)

theorem comp_core {ipos : Pos} {use : Option (Value → Sem Unit)} {QQ : Value → Shared → Prop} {pins : List (Addr × Obj)} {s : Shared} {σ : St} {H : Hp} {Q : VK} (hc : X.calm = true) (hkind : scope.kind = .function) (hcell : ∀ y ∈ scope.names, y.2 ≠ .cell) (hnames : ∀ y ∈ scope.names, y.2 = .local → scope.names.lookup y.1 = some .local)
    (hfr : ∀ y ∈ scope.names, y.2 = .free → X.env.kindOf y.1 = some .cell ∨ X.env.kindOf y.1 = some .free)
    (hclos : closureFor scope X.env = pure (clOf X.env scope.names []))
    (hlen : ix.length = N'.length)
    (hix : ∀ (i j : Nat) (x : Str), ix[i]? = some (some j) → N'[i]? = some x → X.N[j]? = some x ∧ scope.names.lookup x = some .free)
    (hi : PI X tg iter wi) (hg : ∀ C s H fp, PG (blk X N' scope C s H fp) tg g) (ht : ∀ C s H fp, PTs (blk X N' scope C s H fp) ifs tc) (he : ∀ C s H fp, PE (blk X N' scope C s H fp) elt te)
    (hs : ∀ x, foldedSetIterable iter X.env x = pure x) (I : Inv X pins σ H s) (h : tComp wi g tc te ix σ H Q)
    (post : ∀ (a C : Addr) (H' : Hp) (s6 : Shared) (m' : Str → Option Value), Inv X pins σ H' s6 → FpOk X pins H' C → s6.heap.Ns C m' → Q (.ref a) H' → compPost (model X.prog X.w) X.A X.xe use QQ (.ref a) C (.ok .next) s6) :
    wpAny (model X.prog X.w) X.A (comprehension (.ListComp elt [⟨tg, iter, ifs, 0⟩] scope pos) scope X.env ipos (newList []) false (eval iter X.env) use) QQ X.xe s := by
  refine wpAny_comprehension_free (use := use) rfl hs hclos hkind hnames ?_
  refine thn (hi pins s σ H _ I h) fun v s1 h1 => thn h1 fun itv s2 h2 => ?_
  obtain ⟨it, fp, tn, J, H2, e, I2, T, st2, f2, q2⟩ := h2
  subst e
  have hfresh : H2 s2.heap.objs.size = none := I2.hok.fresh (Nat.le_refl _)
  obtain ⟨W, ⟨m0, w0⟩, turn⟩ := q2 s2.heap.objs.size hfresh
  refine wpAny_newObj_type (wpAny_newFunctionEnv hcell (by intro y hy; simp at hy) (fun h₁ hns₁ hsb₁ => ?_) hkind)
  dsimp only at hns₁ hsb₁ ⊢
  generalize hP : s2.heap.push { cls := .type "list", dict := none, data := .seq ([] : List Value).toArray } = P3 at hns₁ hsb₁ ⊢
  have hPs : P3.objs.size = s2.heap.objs.size + 1 := by rw [← hP, Heap.size_push]
  have up3 : ∀ b o, s2.heap.get? b = some o → P3.get? b = some o := fun b o e => by rw [← hP]; exact Heap.get?_push_of_some _ e
  have I3 : Inv X pins σ (upd H2 s2.heap.objs.size (.lst [])) { s2 with heap := P3 } := by
    refine I2.laid (t' := s2.toks) up3 (Nat.le_refl _) ?_
    refine ⟨by show 0 ≤ sizeLine; exact Nat.zero_le _, [], 0, .nil, ?_⟩
    rw [← hP]
    exact Heap.get?_push_size _ rfl
  have old : ∀ b o, P3.get? b = some o → h₁.get? b = some o := fun b o e => hsb₁.extBut b o (Nat.ne_of_lt (Heap.lt_size e)) (Heap.get?_push_of_some _ e)
  have hob : ∀ b ∈ fp, ∃ o, P3.get? b = some o := fun b hb => by
    obtain ⟨o, ho, _⟩ := T.obj _ _ st2 b hb
    exact ⟨o, up3 b o ho⟩
  have f3 : ∀ b ∈ fp, FpOk X pins (upd H2 s2.heap.objs.size (.lst [])) b := fun b hb => by
    obtain ⟨o, ho, _⟩ := T.obj _ _ st2 b hb
    refine ⟨?_, (f2 b hb).2⟩
    rw [upd_ne (Nat.ne_of_lt (Heap.lt_size ho))]
    exact (f2 b hb).1
  have I4 := blk_start (t' := s2.toks + ([] : List (Str × Value)).length) (ix := ix) (N' := N') hkind hcell hfr hlen hix I3 f3 hob hns₁ old
  have st4 : tn 0 h₁ := T.keep _ _ _ st2 fun b hb o e => old b o (up3 b o e)
  -- the loop
  have fpok : ∀ {H' : Hp}, (∀ b ∈ fp, H' b = none) → ∀ b ∈ fp, FpOk (blk X N' scope P3.objs.size { s2 with heap := P3 } (upd H2 s2.heap.objs.size (.lst [])) fp) [] H' b := fun hn b hb => by
    obtain ⟨o, ho⟩ := hob b hb
    obtain ⟨_, f1, f2', f3', f4, f5⟩ := f3 b hb
    refine ⟨hn b hb, Nat.ne_of_lt (Heap.lt_size ho), fun hz => ?_, .inl hb, fun x c e => f4 x c (clOf_sub scope.names [] (fun _ _ z => by simp at z) e), fun p hp => absurd (show p ∈ ([] : List (Addr × Obj)) from hp) (by simp)⟩
    rcases List.mem_cons.mp (I3.stkSub b hz) with z | z
    · exact f1 z
    · exact f2' z
  have fin : ∀ {τ : St} {H' : Hp} {s6 : Shared}, Inv (blk X N' scope P3.objs.size { s2 with heap := P3 } (upd H2 s2.heap.objs.size (.lst [])) fp) [] τ H' s6 → Q (.ref s2.heap.objs.size) H' →
      compPost (model X.prog X.w) X.A X.xe use QQ (.ref s2.heap.objs.size) P3.objs.size (.ok .next) s6 := fun {τ H' s6} J q => by
    obtain ⟨m', hn', _⟩ := id J.loc
    have U0 : Un (frs X.stack) fp H2 (upd H2 s2.heap.objs.size (.lst [])) s2.heap P3 := Un.laid up3 (Nat.le_refl _) hfresh
    have U1 : Un (frs X.stack) fp H2 H' s2.heap s6.heap := U0.trans J.base
    exact post _ _ H' s6 m' (I2.call' (s' := s6) (ch := fp) J.os U1 J.hok J.bare (fun b hb => ⟨(f2 b hb).2.2.2.1, (f2 b hb).2.1, (f2 b hb).2.2.2.2.1, (f2 b hb).2.2.2.2.2⟩)) (I2.fpOk (by rw [hPs]; exact Nat.le_succ _) J.free) hn' q
  have loop : codeAny (model X.prog X.w) X.A (.compLoop (.ListComp elt [⟨tg, iter, ifs, 0⟩] scope pos) 0 (.ref it) (.ref s2.heap.objs.size) (compEnvC scope (clOf X.env scope.names []) P3.objs.size X.env))
      (compPost (model X.prog X.w) X.A X.xe use QQ (.ref s2.heap.objs.size) P3.objs.size) { s2 with heap := h₁, toks := s2.toks + ([] : List (Str × Value)).length } := by
    refine comp_loop (fun n s' => ∃ i τ ys H', Inv (blk X N' scope P3.objs.size { s2 with heap := P3 } (upd H2 s2.heap.objs.size (.lst [])) fp) [] τ H' s' ∧ tn i s'.heap ∧ (∀ b ∈ fp, H' b = none) ∧ W i n τ ys H') ?_ m0
      ⟨0, _, [], _, I4, st4, fun b hb => (f3 b hb).1, w0⟩
    rintro n s5 ⟨i, τ, ys, H5, I5, st5, fr5, w5⟩
    obtain ⟨hacc, alt⟩ := turn i n τ ys H5 w5
    rcases alt with ⟨stop, qn⟩ | ⟨go, hsz, step⟩
    · refine thn (T.done (blk X N' scope P3.objs.size { s2 with heap := P3 } (upd H2 s2.heap.objs.size (.lst [])) fp) rfl rfl rfl hc i [] s5 τ H5 (fun _ _ => False) I5 (fpok fr5) st5 stop) fun r s6 ⟨hr, I6⟩ => ?_
      subst hr
      exact fin I6 qn
    · refine thn (T.item (blk X N' scope P3.objs.size { s2 with heap := P3 } (upd H2 s2.heap.objs.size (.lst [])) fp) rfl rfl rfl hc i [] s5 τ H5 (fun _ _ => False) I5 (fpok fr5) st5 go) fun r s6 ⟨u, hr, h6⟩ => ?_
      subst hr
      refine thn h6 fun _ s7 ⟨x, H7, I7, r7, y7, st7, fr7⟩ => ?_
      have I7' := I7.pinned (fpok fr7) (T.obj _ _ st7)
      have again : ∀ {τ9 : St} {H9 : Hp} {s9 : Shared} {ys9 : List V} {m9 : Nat}, Inv (blk X N' scope P3.objs.size { s2 with heap := P3 } (upd H2 s2.heap.objs.size (.lst [])) fp) ([] ++ pinsAt fp s7.heap) τ9 H9 s9 → m9 < n → W (i + 1) m9 τ9 ys9 H9 →
          ∃ m, m < n ∧ ∃ i τ ys H', Inv (blk X N' scope P3.objs.size { s2 with heap := P3 } (upd H2 s2.heap.objs.size (.lst [])) fp) [] τ H' s9 ∧ tn i s9.heap ∧ (∀ b ∈ fp, H' b = none) ∧ W i m τ ys H' := fun {τ9 H9 s9 ys9 m9} I9 hm w9 => by
        refine ⟨m9, hm, i + 1, τ9, ys9, H9, I9.unpinned, T.keep _ _ _ st7 fun b hb o e => (I9.pin (b, o) (List.mem_append_right _ (List.mem_append_right _ (mem_pinsAt hb e)))).1, fun b hb => ?_, w9⟩
        obtain ⟨o, e, d⟩ := T.obj _ _ st7 b hb
        exact (I9.pin (b, o) (List.mem_append_right _ (List.mem_append_right _ (mem_pinsAt hb e)))).2.1
      refine thn (hg P3.objs.size _ _ fp _ s7 τ H7 x u _ I7' r7 (step x H7 y7)) fun _ s8 ⟨τ8, H8, I8, q8⟩ => ?_
      refine thn (ht P3.objs.size _ _ fp _ s8 τ8 H8 _ I8 q8) fun b s9 ⟨H9, I9, q9⟩ => ?_
      cases b with
      | false =>
        simp only [Bool.false_eq_true, if_false] at q9 ⊢
        obtain ⟨m9, hm, w9⟩ := q9
        exact again I9 hm w9
      | true =>
        simp only [if_true] at q9 ⊢
        refine thn (he P3.objs.size _ _ fp _ s9 τ8 H9 _ I9 q9) fun y s10 ⟨yv, H10, I10, r10, ha10, m10, hm, w10⟩ => ?_
        refine thn (mt_append (X := blk X N' scope P3.objs.size { s2 with heap := P3 } (upd H2 s2.heap.objs.size (.lst [])) fp) _ s10 τ8 H10 (.ref s2.heap.objs.size) [yv] (.ref s2.heap.objs.size) [y] (fun _ H11 => H11 = upd H10 s2.heap.objs.size (.lst (ys ++ [yv]))) I10 rfl (.cons r10 .nil)
          ⟨s2.heap.objs.size, ys, yv, rfl, rfl, ha10, hsz, rfl⟩) fun _ s11 ⟨_, H11, I11, _, e11⟩ => ?_
        subst e11
        exact again I11 hm w10
  exact codeAny_compStart_list loop (T.self _ 0 _ _ _ st4 loop)

theorem pe_comp (hc : X.calm = true) (hkind : scope.kind = .function) (hcell : ∀ y ∈ scope.names, y.2 ≠ .cell) (hnames : ∀ y ∈ scope.names, y.2 = .local → scope.names.lookup y.1 = some .local)
    (hfr : ∀ y ∈ scope.names, y.2 = .free → X.env.kindOf y.1 = some .cell ∨ X.env.kindOf y.1 = some .free)
    (hclos : closureFor scope X.env = pure (clOf X.env scope.names []))
    (hlen : ix.length = N'.length)
    (hix : ∀ (i j : Nat) (x : Str), ix[i]? = some (some j) → N'[i]? = some x → X.N[j]? = some x ∧ scope.names.lookup x = some .free)
    (hi : PI X tg iter wi) (hg : ∀ C s H fp, PG (blk X N' scope C s H fp) tg g) (ht : ∀ C s H fp, PTs (blk X N' scope C s H fp) ifs tc) (he : ∀ C s H fp, PE (blk X N' scope C s H fp) elt te)
    (hs : ∀ x, foldedSetIterable iter X.env x = pure x := by intro _; rfl) : PE X (.ListComp elt [⟨tg, iter, ifs, 0⟩] scope pos) (tComp wi g tc te ix) := by
  intro pins s σ H Q I h
  rw [eval_ListComp]
  show wpAny _ X.A (comprehension (.ListComp elt [⟨tg, iter, ifs, 0⟩] scope pos) scope X.env (firstIterPos [⟨tg, iter, ifs, 0⟩] pos) (newList []) false (eval iter X.env) none) _ _ s
  exact comp_core (ipos := firstIterPos [⟨tg, iter, ifs, 0⟩] pos) (use := none) (QQ := EP X pins σ Q) hc hkind hcell hnames hfr hclos hlen hix hi hg ht he hs I h fun a C H' s6 m' I6 f hn q => ⟨m', hn, fun h' sb => ⟨.ref a, H', I6.letgo f sb, rfl, q⟩⟩
/-- name = [..] -/
theorem ps_comp0 {i : Nat} {y : Str} {py spos : Pos} (hN : X.N.Nodup) (hiN : X.N[i]? = some y) (hy : Loc X.env.scope y) (hc : X.calm = true) (hkind : scope.kind = .function) (hcell : ∀ y ∈ scope.names, y.2 ≠ .cell) (hnames : ∀ y ∈ scope.names, y.2 = .local → scope.names.lookup y.1 = some .local)
    (hfr : ∀ y ∈ scope.names, y.2 = .free → X.env.kindOf y.1 = some .cell ∨ X.env.kindOf y.1 = some .free)
    (hclos : closureFor scope X.env = pure (clOf X.env scope.names []))
    (hlen : ix.length = N'.length)
    (hix : ∀ (i j : Nat) (x : Str), ix[i]? = some (some j) → N'[i]? = some x → X.N[j]? = some x ∧ scope.names.lookup x = some .free)
    (hi : PI X tg iter wi) (hg : ∀ C s H fp, PG (blk X N' scope C s H fp) tg g) (ht : ∀ C s H fp, PTs (blk X N' scope C s H fp) ifs tc) (he : ∀ C s H fp, PE (blk X N' scope C s H fp) elt te)
    (hsw : swapsWith (.ListComp elt [⟨tg, iter, ifs, 0⟩] scope pos) (some (.Name y py)) spos.line X.env = pure true := by rfl)
    (hs : ∀ x, foldedSetIterable iter X.env x = pure x := by intro _; rfl) (hf : X.fn y = true ∨ X.env.scope.names.lookup y = some .local := by first | exact .inl rfl | exact .inr rfl | assumption) :
    PS X (.Assign [.Name y py] (.ListComp elt [⟨tg, iter, ifs, 0⟩] scope pos) spos) (tAsg (tComp wi g tc te ix) (gName i)) := by
  intro pins s σ H D I h
  rw [exec_Assign_Name_used _ _ _ _ hsw]
  refine wpAny_bind (wpAny_standAt (wpAny_bind ?_))
  show wpAny _ X.A (do let _ ← comprehension (.ListComp elt [⟨tg, iter, ifs, 0⟩] scope pos) scope X.env (firstIterPos [⟨tg, iter, ifs, 0⟩] pos) (newList []) false (eval iter X.env) (some (assign (.Name y py) X.env))) _ _ s
  refine wpAny_bind (wpAny_mono (comp_core (ipos := firstIterPos [⟨tg, iter, ifs, 0⟩] pos) (use := some (assign (.Name y py) X.env)) (QQ := fun _ s' => SP X pins D .next s') hc hkind hcell hnames hfr hclos hlen hix hi hg ht he hs I h ?_) (fun _ s' hq => wpAny_pure (wpAny_pure hq)) fun _ _ e => e)
  intro a C H' s6 m' I6 f hn q
  refine wpAny_assign_Name (store_ok2 I6 hN hiN hy (v := .ref a) rfl (fun s7 I7 sb7 => ?_) hf)
  obtain ⟨b, sb, hb⟩ := sb7
  have hne : C ≠ b := by
    rcases hb with hb | hb
    · rw [hb]; exact f.2.1
    · exact (f.2.2.2.2.1 y b hb).symm
  exact ⟨m', hn.sameBut sb hne, fun h' sb' => ⟨_, H', I7.letgo f sb', q⟩⟩
end
end L2
end
section
set_option Elab.async false
set_option linter.all false
set_option maxRecDepth 100000
set_option maxHeartbeats 4000000
namespace L2
open PySem PySem.Spec PyProof.Rows

/-! ### the next item of a list's or a tuple's iterator (k: a list) -/
def ItAt (k : Bool) (h : Heap) (it a : Addr) (i : Nat) : Prop := match k with
  | true => h.IsListIter it a i
  | false => h.IsTupleIter it a i
def SeAt (k : Bool) (h : Heap) (a : Addr) (its : Array Value) : Prop := match k with
  | true => h.IsList a its
  | false => h.IsTuple a its
section
variable {prog : Program} {w : World} {A : Around} {E : Value → Shared → Prop} {s : Shared}
/-! ### zip of two -/
end
/-- zip(a, b), both tuples (of lists the library has it) -/
abbrev zH1 (h : Heap) (a : Addr) : Heap := h.push { cls := .type "tuple_iterator", data := .fields #[.ref a, .int 0 0] }
abbrev zH2 (h : Heap) (a b : Addr) : Heap := (zH1 h a).push { cls := .type "tuple_iterator", data := .fields #[.ref b, .int 0 0] }
abbrev zH3 (h : Heap) (a b : Addr) : Heap := (zH2 h a b).push { cls := .type "tuple", data := .seq #[.ref h.objs.size, .ref (zH1 h a).objs.size] }
abbrev zH4 (h : Heap) (a b : Addr) : Heap := (zH3 h a b).push { cls := .type "tuple", data := .seq #[.none, .none] }
abbrev zH5 (h : Heap) (a b : Addr) : Heap := (zH4 h a b).push { cls := .type "zip", data := .fields #[.none, .bool false, .bool false, .ref (zH2 h a b).objs.size, .ref (zH3 h a b).objs.size] }
/-! ### as things that a loop walks -/
def Sq (k : Bool) (K : PySem.W.Frag) (H : Hp) (a : Addr) (xs : List V) : Prop := match k with
  | true => SqL K H a xs
  | false => SqT K H a xs
/-- the pairs -/
def Itz (K : PySem.W.Frag) (k1 k2 : Bool) (a b : Addr) : It :=
  ⟨fun i H => ∃ xs ys x y, Sq k1 K H a xs ∧ Sq k2 K H b ys ∧ xs[i]? = some x ∧ ys[i]? = some y,
   fun i H v H' => ∃ p, H p = none ∧ v = .ref p ∧ ∀ xs ys, Sq k1 K H a xs → Sq k2 K H b ys → ∃ x y, xs[i]? = some x ∧ ys[i]? = some y ∧ H' = upd H p (.tup [x, y]),
   fun i H => ∃ xs ys, Sq k1 K H a xs ∧ Sq k2 K H b ys ∧ (xs.length ≤ i ∨ ys.length ≤ i)⟩
end L2
end
section
set_option Elab.async false
set_option linter.all false
set_option maxRecDepth 100000
set_option maxHeartbeats 4000000
namespace L2
open PySem PySem.Spec PyProof.Rows

section
variable {X : Cx}
/-! ### zip(a, b), enumerate(a) in a loop's head -/
def iZip (K : PySem.W.Frag) (ta : TA) : TI := fun σ H R => ta σ H fun vs H1 => ∃ k a b xs ys, vs = [.ref a, .ref b] ∧ Sq k K H1 a xs ∧ Sq k K H1 b ys ∧ R (Itz K k k a b) H1
/-! ### isinstance -/
/-- isinstance(x, T), T a built-in type -/
def rIsi (K : PySem.W.Frag) : List V → Hp → VK → Prop := fun xs H Q => ∃ x T t b, xs = [x, .ty T] ∧ TyOf K H x t ∧ PySem.W.kitOne K t (.type T) = some b ∧ Q (.bl b) H
/-- isinstance(x, (T, ..)) -/
def rIsiT (K : PySem.W.Frag) : List V → Hp → VK → Prop := fun xs H Q => ∃ (x : V) (p : Addr) (Ts : List String) (t : Value) (b : Bool), xs = [x, .ref p] ∧ SqT K H p (Ts.map V.ty) ∧ TyOf K H x t ∧ PySem.W.kitAny K t (Ts.map Value.type) = some b ∧ Q (.bl b) H
/-! ### sum, max, min of a list of ints -/
theorem call_sum (hc : X.calm = true) : CallR X (.builtin "sum") (fun xs H Q => ∃ (p : Addr) (ns : List Int), xs = [.ref p] ∧ SqL X.K H p (ns.map V.int) ∧ Q (.int ns.sum) H) := by
  intro pins s σ H xs us Q I r h
  obtain ⟨p, ns, rfl, hq, q⟩ := h
  obtain ⟨u, rfl, ru⟩ := vals1 r
  cases ru
  obtain ⟨its, rv, pl, _⟩ := I.list hq
  have hi := intsAre_of rv
  obtain ⟨ys, e⟩ := hi.allInts.items
  have hl := pl.isList
  rw [e] at hl
  refine sum_intListG (I.ok.hd hc) hl fun h' tk t' hk => ⟨.int ns.sum, H, I.kept hk, ⟨t', ?_⟩, q⟩
  have hns : ns = ys.toList.map (·.1) := by rw [← hi.numsOf, ← nums_intItems, ← e]
  rw [preSum_eq, List.take_of_length_le (by simp), hns]
theorem max_of_list (hc : X.calm = true) : CallR X (.builtin "max") (fun xs H Q => ∃ (p : Addr) (ns : List Int), xs = [.ref p] ∧ SqL X.K H p (ns.map V.int) ∧ 0 < ns.length ∧ ∀ M, M ∈ ns → (∀ a, a ∈ ns → a ≤ M) → Q (.int M) H) := by
  intro pins s σ H xs us Q I r h
  obtain ⟨p, ns, rfl, hq, hne, q⟩ := h
  obtain ⟨u, rfl, ru⟩ := vals1 r
  cases ru
  obtain ⟨its, rv, pl, _⟩ := I.list hq
  have hi := intsAre_of rv
  obtain ⟨ys, e⟩ := hi.allInts.items
  have hl := pl.isList
  rw [e] at hl
  have hns : ns = ys.toList.map (·.1) := by rw [← hi.numsOf, ← nums_intItems, ← e]
  have hsz : 0 < ys.size := by rw [hns, List.length_map, Array.length_toList] at hne; exact hne
  refine max_intList (I.ok.hd hc) hl hsz fun v h' tk hv hk => ?_
  obtain ⟨t, rfl⟩ := intItems_at hv
  obtain ⟨h1, h2⟩ := argBest_gt (numAt ys) (ys.size - 1)
  refine ⟨.int _, H, I.kept hk, ⟨t, rfl⟩, q _ ?_ fun a ha => ?_⟩
  · rw [hns, numAt_eq]; exact getD_mem (by rw [List.length_map, Array.length_toList]; (first | lia | omega))
  · rw [hns] at ha
    obtain ⟨j, hj, rfl⟩ := mem_getD ha
    rw [List.length_map, Array.length_toList] at hj
    rw [← numAt_eq]; exact h2 j (by (first | lia | omega))
theorem min_of_list (hc : X.calm = true) : CallR X (.builtin "min") (fun xs H Q => ∃ (p : Addr) (ns : List Int), xs = [.ref p] ∧ SqL X.K H p (ns.map V.int) ∧ 0 < ns.length ∧ ∀ M, M ∈ ns → (∀ a, a ∈ ns → M ≤ a) → Q (.int M) H) := by
  intro pins s σ H xs us Q I r h
  obtain ⟨p, ns, rfl, hq, hne, q⟩ := h
  obtain ⟨u, rfl, ru⟩ := vals1 r
  cases ru
  obtain ⟨its, rv, pl, _⟩ := I.list hq
  have hi := intsAre_of rv
  obtain ⟨ys, e⟩ := hi.allInts.items
  have hl := pl.isList
  rw [e] at hl
  have hns : ns = ys.toList.map (·.1) := by rw [← hi.numsOf, ← nums_intItems, ← e]
  have hsz : 0 < ys.size := by rw [hns, List.length_map, Array.length_toList] at hne; exact hne
  refine min_intList (I.ok.hd hc) hl hsz fun v h' tk hv hk => ?_
  obtain ⟨t, rfl⟩ := intItems_at hv
  obtain ⟨h1, h2⟩ := argBest_lt (numAt ys) (ys.size - 1)
  refine ⟨.int _, H, I.kept hk, ⟨t, rfl⟩, q _ ?_ fun a ha => ?_⟩
  · rw [hns, numAt_eq]; exact getD_mem (by rw [List.length_map, Array.length_toList]; (first | lia | omega))
  · rw [hns] at ha
    obtain ⟨j, hj, rfl⟩ := mem_getD ha
    rw [List.length_map, Array.length_toList] at hj
    rw [← numAt_eq]; exact h2 j (by (first | lia | omega))
/-! ### == and != of lists and tuples -/
/-- how two things compare (n deep) -/
inductive EqD (K : PySem.W.Frag) (H : Hp) : Nat → V → V → Bool → Prop
  | flat {x y : V} (fx : flatV x = true) (fy : flatV y = true) : EqD K H 0 x y (eqV x y)
  | tup {n : Nat} {a b : Addr} {xs ys : List V} {e : Nat → Bool} (ha : SqT K H a xs) (hb : SqT K H b ys) (h : ∀ (j : Nat) x y, xs[j]? = some x → ys[j]? = some y → EqD K H n x y (e j)) :
      EqD K H (n + 1) (.ref a) (.ref b) ((List.range (min xs.length ys.length)).all e && xs.length == ys.length)
  | lst {n : Nat} {a b : Addr} {xs ys : List V} {e : Nat → Bool} (ha : SqL K H a xs) (hb : SqL K H b ys) (hl : xs.length = ys.length) (h : ∀ (j : Nat) x y, xs[j]? = some x → ys[j]? = some y → EqD K H n x y (e j)) :
      EqD K H (n + 1) (.ref a) (.ref b) ((List.range xs.length).all e)
  | len {n : Nat} {a b : Addr} {xs ys : List V} (ha : SqL K H a xs) (hb : SqL K H b ys) (hl : xs.length ≠ ys.length) : EqD K H (n + 1) (.ref a) (.ref b) false
theorem all_range {n : Nat} {e : Nat → Bool} (h : ∀ j, j < n → e j = true) : (List.range n).all e = true := List.all_eq_true.mpr fun j hj => h j (List.mem_range.mp hj)
theorem EqD.same {pins : List (Addr × Obj)} {σ : St} {H : Hp} {s : Shared} (I : Inv X pins σ H s) {n : Nat} {x y : V} {b : Bool} (h : EqD X.K H n x y b) : x = y → b = true := by
  induction h with
  | @flat x y fx fy =>
    rintro rfl
    cases x <;> first | rfl | exact beq_self_eq_true _ | exact absurd (show false = true from fx) Bool.false_ne_true
  | @tup n a b xs ys e ha hb h ih =>
    intro z
    cases z
    have q := I.tuple_inj ha hb
    subst q
    rw [Bool.and_eq_true]
    refine ⟨all_range fun j hj => ?_, beq_self_eq_true _⟩
    have hj' : j < xs.length := by (first | lia | omega)
    exact ih j xs[j] xs[j] (List.getElem?_eq_getElem hj') (List.getElem?_eq_getElem hj') rfl
  | @lst n a b xs ys e ha hb hl h ih =>
    intro z
    cases z
    have q := I.list_inj ha hb
    subst q
    refine all_range fun j hj => ?_
    exact ih j xs[j] xs[j] (List.getElem?_eq_getElem hj) (List.getElem?_eq_getElem hj) rfl
  | @len n a b xs ys ha hb hl =>
    intro z
    cases z
    exact absurd (congrArg List.length (I.list_inj ha hb)) hl
theorem Vals.at {xs : List V} {us : List Value} (r : Vals xs us) {j : Nat} (h : j < us.length) : ∃ x, xs[j]? = some x ∧ RelV x us[j] := by
  have h' : j < xs.length := by rw [r.length]; exact h
  obtain ⟨u, e, q⟩ := r.get (List.getElem?_eq_getElem h')
  rw [List.getElem?_eq_getElem h] at e
  cases e
  exact ⟨_, List.getElem?_eq_getElem h', q⟩
theorem EqD.at {pins : List (Addr × Obj)} {σ : St} {H : Hp} {s : Shared} (I : Inv X pins σ H s) {n : Nat} {x y : V} {b : Bool} (h : EqD X.K H n x y b) :
    ∀ {A : Around} {u v : Value}, RelV x u → RelV y v → A.units + n < cLine → SeqAt.EqAt A s u v b := by
  induction h with
  | @flat x y fx fy => intro A u v rx ry _; exact eqAt_V rx ry fx fy
  | @tup n a b xs ys e ha hb h ih =>
    intro A u v rx ry hu
    cases rx
    cases ry
    by_cases hab : a = b
    · have z := (EqD.tup (n := n) ha hb h).same I (by rw [hab])
      rw [z, hab]
      exact SeqAt.EqAt.same _
    · obtain ⟨ia, ra, pa, _⟩ := I.tuple ha
      obtain ⟨ib, rb, pb, _⟩ := I.tuple hb
      have q := SeqAt.RcAt.tuples (A := A) (e := e) (show s.heap.IsTuple a ia.toArray from pa) (show s.heap.IsTuple b ib.toArray from pb) (by (first | lia | omega)) fun j h1 h2 => by
        have h1' : j < ia.length := by simpa using h1
        have h2' : j < ib.length := by simpa using h2
        obtain ⟨x, ex, rx⟩ := ra.at h1'
        obtain ⟨y, ey, ry⟩ := rb.at h2'
        have := ih j x y ex ey (A := A.in1) (u := ia[j]) (v := ib[j]) rx ry (by show A.units + 1 + n < cLine; (first | lia | omega))
        simpa using this
      have la := ra.length
      have lb := rb.length
      have q' := SeqAt.EqAt.of_refs hab q
      simpa [la, lb] using q'
  | @lst n a b xs ys e ha hb hl h ih =>
    intro A u v rx ry hu
    cases rx
    cases ry
    by_cases hab : a = b
    · have z := (EqD.lst (n := n) ha hb hl h).same I (by rw [hab])
      rw [z, hab]
      exact SeqAt.EqAt.same _
    · obtain ⟨ia, ra, pa, _⟩ := I.list ha
      obtain ⟨ib, rb, pb, _⟩ := I.list hb
      have la := ra.length
      have lb := rb.length
      have q := SeqAt.RcAt.lists (A := A) (e := e) pa.isList pb.isList (by simp; (first | lia | omega)) (by (first | lia | omega)) fun j h1 h2 => by
        have h1' : j < ia.length := by simpa using h1
        have h2' : j < ib.length := by simpa using h2
        obtain ⟨x, ex, rx⟩ := ra.at h1'
        obtain ⟨y, ey, ry⟩ := rb.at h2'
        have := ih j x y ex ey (A := A.in1) (u := ia[j]) (v := ib[j]) rx ry (by show A.units + 1 + n < cLine; (first | lia | omega))
        simpa using this
      have q' := SeqAt.EqAt.of_refs hab q
      simpa [la, lb] using q'
  | @len n a b xs ys ha hb hl =>
    intro A u v rx ry hu
    cases rx
    cases ry
    have hab : a ≠ b := fun z => by subst z; exact hl (congrArg List.length (I.list_inj ha hb))
    obtain ⟨ia, ra, pa, _⟩ := I.list ha
    obtain ⟨ib, rb, pb, _⟩ := I.list hb
    have la := ra.length
    have lb := rb.length
    exact SeqAt.EqAt.of_refs hab (SeqAt.RcAt.lists_lengths pa.isList pb.isList (by simp; (first | lia | omega)) (by (first | lia | omega)))
def rEqD (K : PySem.W.Frag) (neg : Bool) : R2 := fun x y H Q => ∃ n b, EqD K H (n + 1) x y b ∧ n ≤ 50 ∧ Q (.bl (if neg then !b else b)) H
theorem op_eqD {k : Nat} (hr : Room k X.A) : OpR X (compareOp .Eq) (rEqD X.K false) := by
  intro pins s σ H x y v u Q I rx ry h
  obtain ⟨n, b, h, hn, q⟩ := h
  have hu := hr.units
  have fin : ∀ {b : Bool} {u v : Value}, SeqAt.RcAt X.A s u v b → Q (.bl b) H → wpAny (model X.prog X.w) X.A (compareOp .Eq u v) (EP X pins σ Q) X.xe s := fun {b _ _} z q => z _ _ _ _ ⟨.bl b, H, I, rfl, q⟩
  cases h with
  | @tup n a b xs ys e ha hb h =>
    cases rx
    cases ry
    obtain ⟨ia, ra, pa, _⟩ := I.tuple ha
    obtain ⟨ib, rb, pb, _⟩ := I.tuple hb
    have la := ra.length
    have lb := rb.length
    refine fin (SeqAt.RcAt.tuples (A := X.A) (e := e) (show s.heap.IsTuple a ia.toArray from pa) (show s.heap.IsTuple b ib.toArray from pb) (by (first | lia | omega)) fun j h1 h2 => ?_) (by simpa [la, lb] using q)
    have h1' : j < ia.length := by simpa using h1
    have h2' : j < ib.length := by simpa using h2
    obtain ⟨x, ex, rx⟩ := ra.at h1'
    obtain ⟨y, ey, ry⟩ := rb.at h2'
    have := (h j x y ex ey).at I (A := X.A.in1) (u := ia[j]) (v := ib[j]) rx ry (by show X.A.units + 1 + n < cLine; (first | lia | omega))
    simpa using this
  | @lst n a b xs ys e ha hb hl h =>
    cases rx
    cases ry
    obtain ⟨ia, ra, pa, _⟩ := I.list ha
    obtain ⟨ib, rb, pb, _⟩ := I.list hb
    have la := ra.length
    have lb := rb.length
    refine fin (SeqAt.RcAt.lists (A := X.A) (e := e) pa.isList pb.isList (by simp; (first | lia | omega)) (by (first | lia | omega)) fun j h1 h2 => ?_) (by simpa [la, lb] using q)
    have h1' : j < ia.length := by simpa using h1
    have h2' : j < ib.length := by simpa using h2
    obtain ⟨x, ex, rx⟩ := ra.at h1'
    obtain ⟨y, ey, ry⟩ := rb.at h2'
    have := (h j x y ex ey).at I (A := X.A.in1) (u := ia[j]) (v := ib[j]) rx ry (by show X.A.units + 1 + n < cLine; (first | lia | omega))
    simpa using this
  | @len n a b xs ys ha hb hl =>
    cases rx
    cases ry
    obtain ⟨ia, ra, pa, _⟩ := I.list ha
    obtain ⟨ib, rb, pb, _⟩ := I.list hb
    have la := ra.length
    have lb := rb.length
    exact fin (SeqAt.RcAt.lists_lengths pa.isList pb.isList (by simp; (first | lia | omega)) (by (first | lia | omega))) (by simpa using q)
theorem op_neD {k : Nat} (hr : Room k X.A) : OpR X (compareOp .NotEq) (rEqD X.K true) := by
  intro pins s σ H x y v u Q I rx ry h
  obtain ⟨n, b, h, hn, q⟩ := h
  have hu := hr.units
  have fin : ∀ {b : Bool} {u v : Value}, SeqAt.RcNeAt X.A s u v b → Q (.bl b) H → wpAny (model X.prog X.w) X.A (compareOp .NotEq u v) (EP X pins σ Q) X.xe s := fun {b _ _} z q => z _ _ _ _ ⟨.bl b, H, I, rfl, q⟩
  cases h with
  | @tup n a b xs ys e ha hb h =>
    cases rx
    cases ry
    obtain ⟨ia, ra, pa, _⟩ := I.tuple ha
    obtain ⟨ib, rb, pb, _⟩ := I.tuple hb
    have la := ra.length
    have lb := rb.length
    refine fin (SeqAt.RcNeAt.tuples (A := X.A) (e := e) (show s.heap.IsTuple a ia.toArray from pa) (show s.heap.IsTuple b ib.toArray from pb) (by (first | lia | omega)) fun j h1 h2 => ?_) (by simpa [la, lb] using q)
    have h1' : j < ia.length := by simpa using h1
    have h2' : j < ib.length := by simpa using h2
    obtain ⟨x, ex, rx⟩ := ra.at h1'
    obtain ⟨y, ey, ry⟩ := rb.at h2'
    have := (h j x y ex ey).at I (A := X.A.in1) (u := ia[j]) (v := ib[j]) rx ry (by show X.A.units + 1 + n < cLine; (first | lia | omega))
    simpa using this
  | @lst n a b xs ys e ha hb hl h =>
    cases rx
    cases ry
    obtain ⟨ia, ra, pa, _⟩ := I.list ha
    obtain ⟨ib, rb, pb, _⟩ := I.list hb
    have la := ra.length
    have lb := rb.length
    refine fin (SeqAt.RcNeAt.lists (A := X.A) (e := e) pa.isList pb.isList (by simp; (first | lia | omega)) (by (first | lia | omega)) fun j h1 h2 => ?_) (by simpa [la, lb] using q)
    have h1' : j < ia.length := by simpa using h1
    have h2' : j < ib.length := by simpa using h2
    obtain ⟨x, ex, rx⟩ := ra.at h1'
    obtain ⟨y, ey, ry⟩ := rb.at h2'
    have := (h j x y ex ey).at I (A := X.A.in1) (u := ia[j]) (v := ib[j]) rx ry (by show X.A.units + 1 + n < cLine; (first | lia | omega))
    simpa using this
  | @len n a b xs ys ha hb hl =>
    cases rx
    cases ry
    obtain ⟨ia, ra, pa, _⟩ := I.list ha
    obtain ⟨ib, rb, pb, _⟩ := I.list hb
    have la := ra.length
    have lb := rb.length
    exact fin (SeqAt.RcNeAt.lists_lengths pa.isList pb.isList (by simp; (first | lia | omega)) (by (first | lia | omega))) (by simpa using q)
end
/-- lists of ints -/
theorem EqD.ints {K : PySem.W.Frag} {H : Hp} {a b : Addr} {ns ms : List Int} (ha : SqL K H a (ns.map V.int)) (hb : SqL K H b (ms.map V.int)) : EqD K H 1 (.ref a) (.ref b) (decide (ns = ms)) := by
  by_cases hl : ns.length = ms.length
  · have q := EqD.lst (n := 0) (e := fun j => ns.getD j 0 == ms.getD j 0) ha hb (by simpa using hl) fun j x y ex ey => by
      rw [List.getElem?_map] at ex ey
      cases e1 : ns[j]? with
      | none => rw [e1] at ex; cases ex
      | some i =>
        cases e2 : ms[j]? with
        | none => rw [e2] at ey; cases ey
        | some i' =>
          rw [e1] at ex; rw [e2] at ey
          cases ex; cases ey
          have z := EqD.flat (K := K) (H := H) (x := V.int i) (y := V.int i') rfl rfl
          have z2 : (ns.getD j 0 == ms.getD j 0) = eqV (V.int i) (V.int i') := by rw [List.getD_eq_getElem?_getD, List.getD_eq_getElem?_getD, e1, e2]; rfl
          rw [z2]
          exact z
    have e : (List.range (ns.map V.int).length).all (fun j => ns.getD j 0 == ms.getD j 0) = decide (ns = ms) := by
      rw [List.length_map, Bool.eq_iff_iff, decide_eq_true_iff, List.all_eq_true]
      constructor
      · intro h
        refine List.ext_getElem hl fun j h1 h2 => ?_
        have := h j (List.mem_range.mpr h1)
        rw [List.getD_eq_getElem?_getD, List.getD_eq_getElem?_getD, List.getElem?_eq_getElem h1, List.getElem?_eq_getElem h2] at this
        simpa using this
      · rintro rfl j _
        exact beq_self_eq_true _
    rw [← e]
    exact q
  · have q := EqD.len (n := 0) ha hb (by simpa using hl)
    rw [decide_eq_false (fun z => hl (congrArg List.length z))]
    exact q
section
variable {X : Cx} {a b c d : Expr} {ta tb tc td : TE} {pos : Pos}
/-! ### a op b op c op d -/
def tChain3 (r r' r'' : R2) (ta tb tc td : TE) : TE := fun σ H Q => ta σ H fun x H1 => tb σ H1 fun y H2 => r x y H2 fun z H3 => ∃ k, z = .bl k ∧
  (if k = true then tc σ H3 fun w' H4 => r' y w' H4 fun z' H5 => ∃ k', z' = .bl k' ∧ (if k' = true then td σ H5 fun w'' H6 => r'' w' w'' H6 Q else Q (.bl false) H5) else Q (.bl false) H3)
end
end L2
end
section
set_option Elab.async false
set_option linter.all false
set_option maxRecDepth 100000
set_option maxHeartbeats 4000000
namespace L2
open PySem PySem.Spec PyProof.Rows

/-! ### a def as its callers know it -/
structure Def (P : Program) (w : World) (K : PySem.W.Frag) (mg : Str → Option Value) (base : Heap) (k : Nat) (x : Str) (ps : List Str) (sp : Sp) : Prop where
  ex : ∃ (f : Addr) (fd : FuncData), FnOk P w K mg base CX0 k f fd ps sp ∧ Binds K fd ps [] ∧ PySem.W.keepIn K (.ref f) = true ∧ mg x = some (.ref f)
theorem Def.mono {P : Program} {w : World} {K : PySem.W.Frag} {mg : Str → Option Value} {base : Heap} {j k : Nat} {x : Str} {ps : List Str} {sp : Sp} (D : Def P w K mg base j x ps sp) (h : j ≤ k) : Def P w K mg base k x ps sp := by
  obtain ⟨f, fd, F, b, kp, m⟩ := D.ex
  exact ⟨f, fd, F.mono h, b, kp, m⟩
theorem pe_def {X : Cx} {k : Nat} {x : Str} {ps : List Str} {sp : Sp} {p pos : Pos} {e : Expr} {es : List Expr} {t : TA} (D : Def X.prog X.w X.K X.mg X.base k x ps sp) (hr : Room k X.A) (hg : Gl X x) (ha : PA X (e :: es) t)
    (hdb : (x == ("__debug__" : Str)) = false := by decide) (he : starEach (e :: es) X.env = (false, eval e X.env) :: starEach es X.env := by rfl) (hpl : (backTo pos (starEach es X.env)).any (·.1) = false := by rfl) : PE X (.Call (.Name x p) (e :: es) [] pos) (tCall sp [] E0 t) := by
  obtain ⟨f, fd, F, b, kp, m⟩ := D.ex
  exact pe_call F hr hg m kp b .nil pass0 ha hdb he hpl
/-- names that the text leaves to the built-ins -/
structure Blt (mg : Str → Option Value) : Prop where
  len_ : mg "len" = none
  range_ : mg "range" = none
  isinstance_ : mg "isinstance" = none
  int_ : mg "int" = none
  bool_ : mg "bool" = none
  tuple_ : mg "tuple" = none
  list_ : mg "list" = none
  sum_ : mg "sum" = none
  abs_ : mg "abs" = none
  min_ : mg "min" = none
  max_ : mg "max" = none
  zip_ : mg "zip" = none
  enumerate_ : mg "enumerate" = none
  all_ : mg "all" = none
  str_ : mg "str" = none

/-! ### a comprehension, its scope looked at by program -/
def okCell (ns : List (Str × NameKind)) : Bool := ns.all fun y => (y.2 != .cell) && (y.2 != .local || ns.lookup y.1 == some .local)
def okFree (fs ns : List (Str × NameKind)) : Bool := ns.all fun y => y.2 != .free || (fs.lookup y.1 == some .cell || fs.lookup y.1 == some .free)
def okIx (N XN : List Str) (ns : List (Str × NameKind)) (ix : List (Option Nat)) : Bool := (List.range ix.length).all fun i => match ix[i]?, N[i]? with
  | some (some j), some x => XN[j]? == some x && ns.lookup x == some .free
  | _, _ => true
theorem okIx_of {N XN : List Str} {ns : List (Str × NameKind)} {ix : List (Option Nat)} (h : okIx N XN ns ix = true) (i j : Nat) (x : Str) (h1 : ix[i]? = some (some j)) (h2 : N[i]? = some x) : XN[j]? = some x ∧ ns.lookup x = some .free := by
  have hi : i < ix.length := by
    obtain ⟨q, _⟩ := List.getElem?_eq_some_iff.mp h1
    exact q
  have q := List.all_eq_true.mp h i (List.mem_range.mpr hi)
  rw [h1, h2] at q
  simp only [Bool.and_eq_true, beq_iff_eq] at q
  exact q
section
variable {X : Cx} {elt tg iter : Expr} {ifs : List Expr} {scope : Scope} {pos : Pos} {wi : TI} {g : TG} {tc : TT} {te : TE} {N' : List Str} {ix : List (Option Nat)}
theorem pe_lc (hc : X.calm = true) (hkind : scope.kind = .function) (h1 : okCell scope.names = true) (h2 : okFree X.env.scope.names scope.names = true)
    (hclos : closureFor scope X.env = pure (clOf X.env scope.names [])) (hlen : ix.length = N'.length) (h3 : okIx N' X.N scope.names ix = true)
    (hi : PI X tg iter wi) (hg : ∀ C s H fp, PG (blk X N' scope C s H fp) tg g) (ht : ∀ C s H fp, PTs (blk X N' scope C s H fp) ifs tc) (he : ∀ C s H fp, PE (blk X N' scope C s H fp) elt te)
    (hs : ∀ x, foldedSetIterable iter X.env x = pure x := by intro _; rfl) : PE X (.ListComp elt [⟨tg, iter, ifs, 0⟩] scope pos) (tComp wi g tc te ix) := by
  refine pe_comp hc hkind (fun y hy => ?_) (fun y hy hl => ?_) (fun y hy hf => ?_) hclos hlen (okIx_of h3) hi hg ht he hs
  · have q := List.all_eq_true.mp h1 y hy
    simp only [Bool.and_eq_true, bne_iff_ne, ne_eq] at q
    exact q.1
  · have q := List.all_eq_true.mp h1 y hy
    rw [hl] at q
    simp only [Bool.and_eq_true, Bool.or_eq_true, bne_self_eq_false, Bool.false_eq_true, false_or, beq_iff_eq] at q
    exact q.2
  · have q := List.all_eq_true.mp h2 y hy
    rw [hf] at q
    simp only [Bool.or_eq_true, bne_self_eq_false, Bool.false_eq_true, false_or, beq_iff_eq] at q
    exact q
/-- name = [..], the name not used in a block -/
theorem ps_lc {i : Nat} {y : Str} {py spos : Pos} (hN : X.N.Nodup) (hiN : X.N[i]? = some y) (hy : Loc X.env.scope y) (hc : X.calm = true) (hkind : scope.kind = .function) (h1 : okCell scope.names = true) (h2 : okFree X.env.scope.names scope.names = true)
    (hclos : closureFor scope X.env = pure (clOf X.env scope.names [])) (hlen : ix.length = N'.length) (h3 : okIx N' X.N scope.names ix = true)
    (hi : PI X tg iter wi) (hg : ∀ C s H fp, PG (blk X N' scope C s H fp) tg g) (ht : ∀ C s H fp, PTs (blk X N' scope C s H fp) ifs tc) (he : ∀ C s H fp, PE (blk X N' scope C s H fp) elt te)
    (hsw : swapsWith (.ListComp elt [⟨tg, iter, ifs, 0⟩] scope pos) (some (.Name y py)) spos.line X.env = pure true := by rfl)
    (hs : ∀ x, foldedSetIterable iter X.env x = pure x := by intro _; rfl) (hf : X.fn y = true ∨ X.env.scope.names.lookup y = some .local := by first | exact .inl rfl | exact .inr rfl | assumption) :
    PS X (.Assign [.Name y py] (.ListComp elt [⟨tg, iter, ifs, 0⟩] scope pos) spos) (tAsg (tComp wi g tc te ix) (gName i)) := by
  refine ps_comp0 hN hiN hy hc hkind (fun y hy => ?_) (fun y hy hl => ?_) (fun y hy hf => ?_) hclos hlen (okIx_of h3) hi hg ht he hsw hs hf
  · have q := List.all_eq_true.mp h1 y hy
    simp only [Bool.and_eq_true, bne_iff_ne, ne_eq] at q
    exact q.1
  · have q := List.all_eq_true.mp h1 y hy
    rw [hl] at q
    simp only [Bool.and_eq_true, Bool.or_eq_true, bne_self_eq_false, Bool.false_eq_true, false_or, beq_iff_eq] at q
    exact q.2
  · have q := List.all_eq_true.mp h2 y hy
    rw [hf] at q
    simp only [Bool.or_eq_true, bne_self_eq_false, Bool.false_eq_true, false_or, beq_iff_eq] at q
    exact q
end

/-! ### short words for readings -/
theorem ifD {c A B : Prop} {_ : Decidable c} (h1 : c → A) (h2 : ¬ c → B) : if decide c = true then A else B := by
  by_cases h : c
  · rw [if_pos (decide_eq_true h)]; exact h1 h
  · rw [if_neg (by rw [decide_eq_true_iff]; exact h)]; exact h2 h
theorem ifN {c A B : Prop} {_ : Decidable c} (h1 : ¬ c → A) (h2 : c → B) : if (!decide c) = true then A else B := by
  by_cases h : c
  · rw [decide_eq_true h]; exact iteF (h2 h)
  · rw [decide_eq_false h]; exact iteT (h1 h)
theorem dec_ints {i j : Int} : decide (V.int i = V.int j) = decide (i = j) := by
  by_cases h : i = j
  · subst h; simp
  · rw [decide_eq_false h, decide_eq_false (fun z => h (V.int.inj z))]
theorem ifI {i j : Int} {A B : Prop} (h1 : i = j → A) (h2 : i ≠ j → B) : if decide (V.int i = V.int j) = true then A else B := by
  rw [dec_ints]; exact ifD h1 h2
theorem ifIN {i j : Int} {A B : Prop} (h1 : i ≠ j → A) (h2 : i = j → B) : if (!decide (V.int i = V.int j)) = true then A else B := by
  rw [dec_ints]; exact ifN h1 h2
theorem Same.new {H : Hp} {p : Addr} (h : H p = none) (o : HO) : Same H (upd H p o) := fun b u q => by rw [upd_ne (ne_of_none q h)]; exact q
/-- an own list is changed: what was there ahead of it stays -/
theorem Same.upd {H H' : Hp} {p : Addr} {o : HO} (e : Same H H') (h : H p = none) : Same H (upd H' p o) := fun b u q => by rw [upd_ne (ne_of_none q h)]; exact e b u q
theorem atI_ok {ns : List Int} {k : Int} (h0 : 0 ≤ k) (h : k < (ns.length : Int)) : atI (ns.map V.int) k = some (.int (ns.getD k.toNat 0)) := by
  have hk : k.toNat < ns.length := by (first | lia | omega)
  have ek : k = ((k.toNat : Nat) : Int) := by (first | lia | omega)
  have q : atI (ns.map V.int) ((k.toNat : Nat) : Int) = some (.int (ns.getD k.toNat 0)) := atI_nat (by rw [List.getElem?_map, List.getElem?_eq_getElem hk, List.getD_eq_getElem?_getD, List.getElem?_eq_getElem hk] <;> rfl)
  rw [← ek] at q
  exact q
theorem cPow {i j : Int} (h : (decide (0 ≤ j) && (decide (j ≤ 1000000) && decide (i.natAbs < 2 ^ 64))) = true) : CPow i j := by
  simp only [Bool.and_eq_true, decide_eq_true_eq] at h
  exact h
theorem cDiv {i j : Int} (h : (decide (0 < j) && decide (j < 1073741824)) = true) : CDiv i j := by
  simp only [Bool.and_eq_true, decide_eq_true_eq] at h
  exact h
theorem cMulL {i j : Int} (h : (decide (-(2 ^ 64) < i) && decide (i < 2 ^ 64)) = true) : CMul i j := by
  simp only [Bool.and_eq_true, decide_eq_true_eq] at h
  exact .inl h
theorem cMulR {i j : Int} (h : (decide (-(2 ^ 64) < j) && decide (j < 2 ^ 64)) = true) : CMul i j := by
  simp only [Bool.and_eq_true, decide_eq_true_eq] at h
  exact .inr h
theorem cPos {j : Int} (h : decide (0 < j) = true) : 0 < j := of_decide_eq_true h
/-- a cut behind a statement: what holds there -/
theorem seqU {t u : TS} {D : Ends} {σ : St} {H : Hp} (I : St → Hp → Prop) (tail : ∀ σ' H', I σ' H' → u D σ' H') (h : ∀ R : St → Hp → Prop, (∀ σ' H', I σ' H' → R σ' H') → t { D with nx := R } σ H) : tSeq t u D σ H := h (u D) tail
/-- an if without an else: what holds behind it, both ways -/
theorem ifJ {c : Prop} {_ : Decidable c} {t : TS} {D : Ends} {σ : St} {H : Hp} (I : St → Hp → Prop) (tail : ∀ σ' H', I σ' H' → D.nx σ' H') (h0 : ¬ c → I σ H) (hA : ∀ R : St → Hp → Prop, (∀ σ' H', I σ' H' → R σ' H') → c → t { D with nx := R } σ H) :
    if decide c = true then t D σ H else tNext D σ H := by
  by_cases h : c
  · rw [if_pos (decide_eq_true h)]; exact hA D.nx tail h
  · rw [if_neg (by rw [decide_eq_true_iff]; exact h)]; exact tail _ _ (h0 h)
theorem pick {ns : List Int} {k : Int} (h0 : 0 ≤ k) (h : k < (ns.length : Int)) : ∃ d, d ∈ ns ∧ atI (ns.map V.int) k = some (.int d) := by
  refine ⟨_, ?_, atI_ok h0 h⟩
  have hk : k.toNat < ns.length := by (first | lia | omega)
  rw [List.getD_eq_getElem?_getD, List.getElem?_eq_getElem hk]
  exact List.getElem_mem hk
theorem mod_lt {a b : Int} (h : 0 < b) : 0 ≤ a % b ∧ a % b < b := ⟨Int.emod_nonneg a (by (first | lia | omega)), Int.emod_lt_of_pos a h⟩
theorem small {n : Nat} (h : n ≤ 100000) : n < sizeLine := Nat.lt_of_le_of_lt h (by decide)
/-! ### rules that name the written part, within a comprehension's block -/
section
variable {X : Cx} {N' : List Str} {scope : Scope} {C : Addr} {s : Shared} {H : Hp} {fp : List Addr} {pos : Pos}
theorem ix_listB : IxR (blk X N' scope C s H fp) (rIxL X.K) := ix_list
theorem call_len_seqB : CallR (blk X N' scope C s H fp) (.builtin "len") (fun xs H Q => ∃ p ys, xs = [.ref p] ∧ (SqL X.K H p ys ∨ SqT X.K H p ys) ∧ Q (.int ys.length) H) := call_len_seq
end
/-! ### isinstance of the built-in kinds -/
section
variable {K : PySem.W.Frag}
end
/-! ### a comprehension over a thing of n items -/
def Nx (n i : Nat) (P : Prop) : Prop := ∃ m', m' < n - i ∧ m' = n - (i + 1) ∧ i + 1 ≤ n ∧ P
theorem Nx.mk {n i : Nat} {P : Prop} (h : i < n) (p : P) : Nx n i P := ⟨n - (i + 1), by (first | lia | omega), rfl, h, p⟩
theorem comp_by {J : It} {n : Nat} {g : TG} {tc : TT} {te : TE} {τ0 : St} {H1 : Hp} {Q : VK} {acc : Addr} (Pv : Nat → St → List V → Hp → Prop) (h0 : Pv 0 τ0 [] (upd H1 acc (.lst []))) (hn : n ≤ 100000)
    (hacc : ∀ i τ zs H, Pv i τ zs H → H acc = some (.lst zs) ∧ zs.length ≤ i) (hgo : ∀ i τ zs H, i < n → Pv i τ zs H → J.go i H) (hstop : ∀ τ zs H, Pv n τ zs H → J.stop n H ∧ Q (.ref acc) H)
    (hs : ∀ i τ zs H x H', i < n → Pv i τ zs H → J.yld i H x H' → g x τ H' fun τ2 H2 => tc τ2 H2 fun b H3 => if b = true then te τ2 H3 fun y H4 => H4 acc = some (.lst zs) ∧ Nx n i (Pv (i + 1) τ2 (zs ++ [y]) (upd H4 acc (.lst (zs ++ [y])))) else Nx n i (Pv (i + 1) τ2 zs H3)) :
    CompW J g tc te τ0 H1 acc Q := by
  refine ⟨fun i m τ ys H => m = n - i ∧ i ≤ n ∧ Pv i τ ys H, ⟨n, by simp, Nat.zero_le _, h0⟩, ?_⟩
  rintro i m τ ys H ⟨rfl, hi, p⟩
  obtain ⟨ha, hl⟩ := hacc i τ ys H p
  refine ⟨ha, ?_⟩
  by_cases hlt : i < n
  · exact .inr ⟨hgo i τ ys H hlt p, small (by (first | lia | omega)), fun x H' y => hs i τ ys H x H' hlt p y⟩
  · have e : i = n := by (first | lia | omega)
    subst e
    exact .inl (hstop τ ys H p)
end L2
end
section
set_option Elab.async false
set_option linter.all false
set_option maxRecDepth 100000
set_option maxHeartbeats 4000000
namespace L2
open PySem PySem.Spec PyProof.Rows
/-! ### enumerate(a) in a loop's head -/
def Ite (K : PySem.W.Frag) (a : Addr) : It :=
  ⟨fun i H => ∃ xs x, SqL K H a xs ∧ xs[i]? = some x,
   fun i H v H' => ∃ p, H p = none ∧ v = .ref p ∧ ∀ xs, SqL K H a xs → ∃ x, xs[i]? = some x ∧ H' = upd H p (.tup [.int i, x]),
   fun i H => ∃ xs, SqL K H a xs ∧ xs.length ≤ i⟩
section
variable {X : Cx}
def iEnum (K : PySem.W.Frag) (ta : TA) : TI := fun σ H R => ta σ H fun vs H1 => ∃ a xs, vs = [.ref a] ∧ SqL K H1 a xs ∧ R (Ite K a) H1
end
end L2
end
section
set_option Elab.async false
set_option linter.all false
set_option maxRecDepth 100000
set_option maxHeartbeats 4000000
namespace L2
open PySem PySem.Spec PyProof.Rows
section
variable {X : Cx}
/-! ### xs.count(k) of a list of ints -/
def rCount (K : PySem.W.Frag) : V → List V → Hp → VK → Prop := fun x vs H Q => ∃ (p : Addr) (ns : List Int) (k : Int), x = .ref p ∧ vs = [.int k] ∧ SqL K H p (ns.map V.int) ∧ Q (.int (ns.count k : Nat)) H
/-! ### all(list of bools) -/
end
end L2
end
section
set_option Elab.async false
set_option linter.all false
set_option maxRecDepth 100000
set_option maxHeartbeats 4000000
namespace L2
open PySem PySem.Spec PyProof.Rows
/-! ### is, is not of bools -/
section
variable {X : Cx}
end
/-! ### range(a, b, -1) -/
/-- hi, hi - 1, .. (n of them) -/
def Itd (hi : Int) (n : Nat) : It := ⟨fun i _ => i < n, fun i H x H' => H' = H ∧ x = .int (hi - i), fun i _ => n ≤ i⟩
section
variable {X : Cx} {tg : Expr}
def iRng3 (ta : TA) : TI := fun σ H R => ta σ H fun vs H1 => ∃ i j : Int, vs = [.int i, .int j, .int (-1)] ∧ (-(2 ^ 62) ≤ i ∧ i < 2 ^ 62 ∧ -(2 ^ 62) ≤ j ∧ j < 2 ^ 62) ∧ R (Itd i (i - j).toNat) H1
end
end L2
end
section
set_option Elab.async false
set_option linter.all false
set_option maxRecDepth 100000
set_option maxHeartbeats 4000000
namespace L2
open PySem PySem.Spec PyProof.Rows PySem.W
section
variable {X : Cx} {e st : Expr} {te ts : TE} {pos p2 : Pos}
/-! ### xs[::-1] -/
def tRev (K : PySem.W.Frag) (te ts : TE) : TE := fun σ H Q => te σ H fun x H1 => ts σ H1 fun y H2 => ∃ a xs, x = .ref a ∧ y = .int (-1) ∧ SqL K H2 a xs ∧ ∀ p, H2 p = none → Q (.ref p) (upd H2 p (.lst xs.reverse))
end
section
variable {X : Cx}
/-! ### xs.insert(i, e) -/
def rInsert : V → List V → Hp → VK → Prop := fun x vs H Q => ∃ l xs i y, x = .ref l ∧ vs = [.int i, y] ∧ H l = some (.lst xs) ∧ 0 ≤ i ∧ i ≤ (xs.length : Int) ∧ xs.length < 100000 ∧ Q .non (upd H l (.lst (xs.take i.toNat ++ [y] ++ xs.drop i.toNat)))
end
end L2
end
section
set_option Elab.async false
set_option linter.all false
set_option maxRecDepth 100000
set_option maxHeartbeats 4000000
namespace L2
open PySem PySem.Spec PyProof.Rows PySem.W PySem.SeqAt
section
variable {X : Cx}
/-! ### xs.index(k) of a list of ints that has k -/
def rIndex (K : PySem.W.Frag) : V → List V → Hp → VK → Prop := fun x vs H Q => ∃ (p : Addr) (ns : List Int) (k : Int), x = .ref p ∧ vs = [.int k] ∧ SqL K H p (ns.map V.int) ∧ k ∈ ns ∧ ns.length ≤ 100000 ∧ Q (.int (ns.idxOf k : Nat)) H
end
/-! ### min(a, b, c) -/
section
variable {prog : Program} {w : World} {A : Around} {E : Value → Shared → Prop} {s : Shared}
end
section
variable {X : Cx}
end
end L2
end
section
set_option Elab.async false
set_option linter.all false
set_option maxRecDepth 100000
set_option maxHeartbeats 4000000
namespace L2
open PySem PySem.Spec PyProof.Rows PySem.W PySem.SeqAt

/-! ### exceptions: how one lies behind a call -/
/-- what an exception in flight leaves as it was -/
structure Aloft (P : Program) (w : World) (outer : List Env) (H : Hp) (s : Shared) (C : Value) (a : Addr) (a0 : Value) (B : Heap) (H' : Hp) (s' : Shared) : Prop where
  fl : Heap.FlyingW B outer a C a0 s'.heap
  os : s'.os = s.os
  bare : AllBare s'.gens
  hok : HOk P w H' B
  un : Un (frs outer) [] H H' s.heap s'.heap
  old : ∀ b o, s.heap.get? b = some o → H b = none → b ∉ frs outer → B.get? b = some o
  has : ∀ b o, s.heap.get? b = some o → b ∉ frs outer → ∃ o', B.get? b = some o'
  fresh : H' a = none ∧ a ∉ frs outer ∧ s.heap.get? a = none
def CXE (P : Program) (w : World) : CXT := fun outer H s E e s' => ∃ C a a0 B H', e = .ref a ∧ Aloft P w outer H s C a a0 B H' s' ∧ E C none H'

section
variable {P : Program} {w : World} {outer : List Env} {H H' : Hp} {s s' : Shared} {C a0 : Value} {a : Addr} {B : Heap}
end

section
variable {P : Program} {w : World} {K : PySem.W.Frag} {mg : Str → Option Value} {base : Heap} {N : List Str} {qual : Str} {scope : Scope} {f : Addr} {cd : Value} {A : Around} {outer : List Env} {s : Shared} {H : Hp} {E : XK}

end
end L2
end
section
set_option Elab.async false
set_option linter.all false
set_option maxRecDepth 100000
set_option maxHeartbeats 4000000
namespace L2
open PySem PySem.Spec PyProof.Rows PySem.W PySem.SeqAt PySem.Calls PySem.Builtin PySem.Builtin.ObjectAttr PySem.Builtin.Getset_descriptor

/-! ### raise C(..) -/
def Thr (X : Cx) (E : XK) : Prop := ∀ (pins : List (Addr × Obj)) (σ : St) (H1 : Hp) (s1 : Shared) (C : Value) (e : Addr) (vs : List Value) (h' : Heap), Inv X pins σ H1 s1 → Heap.MadeExcOf s1.heap h' e C vs → E C none H1 → X.xe (.ref e) { s1 with heap := h' }
def tRaise (C : Value) (E : XK) (t : TA) : TS := fun _ σ H => t σ H fun vs H1 => vs.length ≤ sizeLine ∧ E C none H1
/-! ### isinstance of a caught exception -/
structure ExK (K : PySem.W.Frag) (D : Addr) : Prop where
  get : findIn K (.ref D) "__getattribute__" = some (some (.builtin "BaseException.__getattribute__"))
  hok : findIn K (.ref D) "__getattr__" = some none
  bex : mroIn K D (.type "BaseException") = some true
  cls : (clsIn K D).isSome = true
  att : findIn K (.ref D) "__class__" = some (some (.builtin "object.__class__"))
  dsc : specialIn K (.builtin "object.__class__") "__get__" = some (some (.builtin "getset_descriptor.__get__"))
  tak : takesIn K (.builtin "object.__class__") = some true
  obj : mroIn K D (.type "object") = some true
def OfCls (x D : Addr) (h : Heap) : Prop := ∃ o, h.get? x = some o ∧ o.cls = .ref D
section
variable {prog : Program} {w : World} {A : Around} {E : Value → Shared → Prop} {s : Shared} {K : PySem.W.Frag} {x D : Addr}
end
/-- isinstance(e, C) of the caught one -/
def rIsE (K : PySem.W.Frag) (a : Addr) (t : Value) : List V → Hp → VK → Prop := fun xs H Q => ∃ (D : Addr) (c : V) (cv : Value) (b : Bool), t = .ref D ∧ ExK K D ∧ xs = [.ref a, c] ∧ ((∃ C, c = .ref C ∧ cv = .ref C) ∨ ∃ T, c = .ty T ∧ cv = .type T) ∧ PySem.W.kitOne K t cv = some b ∧ Q (.bl b) H
end L2
end
section
set_option Elab.async false
set_option linter.all false
set_option maxRecDepth 100000
set_option maxHeartbeats 4000000
namespace L2
open PySem PySem.Spec PyProof.Rows PySem.W PySem.SeqAt PySem.Calls

/-! ### try: .. except C as n: .. -/
/-- within the suite: the caught one is pinned -/
abbrev Cx.suite (X : Cx) (a : Addr) (o : Obj) (pins : List (Addr × Obj)) : Cx := { X with A := X.A.mark (some (.ref a)), calm := false, pn := (a, o) :: (X.pn ++ pins), xe := fun _ _ => False }
abbrev Cx.tried (X : Cx) (pins : List (Addr × Obj)) (E : Value → Shared → Prop) : Cx := { X with pn := X.pn ++ pins, xe := E }
section
variable {X : Cx} {pins : List (Addr × Obj)} {σ : St} {H : Hp} {s : Shared}
end

/-- behind the suite the name is gone -/
def goneD (i : Nat) (D : Ends) : Ends := { nx := fun σ H => D.nx (σ.set i none) H, rt := D.rt, bk := fun σ H => D.bk (σ.set i none) H, ct := fun σ H => D.ct (σ.set i none) H }
def tTry (K : PySem.W.Frag) (T : Value) (len i : Nat) (tb : XK → TS) (th : Addr → Value → TS) : TS := fun D σ H =>
  tb (fun C _ H' => PySem.W.exmOne K C T = some true ∧ ∀ (a : Addr) (σ' : St), H' a = none → σ'.length = len → th a C (goneD i D) (σ'.set i (some (.ref a))) H') D σ H
end L2
end
section
set_option Elab.async false
set_option linter.all false
set_option maxRecDepth 100000
set_option maxHeartbeats 4000000
namespace L2
open PySem PySem.Spec PyProof.Rows PySem.W PySem.SeqAt PySem.Calls

/-! ### defs that raise -/
structure DefE (P : Program) (w : World) (K : PySem.W.Frag) (mg : Str → Option Value) (base : Heap) (k : Nat) (x : Str) (ps : List Str) (sp : Sp) : Prop where
  ex : ∃ (f : Addr) (fd : FuncData), FnOk P w K mg base (CXE P w) k f fd ps sp ∧ Binds K fd ps [] ∧ PySem.W.keepIn K (.ref f) = true ∧ mg x = some (.ref f)
section
variable {P : Program} {w : World} {K : PySem.W.Frag} {mg : Str → Option Value} {base : Heap} {k : Nat} {f : Addr} {fd : FuncData} {ps : List Str}
end

/-! ### the classes of the text -/
def bmV : List Value := [.type "ValueError", .type "Exception", .type "BaseException", .type "object"]
/-- the nine names -/
structure Errs (mg : Str → Option Value) (T c1 c2 c3 c4 c5 c6 c7 c8 : Addr) : Prop where
  top : mg "TopError" = some (.ref T)
  n1 : mg "NoStretch" = some (.ref c1)
  n2 : mg "NoLength" = some (.ref c2)
  n3 : mg "NoCount" = some (.ref c3)
  n4 : mg "NoPlace" = some (.ref c4)
  n5 : mg "NoText" = some (.ref c5)
  n6 : mg "NoShape" = some (.ref c6)
  n7 : mg "NoneYet" = some (.ref c7)
  n8 : mg "NoRound" = some (.ref c8)
  val : mg "ValueError" = none
/-- what is known of a raised one -/
structure Fault (K : PySem.W.Frag) (T c1 c2 c3 c4 c5 c6 c7 c8 C : Addr) (b1 b2 b3 b4 b5 b6 b7 b8 : Bool) : Prop where
  exm : PySem.W.exmOne K (.ref C) (.ref T) = some true
  k1 : PySem.W.kitOne K (.ref C) (.ref c1) = some b1
  k2 : PySem.W.kitOne K (.ref C) (.ref c2) = some b2
  k3 : PySem.W.kitOne K (.ref C) (.ref c3) = some b3
  k4 : PySem.W.kitOne K (.ref C) (.ref c4) = some b4
  k5 : PySem.W.kitOne K (.ref C) (.ref c5) = some b5
  k6 : PySem.W.kitOne K (.ref C) (.ref c6) = some b6
  k7 : PySem.W.kitOne K (.ref C) (.ref c7) = some b7
  k8 : PySem.W.kitOne K (.ref C) (.ref c8) = some b8
  kv : PySem.W.kitOne K (.ref C) (.type "ValueError") = some true
  exk : ExK K C
end L2
end
section
set_option Elab.async false
set_option linter.all false
set_option maxRecDepth 100000
set_option maxHeartbeats 4000000
namespace L2
open PySem PySem.Spec PyProof.Rows PySem.W PySem.SeqAt PySem.Calls
section
variable {X : Cx}
/-- != of two lists, each pair of items compared as deep as it goes -/
def rNeL (K : PySem.W.Frag) : R2 := fun x y H Q => ∃ (a b : Addr) (xs ys : List V), x = .ref a ∧ y = .ref b ∧ SqL K H a xs ∧ SqL K H b ys ∧ xs.length = ys.length ∧
  (∀ (j : Nat) (x y : V), xs[j]? = some x → ys[j]? = some y → ∃ n, n ≤ 50 ∧ EqD K H n x y true) ∧ Q (.bl false) H
end
end L2
end
section
set_option Elab.async false
set_option linter.all false
set_option maxRecDepth 100000
set_option maxHeartbeats 4000000
namespace L2
open PySem PySem.Spec PyProof.Rows PySem.W PySem.SeqAt

/-! ### min(a, b, key=f), f a def of the text that tells tuples of ints -/
section
variable {X : Cx} {k : Nat} {f : Addr} {fd : FuncData} {ps : List Str} {sp : Sp} {pins : List (Addr × Obj)} {σ : St}
/-- min(a, b, key=f) -/
def tMinK (K : PySem.W.Frag) (sp : Sp) (t : TA) : TE := fun σ H Q => t σ H fun vs H1 => ∃ x y, vs = [x, y] ∧ sp [x] H1 (fun v1 H2 => sp [y] H2 (fun v2 H3 => ∃ a b ns ms, v1 = .ref a ∧ v2 = .ref b ∧ SqT K H3 a (ns.map V.int) ∧ SqT K H3 b (ms.map V.int) ∧ Q (if HT.lexLt ms ns = true then y else x) H3) E0) E0
end
end L2
end
section
set_option Elab.async false
set_option linter.all false
set_option maxRecDepth 100000
set_option maxHeartbeats 4000000
namespace L2
open PySem PySem.Spec PyProof.Rows PySem.W PySem.SeqAt PySem.Calls

/-! ### == and != of two things that are alike through and through, however deep each item goes -/
def okV : V → Bool
  | .non => true
  | .bl _ => true
  | .int _ => true
  | .str _ => true
  | .ref _ => true
  | _ => false
inductive Like (K : PySem.W.Frag) (H : Hp) : Nat → V → V → Prop
  | same {n : Nat} {x : V} (ok : okV x = true) : Like K H n x x
  | tup {n : Nat} {a b : Addr} {xs ys : List V} (ha : SqT K H a xs) (hb : SqT K H b ys) (hl : xs.length = ys.length) (h : ∀ (j : Nat) x y, xs[j]? = some x → ys[j]? = some y → Like K H n x y) : Like K H (n + 1) (.ref a) (.ref b)
  | lst {n : Nat} {a b : Addr} {xs ys : List V} (ha : SqL K H a xs) (hb : SqL K H b ys) (hl : xs.length = ys.length) (h : ∀ (j : Nat) x y, xs[j]? = some x → ys[j]? = some y → Like K H n x y) : Like K H (n + 1) (.ref a) (.ref b)
section
variable {X : Cx}
/-- the two sides of ==, != : lists or tuples -/
def rLike (K : PySem.W.Frag) (neg : Bool) : R2 := fun x y H Q => ∃ n a b xs ys, x = .ref a ∧ y = .ref b ∧ ((SqT K H a xs ∧ SqT K H b ys) ∨ (SqL K H a xs ∧ SqL K H b ys)) ∧ xs.length = ys.length ∧
  (∀ (j : Nat) x y, xs[j]? = some x → ys[j]? = some y → Like K H n x y) ∧ n ≤ 50 ∧ Q (.bl (!neg)) H
/-! ### a number that the text names at its top -/
end
section
variable {X : Cx} {N' : List Str} {scope : Scope} {C : Addr} {s : Shared} {H : Hp} {fp : List Addr}
end
/-! ### isinstance, more kinds -/
section
variable {K : PySem.W.Frag}
end
end L2
end
section
set_option Elab.async false
set_option linter.all false
set_option maxRecDepth 100000
set_option maxHeartbeats 4000000
namespace L2
open PySem PySem.Spec PyProof.Rows PySem.W PySem.SeqAt PySem.Calls

/-! ### list(range(..)) -/
section
variable {X : Cx}
def tLR1 (ta : TA) : TE := fun σ H Q => ta σ H fun vs H1 => ∃ j : Int, vs = [.int j] ∧ 0 ≤ j ∧ j ≤ 100000 ∧ ∀ l, H1 l = none → Q (.ref l) (upd H1 l (.lst ((List.range j.toNat).map fun (i : Nat) => V.int (i : Int))))
end
end L2
end
section
set_option Elab.async false
set_option linter.all false
set_option maxRecDepth 100000
set_option maxHeartbeats 4000000
namespace L2
open PySem PySem.Spec PyProof.Rows PySem.W PySem.SeqAt PySem.Calls

/-! ### a call by a name of the def's own: the function is a value -/
/-- the defs that may be handed in, each with its promise -/
def FnV (X : Cx) (k : Nat) (Fs : Addr → Sp → Prop) : Prop := ∀ f sp, Fs f sp → ∃ fd ps, FnOk X.prog X.w X.K X.mg X.base (CXE X.prog X.w) k f fd ps sp ∧ Binds X.K fd ps [] ∧ PySem.W.keepIn X.K (.ref f) = true
def tCallV (Fs : Addr → Sp → Prop) (i : Nat) (E : XK) (t : TA) : TE := fun σ H Q => ∃ f sp, σ[i]? = some (some (.ref f)) ∧ Fs f sp ∧ t σ H fun vs H1 => sp vs H1 Q E
/-! ### what a def raises is what it raises behind some steps -/
end L2
end
section
set_option Elab.async false
set_option linter.all false
set_option maxRecDepth 100000
set_option maxHeartbeats 4000000
namespace L2
open PySem PySem.Spec PyProof.Rows PySem.W PySem.SeqAt PySem.Calls

/-! ### sorted(d), d a dict whose keys are ints -/
section
variable {X : Cx}
end
end L2
end
section
set_option Elab.async false
set_option linter.all false
set_option maxRecDepth 100000
set_option maxHeartbeats 4000000
namespace L2
open PySem PySem.Spec PyProof.Rows PySem.W PySem.SeqAt PySem.Calls

/-! ### set(xs) of a list of one int again and again, len of a set -/
section
variable {X : Cx}
end
section
variable {X : Cx} {N' : List Str} {scope : Scope} {C : Addr} {s : Shared} {H : Hp} {fp : List Addr}
end
end L2
end
section
set_option Elab.async false
set_option linter.all false
set_option maxRecDepth 100000
set_option maxHeartbeats 4000000
namespace L2
open PySem PySem.Spec PyProof.Rows PySem.W PySem.SeqAt PySem.Calls

/-! ### list(range(a, b)) -/
section
variable {X : Cx}
def tLR2 (ta : TA) : TE := fun σ H Q => ta σ H fun vs H1 => ∃ i j : Int, vs = [.int i, .int j] ∧ 0 ≤ i ∧ i ≤ j ∧ j ≤ 100000 ∧ ∀ l, H1 l = none → Q (.ref l) (upd H1 l (.lst ((List.range (j - i).toNat).map fun (m : Nat) => V.int (i + (m : Int)))))
end
end L2
end
section
set_option Elab.async false
set_option linter.all false
set_option maxRecDepth 100000
set_option maxHeartbeats 4000000
namespace L2
open PySem PySem.Spec PyProof.Rows PySem.W PySem.SeqAt PySem.Calls

/-! ### a, b = a list -/
section
variable {prog : Program} {w : World} {A : Around} {E : Value → Shared → Prop}
end
section
variable {X : Cx}
def gLstU (K : PySem.W.Frag) (n : Nat) (t : TGs) : TG := fun v σ H Q => ∃ a xs, v = .ref a ∧ SqL K H a xs ∧ xs.length = n ∧ t xs σ H Q
end
end L2
end
section
set_option Elab.async false
set_option linter.all false
set_option maxRecDepth 100000
set_option maxHeartbeats 4000000
namespace L2
open PySem PySem.Spec PyProof.Rows PySem.W PySem.SeqAt PySem.Calls

/-! ### i not in range(n) -/
section
variable {X : Cx} {a b : Expr} {pos : Pos}
def tNotR (te : TE) (ta : TA) : TE := fun σ H Q => te σ H fun x H1 => ta σ H1 fun vs H2 => ∃ i j : Int, x = .int i ∧ vs = [.int j] ∧ Q (.bl (!decide (0 ≤ i ∧ i < j))) H2
end
end L2
end
section
set_option Elab.async false
set_option linter.all false
set_option maxRecDepth 100000
set_option maxHeartbeats 4000000
namespace L2
open PySem PySem.Spec PyProof.Rows PySem.W PySem.SeqAt PySem.Calls

/-! ### text.split(sep) -/
section
variable {X : Cx}
def rSplit : V → List V → Hp → VK → Prop := fun x xs H Q => ∃ z y, x = .str z ∧ xs = [.str y] ∧ (y.length == 0) = false ∧ z.length ≤ sizeLine ∧ (Txt.split z y).length ≤ sizeLine ∧ ∀ l, H l = none → Q (.ref l) (upd H l (.lst ((Txt.split z y).map V.str)))
/-! ### sep.join(texts) -/
def rJoin (K : PySem.W.Frag) : V → List V → Hp → VK → Prop := fun x xs H Q => ∃ z a ts, x = .str z ∧ xs = [.ref a] ∧ SqL K H a (ts.map V.str) ∧ JoinOk z ts = true ∧ Q (.str (Txt.join z ts)) H
/-! ### text.startswith(text), int(text) -/
def rStarts : V → List V → Hp → VK → Prop := fun x xs H Q => ∃ z y, x = .str z ∧ xs = [.str y] ∧ Q (.bl (0 + y.length ≤ z.length && Builtin.Str.subAt z y 0)) H
/-! ### for sign in text -/
def Its (x : Str) : It := ⟨fun i _ => i < x.cps.size, fun i H v H' => H' = H ∧ ∃ c, x.cps[i]? = some c ∧ v = .str ⟨#[c]⟩, fun i _ => x.cps.size ≤ i⟩
def iStr (tl : TE) : TI := fun σ H R => tl σ H fun x H1 => ∃ z, x = .str z ∧ R (Its z) H1
/-! ### text[lo:hi] -/
def rSlS : V → Option Int → Option Int → Hp → VK → Prop := fun x lo hi H Q => ∃ z, x = .str z ∧ z.length ≤ sizeLine ∧ Q (.str (Txt.slice z lo hi)) H
/-! ### a text that the program names at its top -/
end
section
variable {X : Cx} {N' : List Str} {scope : Scope} {C : Addr} {s : Shared} {H : Hp} {fp : List Addr}
end
end L2
end
section
set_option Elab.async false
set_option linter.all false
set_option maxRecDepth 100000
set_option maxHeartbeats 4000000
namespace L2
open PySem PySem.Spec PyProof.Rows PySem.W PySem.SeqAt PySem.Calls
/-! ### text * n, text[::-1]: some text that is no longer -/
section
variable {X : Cx} {e st : Expr} {te ts : TE} {pos p2 : Pos}
def rRepS : R2 := fun x y H Q => ∃ i j, x = .str i ∧ y = .int j ∧ 1 ≤ j ∧ j ≤ 100000 ∧ i.length * j.toNat ≤ 100000 ∧ ∀ z : Str, z.length ≤ i.length * j.toNat → Q (.str z) H
def tRevS (te ts : TE) : TE := fun σ H Q => te σ H fun x H1 => ts σ H1 fun y H2 => ∃ z, x = .str z ∧ y = .int (-1) ∧ z.length ≤ 100000 ∧ ∀ z' : Str, z'.length ≤ z.length → Q (.str z') H2
end
end L2
end
section
set_option Elab.async false
set_option linter.all false
set_option maxRecDepth 100000
set_option maxHeartbeats 4000000
namespace L2
open PySem PySem.Spec PyProof.Rows PySem.W PySem.SeqAt PySem.Calls
/-! ### xs[i:j] = ys, within the list -/
section
variable {X : Cx} {pos p2 : Pos}
def gSlice (to : TE) (tl th : TO) : TG := fun v σ H Q => to σ H fun o H1 => tl σ H1 fun a H2 => th σ H2 fun b H3 => ∃ p q xs ys i j, o = .ref p ∧ v = .ref q ∧ a = some i ∧ b = some j ∧ p ≠ q ∧ H3 p = some (.lst xs) ∧ H3 q = some (.lst ys) ∧ 0 ≤ i ∧ i ≤ j ∧ j ≤ (xs.length : Int) ∧ xs.length + ys.length ≤ sizeLine ∧ Q σ (upd H3 p (.lst (xs.take i.toNat ++ ys ++ xs.drop j.toNat)))
theorem pg_slice {o : Expr} {lo hi : Option Expr} {to : TE} {tl th : TO} (ho : PE X o to) (hl : PO X lo tl) (hh : PO X hi th)
    (ha : ∀ v, assign (.Subscript o (.Slice lo hi none p2) pos) X.env v = (do
      let ov ← holding [v] (eval o X.env)
      let iv ← holding [v, ov] (eval (.Slice lo hi none p2) X.env)
      standAt pos
      holding [v, ov, iv] (setItem ov iv v)
      release [iv, v, ov] []) := by intro _; rfl) : PG X (.Subscript o (.Slice lo hi none p2) pos) (gSlice to tl th) := by
  intro pins s σ H v u Q I r h
  rw [ha]
  refine wpAny_bind (wpAny_holding (thn (ho pins s σ H _ I h) fun ov s1 ⟨x, H1, I1, r1, q1⟩ => ?_))
  refine wpAny_bind (wpAny_holding ?_)
  refine wpAny_Slice (thn (hl pins s1 σ H1 _ I1 q1) fun vl s2 ⟨a, H2, I2, pl, q2⟩ => thn (hh pins s2 σ H2 _ I2 q2) fun vu s3 ⟨b, H3, I3, pu, q3⟩ => ?_)
  rw [evalPart_none]
  refine wpAny_pure ?_
  obtain ⟨p, q, xs, ys, i, j, rfl, rfl, rfl, rfl, hne, hp, hq, h0, hij, hj, hz, fin⟩ := q3
  cases r1
  cases r
  have I4 : Inv X pins σ H3 { s3 with heap := s3.heap.push { cls := .type "slice", data := .fields #[vl, vu, .none] } } := I3.kept (t' := s3.toks) fun b ob q => Heap.get?_push_of_some _ q
  cases pl with
  | int _ ti =>
    cases pu with
    | int _ tj =>
      refine wpAny_bind (wpAny_standAt (wpAny_bind (wpAny_holding (set_slice I4 hp hq hne (Heap.IsSliceOf.new ..) ⟨ti, rfl⟩ ⟨tj, rfl⟩ h0 hij hj hz fun s' I' => ?_))))
      exact wpAny_release ⟨σ, _, I', fin⟩
end
end L2
end
section
set_option Elab.async false
set_option linter.all false
set_option maxRecDepth 100000
set_option maxHeartbeats 4000000
namespace L2
open PySem PySem.Spec PyProof.Rows PySem.W PySem.SeqAt PySem.Calls
/-! ### list(range(a, b, -1)) -/
section
variable {X : Cx}
def tLR3 (ta : TA) : TE := fun σ H Q => ta σ H fun vs H1 => ∃ i j : Int, vs = [.int i, .int j, .int (-1)] ∧ 0 ≤ j ∧ j ≤ i ∧ i ≤ 100000 ∧ ∀ l, H1 l = none → Q (.ref l) (upd H1 l (.lst ((List.range (i - j).toNat).map fun (m : Nat) => V.int (i - (m : Int)))))
end
end L2
end
section
set_option Elab.async false
set_option linter.all false
set_option maxRecDepth 100000
set_option maxHeartbeats 4000000
namespace L2
open PySem PySem.Spec PyProof.Rows PySem.W PySem.SeqAt
open PySem.AutoSeq1 (wpAny_loadPart')
open PySem.MeetsSeq PySem.MeetsSeq2 PySem.MeetsSeq3
/-! ### t < u of tuples that begin with unlike ints, whatever stands last -/
section
variable {prog : Program} {w : World} {A : Around} {E : Value → Shared → Prop} {s : Shared}
end
/-! ### min of a list of two tuples that begin with unlike ints -/
section
variable {X : Cx} {pins : List (Addr × Obj)} {σ : St}
def rMin2 (K : PySem.W.Frag) : List V → Hp → VK → Prop := fun vs H Q => ∃ (l p q : Addr) (ns ms : List Int) (x y : V), vs = [.ref l] ∧ SqL K H l [.ref p, .ref q] ∧ SqT K H p (ns.map V.int ++ [x]) ∧ SqT K H q (ms.map V.int ++ [y]) ∧ ns.length = ms.length ∧ ns ≠ ms ∧
  Q (if HT.lexLt ms ns = true then .ref q else .ref p) H
end
end L2
end
section
set_option Elab.async false
set_option linter.all false
set_option maxRecDepth 100000
set_option maxHeartbeats 4000000
namespace L2
open PySem PySem.Spec PyProof.Rows PySem.W PySem.SeqAt PySem.Calls
section
variable {X : Cx}
/-- // of ints by one that may be long -/
structure CDivL (i j : Int) : Prop where
  pos : 0 < j
  lt : j < 2 ^ 200
end
end L2
end
section
set_option Elab.async false
set_option linter.all false
set_option maxRecDepth 100000
set_option maxHeartbeats 4000000
namespace L2
open PySem PySem.Spec PyProof.Rows PySem.W PySem.SeqAt
section
variable {X : Cx}
/-! ### xs.index(x) of a list of flat items that has x -/
def rIndexF (K : PySem.W.Frag) : V → List V → Hp → VK → Prop := fun o vs H Q => ∃ (p : Addr) (xs : List V) (x y : V) (i : Nat), o = .ref p ∧ vs = [x] ∧ SqL K H p xs ∧ flatV x = true ∧ xs.all flatV = true ∧ xs[i]? = some y ∧ eqV y x = true ∧ (∀ j z, j < i → xs[j]? = some z → eqV z x = false) ∧ xs.length ≤ 100000 ∧ Q (.int (i : Nat)) H
end
end L2
end
section
set_option Elab.async false
set_option linter.all false
set_option maxRecDepth 100000
set_option maxHeartbeats 4000000
namespace L2
open PySem PySem.Spec PyProof.Rows PySem.W PySem.SeqAt
section
variable {X : Cx} {N' : List Str} {scope : Scope} {C : Addr} {s : Shared} {H : Hp} {fp : List Addr} {e st o i : Expr} {te ts td ty : TE} {pos p2 : Pos}
/-! ### xs[::-1] and d[k] within a comprehension's block -/
end
end L2
end
section
set_option Elab.async false
set_option linter.all false
set_option maxRecDepth 100000
set_option maxHeartbeats 4000000
namespace L2
open PySem PySem.Spec PyProof.Rows
section
variable {X : Cx} {a b c d : Expr} {ta tb tc td : TE} {pos : Pos}
/-! ### a op b op c op d as a test -/
end
end L2
end
section
set_option Elab.async false
set_option linter.all false
set_option maxRecDepth 100000
set_option maxHeartbeats 4000000
namespace L2
open PySem PySem.Spec PyProof.Rows
section
variable {X : Cx}
/-! ### != of two flat things, or of two that are alike through and through -/
end
end L2
end
section
set_option Elab.async false
set_option linter.all false
set_option maxRecDepth 100000
set_option maxHeartbeats 4000000
namespace L2
open PySem PySem.Spec PyProof.Rows
section
variable {X : Cx} {a b : Expr} {rest : List Expr} {ta tb : TE} {pos : Pos}
/-! ### x or y, of any values -/
def tOrW (K : PySem.W.Frag) (ta tb : TE) : TE := fun σ H Q => ta σ H fun x H1 => ∃ c, TruV K x H1 c ∧ if c = true then Q x H1 else tb σ H1 Q
end
end L2
end
section
set_option Elab.async false
set_option linter.all false
set_option maxRecDepth 100000
set_option maxHeartbeats 4000000
namespace L2
open PySem PySem.Spec PyProof.Rows
section
variable {X : Cx} {N' : List Str} {scope : Scope} {C : Addr} {s : Shared} {H : Hp} {fp : List Addr} {M' : List Str} {scope2 : Scope} {C2 : Addr} {s2 : Shared} {H2 : Hp} {fp2 : List Addr} {tg : Expr}
/-! ### within a block of a block -/
end
end L2
end
section
set_option Elab.async false
set_option linter.all false
set_option maxRecDepth 100000
set_option maxHeartbeats 4000000
namespace L2
open PySem PySem.Spec PyProof.Rows PySem.W PySem.SeqAt PySem.Calls

/-! ### try: .. except C as n: .. where the caught one stays behind the suite -/
/-- an exception that is kept: its class -/
def exV (a : Addr) (C : Value) : HO := .ext (fun h => ∃ o, h.get? a = some o ∧ o.cls = C)
section
variable {X : Cx} {pins : List (Addr × Obj)} {σ : St} {H : Hp} {s : Shared}
end
def goneK (i : Nat) (a : Addr) (C : Value) (D : Ends) : Ends := { nx := fun σ H => D.nx (σ.set i none) (upd H a (exV a C)), rt := fun v H => D.rt v (upd H a (exV a C)), bk := fun σ H => D.bk (σ.set i none) (upd H a (exV a C)), ct := fun σ H => D.ct (σ.set i none) (upd H a (exV a C)) }
def tTryK (K : PySem.W.Frag) (T : Value) (len i : Nat) (tb : XK → TS) (th : Addr → Value → TS) : TS := fun D σ H =>
  tb (fun C _ H' => PySem.W.exmOne K C T = some true ∧ ∀ (a : Addr) (σ' : St), H' a = none → σ'.length = len → th a C (goneK i a C D) (σ'.set i (some (.ref a))) H') D σ H
/-! ### isinstance of a kept exception -/
def rIsX (K : PySem.W.Frag) : List V → Hp → VK → Prop := fun xs H Q => ∃ (a D : Addr) (c : V) (cv : Value) (b : Bool), xs = [.ref a, c] ∧ H a = some (exV a (.ref D)) ∧ ExK K D ∧ ((∃ C, c = .ref C ∧ cv = .ref C) ∨ ∃ T, c = .ty T ∧ cv = .type T) ∧ PySem.W.kitOne K (.ref D) cv = some b ∧ Q (.bl b) H
def rIsXT (K : PySem.W.Frag) : List V → Hp → VK → Prop := fun xs H Q => ∃ (a D p : Addr) (Cs : List Addr) (b : Bool), xs = [.ref a, .ref p] ∧ SqT K H p (Cs.map V.ref) ∧ H a = some (exV a (.ref D)) ∧ ExK K D ∧ PySem.W.kitAny K (.ref D) (Cs.map Value.ref) = some b ∧ Q (.bl b) H
/-! ### steps of a reading, with the rest of it but once in the term -/
theorem wk1 {α : Sort _} {p q : α → Prop} (v : α) (h : p v) (k : q v) : ∃ x, p x ∧ q x := ⟨v, h, k⟩
theorem wk2 {α β : Sort _} {p : α → Prop} {q : β → Prop} {r : α → β → Prop} (v : α) (u : β) (h : p v) (g : q u) (k : r v u) : ∃ x y, p x ∧ q y ∧ r x y := ⟨v, u, h, g, k⟩
end L2
end
set_option Elab.async false
set_option linter.all false
set_option maxRecDepth 100000
set_option maxHeartbeats 4000000
local macro_rules | `(tactic| walk_at "rd") => `(tactic| repeat (first | refine L2.wk1 _ rfl ?_ | refine L2.wk2 _ _ rfl rfl ?_ | refine ⟨_, rfl, ?_⟩ | refine ⟨_, _, rfl, rfl, ?_⟩ | refine ⟨rfl, ?_⟩ | refine ⟨L2.cPow rfl, ?_⟩ | refine ⟨L2.cDiv rfl, ?_⟩ | refine ⟨L2.cPos rfl, ?_⟩ | refine ⟨L2.cMulL rfl, ?_⟩ | refine ⟨L2.cMulR rfl, ?_⟩ | refine ⟨L2.cNon rfl, ?_⟩))
namespace My
open PySem L2
def top (i : Nat) : Stmt := PySem.Challenge.pw_topstretch_k09_long_rows.main.body.getD i (.Pass ⟨0, 0, 0, 0⟩)
abbrev s_best_of : Stmt := top 4
theorem sc_best_of : FnScope ["row", "total", "first", "best", "place"] ["row"] (defScope s_best_of) := ⟨rfl, rfl, rfl, by decide +kernel, rfl, by decide +kernel, by decide +kernel⟩
abbrev s_sums_ahead : Stmt := top 5
theorem sc_sums_ahead : FnScope ["row", "total", "ahead", "number"] ["row"] (defScope s_sums_ahead) := ⟨rfl, rfl, rfl, by decide +kernel, rfl, by decide +kernel, by decide +kernel⟩
abbrev s_longest_of : Stmt := top 7
theorem sc_longest_of : FnScope ["many", "least", "most"] ["many", "least", "most"] (defScope s_longest_of) := ⟨rfl, rfl, rfl, by decide +kernel, rfl, by decide +kernel, by decide +kernel⟩
abbrev s_enter_first : Stmt := top 8
theorem sc_enter_first : FnScope ["firsts", "ahead", "first"] ["firsts", "ahead", "first"] (defScope s_enter_first) := ⟨rfl, rfl, rfl, by decide +kernel, rfl, by decide +kernel, by decide +kernel⟩
abbrev s_best_sized : Stmt := top 9
theorem sc_best_sized : FnScope ["row", "least", "most", "longest", "ahead", "firsts", "best", "beyond", "total"] ["row", "least", "most"] (defScope s_best_sized) := ⟨rfl, rfl, rfl, by decide +kernel, rfl, by decide +kernel, by decide +kernel⟩
abbrev s_how_many_just : Stmt := top 10
theorem sc_how_many_just : FnScope ["row", "least", "most", "told", "longest", "ahead", "seen", "many", "beyond", "entered", "left"] ["row", "least", "most", "told"] (defScope s_how_many_just) := ⟨rfl, rfl, rfl, by decide +kernel, rfl, by decide +kernel, by decide +kernel⟩
abbrev s_unrolled : Stmt := top 12
theorem sc_unrolled : FnScope ["ring"] ["ring"] (defScope s_unrolled) := ⟨rfl, rfl, rfl, by decide +kernel, rfl, by decide +kernel, by decide +kernel⟩
abbrev s_best_ring_sized : Stmt := top 13
theorem sc_best_ring_sized : FnScope ["ring", "least", "most", "longest", "best"] ["ring", "least", "most"] (defScope s_best_ring_sized) := ⟨rfl, rfl, rfl, by decide +kernel, rfl, by decide +kernel, by decide +kernel⟩
abbrev s_best_ring : Stmt := top 14
theorem sc_best_ring : FnScope ["ring"] ["ring"] (defScope s_best_ring) := ⟨rfl, rfl, rfl, by decide +kernel, rfl, by decide +kernel, by decide +kernel⟩
abbrev s_law_cell_at : Stmt := top 16
theorem sc_law_cell_at : FnScope ["script", "k"] ["script", "k"] (defScope s_law_cell_at) := ⟨rfl, rfl, rfl, by decide +kernel, rfl, by decide +kernel, by decide +kernel⟩
abbrev s_law_stir : Stmt := top 17
theorem sc_law_stir : FnScope ["cell", "k", "number"] ["cell", "k"] (defScope s_law_stir) := ⟨rfl, rfl, rfl, by decide +kernel, rfl, by decide +kernel, by decide +kernel⟩
abbrev s_law_planted : Stmt := top 18
theorem sc_law_planted : FnScope ["cell", "size", "long", "some", "low", "row", "first", "places", "again"] ["cell"] (defScope s_law_planted) := ⟨rfl, rfl, rfl, by decide +kernel, rfl, by decide +kernel, by decide +kernel⟩
abbrev s_law_ahead : Stmt := top 19
theorem sc_law_ahead : FnScope ["row", "found", "number"] ["row"] (defScope s_law_ahead) := ⟨rfl, rfl, rfl, by decide +kernel, rfl, by decide +kernel, by decide +kernel⟩
abbrev s_law_best_by : Stmt := top 20
theorem sc_law_best_by : FnScope ["row", "least", "most", "ahead", "best", "first", "beyond", "total"] ["row", "least", "most"] (defScope s_law_best_by) := ⟨rfl, rfl, rfl, by decide +kernel, rfl, by decide +kernel, by decide +kernel⟩
abbrev s_law_long_right : Stmt := top 21
theorem sc_law_long_right : FnScope ["cell", "row", "least", "most"] ["cell", "row"] (defScope s_law_long_right) := ⟨rfl, rfl, rfl, by decide +kernel, rfl, by decide +kernel, by decide +kernel⟩
abbrev s_law_turned_right : Stmt := top 22
theorem sc_law_turned_right : FnScope ["row", "places", "long", "ring", "begin"] ["row", "places", "long"] (defScope s_law_turned_right) := ⟨rfl, rfl, rfl, by decide +kernel, rfl, by decide +kernel, by decide +kernel⟩
abbrev s_law : Stmt := top 23
theorem sc_law : FnScope ["script", "cell", "row", "places", "long", "first", "often", "total", "handed", "due", "most"] ["script"] (defScope s_law) := ⟨rfl, rfl, rfl, by decide +kernel, rfl, by decide +kernel, by decide +kernel⟩
/-! ### _law_stir: some number that isn't below nought -/
def sp_stir : Sp := fun vs H Q _ => ∃ (c j : Int), vs = [.int c, .int j] ∧ 0 ≤ j ∧ ∀ n : Int, 0 ≤ n → Q (.int n) H
theorem ok_stir {P : Program} {w : World} {K : PySem.W.Frag} {mg : Str → Option Value} {base : Heap} {k : Nat} {f : Addr} {fd : FuncData} (F : Fun K "_law_stir" "_law_stir" s_law_stir f fd) : FnOk P w K mg base CX0 (k + 1) f fd ["cell", "k"] sp_stir := by
  refine F.ok sc_law_stir (fun vs H Q E h => ?_) (fun cdv A outer s H vs Q E hr h => ?_)
  · obtain ⟨c, j, rfl, _⟩ := h
    rfl
  obtain ⟨c, j, rfl, hj, q⟩ := h
  apply Exists.intro
  apply And.intro
  case left =>
    apply pss_cons
    case h1 =>
      apply ps_if
      case hc => exact (pt_cmpR op_ge (pv 0) (pe_op op_pow pe_int pe_int) (nomark _))
      case ha =>
        apply pss_one
        exact (ps_ret (pe_op op_mod (pe_op op_shr (pe_op op_sub (pv 0) (pe_op op_pow pe_int pe_int)) (pe_op op_mul pe_int (pv 1))) (pe_op op_pow pe_int pe_int)))
      case hb =>
        exact pss_nil
    apply pss_cons
    case h1 =>
      exact (ps_set (i := 2) sc_law_stir.nd rfl (by first | exact Or.inl rfl | exact Or.inr rfl) (pe_op op_mod (pe_op op_mul (pe_op op_add (pe_op op_add (pv 0) (pe_op op_mul pe_int (pv 1))) pe_int) pe_int) pe_int))
    apply pss_cons
    case h1 =>
      exact (ps_set (i := 2) sc_law_stir.nd rfl (by first | exact Or.inl rfl | exact Or.inr rfl) (pe_op op_mod (pe_op op_mul (pv 2) (pv 2)) pe_int))
    apply pss_one
    exact (ps_ret (pe_op op_fdiv (pe_op op_mod (pe_op op_mul (pv 2) pe_int) pe_int) pe_int))
  walk_at "rd"
  refine ifD (fun _ => ?_) (fun _ => ?_)
  · walk_at "rd"
    refine ⟨(show (0 : Int) ≤ _ by (first | lia | omega)), ?_⟩
    walk_at "rd"
    exact q _ (Int.emod_nonneg _ (by decide))
  · walk_at "rd"
    have h1 : ∀ x : Int, -(2 ^ 64) < x % 2147483647 ∧ x % 2147483647 < 2 ^ 64 := fun x => by
      have a := Int.emod_nonneg x (show (2147483647 : Int) ≠ 0 by decide)
      have b := Int.emod_lt_of_pos x (show (0 : Int) < 2147483647 by decide)
      (first | lia | omega)
    refine ⟨.inl (h1 _), ?_⟩
    walk_at "rd"
    exact q _ (Int.ediv_nonneg (Int.emod_nonneg _ (by decide)) (by decide))
/-! ### sums ahead -/
def psum (ns : List Int) (i : Nat) : Int := (ns.take i).sum
def pl (ns : List Int) (i : Nat) : List Int := (List.range (i + 1)).map (psum ns)
theorem psum_succ {ns : List Int} {i : Nat} (h : i < ns.length) : psum ns (i + 1) = psum ns i + ns[i] := by
  unfold psum
  rw [List.take_succ_eq_append_getElem h, List.sum_append, List.sum_singleton]
theorem pl_succ (ns : List Int) (i : Nat) : pl ns (i + 1) = pl ns i ++ [psum ns (i + 1)] := by
  unfold pl
  rw [List.range_succ, List.map_append]
  rfl
theorem pl_len (ns : List Int) (i : Nat) : (pl ns i).length = i + 1 := by unfold pl; rw [List.length_map, List.length_range]
theorem int_at {ns : List Int} {i : Nat} {x : V} (h : (ns.map V.int)[i]? = some x) : ∃ h' : i < ns.length, x = .int ns[i] := by
  rw [List.getElem?_map] at h
  cases e : ns[i]? with
  | none => rw [e] at h; cases h
  | some n =>
    rw [e] at h
    cases h
    obtain ⟨h', e'⟩ := List.getElem?_eq_some_iff.mp e
    exact ⟨h', by rw [e']⟩
/-! ### _law_same: True of the same ints, of the same lists and tuples of such -/
def SqO (k : Bool) (H : Hp) (a : Addr) (xs : List V) : Prop := match k with
  | true => H a = some (.lst xs)
  | false => H a = some (.tup xs)
inductive SameD (H : Hp) : Nat → V → V → Prop
  | non {n : Nat} : SameD H (n + 1) .non .non
  | int {n : Nat} (i : Int) : SameD H (n + 1) (.int i) (.int i)
  | seq {n : Nat} (k : Bool) {a b : Addr} {xs ys : List V} (ha : SqO k H a xs) (hb : SqO k H b ys) (hl : xs.length = ys.length) (hz : xs.length ≤ 100000) (h : ∀ (j : Nat) x y, xs[j]? = some x → ys[j]? = some y → SameD H n x y) : SameD H (n + 1) (.ref a) (.ref b)
def sp_same (n : Nat) : Sp := fun vs H Q _ => ∃ x y, vs = [x, y] ∧ SameD H n x y ∧ ∀ H', Same H H' → Q (.bl true) H'
/-! ### a part of a list of ints -/
def cutI (ns : List Int) (a b : Int) : List Int := (ns.drop a.toNat).take (b.toNat - a.toNat)
theorem cut_ints {ns : List Int} {a b : Int} (h0 : 0 ≤ a) (h1 : a ≤ b) (h2 : b ≤ (ns.length : Int)) : cutV (ns.map V.int) (some a) (some b) = (cutI ns a b).map V.int := by
  obtain ⟨x, rfl⟩ : ∃ x : Nat, a = x := ⟨a.toNat, by (first | lia | omega)⟩
  obtain ⟨y, rfl⟩ : ∃ y : Nat, b = y := ⟨b.toNat, by (first | lia | omega)⟩
  unfold cutV cutI
  rw [HT.sIx_nat, HT.sIx_nat, List.length_map, Nat.min_eq_left (by (first | lia | omega)), Nat.min_eq_left (by (first | lia | omega)), List.map_take, List.map_drop]
  rfl
/-! ### for the laws themselves -/
def sp_law (K : PySem.W.Frag) : Sp := fun vs H Q _ => ∃ (a : Addr) (ns : List Int), vs = [.ref a] ∧ SqL K H a (ns.map V.int) ∧ ns.length ≤ 63 ∧ ∀ H', Q (.bl true) H'
/-! ### the best of some stretches, by sums ahead -/
structure BestIn (P : Nat → Int) (S : Nat → Nat → Prop) (s : Int) (f b : Nat) : Prop where
  mem : S f b
  val : s = P b - P f
  top : ∀ f' b', S f' b' → P b' - P f' < s ∨ (P b' - P f' = s ∧ (f < f' ∨ (f = f' ∧ b ≤ b')))
theorem BestIn.uniq {P : Nat → Int} {S : Nat → Nat → Prop} {s s' : Int} {f b f' b' : Nat} (h : BestIn P S s f b) (h' : BestIn P S s' f' b') : s = s' ∧ f = f' ∧ b = b' := by
  have a := h.top f' b' h'.mem
  have c := h'.top f b h.mem
  have v := h.val
  have v' := h'.val
  (first | lia | omega)
theorem BestIn.congr {P : Nat → Int} {S S' : Nat → Nat → Prop} {s : Int} {f b : Nat} (h : BestIn P S s f b) (e : ∀ f b, S f b ↔ S' f b) : BestIn P S' s f b :=
  ⟨(e f b).mp h.mem, h.val, fun f' b' q => h.top f' b' ((e f' b').mpr q)⟩
theorem BestIn.first {P : Nat → Int} {S : Nat → Nat → Prop} {f0 b0 : Nat} (h : ∀ f b, S f b ↔ (f = f0 ∧ b = b0)) : BestIn P S (P b0 - P f0) f0 b0 :=
  ⟨(h f0 b0).mpr ⟨rfl, rfl⟩, rfl, fun f' b' q => by
    obtain ⟨rfl, rfl⟩ := (h f' b').mp q
    exact .inr ⟨rfl, .inr ⟨rfl, Nat.le_refl _⟩⟩⟩
/-- one more, behind all the others in order: it is better, or it isn't -/
theorem BestIn.more {P : Nat → Int} {S S' : Nat → Nat → Prop} {s : Int} {f b f0 b0 : Nat} (h : BestIn P S s f b) (e : ∀ f b, S' f b ↔ (S f b ∨ (f = f0 ∧ b = b0))) (hs : P b0 - P f0 > s) : BestIn P S' (P b0 - P f0) f0 b0 :=
  ⟨(e f0 b0).mpr (.inr ⟨rfl, rfl⟩), rfl, fun f' b' q => by
    rcases (e f' b').mp q with q | ⟨rfl, rfl⟩
    · have := h.top f' b' q
      exact .inl (by (first | lia | omega))
    · exact .inr ⟨rfl, .inr ⟨rfl, Nat.le_refl _⟩⟩⟩
theorem BestIn.less {P : Nat → Int} {S S' : Nat → Nat → Prop} {s : Int} {f b f0 b0 : Nat} (h : BestIn P S s f b) (e : ∀ f b, S' f b ↔ (S f b ∨ (f = f0 ∧ b = b0))) (hs : ¬ P b0 - P f0 > s) (ho : f < f0 ∨ (f = f0 ∧ b ≤ b0)) : BestIn P S' s f b :=
  ⟨(e f b).mpr (.inl h.mem), h.val, fun f' b' q => by
    rcases (e f' b').mp q with q | ⟨rfl, rfl⟩
    · exact h.top f' b' q
    · (first | lia | omega)⟩
/-- stretches of told lengths in n numbers -/
def Val (n L : Nat) (M : Int) (f b : Nat) : Prop := f + L ≤ b ∧ (b : Int) ≤ f + M ∧ b ≤ n
abbrev IsBest (ns : List Int) (L : Nat) (M : Int) (s : Int) (f b : Nat) : Prop := BestIn (psum ns) (Val ns.length L M) s f b
theorem psum_getD {ns : List Int} {i : Nat} (h : i < ns.length) : psum ns (i + 1) = psum ns i + ns.getD i 0 := by
  rw [psum_succ h, List.getD_eq_getElem?_getD, List.getElem?_eq_getElem h]
  rfl
theorem cut_psum {ns : List Int} {a b : Int} (h0 : 0 ≤ a) (h1 : a ≤ b) (h2 : b ≤ (ns.length : Int)) : (cutI ns a b).sum = psum ns b.toNat - psum ns a.toNat := by
  unfold cutI psum
  have e : ns.take b.toNat = ns.take a.toNat ++ (ns.drop a.toNat).take (b.toNat - a.toNat) := by
    have e2 : b.toNat = a.toNat + (b.toNat - a.toNat) := by (first | lia | omega)
    conv => lhs; rw [e2, List.take_add]
  rw [e, List.sum_append]
  (first | lia | omega)
/-- what the name best holds: nothing yet, or the best so far -/
def Bst (P : Nat → Int) (H : Hp) (S : Nat → Nat → Prop) (v : V) : Prop := (v = .non ∧ ∀ f b, ¬ S f b) ∨ ∃ (t : Addr) (s : Int) (f b : Nat), v = .ref t ∧ H t = some (.tup [.int s, .int f, .int b]) ∧ BestIn P S s f b
theorem Bst.keep {P : Nat → Int} {H H' : Hp} {S S' : Nat → Nat → Prop} {v : V} (h : Bst P H S v) (sm : Same H H') (e : ∀ f b, S f b ↔ S' f b) : Bst P H' S' v := by
  rcases h with ⟨rfl, h⟩ | ⟨t, s, f, b, rfl, ht, h⟩
  · exact .inl ⟨rfl, fun f b q => h f b ((e f b).mpr q)⟩
  · exact .inr ⟨t, s, f, b, rfl, sm _ _ ht, h.congr e⟩
/-! ### best_of -/
structure Ends1 (P : Nat → Int) (q : Nat) (t : Int) (f : Nat) : Prop where
  lt : f < q
  val : t = P q - P f
  top : ∀ f', f' < q → P q - P f' < t ∨ (P q - P f' = t ∧ f ≤ f')
abbrev Upto (p : Nat) (f b : Nat) : Prop := f < b ∧ b ≤ p
theorem ends_neg {P : Nat → Int} {p : Nat} {t : Int} {f : Nat} (h : Ends1 P p t f) (hn : t < 0) : Ends1 P (p + 1) (P (p + 1) - P p) p :=
  ⟨Nat.lt_succ_self _, rfl, fun f' hf => by
    by_cases e : f' = p
    · subst e; exact .inr ⟨rfl, Nat.le_refl _⟩
    · have := h.top f' (by (first | lia | omega))
      exact .inl (by (first | lia | omega))⟩
theorem ends_pos {P : Nat → Int} {p : Nat} {t : Int} {f : Nat} (h : Ends1 P p t f) (hn : ¬ t < 0) : Ends1 P (p + 1) (P (p + 1) - P f) f :=
  ⟨Nat.lt_succ_of_lt h.lt, rfl, fun f' hf => by
    have hl := h.lt
    have hv := h.val
    by_cases e : f' = p
    · subst e; (first | lia | omega)
    · have := h.top f' (by (first | lia | omega))
      (first | lia | omega)⟩
theorem kad_more {P : Nat → Int} {p : Nat} {t s : Int} {f1 f b : Nat} (h : Ends1 P (p + 1) t f1) (hb : BestIn P (Upto p) s f b) (hs : t > s) : BestIn P (Upto (p + 1)) t f1 (p + 1) :=
  ⟨⟨h.lt, Nat.le_refl _⟩, h.val, fun f' b' q => by
    obtain ⟨q1, q2⟩ := q
    by_cases e : b' = p + 1
    · subst e
      have := h.top f' q1
      (first | lia | omega)
    · have := hb.top f' b' ⟨q1, by (first | lia | omega)⟩
      exact .inl (by (first | lia | omega))⟩
theorem kad_less {P : Nat → Int} {p : Nat} {t s : Int} {f1 f b : Nat} (h : Ends1 P (p + 1) t f1) (hb : BestIn P (Upto p) s f b) (hle : f ≤ f1) (hs : ¬ t > s) : BestIn P (Upto (p + 1)) s f b :=
  ⟨⟨hb.mem.1, Nat.le_succ_of_le hb.mem.2⟩, hb.val, fun f' b' q => by
    obtain ⟨q1, q2⟩ := q
    have hm := hb.mem.2
    by_cases e : b' = p + 1
    · subst e
      have := h.top f' q1
      (first | lia | omega)
    · exact hb.top f' b' ⟨q1, by (first | lia | omega)⟩⟩
def sp_bestof : Sp := fun vs H Q _ => ∃ (r : Addr) (ns : List Int), vs = [.ref r] ∧ H r = some (.lst (ns.map V.int)) ∧ 1 ≤ ns.length ∧ ns.length ≤ 90000 ∧
  ∀ (t : Addr) (s : Int) (f b : Nat) (H' : Hp), Same H H' → H' t = some (.tup [.int s, .int f, .int b]) → IsBest ns 1 ns.length s f b → Q (.ref t) H'
theorem ok_bestof {P : Program} {w : World} {K : PySem.W.Frag} {mg : Str → Option Value} {base : Heap} {k : Nat} {f : Addr} {fd : FuncData} (F : Fun K "best_of" "best_of" s_best_of f fd) (Z : Blt mg) : FnOk P w K mg base CX0 (k + 1) f fd ["row"] sp_bestof := by
  refine F.ok sc_best_of (fun vs H Q E h => ?_) (fun cdv A outer s H vs Q E hr h => ?_)
  · obtain ⟨r, ns, rfl, _⟩ := h
    rfl
  obtain ⟨r, ns, rfl, hR, hn, hz, q⟩ := h
  apply Exists.intro
  apply And.intro
  case left =>
    apply pss_cons
    case h1 =>
      exact (ps_set (i := 1) sc_best_of.nd rfl (by first | exact Or.inl rfl | exact Or.inr rfl) (pe_ix ix_list (pv 0) pe_int (fun _ _ => rfl)))
    apply pss_cons
    case h1 =>
      exact (ps_set (i := 2) sc_best_of.nd rfl (by first | exact Or.inl rfl | exact Or.inr rfl) pe_int)
    apply pss_cons
    case h1 =>
      exact (ps_set (i := 3) sc_best_of.nd rfl (by first | exact Or.inl rfl | exact Or.inr rfl) (pe_tup (pa_cons (pv 1) (pa_cons pe_int (pa_cons pe_int pa_nil)))))
    apply pss_cons
    case h1 =>
      apply ps_for PassesOwn.never rfl
      case hi => exact (pi_range2 rfl Z.range_ (pa_cons pe_int (pa_cons (pe_callB call_len_seq rfl Z.len_ PySem.boot_len (pa_cons (pv 0) pa_nil)) pa_nil)))
      case hg => exact (pg_name (i := 4) sc_best_of.nd rfl (by first | exact Or.inl rfl | exact Or.inr rfl))
      case hb =>
        apply pss_cons
        case h1 =>
          apply ps_if
          case hc => exact (pt_cmpR op_lt (pv 1) pe_int (nomark _))
          case ha =>
            apply pss_cons
            case h1 =>
              exact (ps_set (i := 1) sc_best_of.nd rfl (by first | exact Or.inl rfl | exact Or.inr rfl) pe_int)
            apply pss_one
            exact (ps_set (i := 2) sc_best_of.nd rfl (by first | exact Or.inl rfl | exact Or.inr rfl) (pv 4))
          case hb =>
            exact pss_nil
        apply pss_cons
        case h1 =>
          exact (ps_aug (i := 1) sc_best_of.nd rfl (by first | exact Or.inl rfl | exact Or.inr rfl) (pe_ix ix_list (pv 0) (pv 4) (fun _ _ => rfl)) ip_add)
        apply pss_one
        apply ps_if
        case hc => exact (pt_cmpR op_gt (pv 1) (pe_ix ix_tup (pv 3) pe_int (fun _ _ => rfl)) (nomark _))
        case ha =>
          apply pss_one
          exact (ps_set (i := 3) sc_best_of.nd rfl (by first | exact Or.inl rfl | exact Or.inr rfl) (pe_tup (pa_cons (pv 1) (pa_cons (pv 2) (pa_cons (pe_op op_add (pv 4) pe_int) pa_nil)))))
        case hb =>
          exact pss_nil
    apply pss_one
    exact (ps_ret (pv 3))
  have hl : (ns.map V.int).length = ns.length := List.length_map _
  have p0 : psum ns 0 = 0 := rfl
  have p1 : psum ns (0 + 1) = ns.getD 0 0 := by
    have := psum_getD (ns := ns) (i := 0) (by (first | lia | omega))
    (first | lia | omega)
  walk_at "rd"
  refine ⟨r, _, 0, _, rfl, rfl, SqL.of hR, atI_ok (by decide) (by (first | lia | omega)), ?_⟩
  walk_at "rd"
  refine ⟨by show 3 ≤ sizeLine; decide, fun t0 ht0 => ?_⟩
  have s1 : Same H (upd H t0 (.tup [.int (ns.getD (Int.toNat 0) 0), .int 0, .int 1])) := Same.new ht0 _
  walk_at "rd"
  refine ⟨r, _, rfl, .inl (SqL.of (s1 _ _ hR)), ?_⟩
  refine ⟨_, _, rfl, ⟨by decide, by decide, by (first | lia | omega), by (first | lia | omega)⟩, ?_⟩
  refine for_range (fun j σ H' => ∃ (t : Addr) (T : Int) (f1 : Nat) (s : Int) (f b : Nat) (o4 : Option V), Same H H' ∧ H' t = some (.tup [.int s, .int f, .int b]) ∧ Ends1 (psum ns) (j + 1) T f1 ∧ BestIn (psum ns) (Upto (j + 1)) s f b ∧ f ≤ f1 ∧
    σ = [some (.ref r), some (.int T), some (.int f1), some (.ref t), o4]) ⟨t0, _, 0, _, 0, 1, none, s1, upd_same, ?_, ?_, Nat.le_refl _, rfl⟩ ?_ ?_
  · exact ⟨by (first | lia | omega), by show ns.getD 0 0 = psum ns (0 + 1) - psum ns 0; (first | lia | omega), fun f' hf => by
      have e : f' = 0 := by (first | lia | omega)
      subst e
      exact .inr ⟨by show psum ns (0 + 1) - psum ns 0 = ns.getD 0 0; (first | lia | omega), Nat.le_refl _⟩⟩
  · exact ⟨by decide, by show ns.getD 0 0 = psum ns (0 + 1) - psum ns 0; (first | lia | omega), fun f' b' z => by
      have e : f' = 0 ∧ b' = 1 := by (first | lia | omega)
      obtain ⟨rfl, rfl⟩ := e
      exact .inr ⟨by show psum ns (0 + 1) - psum ns 0 = ns.getD 0 0; (first | lia | omega), .inr ⟨rfl, Nat.le_refl _⟩⟩⟩
  · rintro j σ H1 hj ⟨t, T, f1, s, f, b, o4, sm, ht, hE, hB, hle, rfl⟩
    have hj' : j + 1 < ns.length := by (first | lia | omega)
    have ej : ((1 : Int) + j).toNat = j + 1 := by (first | lia | omega)
    have es := psum_getD (ns := ns) (i := j + 1) hj'
    walk_at "rd"
    refine ifJ (fun σ' H' => ∃ (T' : Int) (f2 : Nat), H1 = H' ∧ T' + ns.getD (j + 1) 0 = psum ns (j + 1 + 1) - psum ns f2 ∧ Ends1 (psum ns) (j + 1 + 1) (psum ns (j + 1 + 1) - psum ns f2) f2 ∧ f ≤ f2 ∧ σ' = [some (.ref r), some (.int T'), some (.int f2), some (.ref t), some (.int (1 + j))]) ?_ (fun hpos => ⟨T, f1, rfl, ?_, ends_pos hE hpos, hle, rfl⟩) (fun R hR' hneg => ?_)
    case refine_2 =>
      have := hE.val
      (first | lia | omega)
    case refine_3 =>
      walk_at "rd"
      have hf := hE.lt
      exact hR' _ _ ⟨0, j + 1, rfl, by (first | lia | omega), ends_neg hE hneg, by (first | lia | omega), by
        have e : (1 : Int) + j = ((j + 1 : Nat) : Int) := by (first | lia | omega)
        rw [← e]
        rfl⟩
    rintro _ _ ⟨T', f2, rfl, hT, hE2, hle2, rfl⟩
    walk_at "rd"
    refine ⟨r, _, _, _, rfl, rfl, SqL.of (sm _ _ hR), atI_ok (by (first | lia | omega)) (by (first | lia | omega)), ?_⟩
    walk_at "rd"
    refine ⟨t, _, 0, _, rfl, rfl, SqT.of ht, rfl, ?_⟩
    walk_at "rd"
    have hE3 : Ends1 (psum ns) (j + 1 + 1) (T' + ns.getD ((1 : Int) + j).toNat 0) f2 := by
      rw [ej, hT]
      exact hE2
    refine ifD (fun hgt => ?_) (fun hgt => ?_)
    · walk_at "rd"
      refine ⟨by show 3 ≤ sizeLine; decide, fun p hp => ?_⟩
      refine ⟨p, _, f2, _, f2, j + 1 + 1, _, sm.trans (Same.new hp _), ?_, hE3, kad_more hE3 hB hgt, Nat.le_refl _, rfl⟩
      rw [upd_same]
      have e : (1 : Int) + j + 1 = ((j + 1 + 1 : Nat) : Int) := by (first | lia | omega)
      show some (HO.tup [V.int _, V.int f2, V.int (1 + j + 1)]) = _
      rw [e]
    · exact ⟨t, _, f2, s, f, b, _, sm, ht, hE3, kad_less hE3 hB hle2 hgt, hle2, rfl⟩
  · rintro σ H1 ⟨t, T, f1, s, f, b, o4, sm, ht, hE, hB, hle, rfl⟩
    walk_at "rd"
    refine q t s f b H1 sm ht (hB.congr fun f b => ?_)
    rw [hl]
    unfold Val
    (first | lia | omega)
def sp_ahead : Sp := fun vs H Q _ => ∃ (r : Addr) (ns : List Int), vs = [.ref r] ∧ H r = some (.lst (ns.map V.int)) ∧ ns.length ≤ 90000 ∧
  ∀ (l : Addr) (H' : Hp), Same H H' → H l = none → H' l = some (.lst ((pl ns ns.length).map V.int)) → Q (.ref l) H'
theorem ok_ahead {P : Program} {w : World} {K : PySem.W.Frag} {mg : Str → Option Value} {base : Heap} {k : Nat} {f : Addr} {fd : FuncData} (F : Fun K "sums_ahead" "sums_ahead" s_sums_ahead f fd) (Z : Blt mg) : FnOk P w K mg base CX0 (k + 1) f fd ["row"] sp_ahead := by
  refine F.ok sc_sums_ahead (fun vs H Q E h => ?_) (fun cdv A outer s H vs Q E hr h => ?_)
  · obtain ⟨r, ns, rfl, _⟩ := h
    rfl
  obtain ⟨r, ns, rfl, hR, hz, q⟩ := h
  apply Exists.intro
  apply And.intro
  case left =>
    apply pss_cons
    case h1 =>
      exact (ps_set (i := 1) sc_sums_ahead.nd rfl (by first | exact Or.inl rfl | exact Or.inr rfl) pe_int)
    apply pss_cons
    case h1 =>
      exact (ps_set (i := 2) sc_sums_ahead.nd rfl (by first | exact Or.inl rfl | exact Or.inr rfl) (pe_lst (pa_cons (pv 1) pa_nil)))
    apply pss_cons
    case h1 =>
      apply ps_for PassesOwn.never rfl
      case hi => exact (pi_list (pv 0))
      case hg => exact (pg_name (i := 3) sc_sums_ahead.nd rfl (by first | exact Or.inl rfl | exact Or.inr rfl))
      case hb =>
        apply pss_cons
        case h1 =>
          exact (ps_aug (i := 1) sc_sums_ahead.nd rfl (by first | exact Or.inl rfl | exact Or.inr rfl) (pv 3) ip_add)
        apply pss_one
        exact (ps_expr (pe_bm PySem.F.plainAttrs_list PySem.F.slot_list_append PySem.F.type_list_append mt_append (pv 2) (pa_cons (pv 1) pa_nil)))
    apply pss_one
    exact (ps_ret (pv 2))
  walk_at "rd"
  refine ⟨by show 1 ≤ sizeLine; decide, fun l hl => ?_⟩
  walk_at "rd"
  have s1 : Same H (upd H l (.lst [.int 0])) := Same.new hl _
  refine ⟨⟨_, SqL.of (s1 _ _ hR)⟩, ?_⟩
  refine for_list (xs := ns.map V.int) (fun i σ H' => ∃ o3, Same H H' ∧ H' l = some (.lst ((pl ns i).map V.int)) ∧ σ = [some (.ref r), some (.int (psum ns i)), some (.ref l), o3]) ⟨none, s1, upd_same, rfl⟩ ?_ ?_ ?_
  · rintro i σ H' _ ⟨o3, sm, _, _⟩
    exact SqL.of (sm _ _ hR)
  · rintro i x σ H' hx ⟨o3, sm, hl', rfl⟩
    obtain ⟨hi, rfl⟩ := int_at hx
    walk_at "rd"
    refine ⟨.inl ⟨rfl, _, SqL.of hl'⟩, ?_⟩
    walk_at "rd"
    refine ⟨l, _, _, rfl, rfl, hl', small (by rw [List.length_map, pl_len]; (first | lia | omega)), ?_⟩
    refine ⟨_, sm.upd hl, ?_, by rw [psum_succ hi]; rfl⟩
    rw [upd_same, pl_succ, List.map_append, psum_succ hi]
    rfl
  · rintro σ H' ⟨o3, sm, hl', rfl⟩
    walk_at "rd"
    rw [List.length_map] at hl'
    exact q l H' sm hl hl'
/-! ### longest_of -/
def sp_longest : Sp := fun vs H Q _ => ∃ n L M : Int, vs = [.int n, .int L, .int M] ∧ 1 ≤ L ∧ L ≤ M ∧ L ≤ n ∧ Q (.int (if n < M then n else M)) H
theorem ok_longest {P : Program} {w : World} {K : PySem.W.Frag} {mg : Str → Option Value} {base : Heap} {k : Nat} {f : Addr} {fd : FuncData} (F : Fun K "longest_of" "longest_of" s_longest_of f fd) (Z : Blt mg) : FnOk P w K mg base CX0 (k + 1) f fd ["many", "least", "most"] sp_longest := by
  refine F.ok sc_longest_of (fun vs H Q E h => ?_) (fun cdv A outer s H vs Q E hr h => ?_)
  · obtain ⟨n, L, M, rfl, _⟩ := h
    rfl
  obtain ⟨n, L, M, rfl, h1, h2, h3, q⟩ := h
  apply Exists.intro
  apply And.intro
  case left =>
    apply pss_cons
    case h1 =>
      apply ps_if
      case hc => exact (PW.pt (pw_or (pt_cmpR op_lt (pv 1) pe_int (nomark _)) (pw_or (pt_cmpR op_lt (pv 2) (pv 1) (nomark _)) (pw_or1 (pt_cmpR op_gt (pv 1) (pv 0) (nomark _))))))
      case ha =>
        apply pss_one
        exact ps_never
      case hb =>
        exact pss_nil
    apply pss_one
    exact (ps_ret (pe_callB (call_min2 rfl) rfl Z.min_ PyProof.Rows.boot_min (pa_cons (pv 2) (pa_cons (pv 0) pa_nil))))
  walk_at "rd"
  refine ifD (fun z => absurd z (by (first | lia | omega))) (fun _ => ?_)
  walk_at "rd"
  refine ifD (fun z => absurd z (by (first | lia | omega))) (fun _ => ?_)
  walk_at "rd"
  refine ifD (fun z => absurd z (by (first | lia | omega))) (fun _ => ?_)
  walk_at "rd"
  exact ⟨_, _, rfl, q⟩
theorem pl_getD {ns : List Int} {d m : Nat} (h : d ≤ m) : (pl ns m).getD d 0 = psum ns d := by
  unfold pl
  rw [List.getD_eq_getElem?_getD, List.getElem?_map, List.getElem?_range (by (first | lia | omega))]
  rfl
/-! ### the firsts that may still be the best: by sums ahead P, of the window from lo on, ahead of h -/
abbrev nv (d : Nat) : V := .int (d : Int)
structure Dq (P : Nat → Int) (lo h : Nat) (ds : List Nat) : Prop where
  pw : ds.Pairwise fun a b => a < b ∧ P a ≤ P b
  mem : ∀ d, d ∈ ds → lo ≤ d ∧ d < h
  dom : ∀ f, lo ≤ f → f < h → f ∉ ds → ∃ d, d ∈ ds ∧ f < d ∧ P d < P f
theorem pw_last {P : Nat → Int} {cs : List Nat} {l : Nat} (h : cs.Pairwise fun a b => a < b ∧ P a ≤ P b) (hl : cs.getLast? = some l) : ∀ a, a ∈ cs → P a ≤ P l := by
  intro a ha
  obtain ⟨c', rfl⟩ := List.getLast?_eq_some_iff.mp hl
  rcases List.mem_append.mp ha with ha | ha
  · exact ((List.pairwise_append.mp h).2.2 a ha l (by simp)).2
  · have : a = l := by simpa using ha
    rw [this]
    exact Int.le_refl _
theorem Dq.enter {P : Nat → Int} {lo h : Nat} {cs rs : List Nat} (q : Dq P lo h (cs ++ rs)) (hr : ∀ d, d ∈ rs → P d > P h) (hc : ∀ d, cs.getLast? = some d → P d ≤ P h) (hlo : lo ≤ h) : Dq P lo (h + 1) (cs ++ [h]) := by
  have pc := (List.pairwise_append.mp q.pw).1
  refine ⟨List.pairwise_append.mpr ⟨pc, List.pairwise_singleton _ _, fun a ha b hb => ?_⟩, fun d hd => ?_, fun f h1 h2 h3 => ?_⟩
  · have e : b = h := by simpa using hb
    subst e
    refine ⟨(q.mem a (List.mem_append_left _ ha)).2, ?_⟩
    cases e2 : cs.getLast? with
    | none =>
      have : cs = [] := by simpa using e2
      subst this
      cases ha
    | some l => exact Int.le_trans (pw_last pc e2 a ha) (hc l e2)
  · rcases List.mem_append.mp hd with hd | hd
    · have := q.mem d (List.mem_append_left _ hd)
      (first | lia | omega)
    · have : d = h := by simpa using hd
      (first | lia | omega)
  · have n1 : f ∉ cs := fun z => h3 (List.mem_append_left _ z)
    have n2 : f ≠ h := fun z => h3 (List.mem_append_right _ (by simp [z]))
    by_cases hf : f ∈ rs
    · exact ⟨h, by simp, by (first | lia | omega), hr f hf⟩
    · obtain ⟨d, hd, d1, d2⟩ := q.dom f h1 (by (first | lia | omega)) (fun z => (List.mem_append.mp z).elim n1 hf)
      rcases List.mem_append.mp hd with hd | hd
      · exact ⟨d, List.mem_append_left _ hd, d1, d2⟩
      · have := hr d hd
        exact ⟨h, by simp, by (first | lia | omega), by (first | lia | omega)⟩
theorem Dq.pop {P : Nat → Int} {lo lo' h d0 : Nat} {tl : List Nat} (q : Dq P lo h (d0 :: tl)) (h0 : d0 < lo') (hle : lo' ≤ lo + 1) : Dq P lo' h tl := by
  obtain ⟨p1, p2⟩ := List.pairwise_cons.mp q.pw
  have m0 := q.mem d0 List.mem_cons_self
  refine ⟨p2, fun d hd => ?_, fun f h1 h2 h3 => ?_⟩
  · have a := (p1 d hd).1
    have b := q.mem d (List.mem_cons_of_mem _ hd)
    (first | lia | omega)
  · obtain ⟨d, hd, d1, d2⟩ := q.dom f (by (first | lia | omega)) h2 (fun z => by
      rcases List.mem_cons.mp z with z | z
      · (first | lia | omega)
      · exact h3 z)
    rcases List.mem_cons.mp hd with hd | hd
    · (first | lia | omega)
    · exact ⟨d, hd, d1, d2⟩
theorem Dq.stay {P : Nat → Int} {lo lo' h d0 : Nat} {tl : List Nat} (q : Dq P lo h (d0 :: tl)) (h0 : ¬ d0 < lo') (hle : lo ≤ lo') : Dq P lo' h (d0 :: tl) := by
  obtain ⟨p1, _⟩ := List.pairwise_cons.mp q.pw
  refine ⟨q.pw, fun d hd => ?_, fun f h1 h2 h3 => q.dom f (by (first | lia | omega)) h2 h3⟩
  have b := q.mem d hd
  rcases List.mem_cons.mp hd with hd | hd
  · (first | lia | omega)
  · have a := (p1 d hd).1
    (first | lia | omega)
theorem Dq.head {P : Nat → Int} {lo h d0 : Nat} {tl : List Nat} (q : Dq P lo h (d0 :: tl)) : ∀ f, lo ≤ f → f < h → P d0 < P f ∨ (P d0 = P f ∧ d0 ≤ f) := by
  obtain ⟨p1, _⟩ := List.pairwise_cons.mp q.pw
  have all : ∀ d, d ∈ d0 :: tl → P d0 ≤ P d ∧ d0 ≤ d := fun d hd => by
    rcases List.mem_cons.mp hd with hd | hd
    · subst hd; exact ⟨Int.le_refl _, Nat.le_refl _⟩
    · have := p1 d hd
      exact ⟨this.2, by (first | lia | omega)⟩
  intro f h1 h2
  by_cases hf : f ∈ d0 :: tl
  · have := all f hf
    (first | lia | omega)
  · obtain ⟨d, hd, d1, d2⟩ := q.dom f h1 h2 hf
    have := all d hd
    exact .inl (by (first | lia | omega))
theorem win_first {P : Nat → Int} {S : Nat → Nat → Prop} {lo h d0 b0 : Nat} (e : ∀ f b, S f b ↔ (b = b0 ∧ lo ≤ f ∧ f < h)) (hd : lo ≤ d0 ∧ d0 < h) (top : ∀ f, lo ≤ f → f < h → P d0 < P f ∨ (P d0 = P f ∧ d0 ≤ f)) : BestIn P S (P b0 - P d0) d0 b0 :=
  ⟨(e d0 b0).mpr ⟨rfl, hd⟩, rfl, fun f' b' q => by
    obtain ⟨rfl, h1, h2⟩ := (e f' b').mp q
    have := top f' h1 h2
    (first | lia | omega)⟩
theorem win_more {P : Nat → Int} {S S' : Nat → Nat → Prop} {s : Int} {f b lo h d0 b0 : Nat} (hB : BestIn P S s f b) (e : ∀ f b, S' f b ↔ (S f b ∨ (b = b0 ∧ lo ≤ f ∧ f < h))) (hd : lo ≤ d0 ∧ d0 < h)
    (top : ∀ f, lo ≤ f → f < h → P d0 < P f ∨ (P d0 = P f ∧ d0 ≤ f)) (hs : P b0 - P d0 > s) : BestIn P S' (P b0 - P d0) d0 b0 :=
  ⟨(e d0 b0).mpr (.inr ⟨rfl, hd⟩), rfl, fun f' b' q => by
    rcases (e f' b').mp q with q | ⟨rfl, h1, h2⟩
    · have := hB.top f' b' q
      exact .inl (by (first | lia | omega))
    · have := top f' h1 h2
      (first | lia | omega)⟩
theorem win_less {P : Nat → Int} {S S' : Nat → Nat → Prop} {s : Int} {f b lo h d0 b0 : Nat} (hB : BestIn P S s f b) (e : ∀ f b, S' f b ↔ (S f b ∨ (b = b0 ∧ lo ≤ f ∧ f < h)))
    (top : ∀ f, lo ≤ f → f < h → P d0 < P f ∨ (P d0 = P f ∧ d0 ≤ f)) (hs : ¬ P b0 - P d0 > s) (hle : f ≤ d0) (hb : b ≤ b0) : BestIn P S' s f b :=
  ⟨(e f b).mpr (.inl hB.mem), hB.val, fun f' b' q => by
    rcases (e f' b').mp q with q | ⟨rfl, h1, h2⟩
    · exact hB.top f' b' q
    · have := top f' h1 h2
      (first | lia | omega)⟩
/-! ### enter_first -/
theorem upd_id {H : Hp} {a : Addr} {o : HO} (h : H a = some o) : upd H a o = H := by
  funext b
  by_cases e : b = a
  · subst e; rw [upd_same, h]
  · rw [upd_ne e]
def sp_enter : Sp := fun vs H Q _ => ∃ (q a : Addr) (ds : List Nat) (ns : List Int) (i : Nat), vs = [.ref q, .ref a, .int i] ∧ q ≠ a ∧ H q = some (.lst (ds.map nv)) ∧ H a = some (.lst ((pl ns ns.length).map V.int)) ∧ (∀ d, d ∈ ds → d ≤ ns.length) ∧ i ≤ ns.length ∧ ds.length ≤ 90000 ∧
  ∀ cs rs, ds = cs ++ rs → (∀ d, d ∈ rs → psum ns d > psum ns i) → (∀ d, cs.getLast? = some d → psum ns d ≤ psum ns i) → Q .non (upd H q (.lst ((cs ++ [i]).map nv)))
theorem ok_enter {P : Program} {w : World} {K : PySem.W.Frag} {mg : Str → Option Value} {base : Heap} {k : Nat} {f : Addr} {fd : FuncData} (F : Fun K "enter_first" "enter_first" s_enter_first f fd) (Z : Blt mg) : FnOk P w K mg base CX0 (k + 1) f fd ["firsts", "ahead", "first"] sp_enter := by
  refine F.ok sc_enter_first (fun vs H Q E h => ?_) (fun cdv A outer s H vs Q E hr h => ?_)
  · obtain ⟨q, a, ds, ns, i, rfl, _⟩ := h
    rfl
  obtain ⟨q, a, ds, ns, i, rfl, hqa, hq, ha, hds, hi, hz, fin⟩ := h
  apply Exists.intro
  apply And.intro
  case left =>
    apply pss_cons
    case h1 =>
      apply ps_while PassesOwn.never
      case hc => exact (PW.pt (pw_and (pt_truth (pv 0) (fun _ => rfl)) (pw_and1 (pt_cmpR op_gt (pe_ix ix_list (pv 1) (pe_ix ix_list (pv 0) (pe_un un_neg pe_int) (fun _ _ => rfl)) (fun _ _ => rfl)) (pe_ix ix_list (pv 1) (pv 2) (fun _ _ => rfl)) (nomark _)))))
      case hb =>
        apply pss_one
        exact (ps_expr (pe_bm0 PySem.F.plainAttrs_list PySem.F.slot_list_pop PySem.F.type_list_pop mt_pop (pv 0)))
    apply pss_one
    exact (ps_expr (pe_bm PySem.F.plainAttrs_list PySem.F.slot_list_append PySem.F.type_list_append mt_append (pv 0) (pa_cons (pv 2) pa_nil)))
  have atA : ∀ d : Nat, d ≤ ns.length → atI ((pl ns ns.length).map V.int) (d : Int) = some (.int (psum ns d)) := fun d hd => by
    have := atI_ok (ns := pl ns ns.length) (k := (d : Int)) (by (first | lia | omega)) (by rw [pl_len]; (first | lia | omega))
    rw [this, Int.toNat_natCast, pl_getD hd]
  refine ⟨fun m σ H' => ∃ cs rs, ds = cs ++ rs ∧ m = cs.length ∧ (∀ d, d ∈ rs → psum ns d > psum ns i) ∧ H' = upd H q (.lst (cs.map nv)) ∧ σ = [some (.ref q), some (.ref a), some (.int i)], ⟨ds.length, ds, [], by simp, rfl, (fun d z => by cases z), (upd_id hq).symm, rfl⟩, ?_⟩
  rintro m _ _ ⟨cs, rs, rfl, rfl, hrs, rfl, rfl⟩
  have ha' : upd H q (.lst (cs.map nv)) a = some (.lst ((pl ns ns.length).map V.int)) := by rw [upd_ne (Ne.symm hqa)]; exact ha
  have app : ∀ (D : V → Hp → Prop), D .non (upd H q (.lst ((cs ++ [i]).map nv))) → rAppend (.ref q) [.int i] (upd H q (.lst (cs.map nv))) D := fun D z => by
    refine ⟨q, _, _, rfl, rfl, upd_same, small ?_, ?_⟩
    · rw [List.length_map]
      rw [List.length_append] at hz
      (first | lia | omega)
    · rw [upd_upd]
      rw [List.map_append] at z
      exact z
  refine ⟨_, rfl, _, .inl ⟨_, SqL.of upd_same, rfl⟩, ?_⟩
  cases e : cs.getLast? with
  | none =>
    have : cs = [] := by simpa using e
    subst this
    refine iteF ?_
    walk_at "rd"
    refine ⟨.inl ⟨rfl, _, SqL.of upd_same⟩, ?_⟩
    walk_at "rd"
    exact app _ (fin [] rs rfl hrs (fun d z => by cases z))
  | some l =>
    obtain ⟨c', rfl⟩ := List.getLast?_eq_some_iff.mp e
    have hb : (!((c' ++ [l]).map nv).isEmpty) = true := by simp
    rw [hb]
    refine iteT ?_
    have hl : l ≤ ns.length := hds l (by simp)
    walk_at "rd"
    refine ⟨q, _, -1, _, rfl, rfl, SqL.of upd_same, by rw [List.map_append]; exact atI_last _ _, ?_⟩
    refine ⟨a, _, _, _, rfl, rfl, SqL.of ha', atA l hl, ?_⟩
    walk_at "rd"
    refine ⟨a, _, _, _, rfl, rfl, SqL.of ha', atA i hi, ?_⟩
    walk_at "rd"
    refine ifD (fun hgt => ?_) (fun hgt => ?_)
    · refine ⟨fun σ' H' => σ' = [some (.ref q), some (.ref a), some (.int i)] ∧ H' = upd H q (.lst (c'.map nv)), ?_, ?_⟩
      · rintro σ' H' ⟨rfl, rfl⟩
        refine ⟨c'.length, by simp, c', l :: rs, by simp, rfl, fun d hd => ?_, rfl, rfl⟩
        rcases List.mem_cons.mp hd with hd | hd
        · subst hd; exact hgt
        · exact hrs d hd
      · walk_at "rd"
        refine ⟨.inl ⟨rfl, _, SqL.of upd_same⟩, ?_⟩
        refine ⟨q, _, nv l, rfl, rfl, upd_same, ?_, rfl, ?_⟩
        · rw [List.map_append, List.length_append, List.length_map]
          simp
        · rw [upd_upd, List.map_append]
          simp
    · walk_at "rd"
      refine ⟨.inl ⟨rfl, _, SqL.of upd_same⟩, ?_⟩
      walk_at "rd"
      refine app _ (fin (c' ++ [l]) rs rfl hrs fun d z => ?_)
      rw [e] at z
      cases z
      (first | lia | omega)
/-! ### best_sized -/
theorem atI_head {x : V} {xs : List V} : atI (x :: xs) 0 = some x := atI_nat (j := 0) rfl
def sp_sized : Sp := fun vs H Q _ => ∃ (r : Addr) (ns : List Int) (L : Nat) (M : Int), vs = [.ref r, .int L, .int M] ∧ H r = some (.lst (ns.map V.int)) ∧ ns.length ≤ 80000 ∧ 1 ≤ L ∧ L ≤ ns.length ∧ (L : Int) ≤ M ∧
  ∀ (t : Addr) (s : Int) (f b : Nat) (H' : Hp), Same H H' → H' t = some (.tup [.int s, .int f, .int b]) → IsBest ns L M s f b → Q (.ref t) H'
/-- what best holds, its first not behind any kept one -/
def BstF (P : Nat → Int) (H : Hp) (S : Nat → Nat → Prop) (v : V) (ds : List Nat) (h : Nat) (bb : Nat) : Prop := (v = .non ∧ ∀ f b, ¬ S f b) ∨ ∃ (t : Addr) (s : Int) (f b : Nat), v = .ref t ∧ H t = some (.tup [.int s, .int f, .int b]) ∧ BestIn P S s f b ∧ (∀ d, d ∈ ds → f ≤ d) ∧ f < h ∧ b ≤ bb
theorem ok_sized {P : Program} {w : World} {K : PySem.W.Frag} {mg : Str → Option Value} {base : Heap} {k : Nat} {f : Addr} {fd : FuncData} (F : Fun K "best_sized" "best_sized" s_best_sized f fd) (Z : Blt mg)
    (D_longest_of : Def P w K mg base k "longest_of" ["many", "least", "most"] sp_longest) (D_sums_ahead : Def P w K mg base k "sums_ahead" ["row"] sp_ahead) (D_enter_first : Def P w K mg base k "enter_first" ["firsts", "ahead", "first"] sp_enter) :
    FnOk P w K mg base CX0 (k + 1) f fd ["row", "least", "most"] sp_sized := by
  refine F.ok sc_best_sized (fun vs H Q E h => ?_) (fun cdv A outer s H vs Q E hr h => ?_)
  · obtain ⟨r, ns, L, M, rfl, _⟩ := h
    rfl
  obtain ⟨r, ns, L, M, rfl, hR, hz, hL1, hL2, hLM, fin⟩ := h
  apply Exists.intro
  apply And.intro
  case left =>
    apply pss_cons
    case h1 =>
      exact (ps_set (i := 3) sc_best_sized.nd rfl (by first | exact Or.inl rfl | exact Or.inr rfl) (pe_def D_longest_of hr rfl (pa_cons (pe_callB call_len_seq rfl Z.len_ PySem.boot_len (pa_cons (pv 0) pa_nil)) (pa_cons (pv 1) (pa_cons (pv 2) pa_nil)))))
    apply pss_cons
    case h1 =>
      exact (ps_set (i := 4) sc_best_sized.nd rfl (by first | exact Or.inl rfl | exact Or.inr rfl) (pe_def D_sums_ahead hr rfl (pa_cons (pv 0) pa_nil)))
    apply pss_cons
    case h1 =>
      exact (ps_set (i := 5) sc_best_sized.nd rfl (by first | exact Or.inl rfl | exact Or.inr rfl) (pe_lst pa_nil))
    apply pss_cons
    case h1 =>
      exact (ps_set (i := 6) sc_best_sized.nd rfl (by first | exact Or.inl rfl | exact Or.inr rfl) pe_non)
    apply pss_cons
    case h1 =>
      apply ps_for PassesOwn.never rfl
      case hi => exact (pi_range2 rfl Z.range_ (pa_cons (pv 1) (pa_cons (pe_op op_add (pe_callB call_len_seq rfl Z.len_ PySem.boot_len (pa_cons (pv 0) pa_nil)) pe_int) pa_nil)))
      case hg => exact (pg_name (i := 7) sc_best_sized.nd rfl (by first | exact Or.inl rfl | exact Or.inr rfl))
      case hb =>
        apply pss_cons
        case h1 =>
          exact (ps_expr (pe_def D_enter_first hr rfl (pa_cons (pv 5) (pa_cons (pv 4) (pa_cons (pe_op op_sub (pv 7) (pv 1)) pa_nil)))))
        apply pss_cons
        case h1 =>
          apply ps_if
          case hc => exact (pt_cmpR op_lt (pe_ix ix_list (pv 5) pe_int (fun _ _ => rfl)) (pe_op op_sub (pv 7) (pv 3)) (nomark _))
          case ha =>
            apply pss_one
            exact (ps_expr (pe_bm PySem.F.plainAttrs_list PySem.F.slot_list_pop PySem.F.type_list_pop mt_popAt (pv 5) (pa_cons pe_int pa_nil)))
          case hb =>
            exact pss_nil
        apply pss_cons
        case h1 =>
          exact (ps_set (i := 8) sc_best_sized.nd rfl (by first | exact Or.inl rfl | exact Or.inr rfl) (pe_op op_sub (pe_ix ix_list (pv 4) (pv 7) (fun _ _ => rfl)) (pe_ix ix_list (pv 4) (pe_ix ix_list (pv 5) pe_int (fun _ _ => rfl)) (fun _ _ => rfl))))
        apply pss_one
        apply ps_if
        case hc => exact (PW.pt (pw_or (pt_cmpR op_isN (pv 6) pe_non (nomark _)) (pw_or1 (pt_cmpR op_gt (pv 8) (pe_ix ix_tup (pv 6) pe_int (fun _ _ => rfl)) (nomark _)))))
        case ha =>
          apply pss_one
          exact (ps_set (i := 6) sc_best_sized.nd rfl (by first | exact Or.inl rfl | exact Or.inr rfl) (pe_tup (pa_cons (pv 8) (pa_cons (pe_ix ix_list (pv 5) pe_int (fun _ _ => rfl)) (pa_cons (pv 7) pa_nil)))))
        case hb =>
          exact pss_nil
    apply pss_one
    exact (ps_ret (pv 6))
  have hl : (ns.map V.int).length = ns.length := List.length_map _
  walk_at "rd"
  refine ⟨r, _, rfl, .inl (SqL.of hR), ?_⟩
  walk_at "rd"
  refine ⟨_, _, _, rfl, by (first | lia | omega), hLM, by rw [hl]; (first | lia | omega), ?_⟩
  obtain ⟨lg, elg⟩ : ∃ lg : Nat, (if (((ns.map V.int).length : Nat) : Int) < M then (((ns.map V.int).length : Nat) : Int) else M) = (lg : Int) := by
    rw [hl]
    split
    · exact ⟨_, rfl⟩
    · exact ⟨M.toNat, by (first | lia | omega)⟩
  have hlg : L ≤ lg ∧ lg ≤ ns.length ∧ (lg : Int) ≤ M ∧ ((lg : Int) = M ∨ lg = ns.length) := by
    rw [hl] at elg
    split at elg <;> (first | lia | omega)
  rw [elg]
  walk_at "rd"
  refine ⟨r, ns, rfl, hR, by (first | lia | omega), fun a H1 s1 ha0 ha => ?_⟩
  walk_at "rd"
  refine ⟨Nat.zero_le _, fun q hq => ?_⟩
  walk_at "rd"
  have hqa : q ≠ a := fun z => by subst z; rw [ha] at hq; cases hq
  have hR1 := s1 _ _ hR
  have hrq : r ≠ q := fun z => by subst z; rw [hR1] at hq; cases hq
  refine ⟨r, _, rfl, .inl (SqL.of (by rw [upd_ne hrq]; exact hR1)), ?_⟩
  walk_at "rd"
  refine ⟨_, _, rfl, ⟨by (first | lia | omega), by (first | lia | omega), by (first | lia | omega), by (first | lia | omega)⟩, ?_⟩
  have atA : ∀ d : Nat, d ≤ ns.length → atI ((pl ns ns.length).map V.int) (d : Int) = some (.int (psum ns d)) := fun d hd => by
    have := atI_ok (ns := pl ns ns.length) (k := (d : Int)) (by (first | lia | omega)) (by rw [pl_len]; (first | lia | omega))
    rw [this, Int.toNat_natCast, pl_getD hd]
  refine for_range (fun j σ H' => ∃ (v : V) (ds : List Nat) (o7 o8 : Option V), (∀ b o, b ≠ q → H1 b = some o → H' b = some o) ∧ H' q = some (.lst (ds.map nv)) ∧ Dq (psum ns) (L + j - 1 - lg) j ds ∧ ds.length ≤ j ∧ BstF (psum ns) H' (fun f b => Val ns.length L M f b ∧ b < L + j) v ds j (L + j) ∧
    σ = [some (.ref r), some (.int L), some (.int M), some (.int lg), some (.ref a), some (.ref q), some v, o7, o8]) ?_ ?_ ?_
  · refine ⟨.non, [], none, none, fun b o hb e => by rw [upd_ne hb]; exact e, upd_same, ⟨List.Pairwise.nil, (fun d z => by cases z), (fun f _ h2 => by (first | lia | omega))⟩, Nat.le_refl _, .inl ⟨rfl, fun f b z => ?_⟩, rfl⟩
    unfold Val at z
    (first | lia | omega)
  · rintro j σ H2 hj ⟨v, ds, o7, o8, keep, hq2, hD, hlen, hv, rfl⟩
    have hj' : L + j ≤ ns.length := by (first | lia | omega)
    have ha2 := keep a _ (Ne.symm hqa) ha
    walk_at "rd"
    have ei : (L : Int) + j - L = (j : Int) := by (first | lia | omega)
    refine ⟨q, a, ds, ns, j, by show [V.ref q, V.ref a, V.int ((L : Int) + j - L)] = _; rw [ei], hqa, hq2, ha2, fun d hd => ?_, by (first | lia | omega), by (first | lia | omega), fun cs rs ecs hrs hcs => ?_⟩
    · have := (hD.mem d hd).2
      (first | lia | omega)
    subst ecs
    have hE := hD.enter hrs hcs (by (first | lia | omega))
    have hcl : (cs ++ [j]).length ≤ j + 1 := by
      rw [List.length_append] at hlen ⊢
      rw [List.length_singleton]
      (first | lia | omega)
    obtain ⟨d0, tl, ed⟩ : ∃ d0 tl, cs ++ [j] = d0 :: tl := by
      cases cs with
      | nil => exact ⟨j, [], rfl⟩
      | cons x xs => exact ⟨x, xs ++ [j], rfl⟩
    have hjm : j ∈ d0 :: tl := by rw [← ed]; simp
    have hsub : ∀ x, x ∈ d0 :: tl → x = j ∨ x ∈ cs ++ rs := fun x hx => by
      rw [← ed] at hx
      rcases List.mem_append.mp hx with hx | hx
      · exact .inr (List.mem_append_left _ hx)
      · exact .inl (by simpa using hx)
    rw [ed] at hE hcl
    have hq3 : upd H2 q (.lst ((cs ++ [j]).map nv)) q = some (.lst ((d0 :: tl).map nv)) := by rw [upd_same, ed]
    walk_at "rd"
    refine ⟨q, _, 0, _, rfl, rfl, SqL.of hq3, atI_head, ?_⟩
    walk_at "rd"
    refine ifJ (fun σ' H' => ∃ (d1 : Nat) (t1 : List Nat), H' = upd H2 q (.lst ((d1 :: t1).map nv)) ∧ Dq (psum ns) (L + j - lg) (j + 1) (d1 :: t1) ∧ (d1 :: t1).length ≤ j + 1 ∧ (∀ x, x ∈ d1 :: t1 → x = j ∨ x ∈ cs ++ rs) ∧
      σ' = [some (.ref r), some (.int L), some (.int M), some (.int lg), some (.ref a), some (.ref q), some v, some (.int (L + j)), o8]) ?_ (fun hno => ⟨d0, tl, by rw [ed], hE.stay (by (first | lia | omega)) (by (first | lia | omega)), hcl, hsub, rfl⟩) (fun R hR' hlt => ?_)
    case refine_2 =>
      have hlt' : (d0 : Int) < (L : Int) + j - lg := hlt
      obtain ⟨d1, t1, rfl⟩ : ∃ d1 t1, tl = d1 :: t1 := by
        cases tl with
        | nil =>
          have : j = d0 := by simpa using hjm
          (first | lia | omega)
        | cons x xs => exact ⟨x, xs, rfl⟩
      walk_at "rd"
      refine ⟨.inl ⟨rfl, _, SqL.of hq3⟩, ?_⟩
      walk_at "rd"
      refine ⟨q, _, 0, 0, _, rfl, rfl, hq3, by decide, by decide, ?_, rfl, ?_⟩
      · unfold seqIndex?
        simp
        (first | lia | omega)
      · refine hR' _ _ ⟨d1, t1, by rw [upd_upd]; rfl, hE.pop (by (first | lia | omega)) (by (first | lia | omega)), ?_, fun x hx => hsub x (List.mem_cons_of_mem _ hx), rfl⟩
        rw [List.length_cons] at hcl
        (first | lia | omega)
    rintro _ _ ⟨d1, t1, rfl, hD1, hl1, hs1, rfl⟩
    have hd1 := hD1.mem d1 List.mem_cons_self
    have top := hD1.head
    have ha3 : upd H2 q (.lst ((d1 :: t1).map nv)) a = some (.lst ((pl ns ns.length).map V.int)) := by rw [upd_ne (Ne.symm hqa)]; exact ha2
    have eb : (L : Int) + j = ((L + j : Nat) : Int) := by (first | lia | omega)
    walk_at "rd"
    refine ⟨a, _, _, _, rfl, rfl, SqL.of ha3, by rw [eb]; exact atA (L + j) hj', ?_⟩
    walk_at "rd"
    refine ⟨q, _, 0, _, rfl, rfl, SqL.of upd_same, atI_head, ?_⟩
    refine ⟨a, _, _, _, rfl, rfl, SqL.of ha3, atA d1 (by (first | lia | omega)), ?_⟩
    walk_at "rd"
    have eS : ∀ f b, (Val ns.length L M f b ∧ b < L + (j + 1)) ↔ ((Val ns.length L M f b ∧ b < L + j) ∨ (b = L + j ∧ L + j - lg ≤ f ∧ f < j + 1)) := fun f b => by
      unfold Val
      (first | lia | omega)
    have en : L + (j + 1) - 1 - lg = L + j - lg := by (first | lia | omega)
    have keep3 : ∀ b o, b ≠ q → H1 b = some o → upd H2 q (.lst ((d1 :: t1).map nv)) b = some o := fun b o hb e => by rw [upd_ne hb]; exact keep b o hb e
    have sorted : ∀ d, d ∈ d1 :: t1 → d1 ≤ d := fun d hd => by
      rcases List.mem_cons.mp hd with hd | hd
      · (first | lia | omega)
      · have := ((List.pairwise_cons.mp hD1.pw).1 d hd).1
        (first | lia | omega)
    have more : ∀ (p : Addr) (H' : Hp), upd H2 q (.lst ((d1 :: t1).map nv)) p = none → H' = upd (upd H2 q (.lst ((d1 :: t1).map nv))) p (.tup [.int (psum ns (L + j) - psum ns d1), .int d1, .int (L + j)]) → BestIn (psum ns) (fun f b => Val ns.length L M f b ∧ b < L + (j + 1)) (psum ns (L + j) - psum ns d1) d1 (L + j) →
        ∃ (v : V) (ds : List Nat) (o7 o8' : Option V), (∀ b o, b ≠ q → H1 b = some o → H' b = some o) ∧ H' q = some (.lst (ds.map nv)) ∧ Dq (psum ns) (L + (j + 1) - 1 - lg) (j + 1) ds ∧ ds.length ≤ j + 1 ∧ BstF (psum ns) H' (fun f b => Val ns.length L M f b ∧ b < L + (j + 1)) v ds (j + 1) (L + (j + 1)) ∧
        ([some (.ref r), some (.int L), some (.int M), some (.int lg), some (.ref a), some (.ref q), some (.ref p), some (.int (L + j)), some (.int (psum ns (L + j) - psum ns d1))] : St) = [some (.ref r), some (.int L), some (.int M), some (.int lg), some (.ref a), some (.ref q), some v, o7, o8'] := fun p H' hp eH hB => by
      subst eH
      have hpq : q ≠ p := fun z => by subst z; rw [upd_same] at hp; cases hp
      refine ⟨.ref p, d1 :: t1, _, _, fun b o hb e => ?_, by rw [upd_ne hpq, upd_same], by rw [en]; exact hD1, hl1, .inr ⟨p, _, d1, L + j, rfl, ?_, hB, sorted, hd1.2, by (first | lia | omega)⟩, rfl⟩
      · have e3 := keep3 b o hb e
        rw [upd_ne (ne_of_none e3 hp)]
        exact e3
      · rw [upd_same, eb]
    rcases hv with ⟨rfl, hno⟩ | ⟨t, s, f, b, rfl, ht, hB, hfd, hfh, hbb⟩
    · refine ifD (fun _ => ?_) (fun z => absurd rfl z)
      walk_at "rd"
      refine ⟨q, _, 0, _, rfl, rfl, SqL.of upd_same, atI_head, ?_⟩
      walk_at "rd"
      refine ⟨by show 3 ≤ sizeLine; decide, fun p hp => ?_⟩
      refine more p _ hp rfl (win_first (fun f b => ?_) hd1 top)
      constructor
      · intro z
        rcases (eS f b).mp z with z | z
        · exact absurd z (hno f b)
        · exact z
      · intro z
        exact (eS f b).mpr (.inr z)
    · have htq : t ≠ q := fun z => by subst z; rw [hq2] at ht; cases ht
      have ht3 : upd H2 q (.lst ((d1 :: t1).map nv)) t = some (.tup [.int s, .int f, .int b]) := by rw [upd_ne htq]; exact ht
      refine ifD (fun z => nomatch z) (fun _ => ?_)
      walk_at "rd"
      refine ⟨t, _, 0, _, rfl, rfl, SqT.of ht3, rfl, ?_⟩
      walk_at "rd"
      refine ifD (fun hgt => ?_) (fun hgt => ?_)
      · walk_at "rd"
        refine ⟨q, _, 0, _, rfl, rfl, SqL.of upd_same, atI_head, ?_⟩
        walk_at "rd"
        refine ⟨by show 3 ≤ sizeLine; decide, fun p hp => ?_⟩
        exact more p _ hp rfl (win_more hB eS hd1 top hgt)
      · have hfd1 : ∀ d, d ∈ d1 :: t1 → f ≤ d := fun d hd => by
          rcases hs1 d hd with e | e
          · (first | lia | omega)
          · exact hfd d e
        exact ⟨.ref t, d1 :: t1, _, _, keep3, upd_same, by rw [en]; exact hD1, hl1, .inr ⟨t, s, f, b, rfl, ht3, win_less hB eS top hgt (hfd1 d1 List.mem_cons_self) (by (first | lia | omega)), hfd1, by (first | lia | omega), by (first | lia | omega)⟩, rfl⟩
  · rintro σ H2 ⟨v, ds, o7, o8, keep, hq2, hD, hlen, hv, rfl⟩
    walk_at "rd"
    rw [hl] at hv
    have eS : ∀ f b, (Val ns.length L M f b ∧ b < L + ((ns.length : Int) + 1 - L).toNat) ↔ Val ns.length L M f b := fun f b => by
      unfold Val
      (first | lia | omega)
    rcases hv with ⟨rfl, hno⟩ | ⟨t, s, f, b, rfl, ht, hB, _⟩
    · exact absurd ((eS 0 L).mpr (by unfold Val; (first | lia | omega))) (hno 0 L)
    · refine fin t s f b H2 (fun b o e => ?_) ht (hB.congr eS)
      have e1 := s1 _ _ e
      exact keep b o (fun z => by subst z; rw [e1] at hq; cases hq) e1
/-! ### counting -/
def ct (p : Nat → Bool) : Nat → Nat
  | 0 => 0
  | m + 1 => ct p m + (if p m = true then 1 else 0)
def sm (q : Nat → Nat) : Nat → Nat
  | 0 => 0
  | m + 1 => sm q m + q m
theorem ct_at {p : Nat → Bool} {m : Nat} {v : Bool} (h : p m = v) : ct p (m + 1) = ct p m + (if v = true then 1 else 0) := by
  subst h
  rfl
theorem ct_le (p : Nat → Bool) : ∀ m, ct p m ≤ m
  | 0 => Nat.le_refl _
  | m + 1 => by
    have := ct_le p m
    simp only [ct]
    split <;> (first | lia | omega)
theorem ct_skip {p : Nat → Bool} {a : Nat} : ∀ m, a ≤ m → (∀ i, a ≤ i → i < m → p i = false) → ct p m = ct p a
  | 0, h, _ => by
    have : a = 0 := by (first | lia | omega)
    rw [this]
  | m + 1, h, z => by
    by_cases e : a = m + 1
    · rw [e]
    · have ih := ct_skip (p := p) (a := a) m (by (first | lia | omega)) fun i h1 h2 => z i h1 (by (first | lia | omega))
      simp only [ct]
      rw [z m (by (first | lia | omega)) (by (first | lia | omega)), ih]
      simp
theorem ct_none {p : Nat → Bool} {m : Nat} (z : ∀ i, i < m → p i = false) : ct p m = 0 := ct_skip m (Nat.zero_le _) fun i _ h => z i h
theorem ct_congr {p p' : Nat → Bool} : ∀ {m : Nat}, (∀ i, i < m → p i = p' i) → ct p m = ct p' m
  | 0, _ => rfl
  | m + 1, h => by
    simp only [ct]
    rw [ct_congr fun i hi => h i (by (first | lia | omega)), h m (by (first | lia | omega))]
theorem sm_congr {q q' : Nat → Nat} : ∀ {m : Nat}, (∀ i, i < m → q i = q' i) → sm q m = sm q' m
  | 0, _ => rfl
  | m + 1, h => by
    simp only [sm]
    rw [sm_congr fun i hi => h i (by (first | lia | omega)), h m (by (first | lia | omega))]
theorem sm_zero {q : Nat → Nat} : ∀ {m : Nat}, (∀ i, i < m → q i = 0) → sm q m = 0
  | 0, _ => rfl
  | m + 1, h => by
    simp only [sm]
    rw [sm_zero fun i hi => h i (by (first | lia | omega)), h m (by (first | lia | omega))]
theorem sm_ge {q : Nat → Nat} {i : Nat} : ∀ {m : Nat}, i < m → q i ≤ sm q m
  | 0, h => by (first | lia | omega)
  | m + 1, h => by
    simp only [sm]
    by_cases e : i = m
    · subst e; (first | lia | omega)
    · have := sm_ge (q := q) (i := i) (m := m) (by (first | lia | omega))
      (first | lia | omega)
theorem sm_add {q q' : Nat → Nat} : ∀ m, sm (fun i => q i + q' i) m = sm q m + sm q' m
  | 0 => rfl
  | m + 1 => by
    simp only [sm]
    rw [sm_add m]
    (first | lia | omega)
theorem sm_if {p : Nat → Bool} : ∀ m, sm (fun i => if p i = true then 1 else 0) m = ct p m
  | 0 => rfl
  | m + 1 => by
    simp only [sm, ct]
    rw [sm_if m]
/-- by columns or by rows -/
theorem sm_swap {g : Nat → Nat → Bool} (A : Nat) : ∀ B, sm (fun b => ct (fun f => g f b) A) B = sm (fun f => ct (fun b => g f b) B) A
  | 0 => by
    have : sm (fun f => ct (fun b => g f b) 0) A = 0 := sm_zero fun _ _ => rfl
    rw [this]
    rfl
  | B + 1 => by
    have e : sm (fun f => ct (fun b => g f b) (B + 1)) A = sm (fun f => ct (fun b => g f b) B + (if g f B = true then 1 else 0)) A := sm_congr fun _ _ => rfl
    rw [e, sm_add, sm_if]
    simp only [sm]
    rw [sm_swap A B]
/-- stretches of told lengths whose sums are so -/
def gS (ns : List Int) (L : Nat) (M : Int) (c : Int → Bool) (f b : Nat) : Bool := decide (f + L ≤ b ∧ (b : Int) ≤ f + M ∧ b ≤ ns.length) && c (psum ns b - psum ns f)
/-- how many there are -/
def tot (ns : List Int) (L : Nat) (M : Int) (c : Int → Bool) : Nat := sm (fun b => ct (fun f => gS ns L M c f b) (ns.length + 1)) (ns.length + 1)
theorem gS_no {ns : List Int} {L : Nat} {M : Int} {c : Int → Bool} {f b : Nat} (h : ¬ (f + L ≤ b ∧ (b : Int) ≤ f + M ∧ b ≤ ns.length)) : gS ns L M c f b = false := by
  unfold gS
  rw [decide_eq_false h]
  rfl
theorem gS_yes {ns : List Int} {L : Nat} {M : Int} {c : Int → Bool} {f b : Nat} (h : f + L ≤ b ∧ (b : Int) ≤ f + M ∧ b ≤ ns.length) : gS ns L M c f b = c (psum ns b - psum ns f) := by
  unfold gS
  rw [decide_eq_true h]
  rfl
/-! ### how_many_just -/
def hc (P : Nat → Int) (lo h : Nat) (x : Int) : Nat := ct (fun f => decide (lo ≤ f) && decide (P f = x)) h
theorem hc_succ {P : Nat → Int} {lo h : Nat} {x : Int} (hlo : lo ≤ h) : hc P lo (h + 1) x = hc P lo h x + (if decide (P h = x) = true then 1 else 0) := by
  unfold hc
  refine ct_at ?_
  rw [decide_eq_true hlo, Bool.true_and]
theorem hc_lo {P : Nat → Int} {lo : Nat} {x : Int} : ∀ {h : Nat}, lo < h → hc P lo h x = hc P (lo + 1) h x + (if decide (P lo = x) = true then 1 else 0)
  | 0, z => by (first | lia | omega)
  | h + 1, z => by
    by_cases e : lo = h
    · subst e
      rw [hc_succ (Nat.le_refl _)]
      have a : hc P lo lo x = 0 := ct_none fun i hi => by rw [decide_eq_false (by (first | lia | omega))]; rfl
      have b : hc P (lo + 1) (lo + 1) x = 0 := ct_none fun i hi => by rw [decide_eq_false (by (first | lia | omega))]; rfl
      rw [a, b]
    · have ih := hc_lo (P := P) (lo := lo) (x := x) (h := h) (by (first | lia | omega))
      rw [hc_succ (by (first | lia | omega)), hc_succ (by (first | lia | omega)), ih]
      (first | lia | omega)
def sp_just : Sp := fun vs H Q _ => ∃ (r : Addr) (ns : List Int) (L : Nat) (M x : Int), vs = [.ref r, .int L, .int M, .int x] ∧ H r = some (.lst (ns.map V.int)) ∧ ns.length ≤ 40000 ∧ 1 ≤ L ∧ L ≤ ns.length ∧ (L : Int) ≤ M ∧
  ∀ H', Same H H' → Q (.int (tot ns L M fun y => decide (y = x))) H'
theorem ok_just {P : Program} {w : World} {K : PySem.W.Frag} {mg : Str → Option Value} {base : Heap} {k : Nat} {f : Addr} {fd : FuncData} (F : Fun K "how_many_just" "how_many_just" s_how_many_just f fd) (Z : Blt mg)
    (D_longest_of : Def P w K mg base k "longest_of" ["many", "least", "most"] sp_longest) (D_sums_ahead : Def P w K mg base k "sums_ahead" ["row"] sp_ahead) :
    FnOk P w K mg base CX0 (k + 1) f fd ["row", "least", "most", "told"] sp_just := by
  refine F.ok sc_how_many_just (fun vs H Q E h => ?_) (fun cdv A outer s H vs Q E hr h => ?_)
  · obtain ⟨r, ns, L, M, x, rfl, _⟩ := h
    rfl
  obtain ⟨r, ns, L, M, x, rfl, hR, hz, hL1, hL2, hLM, fin⟩ := h
  apply Exists.intro
  apply And.intro
  case left =>
    apply pss_cons
    case h1 =>
      exact (ps_set (i := 4) sc_how_many_just.nd rfl (by first | exact Or.inl rfl | exact Or.inr rfl) (pe_def D_longest_of hr rfl (pa_cons (pe_callB call_len_seq rfl Z.len_ PySem.boot_len (pa_cons (pv 0) pa_nil)) (pa_cons (pv 1) (pa_cons (pv 2) pa_nil)))))
    apply pss_cons
    case h1 =>
      exact (ps_set (i := 5) sc_how_many_just.nd rfl (by first | exact Or.inl rfl | exact Or.inr rfl) (pe_def D_sums_ahead hr rfl (pa_cons (pv 0) pa_nil)))
    apply pss_cons
    case h1 =>
      exact (ps_set (i := 6) sc_how_many_just.nd rfl (by first | exact Or.inl rfl | exact Or.inr rfl) pe_dnewK)
    apply pss_cons
    case h1 =>
      exact (ps_set (i := 7) sc_how_many_just.nd rfl (by first | exact Or.inl rfl | exact Or.inr rfl) pe_int)
    apply pss_cons
    case h1 =>
      apply ps_for PassesOwn.never rfl
      case hi => exact (pi_range2 rfl Z.range_ (pa_cons (pv 1) (pa_cons (pe_op op_add (pe_callB call_len_seq rfl Z.len_ PySem.boot_len (pa_cons (pv 0) pa_nil)) pe_int) pa_nil)))
      case hg => exact (pg_name (i := 8) sc_how_many_just.nd rfl (by first | exact Or.inl rfl | exact Or.inr rfl))
      case hb =>
        apply pss_cons
        case h1 =>
          exact (ps_set (i := 9) sc_how_many_just.nd rfl (by first | exact Or.inl rfl | exact Or.inr rfl) (pe_ix ix_list (pv 5) (pe_op op_sub (pv 8) (pv 1)) (fun _ _ => rfl)))
        apply pss_cons
        case h1 =>
          exact (ps_dput (hu_of hr) (pv 6) (pv 9) (pe_op op_add (pe_dget2 (hu_of hr) (pv 6) (pv 9) pe_int ⟨rfl, rfl, rfl, rfl⟩) pe_int) rfl)
        apply pss_cons
        case h1 =>
          apply ps_if
          case hc => exact (pt_cmpR op_gt (pv 8) (pv 4) (nomark _))
          case ha =>
            apply pss_cons
            case h1 =>
              exact (ps_set (i := 10) sc_how_many_just.nd rfl (by first | exact Or.inl rfl | exact Or.inr rfl) (pe_ix ix_list (pv 5) (pe_op op_sub (pe_op op_sub (pv 8) (pv 4)) pe_int) (fun _ _ => rfl)))
            apply pss_one
            exact (ps_dput (hu_of hr) (pv 6) (pv 10) (pe_op op_sub (pe_dget (hu_of hr) (pv 6) (pv 10) (fun _ _ => rfl)) pe_int) rfl)
          case hb =>
            exact pss_nil
        apply pss_one
        exact (ps_aug (i := 7) sc_how_many_just.nd rfl (by first | exact Or.inl rfl | exact Or.inr rfl) (pe_dget2 (hu_of hr) (pv 6) (pe_op op_sub (pe_ix ix_list (pv 5) (pv 8) (fun _ _ => rfl)) (pv 3)) pe_int ⟨rfl, rfl, rfl, rfl⟩) ip_add)
    apply pss_one
    exact (ps_ret (pv 7))
  have hl : (ns.map V.int).length = ns.length := List.length_map _
  walk_at "rd"
  refine ⟨r, _, rfl, .inl (SqL.of hR), ?_⟩
  walk_at "rd"
  refine ⟨_, _, _, rfl, by (first | lia | omega), hLM, by rw [hl]; (first | lia | omega), ?_⟩
  obtain ⟨lg, elg⟩ : ∃ lg : Nat, (if (((ns.map V.int).length : Nat) : Int) < M then (((ns.map V.int).length : Nat) : Int) else M) = (lg : Int) := by
    rw [hl]
    split
    · exact ⟨_, rfl⟩
    · exact ⟨M.toNat, by (first | lia | omega)⟩
  have hlg : L ≤ lg ∧ lg ≤ ns.length ∧ (lg : Int) ≤ M ∧ ((lg : Int) = M ∨ lg = ns.length) := by
    rw [hl] at elg
    split at elg <;> (first | lia | omega)
  rw [elg]
  walk_at "rd"
  refine ⟨r, ns, rfl, hR, by (first | lia | omega), fun a H1 s1 ha0 ha => ?_⟩
  walk_at "rd"
  intro d hd
  walk_at "rd"
  have hR1 := s1 _ _ hR
  have hrd : r ≠ d := fun z => by subst z; rw [hR1] at hd; cases hd
  have had : a ≠ d := fun z => by subst z; rw [ha] at hd; cases hd
  refine ⟨r, _, rfl, .inl (SqL.of (by rw [upd_ne hrd]; exact hR1)), ?_⟩
  walk_at "rd"
  refine ⟨_, _, rfl, ⟨by (first | lia | omega), by (first | lia | omega), by (first | lia | omega), by (first | lia | omega)⟩, ?_⟩
  have atA : ∀ i : Nat, i ≤ ns.length → atI ((pl ns ns.length).map V.int) (i : Int) = some (.int (psum ns i)) := fun i hi => by
    have := atI_ok (ns := pl ns ns.length) (k := (i : Int)) (by (first | lia | omega)) (by rw [pl_len]; (first | lia | omega))
    rw [this, Int.toNat_natCast, pl_getD hi]
  refine for_range (fun j σ H' => ∃ (kvs : List (Key × V)) (o8 o9 o10 : Option V), H' = upd H1 d (.dK kvs) ∧ kvs.length ≤ 2 * j ∧ (∀ y, (valV kvs (.inl y)).getD (.int 0) = .int (hc (psum ns) (L + j - 1 - lg) j y)) ∧
    σ = [some (.ref r), some (.int L), some (.int M), some (.int x), some (.int lg), some (.ref a), some (.ref d), some (.int (sm (fun b => ct (fun f => gS ns L M (fun y => decide (y = x)) f b) (ns.length + 1)) (L + j))), o8, o9, o10]) ⟨[], none, none, none, rfl, Nat.zero_le _, fun y => rfl, ?_⟩ ?_ ?_
  · rw [sm_zero fun b hb => ct_none fun f _ => gS_no (by (first | lia | omega))]
    rfl
  · rintro j σ _ hj ⟨kvs, o8, o9, o10, rfl, hlen, hinv, rfl⟩
    have hj' : L + j ≤ ns.length := by (first | lia | omega)
    have ha2 : ∀ o, upd H1 d o a = some (.lst ((pl ns ns.length).map V.int)) := fun o => by rw [upd_ne had]; exact ha
    walk_at "rd"
    have ei : (L : Int) + j - L = ((j : Nat) : Int) := by (first | lia | omega)
    have eb : (L : Int) + j = ((L + j : Nat) : Int) := by (first | lia | omega)
    refine ⟨a, _, _, _, rfl, rfl, SqL.of (ha2 _), by rw [ei]; exact atA j (by (first | lia | omega)), ?_⟩
    walk_at "rd"
    refine ⟨.inl ⟨_, .inl upd_same⟩, ?_⟩
    walk_at "rd"
    refine ⟨_, DGet.k (k := .inl (psum ns j)) upd_same, ?_⟩
    rw [hinv]
    walk_at "rd"
    refine ⟨d, _, rfl, DPut.k (k := .inl (psum ns j)) upd_same (small (by (first | lia | omega))), ?_⟩
    rw [upd_upd]
    have len1 := length_putK kvs (Sum.inl (psum ns j) : Key) (.int ((hc (psum ns) (L + j - 1 - lg) j (psum ns j) : Nat) + 1))
    obtain ⟨kv1, ekv⟩ : ∃ z, z = putK kvs (Sum.inl (psum ns j) : Key) (.int ((hc (psum ns) (L + j - 1 - lg) j (psum ns j) : Nat) + 1)) := ⟨_, rfl⟩
    have inv1 : ∀ y, (valV kv1 (.inl y)).getD (.int 0) = .int (hc (psum ns) (L + j - 1 - lg) (j + 1) y) := fun y => by
      rw [ekv, valV_put, hc_succ (by (first | lia | omega))]
      by_cases e : y = psum ns j
      · subst e
        rw [if_pos rfl, decide_eq_true rfl, if_pos rfl]
        rfl
      · rw [if_neg (fun z => e (Sum.inl.inj z)), hinv, decide_eq_false (fun z => e z.symm), if_neg Bool.false_ne_true, Nat.add_zero]
    rw [← ekv] at len1
    show tSeq _ _ _ _ (upd H1 d (.dK (putK kvs (Sum.inl (psum ns j) : Key) (.int ((hc (psum ns) (L + j - 1 - lg) j (psum ns j) : Nat) + 1)))))
    rw [← ekv]
    walk_at "rd"
    refine ifJ (fun σ' H' => ∃ (kv2 : List (Key × V)) (o : Option V), H' = upd H1 d (.dK kv2) ∧ kv2.length ≤ 2 * (j + 1) ∧ (∀ y, (valV kv2 (.inl y)).getD (.int 0) = .int (hc (psum ns) (L + j - lg) (j + 1) y)) ∧
      σ' = [some (.ref r), some (.int L), some (.int M), some (.int x), some (.int lg), some (.ref a), some (.ref d), some (.int (sm (fun b => ct (fun f => gS ns L M (fun y => decide (y = x)) f b) (ns.length + 1)) (L + j))), some (.int (L + j)), some (.int (psum ns j)), o]) ?_ (fun hno => ⟨kv1, _, rfl, by (first | lia | omega), fun y => ?_, rfl⟩) (fun R hR' hlt => ?_)
    case refine_2 =>
      have e0 : L + j - lg = L + j - 1 - lg := by (first | lia | omega)
      rw [e0]
      exact inv1 y
    case refine_3 =>
      have hlt' : (lg : Int) < (L : Int) + j := hlt
      have eq0 : (L : Int) + j - lg - 1 = ((L + j - 1 - lg : Nat) : Int) := by (first | lia | omega)
      have e1 : L + j - lg = L + j - 1 - lg + 1 := by (first | lia | omega)
      have hlo : ∀ y, hc (psum ns) (L + j - 1 - lg) (j + 1) y = hc (psum ns) (L + j - 1 - lg + 1) (j + 1) y + (if decide (psum ns (L + j - 1 - lg) = y) = true then 1 else 0) := fun y => hc_lo (by (first | lia | omega))
      have hge := hlo (psum ns (L + j - 1 - lg))
      rw [decide_eq_true rfl, if_pos rfl] at hge
      have hget : valV kv1 (.inl (psum ns (L + j - 1 - lg))) = some (.int (hc (psum ns) (L + j - 1 - lg) (j + 1) (psum ns (L + j - 1 - lg)))) := by
        have := inv1 (psum ns (L + j - 1 - lg))
        cases e : valV kv1 (.inl (psum ns (L + j - 1 - lg))) with
        | none =>
          rw [e] at this
          have z := V.int.inj this
          (first | lia | omega)
        | some v => rw [e] at this; exact congrArg some this
      walk_at "rd"
      refine ⟨a, _, _, _, rfl, rfl, SqL.of (ha2 _), by rw [eq0]; exact atA (L + j - 1 - lg) (by (first | lia | omega)), ?_⟩
      walk_at "rd"
      refine ⟨d, _, rfl, by rw [← hget]; exact DGet.k (k := .inl (psum ns (L + j - 1 - lg))) upd_same, ?_⟩
      walk_at "rd"
      refine ⟨d, _, rfl, DPut.k (k := .inl (psum ns (L + j - 1 - lg))) upd_same (small (by (first | lia | omega))), ?_⟩
      rw [upd_upd]
      have len2 := length_putK kv1 (Sum.inl (psum ns (L + j - 1 - lg)) : Key) (.int ((hc (psum ns) (L + j - 1 - lg) (j + 1) (psum ns (L + j - 1 - lg)) : Nat) - 1))
      refine hR' _ _ ⟨_, _, rfl, Nat.le_trans len2 (by (first | lia | omega)), fun y => ?_, rfl⟩
      rw [e1]
      show (valV (putK kv1 (Sum.inl (psum ns (L + j - 1 - lg)) : Key) (.int ((hc (psum ns) (L + j - 1 - lg) (j + 1) (psum ns (L + j - 1 - lg)) : Nat) - 1))) (.inl y)).getD (.int 0) = _
      rw [valV_put]
      by_cases e : y = psum ns (L + j - 1 - lg)
      · subst e
        rw [if_pos rfl, hge]
        show V.int _ = V.int _
        congr 1
        (first | lia | omega)
      · rw [if_neg (fun z => e (Sum.inl.inj z)), inv1, hlo y, decide_eq_false (fun z => e z.symm), if_neg Bool.false_ne_true, Nat.add_zero]
    rintro _ _ ⟨kv2, o, rfl, len2, inv2, rfl⟩
    walk_at "rd"
    refine ⟨.inl ⟨_, .inl upd_same⟩, ?_⟩
    walk_at "rd"
    refine ⟨a, _, _, _, rfl, rfl, SqL.of (ha2 _), by rw [eb]; exact atA (L + j) hj', ?_⟩
    walk_at "rd"
    refine ⟨_, DGet.k (k := .inl (psum ns (L + j) - x)) upd_same, ?_⟩
    rw [inv2]
    walk_at "rd"
    have en : L + (j + 1) - 1 - lg = L + j - lg := by (first | lia | omega)
    have ec : ct (fun f => gS ns L M (fun y => decide (y = x)) f (L + j)) (ns.length + 1) = hc (psum ns) (L + j - lg) (j + 1) (psum ns (L + j) - x) := by
      rw [ct_skip (a := j + 1) _ (by (first | lia | omega)) fun f h1 h2 => gS_no (by (first | lia | omega))]
      refine ct_congr fun f hf => ?_
      by_cases hw : L + j - lg ≤ f
      · rw [gS_yes (by (first | lia | omega)), decide_eq_true hw, Bool.true_and]
        by_cases e : psum ns f = psum ns (L + j) - x
        · rw [decide_eq_true e, decide_eq_true (by (first | lia | omega))]
        · rw [decide_eq_false e, decide_eq_false (by (first | lia | omega))]
      · rw [gS_no (by (first | lia | omega)), decide_eq_false hw]
        rfl
    have e2 : sm (fun b => ct (fun f => gS ns L M (fun y => decide (y = x)) f b) (ns.length + 1)) (L + (j + 1)) = sm (fun b => ct (fun f => gS ns L M (fun y => decide (y = x)) f b) (ns.length + 1)) (L + j) + ct (fun f => gS ns L M (fun y => decide (y = x)) f (L + j)) (ns.length + 1) := rfl
    refine ⟨kv2, some (.int (L + j)), some (.int (psum ns j)), o, rfl, len2, by rw [en]; exact inv2, ?_⟩
    rw [e2, ec, Int.natCast_add]
    rfl
  · rintro σ _ ⟨kvs, o8, o9, o10, rfl, hlen, hinv, rfl⟩
    walk_at "rd"
    have e3 : L + ((((ns.map V.int).length : Nat) : Int) + 1 - L).toNat = ns.length + 1 := by rw [hl]; (first | lia | omega)
    have z := fin (upd H1 d (.dK kvs)) (fun b o e => by rw [upd_ne (ne_of_none (s1 _ _ e) hd)]; exact s1 _ _ e)
    unfold tot at z
    rw [← e3] at z
    rw [← e3]
    exact z
def cutA {α : Type} (xs : List α) (lo hi : Option Int) : List α := (xs.drop (HT.sIx xs.length 0 lo)).take (HT.sIx xs.length xs.length hi - HT.sIx xs.length 0 lo)
theorem cutV_map {α : Type} {g : α → V} {xs : List α} {lo hi : Option Int} : cutV (xs.map g) lo hi = (cutA xs lo hi).map g := by
  unfold cutV cutA
  rw [List.length_map, List.map_take, List.map_drop]
/-! ### a ring unrolled -/
def unr (ns : List Int) : List Int := ns ++ ns.take (ns.length - 1)
theorem unr_len {ns : List Int} : (unr ns).length = ns.length + (ns.length - 1) := by
  unfold unr
  rw [List.length_append, List.length_take]
  (first | lia | omega)
theorem unr_at {ns : List Int} {i : Nat} (h : i < ns.length + (ns.length - 1)) : (unr ns).getD i 0 = ns.getD (i % ns.length) 0 := by
  unfold unr
  rw [List.getD_eq_getElem?_getD, List.getD_eq_getElem?_getD]
  by_cases hi : i < ns.length
  · rw [List.getElem?_append_left hi, Nat.mod_eq_of_lt hi]
  · rw [List.getElem?_append_right (by (first | lia | omega)), List.getElem?_take_of_lt (by (first | lia | omega)), Nat.mod_eq_sub_mod (by (first | lia | omega)), Nat.mod_eq_of_lt (by (first | lia | omega))]
theorem unr_back {ns : List Int} {f : Nat} (hf : ns.length ≤ f) : ∀ d, f + d ≤ ns.length + (ns.length - 1) → psum (unr ns) (f + d) - psum (unr ns) f = psum (unr ns) (f + d - ns.length) - psum (unr ns) (f - ns.length)
  | 0, _ => by
    show psum (unr ns) f - psum (unr ns) f = psum (unr ns) (f - ns.length) - psum (unr ns) (f - ns.length)
    (first | lia | omega)
  | d + 1, h => by
    have ih := unr_back hf d (by (first | lia | omega))
    have a := psum_getD (ns := unr ns) (i := f + d) (by rw [unr_len]; (first | lia | omega))
    have b := psum_getD (ns := unr ns) (i := f + d - ns.length) (by rw [unr_len]; (first | lia | omega))
    rw [unr_at (by (first | lia | omega))] at a b
    rw [Nat.mod_eq_sub_mod (by (first | lia | omega))] at a
    have e : f + d - ns.length + 1 = f + (d + 1) - ns.length := by (first | lia | omega)
    rw [e] at b
    have e2 : f + (d + 1) = f + d + 1 := rfl
    rw [e2, a]
    rw [e2] at b
    (first | lia | omega)
/-- stretches of a ring of n numbers, of told lengths, by first and beyond -/
def RVal (n L : Nat) (M : Int) (f b : Nat) : Prop := f < n ∧ f + L ≤ b ∧ (b : Int) ≤ f + M ∧ b ≤ f + n
abbrev IsBestR (ns : List Int) (L : Nat) (M : Int) (s : Int) (f b : Nat) : Prop := BestIn (psum (unr ns)) (RVal ns.length L M) s f b
theorem ring_best {ns : List Int} {L lg : Nat} {M s : Int} {f b : Nat} (hn : 1 ≤ ns.length) (hL : 1 ≤ L) (hg : lg ≤ ns.length) (hM : (lg : Int) ≤ M) (hm : (lg : Int) = M ∨ lg = ns.length) (h : IsBest (unr ns) L lg s f b) : IsBestR ns L M s f b := by
  have hl := unr_len (ns := ns)
  have m := h.mem
  unfold Val at m
  have hf : f < ns.length := by
    refine Nat.lt_of_not_le fun z => ?_
    have e := unr_back z (b - f) (by (first | lia | omega))
    have e1 : f + (b - f) = b := by (first | lia | omega)
    rw [e1] at e
    have t := h.top (f - ns.length) (b - ns.length) (by unfold Val; (first | lia | omega))
    have v := h.val
    (first | lia | omega)
  refine ⟨by unfold RVal; (first | lia | omega), h.val, fun f' b' q => h.top f' b' ?_⟩
  unfold RVal at q
  unfold Val
  (first | lia | omega)
/-! ### unrolled -/
def sp_unr : Sp := fun vs H Q _ => ∃ (r : Addr) (ns : List Int), vs = [.ref r] ∧ H r = some (.lst (ns.map V.int)) ∧ 1 ≤ ns.length ∧ ns.length ≤ 40000 ∧
  ∀ (l : Addr) (H' : Hp), Same H H' → H' l = some (.lst ((unr ns).map V.int)) → Q (.ref l) H'
theorem ok_unr {P : Program} {w : World} {K : PySem.W.Frag} {mg : Str → Option Value} {base : Heap} {k : Nat} {f : Addr} {fd : FuncData} (F : Fun K "unrolled" "unrolled" s_unrolled f fd) (Z : Blt mg) : FnOk P w K mg base CX0 (k + 1) f fd ["ring"] sp_unr := by
  refine F.ok sc_unrolled (fun vs H Q E h => ?_) (fun cdv A outer s H vs Q E hr h => ?_)
  · obtain ⟨r, ns, rfl, _⟩ := h
    rfl
  obtain ⟨r, ns, rfl, hR, hz1, hz, q⟩ := h
  apply Exists.intro
  apply And.intro
  case left =>
    apply pss_one
    exact (ps_ret (pe_op op_cat (pv 0) (pe_slice sl_list (pv 0) po_none (po_some (pe_un un_neg pe_int)))))
  walk_at "rd"
  refine ⟨r, _, rfl, SqL.of hR, fun l hl => ?_⟩
  have ec : cutV (ns.map V.int) none (some (-1)) = (ns.take (ns.length - 1)).map V.int := by
    rw [cutV_map]
    unfold cutA
    rw [HT.sIx_none, List.drop_zero]
    show List.map V.int (ns.take (((-1 : Int) + (ns.length : Int)).toNat - 0)) = _
    have e : ((-1 : Int) + (ns.length : Int)).toNat - 0 = ns.length - 1 := by (first | lia | omega)
    rw [e]
  have s1 : Same H (upd H l (.lst (cutV (ns.map V.int) none (some (-1))))) := Same.new hl _
  refine ⟨r, l, _, _, rfl, rfl, s1 _ _ hR, upd_same, ?_, fun p hp => ?_⟩
  · rw [ec, List.length_map, List.length_map, List.length_take]
    exact Nat.le_of_lt (small (by (first | lia | omega)))
  · refine q p _ (s1.trans (Same.new hp _)) ?_
    rw [upd_same, ec, ← List.map_append]
    rfl
/-! ### best_ring_sized, best_ring -/
def sp_rsized : Sp := fun vs H Q _ => ∃ (r : Addr) (ns : List Int) (L : Nat) (M : Int), vs = [.ref r, .int L, .int M] ∧ H r = some (.lst (ns.map V.int)) ∧ ns.length ≤ 40000 ∧ 1 ≤ L ∧ L ≤ ns.length ∧ (L : Int) ≤ M ∧
  ∀ (t : Addr) (s : Int) (f b : Nat) (H' : Hp), Same H H' → H' t = some (.tup [.int s, .int f, .int (b - f)]) → IsBestR ns L M s f b → Q (.ref t) H'
theorem ok_rsized {P : Program} {w : World} {K : PySem.W.Frag} {mg : Str → Option Value} {base : Heap} {k : Nat} {f : Addr} {fd : FuncData} (F : Fun K "best_ring_sized" "best_ring_sized" s_best_ring_sized f fd) (Z : Blt mg)
    (D_longest_of : Def P w K mg base k "longest_of" ["many", "least", "most"] sp_longest) (D_unrolled : Def P w K mg base k "unrolled" ["ring"] sp_unr) (D_best_sized : Def P w K mg base k "best_sized" ["row", "least", "most"] sp_sized) :
    FnOk P w K mg base CX0 (k + 1) f fd ["ring", "least", "most"] sp_rsized := by
  refine F.ok sc_best_ring_sized (fun vs H Q E h => ?_) (fun cdv A outer s H vs Q E hr h => ?_)
  · obtain ⟨r, ns, L, M, rfl, _⟩ := h
    rfl
  obtain ⟨r, ns, L, M, rfl, hR, hz, hL1, hL2, hLM, fin⟩ := h
  apply Exists.intro
  apply And.intro
  case left =>
    apply pss_cons
    case h1 =>
      exact (ps_set (i := 3) sc_best_ring_sized.nd rfl (by first | exact Or.inl rfl | exact Or.inr rfl) (pe_def D_longest_of hr rfl (pa_cons (pe_callB call_len_seq rfl Z.len_ PySem.boot_len (pa_cons (pv 0) pa_nil)) (pa_cons (pv 1) (pa_cons (pv 2) pa_nil)))))
    apply pss_cons
    case h1 =>
      exact (ps_set (i := 4) sc_best_ring_sized.nd rfl (by first | exact Or.inl rfl | exact Or.inr rfl) (pe_def D_best_sized hr rfl (pa_cons (pe_def D_unrolled hr rfl (pa_cons (pv 0) pa_nil)) (pa_cons (pv 1) (pa_cons (pv 3) pa_nil)))))
    apply pss_one
    exact (ps_ret (pe_tup (pa_cons (pe_ix ix_tup (pv 4) pe_int (fun _ _ => rfl)) (pa_cons (pe_ix ix_tup (pv 4) pe_int (fun _ _ => rfl)) (pa_cons (pe_op op_sub (pe_ix ix_tup (pv 4) pe_int (fun _ _ => rfl)) (pe_ix ix_tup (pv 4) pe_int (fun _ _ => rfl))) pa_nil)))))
  have hl : (ns.map V.int).length = ns.length := List.length_map _
  walk_at "rd"
  refine ⟨r, _, rfl, .inl (SqL.of hR), ?_⟩
  walk_at "rd"
  refine ⟨_, _, _, rfl, by (first | lia | omega), hLM, by rw [hl]; (first | lia | omega), ?_⟩
  obtain ⟨lg, elg⟩ : ∃ lg : Nat, (if (((ns.map V.int).length : Nat) : Int) < M then (((ns.map V.int).length : Nat) : Int) else M) = (lg : Int) := by
    rw [hl]
    split
    · exact ⟨_, rfl⟩
    · exact ⟨M.toNat, by (first | lia | omega)⟩
  have hlg : L ≤ lg ∧ lg ≤ ns.length ∧ (lg : Int) ≤ M ∧ ((lg : Int) = M ∨ lg = ns.length) := by
    rw [hl] at elg
    split at elg <;> (first | lia | omega)
  rw [elg]
  walk_at "rd"
  refine ⟨r, ns, rfl, hR, by (first | lia | omega), hz, fun u H1 s1 hu => ?_⟩
  walk_at "rd"
  have hul := unr_len (ns := ns)
  refine ⟨u, unr ns, L, lg, rfl, hu, by (first | lia | omega), hL1, by (first | lia | omega), by (first | lia | omega), fun t s f b H2 s2 ht hB => ?_⟩
  have hB2 := ring_best (by (first | lia | omega)) hL1 hlg.2.1 hlg.2.2.1 hlg.2.2.2 hB
  walk_at "rd"
  refine ⟨t, _, 0, _, rfl, rfl, SqT.of ht, rfl, ?_⟩
  walk_at "rd"
  refine ⟨t, _, 1, _, rfl, rfl, SqT.of ht, rfl, ?_⟩
  walk_at "rd"
  refine ⟨t, _, 2, _, rfl, rfl, SqT.of ht, rfl, ?_⟩
  walk_at "rd"
  refine ⟨t, _, 1, _, rfl, rfl, SqT.of ht, rfl, ?_⟩
  walk_at "rd"
  refine ⟨by show 3 ≤ sizeLine; decide, fun p hp => ?_⟩
  exact fin p s f b _ (s1.trans (s2.trans (Same.new hp _))) upd_same hB2
def sp_bring : Sp := fun vs H Q _ => ∃ (r : Addr) (ns : List Int), vs = [.ref r] ∧ H r = some (.lst (ns.map V.int)) ∧ 1 ≤ ns.length ∧ ns.length ≤ 40000 ∧
  ∀ (t : Addr) (s : Int) (f b : Nat) (H' : Hp), Same H H' → H' t = some (.tup [.int s, .int f, .int (b - f)]) → IsBestR ns 1 ns.length s f b → Q (.ref t) H'
theorem ok_bring {P : Program} {w : World} {K : PySem.W.Frag} {mg : Str → Option Value} {base : Heap} {k : Nat} {f : Addr} {fd : FuncData} (F : Fun K "best_ring" "best_ring" s_best_ring f fd) (Z : Blt mg)
    (D_best_ring_sized : Def P w K mg base k "best_ring_sized" ["ring", "least", "most"] sp_rsized) : FnOk P w K mg base CX0 (k + 1) f fd ["ring"] sp_bring := by
  refine F.ok sc_best_ring (fun vs H Q E h => ?_) (fun cdv A outer s H vs Q E hr h => ?_)
  · obtain ⟨r, ns, rfl, _⟩ := h
    rfl
  obtain ⟨r, ns, rfl, hR, hz1, hz, fin⟩ := h
  apply Exists.intro
  apply And.intro
  case left =>
    apply pss_one
    exact (ps_ret (pe_def D_best_ring_sized hr rfl (pa_cons (pv 0) (pa_cons pe_int (pa_cons (pe_callB call_len_seq rfl Z.len_ PySem.boot_len (pa_cons (pv 0) pa_nil)) pa_nil)))))
  have hl : (ns.map V.int).length = ns.length := List.length_map _
  walk_at "rd"
  refine ⟨r, _, rfl, .inl (SqL.of hR), ?_⟩
  refine ⟨r, ns, 1, ns.length, by rw [hl]; rfl, hR, hz, by (first | lia | omega), by (first | lia | omega), by (first | lia | omega), fun t s f b H1 s1 ht hB => ?_⟩
  exact fin t s f b H1 s1 ht hB
theorem tot_eq {ns : List Int} {L : Nat} {M : Int} {c : Int → Bool} (hL : 1 ≤ L) : tot ns L M c = sm (fun f => ct (fun b => gS ns L M c f b) (ns.length + 1)) ns.length := by
  unfold tot
  rw [sm_swap]
  simp only [sm]
  rw [ct_none (p := fun b => gS ns L M c ns.length b) fun b hb => gS_no (by (first | lia | omega)), Nat.add_zero]
/-! ### long rows with a block planted once or twice -/
theorem ps_dec {ns : List Int} {u v : Nat} (huv : u ≤ v) (hv : v ≤ ns.length) (h : ∀ i, u ≤ i → i < v → ns.getD i 0 ≤ -1) : psum ns v ≤ psum ns u - ((v : Int) - u) := by
  obtain ⟨d, rfl⟩ : ∃ d, v = u + d := ⟨v - u, by (first | lia | omega)⟩
  induction d with
  | zero => rw [Nat.add_zero]; (first | lia | omega)
  | succ d ih =>
    have i1 := ih (by (first | lia | omega)) (by (first | lia | omega)) (fun i h1 h2 => h i h1 (by (first | lia | omega)))
    have i2 := h (u + d) (by (first | lia | omega)) (by (first | lia | omega))
    have i3 := psum_getD (ns := ns) (i := u + d) (by (first | lia | omega))
    rw [← Nat.add_assoc] at *
    (first | lia | omega)
theorem ps_inc {ns : List Int} {u v : Nat} (huv : u ≤ v) (hv : v ≤ ns.length) (h : ∀ i, u ≤ i → i < v → 1 ≤ ns.getD i 0) : psum ns u + ((v : Int) - u) ≤ psum ns v := by
  obtain ⟨d, rfl⟩ : ∃ d, v = u + d := ⟨v - u, by (first | lia | omega)⟩
  induction d with
  | zero => rw [Nat.add_zero]; (first | lia | omega)
  | succ d ih =>
    have i1 := ih (by (first | lia | omega)) (by (first | lia | omega)) (fun i h1 h2 => h i h1 (by (first | lia | omega)))
    have i2 := h (u + d) (by (first | lia | omega)) (by (first | lia | omega))
    have i3 := psum_getD (ns := ns) (i := u + d) (by (first | lia | omega))
    rw [← Nat.add_assoc] at *
    (first | lia | omega)
/-- no stretch, and no stretch round the ring, is above S; S is what the blocks make, and nothing else -/
structure Uni (P : Nat → Int) (N lg : Nat) (S : Int) (ps : List Nat) : Prop where
  one : 1 ≤ lg ∧ lg < N ∧ 1 ≤ S
  blk : ∀ p, p ∈ ps → p + lg ≤ N ∧ P (p + lg) - P p = S
  flat : ∀ f b, f < b → b ≤ N → P b - P f < S ∨ (P b - P f = S ∧ f ∈ ps ∧ b = f + lg)
  over : ∀ f g, 1 ≤ g → g ≤ f → f < N → P N - P f + P g < S
  zero : P 0 = 0
theorem uni1 {ns : List Int} {N p lg : Nat} {S : Int} (hn : ns.length = N) (hl : 1 ≤ lg) (hN : lg < N) (hp : p + lg ≤ N) (hS : psum ns (p + lg) - psum ns p = S) (hi : ∀ i, p ≤ i → i < p + lg → 1 ≤ ns.getD i 0)
    (ho : ∀ i, i < N → ¬ (p ≤ i ∧ i < p + lg) → ns.getD i 0 ≤ -1) : Uni (psum ns) N lg S [p] := by
  have h0 : psum ns 0 = 0 := rfl
  have d1 : ∀ u v : Nat, u ≤ v → v ≤ p → psum ns v ≤ psum ns u - ((v : Int) - u) := fun u v h1 h2 => ps_dec h1 (by (first | lia | omega)) fun i g1 g2 => ho i (by (first | lia | omega)) (by (first | lia | omega))
  have d2 : ∀ u v : Nat, u ≤ v → p + lg ≤ u → v ≤ N → psum ns v ≤ psum ns u - ((v : Int) - u) := fun u v h1 h2 h3 => ps_dec h1 (by (first | lia | omega)) fun i g1 g2 => ho i (by (first | lia | omega)) (by (first | lia | omega))
  have i1 : ∀ u v : Nat, u ≤ v → p ≤ u → v ≤ p + lg → psum ns u + ((v : Int) - u) ≤ psum ns v := fun u v h1 h2 h3 => ps_inc h1 (by (first | lia | omega)) fun i g1 g2 => hi i (by (first | lia | omega)) (by (first | lia | omega))
  have bd : ∀ j : Nat, j ≤ N → (j ≤ p ∧ psum ns p + ((p : Int) - j) ≤ psum ns j ∧ psum ns j ≤ -(j : Int)) ∨ (p ≤ j ∧ j ≤ p + lg ∧ psum ns p + ((j : Int) - p) ≤ psum ns j ∧ psum ns j ≤ psum ns (p + lg) - ((p : Int) + lg - j)) ∨ (p + lg ≤ j ∧ psum ns N + ((N : Int) - j) ≤ psum ns j ∧ psum ns j ≤ psum ns (p + lg) - ((j : Int) - p - lg)) := fun j hj => by
    by_cases c1 : j ≤ p
    · have a1 := d1 j p c1 (Nat.le_refl _)
      have a2 := d1 0 j (Nat.zero_le _) c1
      (first | lia | omega)
    by_cases c2 : j ≤ p + lg
    · have a1 := i1 p j (by (first | lia | omega)) (Nat.le_refl _) c2
      have a2 := i1 j (p + lg) c2 (by (first | lia | omega)) (Nat.le_refl _)
      (first | lia | omega)
    · have a1 := d2 j N hj (by (first | lia | omega)) (Nat.le_refl _)
      have a2 := d2 (p + lg) j (by (first | lia | omega)) (Nat.le_refl _) hj
      (first | lia | omega)
  have hS1 := i1 p (p + lg) (by (first | lia | omega)) (Nat.le_refl _) (Nat.le_refl _)
  have g1 := d1 0 p (Nat.zero_le _) (Nat.le_refl _)
  have g2 := d2 (p + lg) N hp (Nat.le_refl _) (Nat.le_refl _)
  refine ⟨⟨hl, hN, by (first | lia | omega)⟩, fun q hq => ?_, fun f b h1 h2 => ?_, fun f g h1 h2 h3 => ?_, h0⟩
  · rw [List.mem_singleton] at hq
    subst hq
    exact ⟨hp, hS⟩
  · rw [List.mem_singleton]
    have bf := bd f (by (first | lia | omega))
    have bb := bd b h2
    have e1 : b ≤ p → psum ns b ≤ psum ns f - ((b : Int) - f) := fun z => d1 f b (by (first | lia | omega)) z
    have e2 : p + lg ≤ f → psum ns b ≤ psum ns f - ((b : Int) - f) := fun z => d2 f b (by (first | lia | omega)) z h2
    (first | lia | omega)
  · have bf := bd f (by (first | lia | omega))
    have bg := bd g (by (first | lia | omega))
    have e1 : f ≤ p → psum ns f ≤ psum ns g - ((f : Int) - g) := fun z => d1 g f h2 z
    have e2 : p + lg ≤ g → psum ns f ≤ psum ns g - ((f : Int) - g) := fun z => d2 g f h2 z (by (first | lia | omega))
    have e3 : p ≤ g → f ≤ p + lg → psum ns g + ((f : Int) - g) ≤ psum ns f := fun z1 z2 => i1 g f h2 z1 z2
    (first | lia | omega)
theorem uni2 {ns : List Int} {N p q lg : Nat} {S : Int} (hn : ns.length = N) (hl : 1 ≤ lg) (hp : (p : Int) + lg + S + 1 ≤ q) (hq : (q : Int) + lg + S < N) (hS : psum ns (p + lg) - psum ns p = S) (hS2 : psum ns (q + lg) - psum ns q = S) (hi : ∀ i, (p ≤ i ∧ i < p + lg) ∨ (q ≤ i ∧ i < q + lg) → 1 ≤ ns.getD i 0)
    (ho : ∀ i, i < N → ¬ (p ≤ i ∧ i < p + lg) → ¬ (q ≤ i ∧ i < q + lg) → ns.getD i 0 ≤ -1) (hS0 : 1 ≤ S) : Uni (psum ns) N lg S [p, q] := by
  have h0 : psum ns 0 = 0 := rfl
  have d1 : ∀ u v : Nat, u ≤ v → v ≤ p → psum ns v ≤ psum ns u - ((v : Int) - u) := fun u v h1 h2 => ps_dec h1 (by (first | lia | omega)) fun i g1 g2 => ho i (by (first | lia | omega)) (by (first | lia | omega)) (by (first | lia | omega))
  have d2 : ∀ u v : Nat, u ≤ v → p + lg ≤ u → v ≤ q → psum ns v ≤ psum ns u - ((v : Int) - u) := fun u v h1 h2 h3 => ps_dec h1 (by (first | lia | omega)) fun i g1 g2 => ho i (by (first | lia | omega)) (by (first | lia | omega)) (by (first | lia | omega))
  have d3 : ∀ u v : Nat, u ≤ v → q + lg ≤ u → v ≤ N → psum ns v ≤ psum ns u - ((v : Int) - u) := fun u v h1 h2 h3 => ps_dec h1 (by (first | lia | omega)) fun i g1 g2 => ho i (by (first | lia | omega)) (by (first | lia | omega)) (by (first | lia | omega))
  have i1 : ∀ u v : Nat, u ≤ v → p ≤ u → v ≤ p + lg → psum ns u + ((v : Int) - u) ≤ psum ns v := fun u v h1 h2 h3 => ps_inc h1 (by (first | lia | omega)) fun i g1 g2 => hi i (.inl (by (first | lia | omega)))
  have i2 : ∀ u v : Nat, u ≤ v → q ≤ u → v ≤ q + lg → psum ns u + ((v : Int) - u) ≤ psum ns v := fun u v h1 h2 h3 => ps_inc h1 (by (first | lia | omega)) fun i g1 g2 => hi i (.inr (by (first | lia | omega)))
  have bd : ∀ j : Nat, j ≤ N → (j ≤ p ∧ psum ns p + ((p : Int) - j) ≤ psum ns j ∧ psum ns j ≤ -(j : Int)) ∨ (p ≤ j ∧ j ≤ p + lg ∧ psum ns p + ((j : Int) - p) ≤ psum ns j ∧ psum ns j ≤ psum ns (p + lg) - ((p : Int) + lg - j)) ∨ (p + lg ≤ j ∧ j ≤ q ∧ psum ns q + ((q : Int) - j) ≤ psum ns j ∧ psum ns j ≤ psum ns (p + lg) - ((j : Int) - p - lg)) ∨ (q ≤ j ∧ j ≤ q + lg ∧ psum ns q + ((j : Int) - q) ≤ psum ns j ∧ psum ns j ≤ psum ns (q + lg) - ((q : Int) + lg - j)) ∨ (q + lg ≤ j ∧ psum ns N + ((N : Int) - j) ≤ psum ns j ∧ psum ns j ≤ psum ns (q + lg) - ((j : Int) - q - lg)) := fun j hj => by
    by_cases c1 : j ≤ p
    · have a1 := d1 j p c1 (Nat.le_refl _)
      have a2 := d1 0 j (Nat.zero_le _) c1
      (first | lia | omega)
    by_cases c2 : j ≤ p + lg
    · have a1 := i1 p j (by (first | lia | omega)) (Nat.le_refl _) c2
      have a2 := i1 j (p + lg) c2 (by (first | lia | omega)) (Nat.le_refl _)
      (first | lia | omega)
    by_cases c3 : j ≤ q
    · have a1 := d2 j q c3 (by (first | lia | omega)) (Nat.le_refl _)
      have a2 := d2 (p + lg) j (by (first | lia | omega)) (Nat.le_refl _) c3
      (first | lia | omega)
    by_cases c4 : j ≤ q + lg
    · have a1 := i2 q j (by (first | lia | omega)) (Nat.le_refl _) c4
      have a2 := i2 j (q + lg) c4 (by (first | lia | omega)) (Nat.le_refl _)
      (first | lia | omega)
    · have a1 := d3 j N hj (by (first | lia | omega)) (Nat.le_refl _)
      have a2 := d3 (q + lg) j (by (first | lia | omega)) (Nat.le_refl _) hj
      (first | lia | omega)
  have g1 := d1 0 p (Nat.zero_le _) (Nat.le_refl _)
  have g2 := d2 (p + lg) q (by (first | lia | omega)) (Nat.le_refl _) (Nat.le_refl _)
  have g3 := d3 (q + lg) N (by (first | lia | omega)) (Nat.le_refl _) (Nat.le_refl _)
  refine ⟨⟨hl, by (first | lia | omega), hS0⟩, fun r hr => ?_, fun f b h1 h2 => ?_, fun f g h1 h2 h3 => ?_, h0⟩
  · simp only [List.mem_cons, List.not_mem_nil, or_false] at hr
    rcases hr with rfl | rfl
    · exact ⟨by (first | lia | omega), hS⟩
    · exact ⟨by (first | lia | omega), hS2⟩
  · simp only [List.mem_cons, List.not_mem_nil, or_false]
    have e1 : b ≤ p → psum ns b ≤ psum ns f - ((b : Int) - f) := fun z => d1 f b (by (first | lia | omega)) z
    have e2 : p + lg ≤ f → b ≤ q → psum ns b ≤ psum ns f - ((b : Int) - f) := fun z z2 => d2 f b (by (first | lia | omega)) z z2
    have e3 : q + lg ≤ f → psum ns b ≤ psum ns f - ((b : Int) - f) := fun z => d3 f b (by (first | lia | omega)) z h2
    rcases bd f (by (first | lia | omega)) with bf | bf | bf | bf | bf <;> rcases bd b h2 with bb | bb | bb | bb | bb <;> (first | lia | omega)
  · have e1 : f ≤ p → psum ns f ≤ psum ns g - ((f : Int) - g) := fun z => d1 g f h2 z
    have e2 : p + lg ≤ g → f ≤ q → psum ns f ≤ psum ns g - ((f : Int) - g) := fun z z2 => d2 g f h2 z z2
    have e3 : q + lg ≤ g → psum ns f ≤ psum ns g - ((f : Int) - g) := fun z => d3 g f h2 z (by (first | lia | omega))
    have e4 : p ≤ g → f ≤ p + lg → psum ns g + ((f : Int) - g) ≤ psum ns f := fun z1 z2 => i1 g f h2 z1 z2
    have e5 : q ≤ g → f ≤ q + lg → psum ns g + ((f : Int) - g) ≤ psum ns f := fun z1 z2 => i2 g f h2 z1 z2
    rcases bd f (by (first | lia | omega)) with bf | bf | bf | bf | bf <;> rcases bd g (by (first | lia | omega)) with bg | bg | bg | bg | bg <;> (first | lia | omega)
/-! ### what a row with a block planted tells -/
theorem unr_lo {ns : List Int} {j : Nat} (h : j ≤ ns.length) : psum (unr ns) j = psum ns j := by
  unfold unr psum
  rw [List.take_append_of_le_length h]
theorem unr_hi {ns : List Int} {g : Nat} (h : g ≤ ns.length - 1) : psum (unr ns) (ns.length + g) = psum ns ns.length + psum ns g := by
  unfold unr psum
  rw [List.take_append, List.take_of_length_le (by (first | lia | omega)), List.sum_append, List.take_length, show ns.length + g - ns.length = g by (first | lia | omega), List.take_take, Nat.min_eq_left h]
theorem uni_best {ns : List Int} {N lg p L : Nat} {M S : Int} {ps : List Nat} (hn : ns.length = N) (U : Uni (psum ns) N lg S ps) (hp : p ∈ ps) (hle : ∀ r, r ∈ ps → p ≤ r) (h1 : 1 ≤ L) (h2 : L ≤ lg) (h3 : (lg : Int) ≤ M) : IsBest ns L M S p (p + lg) := by
  obtain ⟨b1, b2⟩ := U.blk p hp
  refine ⟨?_, b2.symm, fun f b q => ?_⟩
  · unfold Val
    (first | lia | omega)
  · unfold Val at q
    rcases U.flat f b (by (first | lia | omega)) (by (first | lia | omega)) with z | ⟨z, hf, hb⟩
    · exact .inl z
    · have := hle f hf
      exact .inr ⟨z, by (first | lia | omega)⟩
theorem uni_ring {ns : List Int} {N lg p : Nat} {S : Int} {ps : List Nat} (hn : ns.length = N) (U : Uni (psum ns) N lg S ps) (hp : p ∈ ps) (hle : ∀ r, r ∈ ps → p ≤ r) : IsBestR ns 1 N S p (p + lg) := by
  obtain ⟨b1, b2⟩ := U.blk p hp
  obtain ⟨o1, o2, o3⟩ := U.one
  refine ⟨?_, ?_, fun f b q => ?_⟩
  · unfold RVal
    (first | lia | omega)
  · rw [unr_lo (by (first | lia | omega)), unr_lo (by (first | lia | omega))]
    exact b2.symm
  · unfold RVal at q
    by_cases hb : b ≤ N
    · rw [unr_lo (by (first | lia | omega)), unr_lo (by (first | lia | omega))]
      rcases U.flat f b (by (first | lia | omega)) (by (first | lia | omega)) with z | ⟨z, hf, hb⟩
      · exact .inl z
      · have := hle f hf
        exact .inr ⟨z, by (first | lia | omega)⟩
    · obtain ⟨g, rfl⟩ : ∃ g, b = N + g := ⟨b - N, by (first | lia | omega)⟩
      have e := unr_hi (ns := ns) (g := g) (by (first | lia | omega))
      rw [hn] at e
      rw [e, unr_lo (by (first | lia | omega))]
      have := U.over f g (by (first | lia | omega)) (by (first | lia | omega)) (by (first | lia | omega))
      exact .inl (by (first | lia | omega))
theorem neg_psum {ns : List Int} : ∀ {j : Nat}, j ≤ ns.length → psum (ns.map fun x => 0 - x) j = - psum ns j
  | 0, _ => rfl
  | j + 1, h => by
    have a := psum_getD (ns := ns.map fun x => 0 - x) (i := j) (by rw [List.length_map]; (first | lia | omega))
    have b := psum_getD (ns := ns) (i := j) (by (first | lia | omega))
    have e : (ns.map fun x => 0 - x).getD j 0 = 0 - ns.getD j 0 := by
      rw [List.getD_eq_getElem?_getD, List.getD_eq_getElem?_getD, List.getElem?_map, List.getElem?_eq_getElem (by (first | lia | omega))]
      rfl
    have ih := neg_psum (ns := ns) (j := j) (by (first | lia | omega))
    rw [a, b, e, ih]
    (first | lia | omega)
theorem uni_neg {ns : List Int} {N lg g : Nat} {S : Int} {ps : List Nat} (hn : ns.length = N) (U : Uni (psum ns) N lg S ps) (hg : ∃ r, r ∈ ps ∧ g = (r + lg) % N) (hle : ∀ r, r ∈ ps → g ≤ (r + lg) % N) : IsBestR (ns.map fun x => 0 - x) 1 N (- psum ns N + S) g (g + (N - lg)) := by
  obtain ⟨o1, o2, o3⟩ := U.one
  have h0 := U.zero
  have hml : (ns.map fun x => 0 - x).length = N := by rw [List.length_map]; exact hn
  have lo : ∀ j, j ≤ N → psum (unr (ns.map fun x => 0 - x)) j = - psum ns j := fun j hj => by rw [unr_lo (by (first | lia | omega)), neg_psum (by (first | lia | omega))]
  have hi : ∀ j, j ≤ N - 1 → psum (unr (ns.map fun x => 0 - x)) (N + j) = - psum ns N - psum ns j := fun j hj => by
    have e := unr_hi (ns := ns.map fun x => 0 - x) (g := j) (by (first | lia | omega))
    rw [hml, neg_psum (by (first | lia | omega)), neg_psum (by (first | lia | omega))] at e
    (first | lia | omega)
  have md : ∀ r, r ∈ ps → (r + lg < N ∧ (r + lg) % N = r + lg) ∨ (r + lg = N ∧ (r + lg) % N = 0) := fun r hr => by
    have := (U.blk r hr).1
    by_cases z : r + lg < N
    · exact .inl ⟨z, Nat.mod_eq_of_lt z⟩
    · have e : r + lg = N := by (first | lia | omega)
      exact .inr ⟨e, by rw [e]; exact Nat.mod_self N⟩
  refine ⟨?_, ?_, fun f b q => ?_⟩
  · obtain ⟨r, hr, rfl⟩ := hg
    have := md r hr
    rw [hml]
    unfold RVal
    (first | lia | omega)
  · obtain ⟨r, hr, rfl⟩ := hg
    obtain ⟨b1, b2⟩ := U.blk r hr
    rcases md r hr with ⟨z, e⟩ | ⟨z, e⟩
    · rw [e, show r + lg + (N - lg) = N + r by (first | lia | omega), hi r (by (first | lia | omega)), lo _ (by (first | lia | omega))]
      (first | lia | omega)
    · rw [e, Nat.zero_add, show N - lg = r by (first | lia | omega), lo r (by (first | lia | omega)), lo 0 (by (first | lia | omega)), h0]
      rw [z] at b2
      (first | lia | omega)
  · rw [hml] at q
    unfold RVal at q
    have key : ∀ r, r ∈ ps → f = (r + lg) % N → b = f + (N - lg) → g < f ∨ g = f ∧ g + (N - lg) ≤ b := fun r hr e1 e2 => by
      have := hle r hr
      (first | lia | omega)
    by_cases hb : b ≤ N
    · rw [lo b hb, lo f (by (first | lia | omega))]
      by_cases hf0 : f = 0
      · subst hf0
        by_cases hbN : b = N
        · subst hbN
          exact .inl (by (first | lia | omega))
        · rcases U.flat b N (by (first | lia | omega)) (Nat.le_refl _) with z | ⟨z, hbp, hbe⟩
          · exact .inl (by (first | lia | omega))
          · refine .inr ⟨by (first | lia | omega), key b hbp ?_ (by (first | lia | omega))⟩
            have := md b hbp
            (first | lia | omega)
      · by_cases hbN : b = N
        · subst hbN
          rcases U.flat 0 f (by (first | lia | omega)) (by (first | lia | omega)) with z | ⟨z, hbp, hbe⟩
          · exact .inl (by (first | lia | omega))
          · refine .inr ⟨by (first | lia | omega), key 0 hbp ?_ (by (first | lia | omega))⟩
            have := md 0 hbp
            (first | lia | omega)
        · have := U.over b f (by (first | lia | omega)) (by (first | lia | omega)) (by (first | lia | omega))
          exact .inl (by (first | lia | omega))
    · obtain ⟨j, rfl⟩ : ∃ j, b = N + j := ⟨b - N, by (first | lia | omega)⟩
      rw [hi j (by (first | lia | omega)), lo f (by (first | lia | omega))]
      by_cases hjf : j = f
      · subst hjf
        exact .inl (by (first | lia | omega))
      · rcases U.flat j f (by (first | lia | omega)) (by (first | lia | omega)) with z | ⟨z, hbp, hbe⟩
        · exact .inl (by (first | lia | omega))
        · refine .inr ⟨by (first | lia | omega), key j hbp ?_ (by (first | lia | omega))⟩
          have := md j hbp
          (first | lia | omega)
/-! ### how many stretches have just that sum -/
theorem ct_or {p q r : Nat → Bool} : ∀ {m : Nat}, (∀ i, i < m → (p i = true ↔ (q i = true ∨ r i = true)) ∧ ¬ (q i = true ∧ r i = true)) → ct p m = ct q m + ct r m
  | 0, _ => rfl
  | m + 1, h => by
    have ih := ct_or (p := p) (q := q) (r := r) (m := m) fun i hi => h i (by (first | lia | omega))
    have z := h m (by (first | lia | omega))
    show ct p m + (if p m = true then 1 else 0) = (ct q m + (if q m = true then 1 else 0)) + (ct r m + (if r m = true then 1 else 0))
    have e : (if p m = true then 1 else 0) = (if q m = true then 1 else 0) + (if r m = true then (1 : Nat) else 0) := by
      by_cases hq : q m = true
      · have hr : ¬ r m = true := fun y => z.2 ⟨hq, y⟩
        rw [if_pos (z.1.mpr (.inl hq)), if_pos hq, if_neg hr]
      · by_cases hr : r m = true
        · rw [if_pos (z.1.mpr (.inr hr)), if_neg hq, if_pos hr]
        · rw [if_neg (fun y => (z.1.mp y).elim hq hr), if_neg hq, if_neg hr]
    (first | lia | omega)
theorem ct_one {p : Nat} : ∀ {m : Nat}, p < m → ct (fun i => decide (i = p)) m = 1
  | 0, h => by (first | lia | omega)
  | m + 1, h => by
    show ct _ m + (if decide (m = p) = true then 1 else 0) = 1
    by_cases e : m = p
    · subst e
      rw [ct_none (fun i hi => decide_eq_false (by (first | lia | omega))), if_pos (decide_eq_true rfl)]
    · rw [ct_one (m := m) (by (first | lia | omega)), if_neg (fun z => e (of_decide_eq_true z))]
theorem ct_mem : ∀ {ps : List Nat} {m : Nat}, ps.Nodup → (∀ r, r ∈ ps → r < m) → ct (fun i => decide (i ∈ ps)) m = ps.length
  | [], m, _, _ => ct_none fun i _ => by simp
  | p :: ps, m, hn, hm => by
    have hn' := List.nodup_cons.mp hn
    rw [ct_or (q := fun i => decide (i = p)) (r := fun i => decide (i ∈ ps)) (fun i _ => ⟨by simp, by
      simp only [decide_eq_true_eq]
      rintro ⟨rfl, z⟩
      exact hn'.1 z⟩), ct_one (hm p List.mem_cons_self), ct_mem hn'.2 (fun r hr => hm r (List.mem_cons_of_mem _ hr)), List.length_cons]
    (first | lia | omega)
theorem uni_tot {ns : List Int} {N lg : Nat} {S : Int} {ps : List Nat} (hn : ns.length = N) (U : Uni (psum ns) N lg S ps) (hd : ps.Nodup) : tot ns 1 N (fun y => decide (y = S)) = ps.length := by
  obtain ⟨o1, o2, o3⟩ := U.one
  rw [tot_eq (Nat.le_refl _), hn]
  have e : ∀ f, f < N → ct (fun b => gS ns 1 N (fun y => decide (y = S)) f b) (N + 1) = if decide (f ∈ ps) = true then 1 else 0 := fun f hf => by
    by_cases hm : f ∈ ps
    · obtain ⟨b1, b2⟩ := U.blk f hm
      rw [decide_eq_true hm, if_pos rfl, ct_congr (p' := fun b => decide (b = f + lg)) (fun b hb => ?_)]
      · exact ct_one (by (first | lia | omega))
      · by_cases hv : f + 1 ≤ b ∧ (b : Int) ≤ f + N ∧ b ≤ ns.length
        · rw [gS_yes hv]
          by_cases hb2 : b = f + lg
          · subst hb2
            rw [decide_eq_true b2, decide_eq_true rfl]
          · rw [decide_eq_false hb2]
            refine decide_eq_false fun z => ?_
            rcases U.flat f b (by (first | lia | omega)) (by (first | lia | omega)) with y | ⟨_, _, y⟩ <;> (first | lia | omega)
        · rw [gS_no hv, decide_eq_false (by (first | lia | omega))]
    · rw [decide_eq_false hm, if_neg (by decide)]
      refine ct_none fun b hb => ?_
      by_cases hv : f + 1 ≤ b ∧ (b : Int) ≤ f + N ∧ b ≤ ns.length
      · rw [gS_yes hv]
        refine decide_eq_false fun z => ?_
        rcases U.flat f b (by (first | lia | omega)) (by (first | lia | omega)) with y | ⟨_, y, _⟩
        · (first | lia | omega)
        · exact hm y
      · exact gS_no hv
  rw [sm_congr e, sm_if]
  refine ct_mem hd fun r hr => ?_
  have := (U.blk r hr).1
  (first | lia | omega)
theorem uni_none {ns : List Int} {N lg : Nat} {S : Int} {ps : List Nat} (hn : ns.length = N) (U : Uni (psum ns) N lg S ps) : tot ns 1 N (fun y => decide (y = S + 1)) = 0 := by
  rw [tot_eq (Nat.le_refl _), hn]
  refine sm_zero fun f hf => ct_none fun b hb => ?_
  by_cases hv : f + 1 ≤ b ∧ (b : Int) ≤ f + N ∧ b ≤ ns.length
  · rw [gS_yes hv]
    refine decide_eq_false fun z => ?_
    rcases U.flat f b (by (first | lia | omega)) (by (first | lia | omega)) with y | ⟨y, _, _⟩ <;> (first | lia | omega)
  · exact gS_no hv
/-! ### a part put in place of as many -/
def spl (ns B : List Int) (p : Nat) : List Int := ns.take p ++ B ++ ns.drop (p + B.length)
theorem spl_map {ns B : List Int} {p : Nat} : (ns.map V.int).take p ++ B.map V.int ++ (ns.map V.int).drop (p + B.length) = (spl ns B p).map V.int := by
  unfold spl
  rw [List.map_append, List.map_append, List.map_take, List.map_drop]
theorem spl_len {ns B : List Int} {p : Nat} (h : p + B.length ≤ ns.length) : (spl ns B p).length = ns.length := by
  unfold spl
  rw [List.length_append, List.length_append, List.length_take, List.length_drop]
  (first | lia | omega)
theorem spl_in {ns B : List Int} {p i : Nat} (h : p + B.length ≤ ns.length) (h1 : p ≤ i) (h2 : i < p + B.length) : (spl ns B p).getD i 0 = B.getD (i - p) 0 := by
  unfold spl
  have e : (ns.take p).length = p := by rw [List.length_take]; (first | lia | omega)
  rw [List.getD_eq_getElem?_getD, List.getD_eq_getElem?_getD, List.append_assoc, List.getElem?_append_right (by (first | lia | omega)), e, List.getElem?_append_left (by (first | lia | omega))]
theorem spl_out {ns B : List Int} {p i : Nat} (h : p + B.length ≤ ns.length) (h1 : ¬ (p ≤ i ∧ i < p + B.length)) : (spl ns B p).getD i 0 = ns.getD i 0 := by
  unfold spl
  have e : (ns.take p).length = p := by rw [List.length_take]; (first | lia | omega)
  rw [List.getD_eq_getElem?_getD, List.getD_eq_getElem?_getD, List.append_assoc]
  by_cases hi : i < p
  · rw [List.getElem?_append_left (by (first | lia | omega)), List.getElem?_take_of_lt hi]
  · rw [List.getElem?_append_right (by (first | lia | omega)), e, List.getElem?_append_right (by (first | lia | omega)), List.getElem?_drop, show p + B.length + (i - p - B.length) = i by (first | lia | omega)]
theorem psum_like {xs ys : List Int} {a b : Nat} : ∀ {d : Nat}, a + d ≤ xs.length → b + d ≤ ys.length → (∀ i, i < d → xs.getD (a + i) 0 = ys.getD (b + i) 0) → psum xs (a + d) - psum xs a = psum ys (b + d) - psum ys b
  | 0, _, _, _ => by rw [Nat.add_zero, Nat.add_zero]; (first | lia | omega)
  | d + 1, h1, h2, h => by
    have ih := psum_like (xs := xs) (ys := ys) (a := a) (b := b) (d := d) (by (first | lia | omega)) (by (first | lia | omega)) fun i hi => h i (by (first | lia | omega))
    have x1 := psum_getD (ns := xs) (i := a + d) (by (first | lia | omega))
    have x2 := psum_getD (ns := ys) (i := b + d) (by (first | lia | omega))
    have x3 := h d (by (first | lia | omega))
    rw [← Nat.add_assoc, ← Nat.add_assoc]
    (first | lia | omega)
theorem psum_blk {ns B : List Int} {p : Nat} (h : p + B.length ≤ ns.length) (e : ∀ i, i < B.length → ns.getD (p + i) 0 = B.getD i 0) : psum ns (p + B.length) - psum ns p = B.sum := by
  have z := psum_like (xs := ns) (ys := B) (a := p) (b := 0) (d := B.length) h (by (first | lia | omega)) (fun i hi => by rw [Nat.zero_add]; exact e i hi)
  rw [z, Nat.zero_add]
  unfold psum
  rw [List.take_length]
  simp
theorem sum_ge : ∀ {B : List Int}, (∀ x, x ∈ B → 1 ≤ x) → (B.length : Int) ≤ B.sum
  | [], _ => by simp
  | x :: B, h => by
    have ih := sum_ge (B := B) fun y hy => h y (List.mem_cons_of_mem _ hy)
    have := h x List.mem_cons_self
    rw [List.sum_cons, List.length_cons]
    (first | lia | omega)
theorem getD_mem {B : List Int} {i : Nat} (h : i < B.length) : B.getD i 0 ∈ B := by
  rw [List.getD_eq_getElem?_getD, List.getElem?_eq_getElem h]
  exact List.getElem_mem h
/-- one block -/
theorem planted1 {R B : List Int} {p : Nat} (hR : ∀ i, i < R.length → R.getD i 0 ≤ -1) (hB : ∀ x, x ∈ B → 1 ≤ x) (h1 : 1 ≤ B.length) (h2 : B.length < R.length) (h3 : p + B.length ≤ R.length) : Uni (psum (spl R B p)) R.length B.length B.sum [p] := by
  refine uni1 (spl_len h3) h1 h2 h3 (psum_blk (by rw [spl_len h3]; exact h3) fun i hi => by rw [spl_in h3 (by (first | lia | omega)) (by (first | lia | omega)), show p + i - p = i by (first | lia | omega)]) (fun i a b => ?_) (fun i a b => ?_)
  · rw [spl_in h3 a b]
    exact hB _ (getD_mem (by (first | lia | omega)))
  · rw [spl_out h3 b]
    exact hR i a
/-- two of them -/
theorem planted2 {R B : List Int} {p q : Nat} (hR : ∀ i, i < R.length → R.getD i 0 ≤ -1) (hB : ∀ x, x ∈ B → 1 ≤ x) (h1 : 1 ≤ B.length) (h2 : (p : Int) + B.length + B.sum + 1 ≤ q) (h3 : (q : Int) + B.length + B.sum < R.length) : Uni (psum (spl (spl R B p) B q)) R.length B.length B.sum [p, q] := by
  have hs := sum_ge hB
  have a1 : p + B.length ≤ R.length := by (first | lia | omega)
  have l1 := spl_len (ns := R) (B := B) (p := p) a1
  have a2 : q + B.length ≤ (spl R B p).length := by (first | lia | omega)
  have l2 := spl_len (ns := spl R B p) (B := B) (p := q) a2
  have i2 : ∀ i, q ≤ i → i < q + B.length → (spl (spl R B p) B q).getD i 0 = B.getD (i - q) 0 := fun i a b => spl_in a2 a b
  have i1 : ∀ i, p ≤ i → i < p + B.length → (spl (spl R B p) B q).getD i 0 = B.getD (i - p) 0 := fun i a b => by rw [spl_out a2 (by (first | lia | omega))]; exact spl_in a1 a b
  refine uni2 (by (first | lia | omega)) h1 h2 h3 (psum_blk (by (first | lia | omega)) fun i hi => by rw [i1 _ (by (first | lia | omega)) (by (first | lia | omega)), show p + i - p = i by (first | lia | omega)]) (psum_blk (by (first | lia | omega)) fun i hi => by rw [i2 _ (by (first | lia | omega)) (by (first | lia | omega)), show q + i - q = i by (first | lia | omega)]) (fun i h => ?_) (fun i a b c => ?_) (by (first | lia | omega))
  · rcases h with ⟨a, b⟩ | ⟨a, b⟩
    · rw [i1 i a b]
      exact hB _ (getD_mem (by (first | lia | omega)))
    · rw [i2 i a b]
      exact hB _ (getD_mem (by (first | lia | omega)))
  · rw [spl_out a2 c, spl_out a1 b]
    exact hR i a
/-! ### _law_planted -/
structure Pd (ns : List Int) (p : Nat) (ps : List Nat) (lg : Nat) (S : Int) : Prop where
  n1 : 300 ≤ ns.length
  n2 : ns.length ≤ 2000
  l1 : 1 ≤ lg
  l2 : lg ≤ 60
  uni : Uni (psum ns) ns.length lg S ps
  hps : ps = [p] ∨ ∃ q, p < q ∧ ps = [p, q]
theorem Pd.mem {ns : List Int} {p : Nat} {ps : List Nat} {lg : Nat} {S : Int} (h : Pd ns p ps lg S) : p ∈ ps := by
  rcases h.hps with e | ⟨q, _, e⟩ <;> rw [e] <;> exact List.mem_cons_self
theorem Pd.le {ns : List Int} {p : Nat} {ps : List Nat} {lg : Nat} {S : Int} (h : Pd ns p ps lg S) : ∀ r, r ∈ ps → p ≤ r := by
  intro r hr
  rcases h.hps with e | ⟨q, hq, e⟩ <;> rw [e] at hr <;> simp only [List.mem_cons, List.not_mem_nil, or_false] at hr <;> (first | lia | omega)
theorem Pd.nodup {ns : List Int} {p : Nat} {ps : List Nat} {lg : Nat} {S : Int} (h : Pd ns p ps lg S) : ps.Nodup := by
  rcases h.hps with e | ⟨q, hq, e⟩ <;> rw [e]
  · simp
  · simp only [List.nodup_cons, List.mem_singleton, List.not_mem_nil, not_false_eq_true, List.nodup_nil, and_true]
    (first | lia | omega)
theorem Pd.at0 {ns : List Int} {p : Nat} {ps : List Nat} {lg : Nat} {S : Int} (h : Pd ns p ps lg S) : ∃ rest, ps = p :: rest := by
  rcases h.hps with e | ⟨q, hq, e⟩
  · exact ⟨_, e⟩
  · exact ⟨_, e⟩
def sp_plant9 : Sp := fun vs H Q _ => ∃ c : Int, vs = [.int c] ∧
  ∀ (t r pl p : Addr) (ns : List Int) (ps : List Nat) (lg : Nat) (S : Int) (H' : Hp), Same H H' → H' t = some (.tup [.ref r, .ref pl, .int lg]) → H' r = some (.lst (ns.map V.int)) → H' pl = some (.lst (ps.map nv)) → Pd ns p ps lg S → Q (.ref t) H'
theorem ok_plant9 {P : Program} {w : World} {K : PySem.W.Frag} {mg : Str → Option Value} {base : Heap} {k : Nat} {f : Addr} {fd : FuncData} (F : Fun K "_law_planted" "_law_planted" s_law_planted f fd) (Z : Blt mg)
    (D_law_stir : Def P w K mg base k "_law_stir" ["cell", "k"] sp_stir) : FnOk P w K mg base CX0 (k + 1) f fd ["cell"] sp_plant9 := by
  refine F.ok sc_law_planted (fun vs H Q E h => ?_) (fun cdv A outer s H vs Q E hr h => ?_)
  · obtain ⟨c, rfl, _⟩ := h
    rfl
  obtain ⟨c, rfl, fin⟩ := h
  apply Exists.intro
  apply And.intro
  case left =>
    apply pss_cons
    case h1 =>
      exact (ps_set (i := 1) sc_law_planted.nd rfl (by first | exact Or.inl rfl | exact Or.inr rfl) (pe_op op_add pe_int (pe_op op_mod (pe_def D_law_stir hr rfl (pa_cons (pv 0) (pa_cons pe_int pa_nil))) pe_int)))
    apply pss_cons
    case h1 =>
      exact (ps_set (i := 2) sc_law_planted.nd rfl (by first | exact Or.inl rfl | exact Or.inr rfl) (pe_op op_add pe_int (pe_op op_mod (pe_def D_law_stir hr rfl (pa_cons (pv 0) (pa_cons pe_int pa_nil))) pe_int)))
    apply pss_cons
    case h1 =>
      first | exact (ps_lc (i := 3) sc_law_planted.nd rfl (by first | exact Or.inl rfl | exact Or.inr rfl) (N' := ["k", "cell"]) (ix := [none, some 0]) rfl rfl (by decide +kernel) rfl rfl rfl rfl (pi_range1 rfl Z.range_ (pa_cons (pv 2) pa_nil)) (fun _ _ _ _ => (pg_name (i := 0) (show List.Nodup (["k", "cell"] : List Str) by decide +kernel) rfl (by first | exact Or.inl rfl | exact Or.inr rfl))) (fun _ _ _ _ => pts_nil) (fun _ _ _ _ => (pe_op op_add pe_int (pe_op op_mod (pe_def D_law_stir hr rfl (pa_cons (pv 1) (pa_cons (pe_op op_add pe_int (pv 0)) pa_nil))) pe_int)))) | exact (ps_set (i := 3) sc_law_planted.nd rfl (by first | exact Or.inl rfl | exact Or.inr rfl) (pe_lc (N' := ["k", "cell"]) (ix := [none, some 0]) rfl rfl (by decide +kernel) rfl rfl rfl rfl (pi_range1 rfl Z.range_ (pa_cons (pv 2) pa_nil)) (fun _ _ _ _ => (pg_name (i := 0) (show List.Nodup (["k", "cell"] : List Str) by decide +kernel) rfl (by first | exact Or.inl rfl | exact Or.inr rfl))) (fun _ _ _ _ => pts_nil) (fun _ _ _ _ => (pe_op op_add pe_int (pe_op op_mod (pe_def D_law_stir hr rfl (pa_cons (pv 1) (pa_cons (pe_op op_add pe_int (pv 0)) pa_nil))) pe_int)))))
    apply pss_cons
    case h1 =>
      first | exact (ps_lc (i := 4) sc_law_planted.nd rfl (by first | exact Or.inl rfl | exact Or.inr rfl) (N' := ["k", "cell"]) (ix := [none, some 0]) rfl rfl (by decide +kernel) rfl rfl rfl rfl (pi_range1 rfl Z.range_ (pa_cons pe_int pa_nil)) (fun _ _ _ _ => (pg_name (i := 0) (show List.Nodup (["k", "cell"] : List Str) by decide +kernel) rfl (by first | exact Or.inl rfl | exact Or.inr rfl))) (fun _ _ _ _ => pts_nil) (fun _ _ _ _ => (pe_op op_sub (pe_un un_neg pe_int) (pe_op op_mod (pe_def D_law_stir hr rfl (pa_cons (pv 1) (pa_cons (pe_op op_add pe_int (pv 0)) pa_nil))) pe_int)))) | exact (ps_set (i := 4) sc_law_planted.nd rfl (by first | exact Or.inl rfl | exact Or.inr rfl) (pe_lc (N' := ["k", "cell"]) (ix := [none, some 0]) rfl rfl (by decide +kernel) rfl rfl rfl rfl (pi_range1 rfl Z.range_ (pa_cons pe_int pa_nil)) (fun _ _ _ _ => (pg_name (i := 0) (show List.Nodup (["k", "cell"] : List Str) by decide +kernel) rfl (by first | exact Or.inl rfl | exact Or.inr rfl))) (fun _ _ _ _ => pts_nil) (fun _ _ _ _ => (pe_op op_sub (pe_un un_neg pe_int) (pe_op op_mod (pe_def D_law_stir hr rfl (pa_cons (pv 1) (pa_cons (pe_op op_add pe_int (pv 0)) pa_nil))) pe_int)))))
    apply pss_cons
    case h1 =>
      first | exact (ps_lc (i := 5) sc_law_planted.nd rfl (by first | exact Or.inl rfl | exact Or.inr rfl) (N' := ["k", "low"]) (ix := [none, some 4]) rfl rfl (by decide +kernel) rfl rfl rfl rfl (pi_range1 rfl Z.range_ (pa_cons (pv 1) pa_nil)) (fun _ _ _ _ => (pg_name (i := 0) (show List.Nodup (["k", "low"] : List Str) by decide +kernel) rfl (by first | exact Or.inl rfl | exact Or.inr rfl))) (fun _ _ _ _ => pts_nil) (fun _ _ _ _ => (pe_op op_sub (pe_ix ix_listB (pv 1) (pe_op op_mod (pv 0) pe_int) (fun _ _ => rfl)) (pe_callTy call_int1 rfl Z.int_ PyProof.Rows.boot_int (pa_cons (pe_cmpR op_eq (pe_op op_mod (pv 0) pe_int) pe_int (nomark _)) pa_nil))))) | exact (ps_set (i := 5) sc_law_planted.nd rfl (by first | exact Or.inl rfl | exact Or.inr rfl) (pe_lc (N' := ["k", "low"]) (ix := [none, some 4]) rfl rfl (by decide +kernel) rfl rfl rfl rfl (pi_range1 rfl Z.range_ (pa_cons (pv 1) pa_nil)) (fun _ _ _ _ => (pg_name (i := 0) (show List.Nodup (["k", "low"] : List Str) by decide +kernel) rfl (by first | exact Or.inl rfl | exact Or.inr rfl))) (fun _ _ _ _ => pts_nil) (fun _ _ _ _ => (pe_op op_sub (pe_ix ix_listB (pv 1) (pe_op op_mod (pv 0) pe_int) (fun _ _ => rfl)) (pe_callTy call_int1 rfl Z.int_ PyProof.Rows.boot_int (pa_cons (pe_cmpR op_eq (pe_op op_mod (pv 0) pe_int) pe_int (nomark _)) pa_nil))))))
    apply pss_cons
    case h1 =>
      exact (ps_set (i := 6) sc_law_planted.nd rfl (by first | exact Or.inl rfl | exact Or.inr rfl) (pe_ix ix_list (pe_lst (pa_cons pe_int (pa_cons (pe_op op_mod (pe_def D_law_stir hr rfl (pa_cons (pv 0) (pa_cons pe_int pa_nil))) (pe_op op_sub (pv 1) (pv 2))) (pa_cons (pe_op op_sub (pv 1) (pv 2)) (pa_cons pe_int pa_nil))))) (pe_op op_mod (pe_def D_law_stir hr rfl (pa_cons (pv 0) (pa_cons pe_int pa_nil))) pe_int) (fun _ _ => rfl)))
    apply pss_cons
    case h1 =>
      exact (ps_asg (pv 3) (pg_slice (pv 5) (po_some (pv 6)) (po_some (pe_op op_add (pv 6) (pv 2)))))
    apply pss_cons
    case h1 =>
      exact (ps_set (i := 7) sc_law_planted.nd rfl (by first | exact Or.inl rfl | exact Or.inr rfl) (pe_lst (pa_cons (pv 6) pa_nil)))
    apply pss_cons
    case h1 =>
      exact (ps_set (i := 8) sc_law_planted.nd rfl (by first | exact Or.inl rfl | exact Or.inr rfl) (pe_op op_add (pe_op op_add (pe_op op_add (pe_op op_add (pv 6) (pv 2)) (pe_callB (call_sum rfl) rfl Z.sum_ PyProof.Rows.boot_sum (pa_cons (pv 3) pa_nil))) pe_int) (pe_op op_mod (pe_def D_law_stir hr rfl (pa_cons (pv 0) (pa_cons pe_int pa_nil))) pe_int)))
    apply pss_cons
    case h1 =>
      apply ps_if
      case hc => exact (PW.pt (pw_and (pt_cmpR op_eq (pe_op op_mod (pe_def D_law_stir hr rfl (pa_cons (pv 0) (pa_cons pe_int pa_nil))) pe_int) pe_int (nomark _)) (pw_and1 (pt_cmpR op_lt (pe_op op_add (pe_op op_add (pv 8) (pv 2)) (pe_callB (call_sum rfl) rfl Z.sum_ PyProof.Rows.boot_sum (pa_cons (pv 3) pa_nil))) (pv 1) (nomark _)))))
      case ha =>
        apply pss_cons
        case h1 =>
          exact (ps_asg (pv 3) (pg_slice (pv 5) (po_some (pv 8)) (po_some (pe_op op_add (pv 8) (pv 2)))))
        apply pss_one
        exact (ps_expr (pe_bm PySem.F.plainAttrs_list PySem.F.slot_list_append PySem.F.type_list_append mt_append (pv 7) (pa_cons (pv 8) pa_nil)))
      case hb =>
        exact pss_nil
    apply pss_one
    exact (ps_ret (pe_tup (pa_cons (pv 5) (pa_cons (pv 7) (pa_cons (pv 2) pa_nil)))))
  walk_at "rd"
  refine ⟨_, _, rfl, by decide, fun n0 h0 => ?_⟩
  walk_at "rd"
  refine ⟨_, _, rfl, by decide, fun n1 h1 => ?_⟩
  have m0 := mod_lt (a := n0) (b := 1701) (by decide)
  have m1 := mod_lt (a := n1) (b := 60) (by decide)
  obtain ⟨sz, hsz⟩ : ∃ z : Nat, (300 : Int) + n0 % 1701 = z := ⟨(300 + n0 % 1701).toNat, by (first | lia | omega)⟩
  obtain ⟨lg, hlg⟩ : ∃ z : Nat, (1 : Int) + n1 % 60 = z := ⟨(1 + n1 % 60).toNat, by (first | lia | omega)⟩
  have b0 : 300 ≤ sz ∧ sz ≤ 2000 ∧ 1 ≤ lg ∧ lg ≤ 60 := by (first | lia | omega)
  refine ⟨_, _, rfl, rfl, by show (0 : Int) < 60; decide, _, _, rfl, rfl, ?_⟩
  dsimp only
  rw [hsz, hlg]
  refine seqU (fun σ H' => ∃ (ra : Addr) (B : List Int), H ra = none ∧ Same H H' ∧ H' ra = some (.lst (B.map V.int)) ∧ B.length = lg ∧ (∀ x, x ∈ B → 1 ≤ x ∧ x ≤ 9) ∧ σ = [some (.int c), some (.int sz), some (.int lg), some (.ref ra), none, none, none, none, none]) ?_ (fun R hR => ?_)
  case refine_2 =>
    walk_at "rd"
    refine ⟨by (first | lia | omega), by (first | lia | omega), ?_⟩
    intro acc hacc
    refine comp_by (n := lg) (fun i τ zs H' => H' acc = some (.lst zs) ∧ (∃ ds : List Int, zs = ds.map V.int ∧ ds.length = i ∧ ∀ x, x ∈ ds → 1 ≤ x ∧ x ≤ 9) ∧ Same H H' ∧ ∃ o0, τ = [o0, some (.int c)]) ⟨upd_same, ⟨[], rfl, rfl, fun x hx => by simp at hx⟩, Same.new hacc _, none, rfl⟩ (by (first | lia | omega)) ?_ ?_ ?_ ?_
    · rintro i τ zs H' ⟨e, ⟨ds, rfl, hd, _⟩, _⟩
      exact ⟨e, by rw [List.length_map]; (first | lia | omega)⟩
    · rintro i τ zs H' hi _
      exact hi
    · rintro τ zs H3 ⟨e, ⟨ds, rfl, hd, hx⟩, s3, _⟩
      exact ⟨Nat.le_refl _, hR _ _ ⟨acc, ds, hacc, s3, e, hd, hx, rfl⟩⟩
    · rintro i τ zs H' x H3 hi ⟨e, ⟨ds, rfl, hd, hx⟩, s3, o0, rfl⟩ ⟨rfl, rfl⟩
      walk_at "rd"
      refine ⟨_, _, rfl, by (first | lia | omega), fun n hn => ?_⟩
      walk_at "rd"
      have mm := mod_lt (a := n) (b := 9) (by decide)
      refine ⟨e, Nx.mk hi ⟨upd_same, ⟨ds ++ [1 + n % 9], by rw [List.map_append]; rfl, by rw [List.length_append, List.length_singleton, hd], fun x hm => ?_⟩, s3.upd hacc, _, rfl⟩⟩
      rcases List.mem_append.mp hm with z | z
      · exact hx x z
      · rw [List.mem_singleton.mp z]
        (first | lia | omega)
  rintro _ H1 ⟨ra, B, hra0, s1, hra, hBl, hB, rfl⟩
  refine seqU (fun σ H' => ∃ (rl : Addr) (B : List Int), Same H1 H' ∧ H' rl = some (.lst (B.map V.int)) ∧ B.length = 7 ∧ (∀ x, x ∈ B → x ≤ -1) ∧ σ = [some (.int c), some (.int sz), some (.int lg), some (.ref ra), some (.ref rl), none, none, none, none]) ?_ (fun R hR => ?_)
  case refine_2 =>
    walk_at "rd"
    refine ⟨by decide, by decide, ?_⟩
    intro acc hacc
    refine comp_by (n := 7) (fun i τ zs H' => H' acc = some (.lst zs) ∧ (∃ ds : List Int, zs = ds.map V.int ∧ ds.length = i ∧ ∀ x, x ∈ ds → x ≤ -1) ∧ Same H1 H' ∧ ∃ o0, τ = [o0, some (.int c)]) ⟨upd_same, ⟨[], rfl, rfl, fun x hx => by simp at hx⟩, Same.new hacc _, none, rfl⟩ (by (first | lia | omega)) ?_ ?_ ?_ ?_
    · rintro i τ zs H' ⟨e, ⟨ds, rfl, hd, _⟩, _⟩
      exact ⟨e, by rw [List.length_map]; (first | lia | omega)⟩
    · rintro i τ zs H' hi _
      exact hi
    · rintro τ zs H3 ⟨e, ⟨ds, rfl, hd, hx⟩, s3, _⟩
      exact ⟨Nat.le_refl _, hR _ _ ⟨acc, ds, s3, e, hd, hx, rfl⟩⟩
    · rintro i τ zs H' x H3 hi ⟨e, ⟨ds, rfl, hd, hx⟩, s3, o0, rfl⟩ ⟨rfl, rfl⟩
      walk_at "rd"
      refine ⟨_, _, rfl, by (first | lia | omega), fun n hn => ?_⟩
      walk_at "rd"
      have mm := mod_lt (a := n) (b := 7) (by decide)
      refine ⟨e, Nx.mk hi ⟨upd_same, ⟨ds ++ [-1 - n % 7], by rw [List.map_append]; rfl, by rw [List.length_append, List.length_singleton, hd], fun x hm => ?_⟩, s3.upd hacc, _, rfl⟩⟩
      rcases List.mem_append.mp hm with z | z
      · exact hx x z
      · rw [List.mem_singleton.mp z]
        (first | lia | omega)
  rintro _ H2 ⟨rl, Lw, s2, hrl, hLl, hL, rfl⟩
  refine seqU (fun σ H' => ∃ (rb : Addr) (R : List Int), H2 rb = none ∧ Same H2 H' ∧ H' rb = some (.lst (R.map V.int)) ∧ R.length = sz ∧ (∀ x, x ∈ R → x ≤ -1) ∧ σ = [some (.int c), some (.int sz), some (.int lg), some (.ref ra), some (.ref rl), some (.ref rb), none, none, none]) ?_ (fun R hR => ?_)
  case refine_2 =>
    walk_at "rd"
    refine ⟨by (first | lia | omega), by (first | lia | omega), ?_⟩
    intro acc hacc
    refine comp_by (n := sz) (fun i τ zs H' => H' acc = some (.lst zs) ∧ (∃ ds : List Int, zs = ds.map V.int ∧ ds.length = i ∧ ∀ x, x ∈ ds → x ≤ -1) ∧ Same H2 H' ∧ ∃ o0, τ = [o0, some (.ref rl)]) ⟨upd_same, ⟨[], rfl, rfl, fun x hx => by simp at hx⟩, Same.new hacc _, none, rfl⟩ (by (first | lia | omega)) ?_ ?_ ?_ ?_
    · rintro i τ zs H' ⟨e, ⟨ds, rfl, hd, _⟩, _⟩
      exact ⟨e, by rw [List.length_map]; (first | lia | omega)⟩
    · rintro i τ zs H' hi _
      exact hi
    · rintro τ zs H3 ⟨e, ⟨ds, rfl, hd, hx⟩, s3, _⟩
      exact ⟨Nat.le_refl _, hR _ _ ⟨acc, ds, hacc, s3, e, hd, hx, rfl⟩⟩
    · rintro i τ zs H' x H3 hi ⟨e, ⟨ds, rfl, hd, hx⟩, s3, o0, rfl⟩ ⟨rfl, rfl⟩
      walk_at "rd"
      have m7 := mod_lt (a := 0 + (i : Int)) (b := 7) (by decide)
      obtain ⟨y, hy, ey⟩ := pick (ns := Lw) (k := (0 + (i : Int)) % 7) m7.1 (by rw [hLl]; exact m7.2)
      have hy1 := hL y hy
      refine ⟨rl, _, _, _, rfl, rfl, SqL.of (s3 _ _ hrl), ey, ?_⟩
      walk_at "rd"
      refine .inr ⟨_, rfl, ?_⟩
      obtain ⟨e0, he0⟩ : ∃ e0 : Int, e0 = (if decide (V.int ((0 + (i : Int)) % 11) = V.int 0) = true then 1 else 0) := ⟨_, rfl⟩
      have he0' : 0 ≤ e0 := by rw [he0]; split <;> (first | lia | omega)
      rw [← he0]
      walk_at "rd"
      refine ⟨e, Nx.mk hi ⟨upd_same, ⟨ds ++ [y - e0], by rw [List.map_append]; rfl, by rw [List.length_append, List.length_singleton, hd], fun x hm => ?_⟩, s3.upd hacc, _, rfl⟩⟩
      rcases List.mem_append.mp hm with z | z
      · exact hx x z
      · rw [List.mem_singleton.mp z]
        (first | lia | omega)
  rintro _ H3 ⟨rb, R, hrb0, s3, hrb, hRl, hRx, rfl⟩
  have hra3 := s3 _ _ (s2 _ _ hra)
  have hab : rb ≠ ra := fun z => by subst z; rw [s2 _ _ hra] at hrb0; cases hrb0
  have hRn : ∀ i, i < R.length → R.getD i 0 ≤ -1 := fun i hi => hRx _ (getD_mem hi)
  have hB1 : ∀ x, x ∈ B → 1 ≤ x := fun x hx => (hB x hx).1
  have hSg := sum_ge hB1
  have S3 : Same H H3 := fun b o e => s3 _ _ (s2 _ _ (s1 _ _ e))
  have hrbH : H rb = none := (s1.trans s2).free hrb0
  walk_at "rd"
  refine ⟨_, _, rfl, by decide, fun n2 h2 => ?_⟩
  walk_at "rd"
  refine ⟨by (first | lia | omega), ?_⟩
  refine ⟨_, rfl, ?_⟩
  walk_at "rd"
  refine ⟨by show 4 ≤ sizeLine; decide, fun p4 hp4 => ?_⟩
  walk_at "rd"
  refine ⟨_, _, rfl, by decide, fun n3 h3 => ?_⟩
  walk_at "rd"
  have m2 := mod_lt (a := n2) (b := (sz : Int) - lg) (by (first | lia | omega))
  obtain ⟨fi, hfi, efi⟩ := pick (ns := [0, n2 % ((sz : Int) - lg), (sz : Int) - lg, 5]) (k := n3 % 4) (mod_lt (by decide)).1 (mod_lt (by decide)).2
  have hfi' : 0 ≤ fi ∧ fi ≤ (sz : Int) - lg := by
    simp only [List.mem_cons, List.not_mem_nil, or_false] at hfi
    (first | lia | omega)
  refine ⟨p4, _, _, _, rfl, rfl, SqL.of upd_same, efi, ?_⟩
  obtain ⟨p, rfl⟩ : ∃ p : Nat, fi = p := ⟨fi.toNat, by (first | lia | omega)⟩
  have s4 := Same.new hp4 (.lst (([0, n2 % ((sz : Int) - lg), (sz : Int) - lg, 5] : List Int).map V.int))
  have hra4 := s4 _ _ hra3
  have hrb4 := s4 _ _ hrb
  have S4 := S3.trans s4
  show gName 6 _ _ (upd H3 p4 (.lst (([0, n2 % ((sz : Int) - lg), (sz : Int) - lg, 5] : List Int).map V.int))) _
  generalize upd H3 p4 (.lst (([0, n2 % ((sz : Int) - lg), (sz : Int) - lg, 5] : List Int).map V.int)) = H4 at s4 hra4 hrb4 S4 ⊢
  walk_at "rd"
  refine ⟨rb, ra, R.map V.int, B.map V.int, (p : Int), (p : Int) + lg, rfl, rfl, rfl, rfl, hab, hrb4, hra4, by (first | lia | omega), by (first | lia | omega), by rw [List.length_map]; (first | lia | omega), ?_, ?_⟩
  · rw [List.length_map, List.length_map]
    exact Nat.le_of_lt (small (by (first | lia | omega)))
  have eS : (R.map V.int).take (p : Int).toNat ++ B.map V.int ++ (R.map V.int).drop ((p : Int) + lg).toNat = (spl R B p).map V.int := by
    rw [show ((p : Int) + lg).toNat = p + B.length by (first | lia | omega), Int.toNat_natCast]
    exact spl_map
  rw [eS]
  have hl1 := spl_len (ns := R) (B := B) (p := p) (by (first | lia | omega))
  have U1 := planted1 hRn hB1 (by (first | lia | omega)) (by (first | lia | omega)) (by (first | lia | omega) : p + B.length ≤ R.length)
  have S5 : Same H (upd H4 rb (.lst ((spl R B p).map V.int))) := S4.upd hrbH
  have hra5 : upd H4 rb (.lst ((spl R B p).map V.int)) ra = some (.lst (B.map V.int)) := by rw [upd_ne (Ne.symm hab)]; exact hra4
  have hrb5 : upd H4 rb (.lst ((spl R B p).map V.int)) rb = some (.lst ((spl R B p).map V.int)) := upd_same
  generalize upd H4 rb (.lst ((spl R B p).map V.int)) = H5 at S5 hra5 hrb5 ⊢
  walk_at "rd"
  refine ⟨by show 1 ≤ sizeLine; decide, fun pl hpl => ?_⟩
  have s6 := Same.new hpl (.lst [.int (p : Int)])
  have hpl6 : upd H5 pl (.lst [.int (p : Int)]) pl = some (.lst [.int (p : Int)]) := upd_same
  have hra6 := s6 _ _ hra5
  have hrb6 := s6 _ _ hrb5
  have S6 := S5.trans s6
  have hplH : H pl = none := S5.free hpl
  have hpb : rb ≠ pl := fun z => by subst z; rw [hrb5] at hpl; cases hpl
  have hpa : ra ≠ pl := fun z => by subst z; rw [hra5] at hpl; cases hpl
  generalize upd H5 pl (.lst [.int (p : Int)]) = H6 at s6 hpl6 hra6 hrb6 S6 ⊢
  walk_at "rd"
  refine ⟨ra, B, rfl, SqL.of hra6, ?_⟩
  walk_at "rd"
  refine ⟨_, _, rfl, by decide, fun n4 h4 => ?_⟩
  have m4 := mod_lt (a := n4) (b := 40) (by decide)
  refine ⟨_, _, rfl, rfl, by show (0 : Int) < 40; decide, _, _, rfl, rfl, ?_⟩
  dsimp only
  obtain ⟨q, hq⟩ : ∃ q : Nat, (p : Int) + lg + B.sum + 1 + n4 % 40 = q := ⟨((p : Int) + lg + B.sum + 1 + n4 % 40).toNat, by (first | lia | omega)⟩
  rw [hq]
  dsimp only [gName]
  refine seqU (fun σ H' => ∃ (ns : List Int) (ps : List Nat) (o8 : Option V), Same H H' ∧ H' rb = some (.lst (ns.map V.int)) ∧ H' pl = some (.lst (ps.map nv)) ∧ Pd ns p ps lg B.sum ∧ σ = [some (.int c), some (.int sz), some (.int lg), some (.ref ra), some (.ref rl), some (.ref rb), some (.int p), some (.ref pl), o8]) ?_ (fun R' hR => ?_)
  case refine_2 =>
    have one : Pd (spl R B p) p [p] lg B.sum := ⟨by (first | lia | omega), by (first | lia | omega), by (first | lia | omega), by (first | lia | omega), by rw [hl1, ← hBl]; exact U1, .inl rfl⟩
    walk_at "rd"
    refine ⟨_, _, rfl, by decide, fun n5 h5 => ?_⟩
    walk_at "rd"
    refine ifI (fun _ => ?_) (fun _ => ?_)
    · walk_at "rd"
      refine ⟨ra, B, rfl, SqL.of hra6, ?_⟩
      walk_at "rd"
      refine ifD (fun hlt => ?_) (fun _ => ?_)
      · walk_at "rd"
        refine ⟨rb, ra, (spl R B p).map V.int, B.map V.int, (q : Int), (q : Int) + lg, rfl, rfl, rfl, rfl, hab, hrb6, hra6, by (first | lia | omega), by (first | lia | omega), by rw [List.length_map]; (first | lia | omega), ?_, ?_⟩
        · rw [List.length_map, List.length_map]
          exact Nat.le_of_lt (small (by (first | lia | omega)))
        have eS2 : ((spl R B p).map V.int).take (q : Int).toNat ++ B.map V.int ++ ((spl R B p).map V.int).drop ((q : Int) + lg).toNat = (spl (spl R B p) B q).map V.int := by
          rw [show ((q : Int) + lg).toNat = q + B.length by (first | lia | omega), Int.toNat_natCast]
          exact spl_map
        rw [eS2]
        have hl2 := spl_len (ns := spl R B p) (B := B) (p := q) (by (first | lia | omega))
        have U2 := planted2 hRn hB1 (by (first | lia | omega)) (by (first | lia | omega) : (p : Int) + B.length + B.sum + 1 ≤ q) (by (first | lia | omega) : (q : Int) + B.length + B.sum < R.length)
        walk_at "rd"
        refine ⟨.inl ⟨rfl, _, SqL.of (by rw [upd_ne (Ne.symm hpb)]; exact hpl6)⟩, ?_⟩
        walk_at "rd"
        refine ⟨pl, _, _, rfl, rfl, by rw [upd_ne (Ne.symm hpb)]; exact hpl6, by show 1 < sizeLine; decide, ?_⟩
        refine hR _ _ ⟨spl (spl R B p) B q, [p, q], _, (S6.upd hrbH).upd hplH, by rw [upd_ne hpb, upd_same], by rw [upd_same]; rfl, ⟨by (first | lia | omega), by (first | lia | omega), by (first | lia | omega), by (first | lia | omega), by rw [hl2, hl1, ← hBl]; exact U2, .inr ⟨q, by (first | lia | omega), rfl⟩⟩, rfl⟩
      · exact hR _ _ ⟨_, [p], _, S6, hrb6, hpl6, one, rfl⟩
    · exact hR _ _ ⟨_, [p], _, S6, hrb6, hpl6, one, rfl⟩
  rintro _ H7 ⟨ns, ps, o8, S7, hrb7, hpl7, hP, rfl⟩
  walk_at "rd"
  refine ⟨by show 3 ≤ sizeLine; decide, fun t ht => ?_⟩
  have s8 := Same.new ht (.tup [.ref rb, .ref pl, .int (lg : Int)])
  exact fin t rb pl p ns ps lg B.sum _ (S7.trans s8) upd_same (s8 _ _ hrb7) (s8 _ _ hpl7) hP
/-- tuples of ints, == -/
theorem EqT {K : PySem.W.Frag} {H : Hp} {a b : Addr} {ns ms : List Int} (ha : SqT K H a (ns.map V.int)) (hb : SqT K H b (ms.map V.int)) : EqD K H 1 (.ref a) (.ref b) (decide (ns = ms)) := by
  have q := EqD.tup (n := 0) (e := fun j => ns.getD j 0 == ms.getD j 0) ha hb fun j x y ex ey => by
    rw [List.getElem?_map] at ex ey
    cases e1 : ns[j]? with
    | none => rw [e1] at ex; cases ex
    | some i =>
      cases e2 : ms[j]? with
      | none => rw [e2] at ey; cases ey
      | some i' =>
        rw [e1] at ex; rw [e2] at ey
        cases ex; cases ey
        have z := EqD.flat (K := K) (H := H) (x := V.int i) (y := V.int i') rfl rfl
        have z2 : (ns.getD j 0 == ms.getD j 0) = eqV (V.int i) (V.int i') := by rw [List.getD_eq_getElem?_getD, List.getD_eq_getElem?_getD, e1, e2]; rfl
        rw [z2]
        exact z
  have e : ((List.range (min (ns.map V.int).length (ms.map V.int).length)).all (fun j => ns.getD j 0 == ms.getD j 0) && (ns.map V.int).length == (ms.map V.int).length) = decide (ns = ms) := by
    rw [List.length_map, List.length_map, Bool.eq_iff_iff, decide_eq_true_iff, Bool.and_eq_true, List.all_eq_true, beq_iff_eq]
    constructor
    · rintro ⟨h, hl⟩
      refine List.ext_getElem hl fun j h1 h2 => ?_
      have := h j (List.mem_range.mpr (by (first | lia | omega)))
      rw [List.getD_eq_getElem?_getD, List.getD_eq_getElem?_getD, List.getElem?_eq_getElem h1, List.getElem?_eq_getElem h2] at this
      simpa using this
    · rintro rfl
      exact ⟨fun j _ => beq_self_eq_true _, rfl⟩
  rw [← e]
  exact q
/-! ### _law_cell_at -/
def cellAt (ns : List Int) (k : Int) : Int := if k < (ns.length : Int) then ns.getD k.toNat 0 else 0
def sp_cellat (K : PySem.W.Frag) : Sp := fun vs H Q _ => ∃ (a : Addr) (ns : List Int) (j : Int), vs = [.ref a, .int j] ∧ SqL K H a (ns.map V.int) ∧ 0 ≤ j ∧ Q (.int (cellAt ns j)) H
theorem ok_cellat {P : Program} {w : World} {K : PySem.W.Frag} {mg : Str → Option Value} {base : Heap} {k : Nat} {f : Addr} {fd : FuncData} (F : Fun K "_law_cell_at" "_law_cell_at" s_law_cell_at f fd) (Z : Blt mg) : FnOk P w K mg base CX0 (k + 1) f fd ["script", "k"] (sp_cellat K) := by
  refine F.ok sc_law_cell_at (fun vs H Q E h => ?_) (fun cdv A outer s H vs Q E hr h => ?_)
  · obtain ⟨a, ns, j, rfl, _⟩ := h
    rfl
  obtain ⟨a, ns, j, rfl, hS, hj, q⟩ := h
  apply Exists.intro
  apply And.intro
  case left =>
    apply pss_cons
    case h1 =>
      apply ps_if
      case hc => exact (pt_cmpR op_lt (pv 1) (pe_callB call_len_seq rfl Z.len_ PySem.boot_len (pa_cons (pv 0) pa_nil)) (nomark _))
      case ha =>
        apply pss_one
        exact (ps_ret (pe_ix ix_list (pv 0) (pv 1) (fun _ _ => rfl)))
      case hb =>
        exact pss_nil
    apply pss_one
    exact (ps_ret pe_int)
  have hl : (ns.map V.int).length = ns.length := List.length_map _
  unfold cellAt at q
  walk_at "rd"
  refine ⟨a, _, rfl, .inl hS, ?_⟩
  rw [hl]
  walk_at "rd"
  refine ifD (fun hlt => ?_) (fun hge => ?_)
  · rw [if_pos hlt] at q
    walk_at "rd"
    exact ⟨a, _, _, _, rfl, rfl, hS, atI_ok hj hlt, q⟩
  · rw [if_neg hge] at q
    walk_at "rd"
    exact q
/-! ### _law_ahead -/
theorem pl_last {ns : List Int} : ∀ {i : Nat}, atI ((pl ns i).map V.int) (-1) = some (.int (psum ns i))
  | 0 => atI_last [] (V.int (psum ns 0))
  | i + 1 => by
    rw [pl_succ, List.map_append]
    exact atI_last _ _
def sp_ahead9 : Sp := fun vs H Q _ => ∃ (r : Addr) (ns : List Int), vs = [.ref r] ∧ H r = some (.lst (ns.map V.int)) ∧ ns.length ≤ 90000 ∧
  ∀ (l : Addr) (H' : Hp), Same H H' → H' l = some (.lst ((pl ns ns.length).map V.int)) → Q (.ref l) H'
theorem ok_ahead9 {P : Program} {w : World} {K : PySem.W.Frag} {mg : Str → Option Value} {base : Heap} {k : Nat} {f : Addr} {fd : FuncData} (F : Fun K "_law_ahead" "_law_ahead" s_law_ahead f fd) (Z : Blt mg) : FnOk P w K mg base CX0 (k + 1) f fd ["row"] sp_ahead9 := by
  refine F.ok sc_law_ahead (fun vs H Q E h => ?_) (fun cdv A outer s H vs Q E hr h => ?_)
  · obtain ⟨r, ns, rfl, _⟩ := h
    rfl
  obtain ⟨r, ns, rfl, hR, hz, fin⟩ := h
  apply Exists.intro
  apply And.intro
  case left =>
    apply pss_cons
    case h1 =>
      exact (ps_set (i := 1) sc_law_ahead.nd rfl (by first | exact Or.inl rfl | exact Or.inr rfl) (pe_lst (pa_cons pe_int pa_nil)))
    apply pss_cons
    case h1 =>
      apply ps_for PassesOwn.never rfl
      case hi => exact (pi_list (pv 0))
      case hg => exact (pg_name (i := 2) sc_law_ahead.nd rfl (by first | exact Or.inl rfl | exact Or.inr rfl))
      case hb =>
        apply pss_one
        exact (ps_expr (pe_bm PySem.F.plainAttrs_list PySem.F.slot_list_append PySem.F.type_list_append mt_append (pv 1) (pa_cons (pe_op op_add (pe_ix ix_list (pv 1) (pe_un un_neg pe_int) (fun _ _ => rfl)) (pv 2)) pa_nil)))
    apply pss_one
    exact (ps_ret (pv 1))
  have hl : (ns.map V.int).length = ns.length := List.length_map _
  walk_at "rd"
  refine ⟨by show 1 ≤ sizeLine; decide, fun l hl0 => ?_⟩
  have s1 := Same.new hl0 (.lst [.int 0])
  have hrl : r ≠ l := fun z => by subst z; rw [hR] at hl0; cases hl0
  walk_at "rd"
  refine ⟨⟨_, SqL.of (s1 _ _ hR)⟩, ?_⟩
  refine for_list (xs := ns.map V.int) (fun i σ H' => ∃ o2, Same H H' ∧ H' l = some (.lst ((pl ns i).map V.int)) ∧ σ = [some (.ref r), some (.ref l), o2]) ⟨_, s1, by rw [upd_same]; rfl, rfl⟩ ?_ ?_ ?_
  · rintro i σ H' _ ⟨_, sm, _⟩
    exact SqL.of (sm _ _ hR)
  · rintro i x σ H2 hx ⟨o2, s2, hl2, rfl⟩
    obtain ⟨hi, rfl⟩ := int_at hx
    have hpl := pl_len ns i
    walk_at "rd"
    refine ⟨.inl ⟨rfl, _, SqL.of hl2⟩, ?_⟩
    walk_at "rd"
    refine ⟨l, _, _, _, rfl, rfl, SqL.of hl2, pl_last, ?_⟩
    walk_at "rd"
    refine ⟨l, _, _, rfl, rfl, hl2, small (by rw [List.length_map]; (first | lia | omega)), ?_⟩
    refine ⟨_, s2.upd hl0, ?_, rfl⟩
    rw [upd_same, pl_succ, List.map_append]
    show some (HO.lst (_ ++ [V.int (psum ns i + ns[i])])) = _
    rw [← psum_succ hi]
    rfl
  · rintro σ H2 ⟨o2, s2, hl2, rfl⟩
    walk_at "rd"
    rw [hl] at hl2
    exact fin l H2 s2 hl2
/-! ### _law_best_by: the best of told lengths, by sums ahead -/
def sp_by9 : Sp := fun vs H Q _ => ∃ (r : Addr) (ns : List Int) (L : Nat) (M : Int), vs = [.ref r, .int L, .int M] ∧ H r = some (.lst (ns.map V.int)) ∧ ns.length ≤ 80000 ∧ 1 ≤ L ∧ L ≤ ns.length ∧ (L : Int) ≤ M ∧
  ∀ (t : Addr) (s : Int) (f b : Nat) (H' : Hp), Same H H' → H' t = some (.tup [.int s, .int f, .int b]) → IsBest ns L M s f b → Q (.ref t) H'
theorem ok_by9 {P : Program} {w : World} {K : PySem.W.Frag} {mg : Str → Option Value} {base : Heap} {k : Nat} {f : Addr} {fd : FuncData} (F : Fun K "_law_best_by" "_law_best_by" s_law_best_by f fd) (Z : Blt mg)
    (D_law_ahead : Def P w K mg base k "_law_ahead" ["row"] sp_ahead9) : FnOk P w K mg base CX0 (k + 1) f fd ["row", "least", "most"] sp_by9 := by
  refine F.ok sc_law_best_by (fun vs H Q E h => ?_) (fun cdv A outer s H vs Q E hr h => ?_)
  · obtain ⟨r, ns, L, M, rfl, _⟩ := h
    rfl
  obtain ⟨r, ns, L, M, rfl, hR, hz, hL1, hL2, hLM, q⟩ := h
  apply Exists.intro
  apply And.intro
  case left =>
    apply pss_cons
    case h1 =>
      exact (ps_set (i := 3) sc_law_best_by.nd rfl (by first | exact Or.inl rfl | exact Or.inr rfl) (pe_def D_law_ahead hr rfl (pa_cons (pv 0) pa_nil)))
    apply pss_cons
    case h1 =>
      exact (ps_set (i := 4) sc_law_best_by.nd rfl (by first | exact Or.inl rfl | exact Or.inr rfl) pe_non)
    apply pss_cons
    case h1 =>
      apply ps_for PassesOwn.never rfl
      case hi => exact (pi_range1 rfl Z.range_ (pa_cons (pe_op op_add (pe_op op_sub (pe_callB call_len_seq rfl Z.len_ PySem.boot_len (pa_cons (pv 0) pa_nil)) (pv 1)) pe_int) pa_nil))
      case hg => exact (pg_name (i := 5) sc_law_best_by.nd rfl (by first | exact Or.inl rfl | exact Or.inr rfl))
      case hb =>
        apply pss_one
        apply ps_for PassesOwn.never rfl
        case hi => exact (pi_range2 rfl Z.range_ (pa_cons (pe_op op_add (pv 5) (pv 1)) (pa_cons (pe_op op_add (pe_callB (call_min2 rfl) rfl Z.min_ PyProof.Rows.boot_min (pa_cons (pe_callB call_len_seq rfl Z.len_ PySem.boot_len (pa_cons (pv 0) pa_nil)) (pa_cons (pe_op op_add (pv 5) (pv 2)) pa_nil))) pe_int) pa_nil)))
        case hg => exact (pg_name (i := 6) sc_law_best_by.nd rfl (by first | exact Or.inl rfl | exact Or.inr rfl))
        case hb =>
          apply pss_cons
          case h1 =>
            exact (ps_set (i := 7) sc_law_best_by.nd rfl (by first | exact Or.inl rfl | exact Or.inr rfl) (pe_op op_sub (pe_ix ix_list (pv 3) (pv 6) (fun _ _ => rfl)) (pe_ix ix_list (pv 3) (pv 5) (fun _ _ => rfl))))
          apply pss_one
          apply ps_if
          case hc => exact (PW.pt (pw_or (pt_cmpR op_isN (pv 4) pe_non (nomark _)) (pw_or1 (pt_cmpR op_gt (pv 7) (pe_ix ix_tup (pv 4) pe_int (fun _ _ => rfl)) (nomark _)))))
          case ha =>
            apply pss_one
            exact (ps_set (i := 4) sc_law_best_by.nd rfl (by first | exact Or.inl rfl | exact Or.inr rfl) (pe_tup (pa_cons (pv 7) (pa_cons (pv 5) (pa_cons (pv 6) pa_nil)))))
          case hb =>
            exact pss_nil
    apply pss_one
    exact (ps_ret (pv 4))
  have hl : (ns.map V.int).length = ns.length := List.length_map _
  walk_at "rd"
  refine ⟨r, ns, rfl, hR, by (first | lia | omega), fun a H0 s0 ha => ?_⟩
  have hR0 := s0 _ _ hR
  have atA : ∀ i : Nat, i ≤ ns.length → atI ((pl ns ns.length).map V.int) (i : Int) = some (.int (psum ns i)) := fun i hi => by
    have := atI_ok (ns := pl ns ns.length) (k := (i : Int)) (by (first | lia | omega)) (by rw [pl_len]; (first | lia | omega))
    rw [this, Int.toNat_natCast, pl_getD hi]
  walk_at "rd"
  refine ⟨r, _, rfl, .inl (SqL.of hR0), ?_⟩
  rw [hl]
  walk_at "rd"
  refine ⟨by (first | lia | omega), by (first | lia | omega), ?_⟩
  refine for_range (fun i σ H' => ∃ v o5 o6 o7, Same H0 H' ∧ Bst (psum ns) H' (fun f b => Val ns.length L M f b ∧ f < i) v ∧ σ = [some (.ref r), some (.int L), some (.int M), some (.ref a), some v, o5, o6, o7]) ⟨.non, none, none, none, Same.refl _, .inl ⟨rfl, fun f b q => by (first | lia | omega)⟩, rfl⟩ ?_ ?_
  · rintro i σ H1 hi ⟨v, o5, o6, o7, sm, hv, rfl⟩
    have hR1 := sm _ _ hR0
    have ha1 := sm _ _ ha
    walk_at "rd"
    refine ⟨r, _, rfl, .inl (SqL.of hR1), ?_⟩
    rw [hl]
    walk_at "rd"
    refine ⟨_, _, rfl, ?_⟩
    walk_at "rd"
    refine ⟨_, _, rfl, ⟨by (first | lia | omega), by (first | lia | omega), by split <;> (first | lia | omega), by split <;> (first | lia | omega)⟩, ?_⟩
    refine for_range (fun j σ H' => ∃ v o6 o7, Same H1 H' ∧ Bst (psum ns) H' (fun f b => Val ns.length L M f b ∧ (f < i ∨ (f = i ∧ b < i + L + j))) v ∧ σ = [some (.ref r), some (.int L), some (.int M), some (.ref a), some v, some (.int (0 + i)), o6, o7]) ⟨v, o6, o7, Same.refl _, hv.keep (Same.refl _) fun f b => ?_, rfl⟩ ?_ ?_
    · unfold Val
      (first | lia | omega)
    · rintro j σ H2 hj ⟨v, o6, o7, sm2, hv2, rfl⟩
      have ha2 := sm2 _ _ ha1
      have hb : i + L + j ≤ ns.length ∧ ((i + L + j : Nat) : Int) ≤ i + M := by
        split at hj <;> (first | lia | omega)
      have ej : (0 : Int) + i + L + j = ((i + L + j : Nat) : Int) := by (first | lia | omega)
      have ei : (0 : Int) + i = ((i : Nat) : Int) := by (first | lia | omega)
      walk_at "rd"
      refine ⟨a, _, _, _, rfl, rfl, SqL.of ha2, by rw [ej]; exact atA (i + L + j) hb.1, ?_⟩
      walk_at "rd"
      refine ⟨a, _, _, _, rfl, rfl, SqL.of ha2, by rw [ei]; exact atA i (by (first | lia | omega)), ?_⟩
      have eS : ∀ f b, (Val ns.length L M f b ∧ (f < i ∨ (f = i ∧ b < i + L + (j + 1)))) ↔ ((Val ns.length L M f b ∧ (f < i ∨ (f = i ∧ b < i + L + j))) ∨ (f = i ∧ b = i + L + j)) := fun f b => by
        unfold Val
        (first | lia | omega)
      walk_at "rd"
      rcases hv2 with ⟨rfl, hno⟩ | ⟨t, s, f, b, rfl, ht, hB⟩
      · refine ifD (fun _ => ?_) (fun z => absurd rfl z)
        walk_at "rd"
        refine ⟨by show 3 ≤ sizeLine; decide, fun p hp => ?_⟩
        refine ⟨.ref p, _, _, sm2.trans (Same.new hp _), .inr ⟨p, _, i, i + L + j, rfl, ?_, BestIn.first fun f b => ?_⟩, rfl⟩
        · rw [upd_same]
          show some (HO.tup [V.int _, V.int (0 + i), V.int (0 + i + L + j)]) = _
          rw [ej, ei]
        · constructor
          · intro q'
            rcases (eS f b).mp q' with q' | q'
            · exact absurd q' (hno f b)
            · exact q'
          · intro q'
            exact (eS f b).mpr (.inr q')
      · refine ifD (fun z => nomatch z) (fun _ => ?_)
        walk_at "rd"
        refine ⟨t, _, 0, _, rfl, rfl, SqT.of ht, rfl, ?_⟩
        walk_at "rd"
        refine ifD (fun hgt => ?_) (fun hgt => ?_)
        · walk_at "rd"
          refine ⟨by show 3 ≤ sizeLine; decide, fun p hp => ?_⟩
          refine ⟨.ref p, _, _, sm2.trans (Same.new hp _), .inr ⟨p, _, i, i + L + j, rfl, ?_, hB.more eS hgt⟩, rfl⟩
          rw [upd_same]
          show some (HO.tup [V.int _, V.int (0 + i), V.int (0 + i + L + j)]) = _
          rw [ej, ei]
        · refine ⟨.ref t, _, _, sm2, .inr ⟨t, s, f, b, rfl, ht, hB.less eS hgt ?_⟩, rfl⟩
          have := hB.mem
          unfold Val at this
          (first | lia | omega)
    · rintro σ H2 ⟨v, o6, o7, sm2, hv2, rfl⟩
      refine ⟨v, _, _, _, sm.trans sm2, hv2.keep (Same.refl _) fun f b => ?_, rfl⟩
      unfold Val
      split <;> (first | lia | omega)
  · rintro σ H1 ⟨v, o5, o6, o7, sm, hv, rfl⟩
    walk_at "rd"
    have eS : ∀ f b, (Val ns.length L M f b ∧ f < ((ns.length : Int) - L + 1).toNat) ↔ Val ns.length L M f b := fun f b => by
      unfold Val
      (first | lia | omega)
    rcases hv with ⟨rfl, hno⟩ | ⟨t, s, f, b, rfl, ht, hB⟩
    · exact absurd ((eS 0 L).mpr (by unfold Val; (first | lia | omega))) (hno 0 L)
    · exact q t s f b H1 (s0.trans sm) ht (hB.congr eS)
/-! ### _law_long_right -/
def sp_lr9 : Sp := fun vs H Q _ => ∃ (c : Int) (r : Addr) (ns : List Int), vs = [.int c, .ref r] ∧ H r = some (.lst (ns.map V.int)) ∧ 300 ≤ ns.length ∧ ns.length ≤ 2000 ∧ ∀ H', Same H H' → Q (.bl true) H'
theorem ok_lr9 {P : Program} {w : World} {K : PySem.W.Frag} {mg : Str → Option Value} {base : Heap} {k : Nat} {f : Addr} {fd : FuncData} (F : Fun K "_law_long_right" "_law_long_right" s_law_long_right f fd) (Z : Blt mg)
    (D_law_stir : Def P w K mg base k "_law_stir" ["cell", "k"] sp_stir) (D_best_sized : Def P w K mg base k "best_sized" ["row", "least", "most"] sp_sized) (D_law_best_by : Def P w K mg base k "_law_best_by" ["row", "least", "most"] sp_by9) : FnOk P w K mg base CX0 (k + 1) f fd ["cell", "row"] sp_lr9 := by
  refine F.ok sc_law_long_right (fun vs H Q E h => ?_) (fun cdv A outer s H vs Q E hr h => ?_)
  · obtain ⟨c, r, ns, rfl, _⟩ := h
    rfl
  obtain ⟨c, r, ns, rfl, hR, hn1, hn2, fin⟩ := h
  apply Exists.intro
  apply And.intro
  case left =>
    apply pss_cons
    case h1 =>
      exact (ps_set (i := 2) sc_law_long_right.nd rfl (by first | exact Or.inl rfl | exact Or.inr rfl) (pe_op op_add pe_int (pe_op op_mod (pe_def D_law_stir hr rfl (pa_cons (pv 0) (pa_cons pe_int pa_nil))) (pe_op op_sub (pe_callB call_len_seq rfl Z.len_ PySem.boot_len (pa_cons (pv 1) pa_nil)) pe_int))))
    apply pss_cons
    case h1 =>
      exact (ps_set (i := 3) sc_law_long_right.nd rfl (by first | exact Or.inl rfl | exact Or.inr rfl) (pe_op op_add (pv 2) (pe_op op_mod (pe_def D_law_stir hr rfl (pa_cons (pv 0) (pa_cons pe_int pa_nil))) pe_int)))
    apply pss_cons
    case h1 =>
      apply ps_if
      case hc => exact (pt_cmpR op_lt (pe_op op_sub (pe_callB call_len_seq rfl Z.len_ PySem.boot_len (pa_cons (pv 1) pa_nil)) (pv 2)) pe_int (nomark _))
      case ha =>
        apply pss_one
        exact (ps_set (i := 3) sc_law_long_right.nd rfl (by first | exact Or.inl rfl | exact Or.inr rfl) (pe_op op_pow pe_int pe_int))
      case hb =>
        exact pss_nil
    apply pss_one
    exact (ps_ret (pe_cmpR (op_eqD hr) (pe_def D_best_sized hr rfl (pa_cons (pe_callTy call_list_of rfl Z.list_ PyProof.Rows.boot_list (pa_cons (pv 1) pa_nil)) (pa_cons (pv 2) (pa_cons (pv 3) pa_nil)))) (pe_def D_law_best_by hr rfl (pa_cons (pv 1) (pa_cons (pv 2) (pa_cons (pv 3) pa_nil)))) (nomark _)))
  have hl : (ns.map V.int).length = ns.length := List.length_map _
  walk_at "rd"
  refine ⟨_, _, rfl, by decide, fun n1 h1 => ?_⟩
  walk_at "rd"
  refine ⟨r, _, rfl, .inl (SqL.of hR), ?_⟩
  rw [hl]
  walk_at "rd"
  refine ⟨by (first | lia | omega), ?_⟩
  have m1 := mod_lt (a := n1) (b := (ns.length : Int) - 60) (by (first | lia | omega))
  obtain ⟨L, hL⟩ : ∃ L : Nat, (61 : Int) + n1 % ((ns.length : Int) - 60) = L := ⟨(61 + n1 % ((ns.length : Int) - 60)).toNat, by (first | lia | omega)⟩
  refine ⟨_, _, rfl, rfl, ?_⟩
  dsimp only [gName]
  rw [hL]
  walk_at "rd"
  refine ⟨_, _, rfl, by decide, fun n2 h2 => ?_⟩
  have m2 := mod_lt (a := n2) (b := 21) (by decide)
  walk_at "rd"
  refine ⟨r, _, rfl, .inl (SqL.of hR), ?_⟩
  rw [hl]
  walk_at "rd"
  refine ifJ (fun σ' H' => ∃ M : Int, (L : Int) ≤ M ∧ H = H' ∧ σ' = [some (.int c), some (.ref r), some (.int L), some (.int M)]) ?_ (fun _ => ⟨_, by (first | lia | omega), rfl, rfl⟩) (fun R hR' _ => ?_)
  case refine_2 =>
    have e29 : (2000 : Int) ≤ 10 ^ Int.toNat 29 := by decide
    walk_at "rd"
    exact hR' _ _ ⟨_, by (first | lia | omega), rfl, rfl⟩
  rintro _ _ ⟨M, hLM, rfl, rfl⟩
  walk_at "rd"
  refine ⟨r, _, rfl, .inl (SqL.of hR), fun h hh => ?_⟩
  have s1 := Same.new hh (.lst (ns.map V.int))
  walk_at "rd"
  refine ⟨h, ns, L, M, rfl, upd_same, by (first | lia | omega), by (first | lia | omega), by (first | lia | omega), hLM, fun t s f b H2 s2 ht hB => ?_⟩
  have s12 := s1.trans s2
  walk_at "rd"
  refine ⟨r, ns, L, M, rfl, s12 _ _ hR, by (first | lia | omega), by (first | lia | omega), by (first | lia | omega), hLM, fun t' s' f' b' H3 s3 ht' hB' => ?_⟩
  obtain ⟨rfl, rfl, rfl⟩ := hB.uniq hB'
  refine ⟨0, _, EqT (ns := [s, (f : Int), (b : Int)]) (ms := [s, (f : Int), (b : Int)]) (SqT.of (s3 _ _ ht)) (SqT.of ht'), by decide, ?_⟩
  rw [decide_eq_true rfl]
  exact fin _ (s12.trans s3)
/-! ### _law_turned_right -/
def sp_tr9 : Sp := fun vs H Q _ => ∃ (r l : Addr) (ns : List Int) (p : Nat) (ps : List Nat) (lg : Nat) (S : Int), vs = [.ref r, .ref l, .int lg] ∧ H r = some (.lst (ns.map V.int)) ∧ H l = some (.lst (ps.map nv)) ∧ Pd ns p ps lg S ∧ ∀ H', Same H H' → Q (.bl true) H'
theorem neg_sum {ns : List Int} : (ns.map fun x => 0 - x).sum = - ns.sum := by
  induction ns with
  | nil => rfl
  | cons x xs ih =>
    rw [List.map_cons, List.sum_cons, List.sum_cons, ih]
    (first | lia | omega)
theorem ok_tr9 {P : Program} {w : World} {K : PySem.W.Frag} {mg : Str → Option Value} {base : Heap} {k : Nat} {f : Addr} {fd : FuncData} (F : Fun K "_law_turned_right" "_law_turned_right" s_law_turned_right f fd) (Z : Blt mg)
    (D_best_ring : Def P w K mg base k "best_ring" ["ring"] sp_bring) : FnOk P w K mg base CX0 (k + 1) f fd ["row", "places", "long"] sp_tr9 := by
  refine F.ok sc_law_turned_right (fun vs H Q E h => ?_) (fun cdv A outer s H vs Q E hr h => ?_)
  · obtain ⟨r, l, ns, p, ps, lg, S, rfl, _⟩ := h
    rfl
  obtain ⟨r, l, ns, p, ps, lg, S, rfl, hR, hL, hP, fin⟩ := h
  apply Exists.intro
  apply And.intro
  case left =>
    apply pss_cons
    case h1 =>
      first | exact (ps_lc (i := 3) sc_law_turned_right.nd rfl (by first | exact Or.inl rfl | exact Or.inr rfl) (N' := ["number"]) (ix := [none]) rfl rfl (by decide +kernel) rfl rfl rfl rfl (pi_list (pv 0)) (fun _ _ _ _ => (pg_name (i := 0) (show List.Nodup (["number"] : List Str) by decide +kernel) rfl (by first | exact Or.inl rfl | exact Or.inr rfl))) (fun _ _ _ _ => pts_nil) (fun _ _ _ _ => (pe_op op_sub pe_int (pv 0)))) | exact (ps_set (i := 3) sc_law_turned_right.nd rfl (by first | exact Or.inl rfl | exact Or.inr rfl) (pe_lc (N' := ["number"]) (ix := [none]) rfl rfl (by decide +kernel) rfl rfl rfl rfl (pi_list (pv 0)) (fun _ _ _ _ => (pg_name (i := 0) (show List.Nodup (["number"] : List Str) by decide +kernel) rfl (by first | exact Or.inl rfl | exact Or.inr rfl))) (fun _ _ _ _ => pts_nil) (fun _ _ _ _ => (pe_op op_sub pe_int (pv 0)))))
    apply pss_cons
    case h1 =>
      exact (ps_set (i := 4) sc_law_turned_right.nd rfl (by first | exact Or.inl rfl | exact Or.inr rfl) (pe_callB (min_of_list rfl) rfl Z.min_ PyProof.Rows.boot_min (pa_cons (pe_lc (N' := ["place", "long", "row"]) (ix := [none, some 2, some 0]) rfl rfl (by decide +kernel) rfl rfl rfl rfl (pi_list (pv 1)) (fun _ _ _ _ => (pg_name (i := 0) (show List.Nodup (["place", "long", "row"] : List Str) by decide +kernel) rfl (by first | exact Or.inl rfl | exact Or.inr rfl))) (fun _ _ _ _ => pts_nil) (fun _ _ _ _ => (pe_op op_mod (pe_op op_add (pv 0) (pv 1)) (pe_callB call_len_seqB rfl Z.len_ PySem.boot_len (pa_cons (pv 2) pa_nil))))) pa_nil)))
    apply pss_one
    exact (ps_ret (pe_cmpR (op_eqD hr) (pe_def D_best_ring hr rfl (pa_cons (pe_callTy call_list_of rfl Z.list_ PyProof.Rows.boot_list (pa_cons (pv 3) pa_nil)) pa_nil)) (pe_tup (pa_cons (pe_op op_add (pe_callB (call_sum rfl) rfl Z.sum_ PyProof.Rows.boot_sum (pa_cons (pv 3) pa_nil)) (pe_callB (call_sum rfl) rfl Z.sum_ PyProof.Rows.boot_sum (pa_cons (pe_slice sl_list (pv 0) (po_some (pe_ix ix_list (pv 1) pe_int (fun _ _ => rfl))) (po_some (pe_op op_add (pe_ix ix_list (pv 1) pe_int (fun _ _ => rfl)) (pv 2)))) pa_nil))) (pa_cons (pv 4) (pa_cons (pe_op op_sub (pe_callB call_len_seq rfl Z.len_ PySem.boot_len (pa_cons (pv 0) pa_nil)) (pv 2)) pa_nil)))) (nomark _)))
  have hl : (ns.map V.int).length = ns.length := List.length_map _
  have hn1 := hP.n1
  have hn2 := hP.n2
  have hu := hP.uni
  have hl1 := hP.l1
  have hl2 := hP.l2
  obtain ⟨rest, eps⟩ := hP.at0
  obtain ⟨hpb, hpS⟩ := hu.blk p hP.mem
  refine seqU (fun σ H' => ∃ rg : Addr, Same H H' ∧ H' rg = some (.lst ((ns.map fun x => 0 - x).map V.int)) ∧ σ = [some (.ref r), some (.ref l), some (.int lg), some (.ref rg), none]) ?_ (fun R hRR => ?_)
  case refine_2 =>
    walk_at "rd"
    refine ⟨⟨_, SqL.of hR⟩, ?_⟩
    intro acc hacc
    refine comp_by (n := ns.length) (fun i τ zs H' => H' acc = some (.lst zs) ∧ zs = ((ns.take i).map fun x => 0 - x).map V.int ∧ Same H H' ∧ ∃ o0, τ = [o0]) ⟨upd_same, rfl, Same.new hacc _, none, rfl⟩ (by (first | lia | omega)) ?_ ?_ ?_ ?_
    · rintro i τ zs H' ⟨e, rfl, _⟩
      exact ⟨e, by rw [List.length_map, List.length_map, List.length_take]; (first | lia | omega)⟩
    · rintro i τ zs H' hi ⟨e, _, s5, _⟩
      exact ⟨_, _, SqL.of (s5 _ _ hR), List.getElem?_eq_getElem (by (first | lia | omega))⟩
    · rintro τ zs H3 ⟨e, rfl, s3, _⟩
      rw [List.take_length] at e
      exact ⟨⟨_, SqL.of (s3 _ _ hR), by (first | lia | omega)⟩, hRR _ _ ⟨acc, s3, e, rfl⟩⟩
    · rintro i τ zs H' v H3 hi ⟨e, rfl, s3, o0, rfl⟩ ⟨rfl, y⟩
      obtain ⟨hi2, rfl⟩ := int_at (y _ (SqL.of (s3 _ _ hR)))
      walk_at "rd"
      refine ⟨e, Nx.mk hi ⟨upd_same, ?_, s3.upd hacc, _, rfl⟩⟩
      rw [List.take_succ_eq_append_getElem hi, List.map_append, List.map_append]
      rfl
  rintro _ H1 ⟨rg, s1, hrg, rfl⟩
  have hR1 := s1 _ _ hR
  have hL1 := s1 _ _ hL
  refine seqU (fun σ H' => ∃ g : Nat, Same H1 H' ∧ (∃ r, r ∈ ps ∧ g = (r + lg) % ns.length) ∧ (∀ r, r ∈ ps → g ≤ (r + lg) % ns.length) ∧ σ = [some (.ref r), some (.ref l), some (.int lg), some (.ref rg), some (.int g)]) ?_ (fun R hRR => ?_)
  case refine_2 =>
    walk_at "rd"
    refine ⟨⟨_, SqL.of hL1⟩, ?_⟩
    intro acc hacc
    have hpl : (ps.map nv).length = ps.length := List.length_map _
    have hps : ps.length ≤ 2 := by
      rcases hP.hps with e | ⟨q, _, e⟩ <;> rw [e]
      · show 1 ≤ 2
        decide
      · exact Nat.le_refl _
    refine comp_by (n := ps.length) (fun i τ zs H' => H' acc = some (.lst zs) ∧ zs = ((ps.take i).map fun x => (((x + lg) % ns.length : Nat) : Int)).map V.int ∧ Same H1 H' ∧ ∃ o0, τ = [o0, some (.int lg), some (.ref r)]) ⟨upd_same, rfl, Same.new hacc _, none, rfl⟩ (by (first | lia | omega)) ?_ ?_ ?_ ?_
    · rintro i τ zs H' ⟨e, rfl, _⟩
      exact ⟨e, by rw [List.length_map, List.length_map, List.length_take]; (first | lia | omega)⟩
    · rintro i τ zs H' hi ⟨e, _, s5, _⟩
      exact ⟨_, _, SqL.of (s5 _ _ hL1), List.getElem?_eq_getElem (by (first | lia | omega))⟩
    · rintro τ zs H3 ⟨e, rfl, s3, _⟩
      rw [List.take_length] at e
      refine ⟨⟨_, SqL.of (s3 _ _ hL1), by (first | lia | omega)⟩, ?_⟩
      refine ⟨acc, _, rfl, SqL.of e, by rw [List.length_map, eps]; exact Nat.succ_pos _, fun M hM1 hM2 => ?_⟩
      obtain ⟨r1, hr1, rfl⟩ := List.mem_map.mp hM1
      exact hRR _ _ ⟨_, s3, ⟨r1, hr1, rfl⟩, fun r2 hr2 => Int.ofNat_le.mp (hM2 _ (List.mem_map.mpr ⟨r2, hr2, rfl⟩)), rfl⟩
    · rintro i τ zs H' v H3 hi ⟨e, rfl, s3, o0, rfl⟩ ⟨rfl, y⟩
      have ey := y _ (SqL.of (s3 _ _ hL1))
      rw [List.getElem?_map, List.getElem?_eq_getElem hi] at ey
      cases ey
      walk_at "rd"
      refine ⟨r, _, rfl, .inl (SqL.of (s3 _ _ hR1)), ?_⟩
      rw [hl]
      refine ⟨_, _, rfl, rfl, by (first | lia | omega), ?_⟩
      refine ⟨e, Nx.mk hi ⟨upd_same, ?_, s3.upd hacc, _, rfl⟩⟩
      rw [List.take_succ_eq_append_getElem hi, List.map_append, List.map_append]
      rfl
  rintro _ H2 ⟨g, s2, hg1, hg2, rfl⟩
  have hB := uni_neg rfl hu hg1 hg2
  have hrg2 := s2 _ _ hrg
  have hR2 := s2 _ _ hR1
  have hL2 := s2 _ _ hL1
  walk_at "rd"
  refine ⟨rg, _, rfl, .inl (SqL.of hrg2), fun h hh => ?_⟩
  have s3 := Same.new hh (.lst ((ns.map fun x => 0 - x).map V.int))
  have hml : (ns.map fun x => 0 - x).length = ns.length := List.length_map _
  refine ⟨h, _, rfl, upd_same, by (first | lia | omega), by (first | lia | omega), fun t s f b H4 s4 ht hB' => ?_⟩
  rw [hml] at hB'
  obtain ⟨rfl, rfl, rfl⟩ := hB.uniq hB'
  have s34 := s3.trans s4
  walk_at "rd"
  refine ⟨rg, _, rfl, SqL.of (s34 _ _ hrg2), ?_⟩
  walk_at "rd"
  refine ⟨l, _, 0, _, rfl, rfl, SqL.of (s34 _ _ hL2), by rw [eps]; exact atI_nat (j := 0) rfl, ?_⟩
  walk_at "rd"
  refine ⟨l, _, 0, _, rfl, rfl, SqL.of (s34 _ _ hL2), by rw [eps]; exact atI_nat (j := 0) rfl, ?_⟩
  walk_at "rd"
  refine ⟨r, _, rfl, SqL.of (s34 _ _ hR2), fun q5 hq5 => ?_⟩
  have ec : cutV (ns.map V.int) (some (p : Int)) (some ((p : Int) + lg)) = (cutI ns p ((p : Int) + lg)).map V.int := cut_ints (by (first | lia | omega)) (by (first | lia | omega)) (by (first | lia | omega))
  have es : (cutI ns p ((p : Int) + lg)).sum = S := by
    rw [cut_psum (by (first | lia | omega)) (by (first | lia | omega)) (by (first | lia | omega)), show ((p : Int) + lg).toNat = p + lg by (first | lia | omega), Int.toNat_natCast]
    exact hpS
  refine ⟨q5, cutI ns p ((p : Int) + lg), rfl, SqL.of (by rw [upd_same]; exact congrArg (fun z => some (HO.lst z)) ec), ?_⟩
  rw [es, neg_sum]
  have s5 := s34.trans (Same.new hq5 (.lst (cutV (ns.map V.int) (some (p : Int)) (some ((p : Int) + lg)))))
  walk_at "rd"
  refine ⟨r, _, rfl, .inl (SqL.of (s5 _ _ hR2)), ?_⟩
  rw [hl]
  walk_at "rd"
  refine ⟨by show 3 ≤ sizeLine; decide, fun t6 ht6 => ?_⟩
  have s6 := Same.new ht6 (.tup [.int (- ns.sum + S), .int (g : Int), .int ((ns.length : Int) - lg)])
  have e1 : psum ns ns.length = ns.sum := by unfold psum; rw [List.take_length]
  have eg : ((g + (ns.length - lg) : Nat) : Int) - (g : Int) = (ns.length : Int) - lg := by (first | lia | omega)
  rw [e1, eg] at ht
  refine ⟨0, _, EqT (ns := [- ns.sum + S, (g : Int), (ns.length : Int) - lg]) (ms := [- ns.sum + S, (g : Int), (ns.length : Int) - lg]) (SqT.of (s6 _ _ (Same.new hq5 _ _ _ ht))) (SqT.of upd_same), by decide, ?_⟩
  rw [decide_eq_true rfl]
  exact fin _ (s1.trans (s2.trans (s5.trans s6)))
/-! ### the law -/
theorem ok_law {P : Program} {w : World} {K : PySem.W.Frag} {mg : Str → Option Value} {base : Heap} {k : Nat} {f : Addr} {fd : FuncData} (F : Fun K "law" "law" s_law f fd) (Z : Blt mg)
    (D_law_cell_at : Def P w K mg base k "_law_cell_at" ["script", "k"] (sp_cellat K)) (D_law_stir : Def P w K mg base k "_law_stir" ["cell", "k"] sp_stir) (D_law_planted : Def P w K mg base k "_law_planted" ["cell"] sp_plant9) (D_best_of : Def P w K mg base k "best_of" ["row"] sp_bestof) (D_best_ring : Def P w K mg base k "best_ring" ["ring"] sp_bring)
    (D_best_sized : Def P w K mg base k "best_sized" ["row", "least", "most"] sp_sized) (D_law_long_right : Def P w K mg base k "_law_long_right" ["cell", "row"] sp_lr9) (D_law_turned_right : Def P w K mg base k "_law_turned_right" ["row", "places", "long"] sp_tr9) (D_how_many_just : Def P w K mg base k "how_many_just" ["row", "least", "most", "told"] sp_just)
    (D_sums_ahead : Def P w K mg base k "sums_ahead" ["row"] sp_ahead) (D_law_ahead : Def P w K mg base k "_law_ahead" ["row"] sp_ahead9) : FnOk P w K mg base CX0 (k + 1) f fd ["script"] (sp_law K) := by
  refine F.ok sc_law (fun vs H Q E h => ?_) (fun cdv A outer s H vs Q E hr h => ?_)
  · obtain ⟨a, ns, rfl, _⟩ := h
    rfl
  obtain ⟨a, cs, rfl, hS, hz, q⟩ := h
  apply Exists.intro
  apply And.intro
  case left =>
    apply pss_cons
    case h1 =>
      exact (ps_set (i := 1) sc_law.nd rfl (by first | exact Or.inl rfl | exact Or.inr rfl) (pe_def D_law_cell_at hr rfl (pa_cons (pv 0) (pa_cons pe_int pa_nil))))
    apply pss_cons
    case h1 =>
      exact (ps_asg (pe_def D_law_planted hr rfl (pa_cons (pv 1) pa_nil)) (pg_tup (n := 3) rfl (pgs_cons (pg_name (i := 2) sc_law.nd rfl (by first | exact Or.inl rfl | exact Or.inr rfl)) (pgs_cons (pg_name (i := 3) sc_law.nd rfl (by first | exact Or.inl rfl | exact Or.inr rfl)) (pgs_cons (pg_name (i := 4) sc_law.nd rfl (by first | exact Or.inl rfl | exact Or.inr rfl)) pgs_nil)))))
    apply pss_cons
    case h1 =>
      exact (ps_set (i := 5) sc_law.nd rfl (by first | exact Or.inl rfl | exact Or.inr rfl) (pe_ix ix_list (pv 3) pe_int (fun _ _ => rfl)))
    apply pss_cons
    case h1 =>
      exact (ps_set (i := 6) sc_law.nd rfl (by first | exact Or.inl rfl | exact Or.inr rfl) (pe_callB call_len_seq rfl Z.len_ PySem.boot_len (pa_cons (pv 3) pa_nil)))
    apply pss_cons
    case h1 =>
      exact (ps_set (i := 7) sc_law.nd rfl (by first | exact Or.inl rfl | exact Or.inr rfl) (pe_callB (call_sum rfl) rfl Z.sum_ PyProof.Rows.boot_sum (pa_cons (pe_slice sl_list (pv 2) (po_some (pv 5)) (po_some (pe_op op_add (pv 5) (pv 4)))) pa_nil)))
    apply pss_cons
    case h1 =>
      exact (ps_set (i := 8) sc_law.nd rfl (by first | exact Or.inl rfl | exact Or.inr rfl) (pe_callTy call_list_of rfl Z.list_ PyProof.Rows.boot_list (pa_cons (pv 2) pa_nil)))
    apply pss_cons
    case h1 =>
      exact (ps_set (i := 9) sc_law.nd rfl (by first | exact Or.inl rfl | exact Or.inr rfl) (pe_tup (pa_cons (pv 7) (pa_cons (pv 5) (pa_cons (pe_op op_add (pv 5) (pv 4)) pa_nil)))))
    apply pss_cons
    case h1 =>
      apply ps_if
      case hc => exact (PW.pt (pw_or (pt_cmpR (op_neD hr) (pe_def D_best_of hr rfl (pa_cons (pv 8) pa_nil)) (pv 9) (nomark _)) (pw_or1 (pt_cmpR (op_neD hr) (pe_def D_best_ring hr rfl (pa_cons (pv 8) pa_nil)) (pe_tup (pa_cons (pv 7) (pa_cons (pv 5) (pa_cons (pv 4) pa_nil)))) (nomark _)))))
      case ha =>
        apply pss_one
        exact (ps_ret pe_bl)
      case hb =>
        exact pss_nil
    apply pss_cons
    case h1 =>
      apply ps_for PassesOwn.never rfl
      case hi => exact (pi_list (pe_lst (pa_cons (pv 4) (pa_cons (pe_op op_add (pv 4) (pe_op op_mod (pe_def D_law_stir hr rfl (pa_cons (pv 1) (pa_cons pe_int pa_nil))) pe_int)) (pa_cons (pe_callB call_len_seq rfl Z.len_ PySem.boot_len (pa_cons (pv 2) pa_nil)) (pa_cons (pe_op op_pow pe_int pe_int) pa_nil))))))
      case hg => exact (pg_name (i := 10) sc_law.nd rfl (by first | exact Or.inl rfl | exact Or.inr rfl))
      case hb =>
        apply pss_one
        apply ps_if
        case hc => exact (pt_cmpR (op_neD hr) (pe_def D_best_sized hr rfl (pa_cons (pv 8) (pa_cons (pe_op op_add pe_int (pe_op op_mod (pe_def D_law_stir hr rfl (pa_cons (pv 1) (pa_cons pe_int pa_nil))) (pv 4))) (pa_cons (pv 10) pa_nil)))) (pv 9) (nomark _))
        case ha =>
          apply pss_one
          exact (ps_ret pe_bl)
        case hb =>
          exact pss_nil
    apply pss_cons
    case h1 =>
      apply ps_if
      case hc => exact (PW.pt (pw_or (pt_not (pt_val (pe_def D_law_long_right hr rfl (pa_cons (pv 1) (pa_cons (pv 8) pa_nil))))) (pw_or1 (pt_not (pt_val (pe_def D_law_turned_right hr rfl (pa_cons (pv 8) (pa_cons (pv 3) (pa_cons (pv 4) pa_nil)))))))))
      case ha =>
        apply pss_one
        exact (ps_ret pe_bl)
      case hb =>
        exact pss_nil
    apply pss_cons
    case h1 =>
      apply ps_if
      case hc => exact (PW.pt (pw_or (pt_cmpR op_ne (pe_def D_how_many_just hr rfl (pa_cons (pv 8) (pa_cons pe_int (pa_cons (pe_callB call_len_seq rfl Z.len_ PySem.boot_len (pa_cons (pv 2) pa_nil)) (pa_cons (pv 7) pa_nil))))) (pv 6) (nomark _)) (pw_or1 (pt_cmpR op_ne (pe_def D_how_many_just hr rfl (pa_cons (pv 8) (pa_cons pe_int (pa_cons (pe_callB call_len_seq rfl Z.len_ PySem.boot_len (pa_cons (pv 2) pa_nil)) (pa_cons (pe_op op_add (pv 7) pe_int) pa_nil))))) pe_int (nomark _)))))
      case ha =>
        apply pss_one
        exact (ps_ret pe_bl)
      case hb =>
        exact pss_nil
    apply pss_one
    exact (ps_ret (pe_and (pe_cmpR (op_eqD hr) (pe_def D_sums_ahead hr rfl (pa_cons (pv 8) pa_nil)) (pe_def D_law_ahead hr rfl (pa_cons (pv 2) pa_nil)) (nomark _)) (pe_one (pe_cmpR (op_eqD hr) (pv 8) (pv 2) (nomark _)))))
  walk_at "rd"
  refine ⟨a, cs, 0, rfl, hS, by decide, ?_⟩
  obtain ⟨c, ec⟩ : ∃ c, c = cellAt cs 0 := ⟨_, rfl⟩
  rw [← ec]
  walk_at "rd"
  refine fun t r pl p ns ps lg S H1 s1 ht hR hL hP => ?_
  have hl : (ns.map V.int).length = ns.length := List.length_map _
  have hpl : (ps.map nv).length = ps.length := List.length_map _
  have hn1 := hP.n1
  have hn2 := hP.n2
  have hu := hP.uni
  have hl1 := hP.l1
  have hl2 := hP.l2
  obtain ⟨rest, eps⟩ := hP.at0
  obtain ⟨hpb, hpS⟩ := hu.blk p hP.mem
  refine ⟨t, _, rfl, SqT.of ht, rfl, _, _, rfl, _, _, rfl, _, _, rfl, rfl, ?_⟩
  walk_at "rd"
  refine ⟨pl, _, 0, _, rfl, rfl, SqL.of hL, by rw [eps]; exact atI_nat (j := 0) rfl, ?_⟩
  walk_at "rd"
  refine ⟨pl, _, rfl, .inl (SqL.of hL), ?_⟩
  rw [hpl]
  walk_at "rd"
  refine ⟨r, _, rfl, SqL.of hR, fun q5 hq5 => ?_⟩
  have ec : cutV (ns.map V.int) (some (p : Int)) (some ((p : Int) + lg)) = (cutI ns p ((p : Int) + lg)).map V.int := cut_ints (by (first | lia | omega)) (by (first | lia | omega)) (by (first | lia | omega))
  have es : (cutI ns p ((p : Int) + lg)).sum = S := by
    rw [cut_psum (by (first | lia | omega)) (by (first | lia | omega)) (by (first | lia | omega)), show ((p : Int) + lg).toNat = p + lg by (first | lia | omega), Int.toNat_natCast]
    exact hpS
  refine ⟨q5, cutI ns p ((p : Int) + lg), rfl, SqL.of (by rw [upd_same]; exact congrArg (fun z => some (HO.lst z)) ec), ?_⟩
  rw [es]
  have s2 := Same.new hq5 (.lst (cutV (ns.map V.int) (some (p : Int)) (some ((p : Int) + lg))))
  have hR2 := s2 _ _ hR
  have hL2 := s2 _ _ hL
  walk_at "rd"
  refine ⟨r, _, rfl, .inl (SqL.of hR2), fun hd hhd => ?_⟩
  have s3 := Same.new hhd (.lst (ns.map V.int))
  have hR3 := s3 _ _ hR2
  have hL3 := s3 _ _ hL2
  walk_at "rd"
  refine ⟨by show 3 ≤ sizeLine; decide, fun du hdu => ?_⟩
  have s4 := Same.new hdu (.tup [.int S, .int (p : Int), .int ((p : Int) + lg)])
  have hR4 := s4 _ _ hR3
  have hL4 := s4 _ _ hL3
  have hh4 := s4 hd _ upd_same
  have hd4 : upd (upd (upd H1 q5 (.lst (cutV (ns.map V.int) (some (p : Int)) (some ((p : Int) + lg))))) hd (.lst (ns.map V.int))) du (.tup [.int S, .int (p : Int), .int ((p : Int) + lg)]) du = some (.tup [.int S, .int (p : Int), .int ((p : Int) + lg)]) := upd_same
  dsimp only [gName]
  generalize upd (upd (upd H1 q5 (.lst (cutV (ns.map V.int) (some (p : Int)) (some ((p : Int) + lg))))) hd (.lst (ns.map V.int))) du (.tup [.int S, .int (p : Int), .int ((p : Int) + lg)]) = H4 at s4 hR4 hL4 hh4 hd4 ⊢
  have best := uni_best (L := 1) (M := ns.length) rfl hu hP.mem hP.le (Nat.le_refl _) hl1 (by (first | lia | omega))
  have ring := uni_ring rfl hu hP.mem hP.le
  have yes : ∀ {Hx : Hp} {x y : Addr} {zs : List Int}, Hx x = some (.tup (zs.map V.int)) → Hx y = some (.tup (zs.map V.int)) → EqD K Hx 1 (.ref x) (.ref y) true := fun {Hx x y zs} e1 e2 => by
    have z := EqT (K := K) (SqT.of e1) (SqT.of e2)
    rw [decide_eq_true rfl] at z
    exact z
  have eSf : ((p + lg : Nat) : Int) = (p : Int) + lg := by (first | lia | omega)
  refine seqU (fun σ' H' => Same H4 H' ∧ σ' = [some (.ref a), some (.int c), some (.ref r), some (.ref pl), some (.int lg), some (.int p), some (.int ps.length), some (.int S), some (.ref hd), some (.ref du), none]) ?_ (fun R hRR => ?_)
  case refine_2 =>
    walk_at "rd"
    refine ⟨hd, ns, rfl, hh4, by (first | lia | omega), by (first | lia | omega), fun t5 s f b H5 s5 ht5 hB => ?_⟩
    obtain ⟨rfl, rfl, rfl⟩ := hB.uniq best
    rw [eSf] at ht5
    walk_at "rd"
    refine ⟨0, _, yes (zs := [s, (f : Int), (f : Int) + lg]) ht5 (s5 _ _ hd4), by decide, _, rfl, ?_⟩
    walk_at "rd"
    refine ⟨hd, ns, rfl, s5 _ _ hh4, by (first | lia | omega), by (first | lia | omega), fun t6 s' f' b' H6 s6 ht6 hB' => ?_⟩
    obtain ⟨rfl, rfl, rfl⟩ := hB'.uniq ring
    walk_at "rd"
    refine ⟨by show 3 ≤ sizeLine; decide, fun t7 ht7 => ?_⟩
    have s7 := Same.new ht7 (.tup [.int s', .int (f' : Int), .int (lg : Int)])
    rw [show ((f' + lg : Nat) : Int) - (f' : Int) = lg by (first | lia | omega)] at ht6
    refine ⟨0, _, yes (zs := [s', (f' : Int), (lg : Int)]) (s7 _ _ ht6) upd_same, by decide, _, rfl, ?_⟩
    walk_at "rd"
    exact hRR _ _ ⟨s5.trans (s6.trans s7), rfl⟩
  rintro _ H5 ⟨s5, rfl⟩
  have hR5 := s5 _ _ hR4
  have hL5 := s5 _ _ hL4
  have hh5 := s5 _ _ hh4
  have hd5 := s5 _ _ hd4
  refine seqU (fun σ' H' => ∃ o10, Same H5 H' ∧ σ' = [some (.ref a), some (.int c), some (.ref r), some (.ref pl), some (.int lg), some (.int p), some (.int ps.length), some (.int S), some (.ref hd), some (.ref du), o10]) ?_ (fun R hRR => ?_)
  case refine_2 =>
    walk_at "rd"
    refine ⟨_, _, rfl, by decide, fun n6 h6 => ?_⟩
    have m6 := mod_lt (a := n6) (b := 50) (by decide)
    walk_at "rd"
    refine ⟨r, _, rfl, .inl (SqL.of hR5), ?_⟩
    rw [hl]
    walk_at "rd"
    refine ⟨by show 4 ≤ sizeLine; decide, fun p6 hp6 => ?_⟩
    have e29 : (2000 : Int) ≤ 10 ^ Int.toNat 29 := by decide
    refine ⟨p6, rfl, ⟨_, SqL.of upd_same⟩, ?_⟩
    refine for_list (xs := ([(lg : Int), (lg : Int) + n6 % 50, (ns.length : Int), 10 ^ Int.toNat 29] : List Int).map V.int) (fun i σ H' => ∃ o10, Same H5 H' ∧ H' p6 = some (.lst (([(lg : Int), (lg : Int) + n6 % 50, (ns.length : Int), 10 ^ Int.toNat 29] : List Int).map V.int)) ∧ σ = [some (.ref a), some (.int c), some (.ref r), some (.ref pl), some (.int lg), some (.int p), some (.int ps.length), some (.int S), some (.ref hd), some (.ref du), o10]) ⟨_, Same.new hp6 _, upd_same, rfl⟩ ?_ ?_ ?_
    · rintro i σ H' _ ⟨_, _, e, _⟩
      exact SqL.of e
    · rintro i x σ H6 hx ⟨o10, s6, hp, rfl⟩
      obtain ⟨hi, rfl⟩ := int_at hx
      obtain ⟨M, eM⟩ : ∃ z, z = ([(lg : Int), (lg : Int) + n6 % 50, (ns.length : Int), 10 ^ Int.toNat 29] : List Int)[i] := ⟨_, rfl⟩
      have hM : (lg : Int) ≤ M := by
        have hm : M ∈ ([(lg : Int), (lg : Int) + n6 % 50, (ns.length : Int), 10 ^ Int.toNat 29] : List Int) := by rw [eM]; exact List.getElem_mem _
        simp only [List.mem_cons, List.not_mem_nil, or_false] at hm
        (first | lia | omega)
      rw [← eM]
      walk_at "rd"
      refine ⟨_, _, rfl, by decide, fun n7 h7 => ?_⟩
      walk_at "rd"
      refine ⟨by (first | lia | omega), ?_⟩
      have m7 := mod_lt (a := n7) (b := (lg : Int)) (by (first | lia | omega))
      obtain ⟨L, eL⟩ : ∃ L : Nat, (1 : Int) + n7 % (lg : Int) = L := ⟨(1 + n7 % (lg : Int)).toNat, by (first | lia | omega)⟩
      refine ⟨_, _, rfl, rfl, ?_⟩
      dsimp only
      rw [eL]
      walk_at "rd"
      refine ⟨hd, ns, L, M, rfl, s6 _ _ hh5, by (first | lia | omega), by (first | lia | omega), by (first | lia | omega), by (first | lia | omega), fun t7 s' f' b' H7 s7 ht7 hB => ?_⟩
      obtain ⟨rfl, rfl, rfl⟩ := hB.uniq (uni_best rfl hu hP.mem hP.le (by (first | lia | omega)) (by (first | lia | omega)) hM)
      rw [eSf] at ht7
      walk_at "rd"
      refine ⟨0, _, yes (zs := [s', (f' : Int), (f' : Int) + lg]) ht7 (s7 _ _ (s6 _ _ hd5)), by decide, _, rfl, ?_⟩
      walk_at "rd"
      exact ⟨_, s6.trans s7, s7 _ _ hp, rfl⟩
    · rintro σ H6 ⟨o10, s6, _, rfl⟩
      exact hRR _ _ ⟨_, s6, rfl⟩
  rintro _ H6 ⟨o10, s6, rfl⟩
  have hR6 := s6 _ _ hR5
  have hL6 := s6 _ _ hL5
  have hh6 := s6 _ _ hh5
  refine seqU (fun σ' H' => Same H6 H' ∧ σ' = [some (.ref a), some (.int c), some (.ref r), some (.ref pl), some (.int lg), some (.int p), some (.int ps.length), some (.int S), some (.ref hd), some (.ref du), o10]) ?_ (fun R hRR => ?_)
  case refine_2 =>
    walk_at "rd"
    refine ⟨c, hd, ns, rfl, hh6, by (first | lia | omega), by (first | lia | omega), fun H7 s7 => ?_⟩
    walk_at "rd"
    refine ⟨hd, pl, ns, p, ps, lg, S, rfl, s7 _ _ hh6, s7 _ _ hL6, hP, fun H8 s8 => ?_⟩
    walk_at "rd"
    exact hRR _ _ ⟨s7.trans s8, rfl⟩
  rintro _ H7 ⟨s7, rfl⟩
  have hR7 := s7 _ _ hR6
  have hh7 := s7 _ _ hh6
  refine seqU (fun σ' H' => Same H7 H' ∧ σ' = [some (.ref a), some (.int c), some (.ref r), some (.ref pl), some (.int lg), some (.int p), some (.int ps.length), some (.int S), some (.ref hd), some (.ref du), o10]) ?_ (fun R hRR => ?_)
  case refine_2 =>
    walk_at "rd"
    refine ⟨r, _, rfl, .inl (SqL.of hR7), ?_⟩
    rw [hl]
    walk_at "rd"
    refine ⟨hd, ns, 1, ns.length, S, rfl, hh7, by (first | lia | omega), by (first | lia | omega), by (first | lia | omega), by (first | lia | omega), fun H8 s8 => ?_⟩
    rw [uni_tot rfl hu hP.nodup]
    walk_at "rd"
    refine ifIN (fun z => absurd rfl z) (fun _ => ?_)
    walk_at "rd"
    refine ⟨r, _, rfl, .inl (SqL.of (s8 _ _ hR7)), ?_⟩
    rw [hl]
    walk_at "rd"
    refine ⟨hd, ns, 1, ns.length, S + 1, rfl, s8 _ _ hh7, by (first | lia | omega), by (first | lia | omega), by (first | lia | omega), by (first | lia | omega), fun H9 s9 => ?_⟩
    rw [uni_none rfl hu]
    walk_at "rd"
    exact hRR _ _ ⟨s8.trans s9, rfl⟩
  rintro _ H8 ⟨s8, rfl⟩
  have hR8 := s8 _ _ hR7
  have hh8 := s8 _ _ hh7
  walk_at "rd"
  refine ⟨hd, ns, rfl, hh8, by (first | lia | omega), fun l9 H9 s9 _ hl9 => ?_⟩
  walk_at "rd"
  refine ⟨r, ns, rfl, s9 _ _ hR8, by (first | lia | omega), fun l10 H10 s10 hl10 => ?_⟩
  have y1 := EqD.ints (K := K) (SqL.of (s10 _ _ hl9)) (SqL.of hl10)
  rw [decide_eq_true rfl] at y1
  refine ⟨0, _, y1, by decide, ?_⟩
  have s910 := s9.trans s10
  have y2 := EqD.ints (K := K) (SqL.of (s910 _ _ hh8)) (SqL.of (s910 _ _ hR8))
  rw [decide_eq_true rfl] at y2
  walk_at "rd"
  refine ⟨0, _, y2, by decide, ?_⟩
  exact q _
theorem of1 {us : List Value} (h : us.length = 1) : ∃ x0, us = [x0] := by
  match us, h with
  | [x0], _ => exact ⟨_, rfl⟩
theorem of2 {us : List Value} (h : us.length = 2) : ∃ x0 x1, us = [x0, x1] := by
  match us, h with
  | [x0, x1], _ => exact ⟨_, _, rfl⟩
theorem of3 {us : List Value} (h : us.length = 3) : ∃ x0 x1 x2, us = [x0, x1, x2] := by
  match us, h with
  | [x0, x1, x2], _ => exact ⟨_, _, _, rfl⟩
theorem of4 {us : List Value} (h : us.length = 4) : ∃ x0 x1 x2 x3, us = [x0, x1, x2, x3] := by
  match us, h with
  | [x0, x1, x2, x3], _ => exact ⟨_, _, _, _, rfl⟩
theorem all_mk {l : PySem.W.OpenLaw} {w : World} {K : PySem.W.Frag} {h : Heap} {mg : Str → Option Value} {fa f0 f1 f2 f3 f4 f5 f6 f7 f8 f9 f10 f11 f12 f13 f14 f15 f16 : Addr} (X : K.In h) (G : h.Ns mainGlobals mg) (hfa : mg "law" = some (.ref fa))
    {od0 an0 od1 an1 od2 an2 od3 an3 od4 an4 od5 an5 od6 an6 od7 an7 od8 an8 od9 an9 od10 an10 od11 an11 od12 an12 od13 an13 od14 an14 od15 an15 od16 an16 : Option Addr} {sl0 sl1 sl2 sl3 sl4 sl5 sl6 sl7 sl8 sl9 sl10 sl11 sl12 sl13 sl14 sl15 sl16 : Array (Option Value)} {oc0 kV0 dc0 pm0 cd0 ct0 oc1 kV1 dc1 pm1 cd1 ct1 oc2 kV2 dc2 pm2 cd2 ct2 oc3 kV3 dc3 pm3 cd3 ct3 oc4 kV4 dc4 pm4 cd4 ct4 oc5 kV5 dc5 pm5 cd5 ct5 oc6 kV6 dc6 pm6 cd6 ct6 oc7 kV7 dc7 pm7 cd7 ct7 oc8 kV8 dc8 pm8 cd8 ct8 oc9 kV9 dc9 pm9 cd9 ct9 oc10 kV10 dc10 pm10 cd10 ct10 oc11 kV11 dc11 pm11 cd11 ct11 oc12 kV12 dc12 pm12 cd12 ct12 oc13 kV13 dc13 pm13 cd13 ct13 oc14 kV14 dc14 pm14 cd14 ct14 oc15 kV15 dc15 pm15 cd15 ct15 oc16 kV16 dc16 pm16 cd16 ct16 : Value}
    (a0 : PySem.W.nsIn K mainGlobals "best_of" = some (some (.ref f0))) (l0 : K.lookup f0 = some ⟨oc0, od0, .func (PySem.W.fnOf "best_of" "best_of" (defArgs s_best_of) (defBody s_best_of) (defScope s_best_of) .none kV0 dc0 pm0 an0 cd0 ct0), sl0⟩) (c0 : PySem.W.codeIn K cd0 "best_of" = true) (k0 : PySem.W.keepIn K (.ref f0) = true)
    (a1 : PySem.W.nsIn K mainGlobals "sums_ahead" = some (some (.ref f1))) (l1 : K.lookup f1 = some ⟨oc1, od1, .func (PySem.W.fnOf "sums_ahead" "sums_ahead" (defArgs s_sums_ahead) (defBody s_sums_ahead) (defScope s_sums_ahead) .none kV1 dc1 pm1 an1 cd1 ct1), sl1⟩) (c1 : PySem.W.codeIn K cd1 "sums_ahead" = true) (k1 : PySem.W.keepIn K (.ref f1) = true)
    (a2 : PySem.W.nsIn K mainGlobals "longest_of" = some (some (.ref f2))) (l2 : K.lookup f2 = some ⟨oc2, od2, .func (PySem.W.fnOf "longest_of" "longest_of" (defArgs s_longest_of) (defBody s_longest_of) (defScope s_longest_of) .none kV2 dc2 pm2 an2 cd2 ct2), sl2⟩) (c2 : PySem.W.codeIn K cd2 "longest_of" = true) (k2 : PySem.W.keepIn K (.ref f2) = true)
    (a3 : PySem.W.nsIn K mainGlobals "enter_first" = some (some (.ref f3))) (l3 : K.lookup f3 = some ⟨oc3, od3, .func (PySem.W.fnOf "enter_first" "enter_first" (defArgs s_enter_first) (defBody s_enter_first) (defScope s_enter_first) .none kV3 dc3 pm3 an3 cd3 ct3), sl3⟩) (c3 : PySem.W.codeIn K cd3 "enter_first" = true) (k3 : PySem.W.keepIn K (.ref f3) = true)
    (a4 : PySem.W.nsIn K mainGlobals "best_sized" = some (some (.ref f4))) (l4 : K.lookup f4 = some ⟨oc4, od4, .func (PySem.W.fnOf "best_sized" "best_sized" (defArgs s_best_sized) (defBody s_best_sized) (defScope s_best_sized) .none kV4 dc4 pm4 an4 cd4 ct4), sl4⟩) (c4 : PySem.W.codeIn K cd4 "best_sized" = true) (k4 : PySem.W.keepIn K (.ref f4) = true)
    (a5 : PySem.W.nsIn K mainGlobals "how_many_just" = some (some (.ref f5))) (l5 : K.lookup f5 = some ⟨oc5, od5, .func (PySem.W.fnOf "how_many_just" "how_many_just" (defArgs s_how_many_just) (defBody s_how_many_just) (defScope s_how_many_just) .none kV5 dc5 pm5 an5 cd5 ct5), sl5⟩) (c5 : PySem.W.codeIn K cd5 "how_many_just" = true) (k5 : PySem.W.keepIn K (.ref f5) = true)
    (a6 : PySem.W.nsIn K mainGlobals "unrolled" = some (some (.ref f6))) (l6 : K.lookup f6 = some ⟨oc6, od6, .func (PySem.W.fnOf "unrolled" "unrolled" (defArgs s_unrolled) (defBody s_unrolled) (defScope s_unrolled) .none kV6 dc6 pm6 an6 cd6 ct6), sl6⟩) (c6 : PySem.W.codeIn K cd6 "unrolled" = true) (k6 : PySem.W.keepIn K (.ref f6) = true)
    (a7 : PySem.W.nsIn K mainGlobals "best_ring_sized" = some (some (.ref f7))) (l7 : K.lookup f7 = some ⟨oc7, od7, .func (PySem.W.fnOf "best_ring_sized" "best_ring_sized" (defArgs s_best_ring_sized) (defBody s_best_ring_sized) (defScope s_best_ring_sized) .none kV7 dc7 pm7 an7 cd7 ct7), sl7⟩) (c7 : PySem.W.codeIn K cd7 "best_ring_sized" = true) (k7 : PySem.W.keepIn K (.ref f7) = true)
    (a8 : PySem.W.nsIn K mainGlobals "best_ring" = some (some (.ref f8))) (l8 : K.lookup f8 = some ⟨oc8, od8, .func (PySem.W.fnOf "best_ring" "best_ring" (defArgs s_best_ring) (defBody s_best_ring) (defScope s_best_ring) .none kV8 dc8 pm8 an8 cd8 ct8), sl8⟩) (c8 : PySem.W.codeIn K cd8 "best_ring" = true) (k8 : PySem.W.keepIn K (.ref f8) = true)
    (a9 : PySem.W.nsIn K mainGlobals "_law_cell_at" = some (some (.ref f9))) (l9 : K.lookup f9 = some ⟨oc9, od9, .func (PySem.W.fnOf "_law_cell_at" "_law_cell_at" (defArgs s_law_cell_at) (defBody s_law_cell_at) (defScope s_law_cell_at) .none kV9 dc9 pm9 an9 cd9 ct9), sl9⟩) (c9 : PySem.W.codeIn K cd9 "_law_cell_at" = true) (k9 : PySem.W.keepIn K (.ref f9) = true)
    (a10 : PySem.W.nsIn K mainGlobals "_law_stir" = some (some (.ref f10))) (l10 : K.lookup f10 = some ⟨oc10, od10, .func (PySem.W.fnOf "_law_stir" "_law_stir" (defArgs s_law_stir) (defBody s_law_stir) (defScope s_law_stir) .none kV10 dc10 pm10 an10 cd10 ct10), sl10⟩) (c10 : PySem.W.codeIn K cd10 "_law_stir" = true) (k10 : PySem.W.keepIn K (.ref f10) = true)
    (a11 : PySem.W.nsIn K mainGlobals "_law_planted" = some (some (.ref f11))) (l11 : K.lookup f11 = some ⟨oc11, od11, .func (PySem.W.fnOf "_law_planted" "_law_planted" (defArgs s_law_planted) (defBody s_law_planted) (defScope s_law_planted) .none kV11 dc11 pm11 an11 cd11 ct11), sl11⟩) (c11 : PySem.W.codeIn K cd11 "_law_planted" = true) (k11 : PySem.W.keepIn K (.ref f11) = true)
    (a12 : PySem.W.nsIn K mainGlobals "_law_ahead" = some (some (.ref f12))) (l12 : K.lookup f12 = some ⟨oc12, od12, .func (PySem.W.fnOf "_law_ahead" "_law_ahead" (defArgs s_law_ahead) (defBody s_law_ahead) (defScope s_law_ahead) .none kV12 dc12 pm12 an12 cd12 ct12), sl12⟩) (c12 : PySem.W.codeIn K cd12 "_law_ahead" = true) (k12 : PySem.W.keepIn K (.ref f12) = true)
    (a13 : PySem.W.nsIn K mainGlobals "_law_best_by" = some (some (.ref f13))) (l13 : K.lookup f13 = some ⟨oc13, od13, .func (PySem.W.fnOf "_law_best_by" "_law_best_by" (defArgs s_law_best_by) (defBody s_law_best_by) (defScope s_law_best_by) .none kV13 dc13 pm13 an13 cd13 ct13), sl13⟩) (c13 : PySem.W.codeIn K cd13 "_law_best_by" = true) (k13 : PySem.W.keepIn K (.ref f13) = true)
    (a14 : PySem.W.nsIn K mainGlobals "_law_long_right" = some (some (.ref f14))) (l14 : K.lookup f14 = some ⟨oc14, od14, .func (PySem.W.fnOf "_law_long_right" "_law_long_right" (defArgs s_law_long_right) (defBody s_law_long_right) (defScope s_law_long_right) .none kV14 dc14 pm14 an14 cd14 ct14), sl14⟩) (c14 : PySem.W.codeIn K cd14 "_law_long_right" = true) (k14 : PySem.W.keepIn K (.ref f14) = true)
    (a15 : PySem.W.nsIn K mainGlobals "_law_turned_right" = some (some (.ref f15))) (l15 : K.lookup f15 = some ⟨oc15, od15, .func (PySem.W.fnOf "_law_turned_right" "_law_turned_right" (defArgs s_law_turned_right) (defBody s_law_turned_right) (defScope s_law_turned_right) .none kV15 dc15 pm15 an15 cd15 ct15), sl15⟩) (c15 : PySem.W.codeIn K cd15 "_law_turned_right" = true) (k15 : PySem.W.keepIn K (.ref f15) = true)
    (a16 : PySem.W.nsIn K mainGlobals "law" = some (some (.ref f16))) (l16 : K.lookup f16 = some ⟨oc16, od16, .func (PySem.W.fnOf "law" "law" (defArgs s_law) (defBody s_law) (defScope s_law) .none kV16 dc16 pm16 an16 cd16 ct16), sl16⟩) (c16 : PySem.W.codeIn K cd16 "law" = true) (k16 : PySem.W.keepIn K (.ref f16) = true)
    (z0 : PySem.W.nsIn K mainGlobals "len" = some none)
    (z1 : PySem.W.nsIn K mainGlobals "range" = some none)
    (z2 : PySem.W.nsIn K mainGlobals "isinstance" = some none)
    (z3 : PySem.W.nsIn K mainGlobals "int" = some none)
    (z4 : PySem.W.nsIn K mainGlobals "bool" = some none)
    (z5 : PySem.W.nsIn K mainGlobals "tuple" = some none)
    (z6 : PySem.W.nsIn K mainGlobals "list" = some none)
    (z7 : PySem.W.nsIn K mainGlobals "sum" = some none)
    (z8 : PySem.W.nsIn K mainGlobals "abs" = some none)
    (z9 : PySem.W.nsIn K mainGlobals "min" = some none)
    (z10 : PySem.W.nsIn K mainGlobals "max" = some none)
    (z11 : PySem.W.nsIn K mainGlobals "zip" = some none)
    (z12 : PySem.W.nsIn K mainGlobals "enumerate" = some none)
    (z13 : PySem.W.nsIn K mainGlobals "all" = some none)
    (z14 : PySem.W.nsIn K mainGlobals "str" = some none) :
    ∃ fd : FuncData, (∀ (s : Shared) (v : Value), BindsTo s fd ⟨[v], []⟩ [("script", v)]) ∧ ∀ base : Heap, K.In base → base.Ns mainGlobals mg → FnOk l.prog w K mg base CX0 24 fa fd ["script"] (sp_law K) := by
  have e := hfa.symm.trans (PySem.W.mg_of X G a16)
  cases e
  have Z : Blt mg := ⟨PySem.W.mg_none_of X G z0, PySem.W.mg_none_of X G z1, PySem.W.mg_none_of X G z2, PySem.W.mg_none_of X G z3, PySem.W.mg_none_of X G z4, PySem.W.mg_none_of X G z5, PySem.W.mg_none_of X G z6, PySem.W.mg_none_of X G z7, PySem.W.mg_none_of X G z8, PySem.W.mg_none_of X G z9, PySem.W.mg_none_of X G z10, PySem.W.mg_none_of X G z11, PySem.W.mg_none_of X G z12, PySem.W.mg_none_of X G z13, PySem.W.mg_none_of X G z14⟩
  have F0 := fun_mk (st := s_best_of) l0 c0 k0
  have b0 := F0.binds (ps := ["row"]) fun _ _ _ _ _ _ us hl => by obtain ⟨_, rfl⟩ := of1 hl; rfl
  have F1 := fun_mk (st := s_sums_ahead) l1 c1 k1
  have b1 := F1.binds (ps := ["row"]) fun _ _ _ _ _ _ us hl => by obtain ⟨_, rfl⟩ := of1 hl; rfl
  have F2 := fun_mk (st := s_longest_of) l2 c2 k2
  have b2 := F2.binds (ps := ["many", "least", "most"]) fun _ _ _ _ _ _ us hl => by obtain ⟨_, _, _, rfl⟩ := of3 hl; rfl
  have F3 := fun_mk (st := s_enter_first) l3 c3 k3
  have b3 := F3.binds (ps := ["firsts", "ahead", "first"]) fun _ _ _ _ _ _ us hl => by obtain ⟨_, _, _, rfl⟩ := of3 hl; rfl
  have F4 := fun_mk (st := s_best_sized) l4 c4 k4
  have b4 := F4.binds (ps := ["row", "least", "most"]) fun _ _ _ _ _ _ us hl => by obtain ⟨_, _, _, rfl⟩ := of3 hl; rfl
  have F5 := fun_mk (st := s_how_many_just) l5 c5 k5
  have b5 := F5.binds (ps := ["row", "least", "most", "told"]) fun _ _ _ _ _ _ us hl => by obtain ⟨_, _, _, _, rfl⟩ := of4 hl; rfl
  have F6 := fun_mk (st := s_unrolled) l6 c6 k6
  have b6 := F6.binds (ps := ["ring"]) fun _ _ _ _ _ _ us hl => by obtain ⟨_, rfl⟩ := of1 hl; rfl
  have F7 := fun_mk (st := s_best_ring_sized) l7 c7 k7
  have b7 := F7.binds (ps := ["ring", "least", "most"]) fun _ _ _ _ _ _ us hl => by obtain ⟨_, _, _, rfl⟩ := of3 hl; rfl
  have F8 := fun_mk (st := s_best_ring) l8 c8 k8
  have b8 := F8.binds (ps := ["ring"]) fun _ _ _ _ _ _ us hl => by obtain ⟨_, rfl⟩ := of1 hl; rfl
  have F9 := fun_mk (st := s_law_cell_at) l9 c9 k9
  have b9 := F9.binds (ps := ["script", "k"]) fun _ _ _ _ _ _ us hl => by obtain ⟨_, _, rfl⟩ := of2 hl; rfl
  have F10 := fun_mk (st := s_law_stir) l10 c10 k10
  have b10 := F10.binds (ps := ["cell", "k"]) fun _ _ _ _ _ _ us hl => by obtain ⟨_, _, rfl⟩ := of2 hl; rfl
  have F11 := fun_mk (st := s_law_planted) l11 c11 k11
  have b11 := F11.binds (ps := ["cell"]) fun _ _ _ _ _ _ us hl => by obtain ⟨_, rfl⟩ := of1 hl; rfl
  have F12 := fun_mk (st := s_law_ahead) l12 c12 k12
  have b12 := F12.binds (ps := ["row"]) fun _ _ _ _ _ _ us hl => by obtain ⟨_, rfl⟩ := of1 hl; rfl
  have F13 := fun_mk (st := s_law_best_by) l13 c13 k13
  have b13 := F13.binds (ps := ["row", "least", "most"]) fun _ _ _ _ _ _ us hl => by obtain ⟨_, _, _, rfl⟩ := of3 hl; rfl
  have F14 := fun_mk (st := s_law_long_right) l14 c14 k14
  have b14 := F14.binds (ps := ["cell", "row"]) fun _ _ _ _ _ _ us hl => by obtain ⟨_, _, rfl⟩ := of2 hl; rfl
  have F15 := fun_mk (st := s_law_turned_right) l15 c15 k15
  have b15 := F15.binds (ps := ["row", "places", "long"]) fun _ _ _ _ _ _ us hl => by obtain ⟨_, _, _, rfl⟩ := of3 hl; rfl
  have F16 := fun_mk (st := s_law) l16 c16 k16
  have b16 := F16.binds (ps := ["script"]) fun _ _ _ _ _ _ us hl => by obtain ⟨_, rfl⟩ := of1 hl; rfl
  refine ⟨PySem.W.fnOf "law" "law" (defArgs s_law) (defBody s_law) (defScope s_law) .none kV16 dc16 pm16 an16 cd16 ct16, fun s v => .of_eq rfl, fun base KB _ => ?_⟩
  have D_best_of : Def l.prog w K mg base 6 "best_of" ["row"] (sp_bestof) := ⟨_, _, ok_bestof (k := 5) F0 Z, b0, k0, PySem.W.mg_of X G a0⟩
  have D_sums_ahead : Def l.prog w K mg base 7 "sums_ahead" ["row"] (sp_ahead) := ⟨_, _, ok_ahead (k := 6) F1 Z, b1, k1, PySem.W.mg_of X G a1⟩
  have D_longest_of : Def l.prog w K mg base 8 "longest_of" ["many", "least", "most"] (sp_longest) := ⟨_, _, ok_longest (k := 7) F2 Z, b2, k2, PySem.W.mg_of X G a2⟩
  have D_enter_first : Def l.prog w K mg base 9 "enter_first" ["firsts", "ahead", "first"] (sp_enter) := ⟨_, _, ok_enter (k := 8) F3 Z, b3, k3, PySem.W.mg_of X G a3⟩
  have D_best_sized : Def l.prog w K mg base 10 "best_sized" ["row", "least", "most"] (sp_sized) := ⟨_, _, ok_sized (k := 9) F4 Z (D_longest_of.mono (by decide)) (D_sums_ahead.mono (by decide)) (D_enter_first.mono (by decide)), b4, k4, PySem.W.mg_of X G a4⟩
  have D_how_many_just : Def l.prog w K mg base 11 "how_many_just" ["row", "least", "most", "told"] (sp_just) := ⟨_, _, ok_just (k := 10) F5 Z (D_longest_of.mono (by decide)) (D_sums_ahead.mono (by decide)), b5, k5, PySem.W.mg_of X G a5⟩
  have D_unrolled : Def l.prog w K mg base 12 "unrolled" ["ring"] (sp_unr) := ⟨_, _, ok_unr (k := 11) F6 Z, b6, k6, PySem.W.mg_of X G a6⟩
  have D_best_ring_sized : Def l.prog w K mg base 13 "best_ring_sized" ["ring", "least", "most"] (sp_rsized) := ⟨_, _, ok_rsized (k := 12) F7 Z (D_longest_of.mono (by decide)) (D_unrolled.mono (by decide)) (D_best_sized.mono (by decide)), b7, k7, PySem.W.mg_of X G a7⟩
  have D_best_ring : Def l.prog w K mg base 14 "best_ring" ["ring"] (sp_bring) := ⟨_, _, ok_bring (k := 13) F8 Z (D_best_ring_sized.mono (by decide)), b8, k8, PySem.W.mg_of X G a8⟩
  have D_law_cell_at : Def l.prog w K mg base 15 "_law_cell_at" ["script", "k"] (sp_cellat K) := ⟨_, _, ok_cellat (k := 14) F9 Z, b9, k9, PySem.W.mg_of X G a9⟩
  have D_law_stir : Def l.prog w K mg base 16 "_law_stir" ["cell", "k"] (sp_stir) := ⟨_, _, ok_stir (k := 15) F10, b10, k10, PySem.W.mg_of X G a10⟩
  have D_law_planted : Def l.prog w K mg base 17 "_law_planted" ["cell"] (sp_plant9) := ⟨_, _, ok_plant9 (k := 16) F11 Z (D_law_stir.mono (by decide)), b11, k11, PySem.W.mg_of X G a11⟩
  have D_law_ahead : Def l.prog w K mg base 18 "_law_ahead" ["row"] (sp_ahead9) := ⟨_, _, ok_ahead9 (k := 17) F12 Z, b12, k12, PySem.W.mg_of X G a12⟩
  have D_law_best_by : Def l.prog w K mg base 19 "_law_best_by" ["row", "least", "most"] (sp_by9) := ⟨_, _, ok_by9 (k := 18) F13 Z (D_law_ahead.mono (by decide)), b13, k13, PySem.W.mg_of X G a13⟩
  have D_law_long_right : Def l.prog w K mg base 20 "_law_long_right" ["cell", "row"] (sp_lr9) := ⟨_, _, ok_lr9 (k := 19) F14 Z (D_law_stir.mono (by decide)) (D_best_sized.mono (by decide)) (D_law_best_by.mono (by decide)), b14, k14, PySem.W.mg_of X G a14⟩
  have D_law_turned_right : Def l.prog w K mg base 21 "_law_turned_right" ["row", "places", "long"] (sp_tr9) := ⟨_, _, ok_tr9 (k := 20) F15 Z (D_best_ring.mono (by decide)), b15, k15, PySem.W.mg_of X G a15⟩
  exact FnOk.mono (k := 24) (ok_law (k := 21) F16 Z (D_law_cell_at.mono (by decide)) (D_law_stir.mono (by decide)) (D_law_planted.mono (by decide)) (D_best_of.mono (by decide)) (D_best_ring.mono (by decide)) (D_best_sized.mono (by decide)) (D_law_long_right.mono (by decide)) (D_law_turned_right.mono (by decide)) (D_how_many_just.mono (by decide)) (D_sums_ahead.mono (by decide)) (D_law_ahead.mono (by decide))) (by decide)
theorem walk {l : PySem.W.OpenLaw} {q : Program} {loose : List Str} {XP : (Str → Option Value) → Heap → Prop} {YP : World → Heap → Prop} {d : DefRec} {K : Params → PySem.W.Frag} (hn : l.most = some 63) (hdf : d.params.defaults = [])
    (hY : ∀ (w : World) (h : Heap), YP w h → (K w.params).In h)
    (F : ∀ (w : World) (mg : Str → Option Value) (fa : Addr) (h : Heap), (K w.params).In h → h.Ns mainGlobals mg → mg d.name = some (.ref fa) →
      ∃ fd : FuncData, (∀ (s : Shared) (u : Value), BindsTo s fd ⟨[u], []⟩ [("script", u)]) ∧ ∀ base : Heap, (K w.params).In base → base.Ns mainGlobals mg → FnOk l.prog w (K w.params) mg base CX0 24 fa fd ["script"] (sp_law (K w.params))) :
    PySem.W.WalkO q loose XP YP l.row.toRowW d [] (fun f vs => PySem.call f vs) :=
  L2.walk_of (n := 63) (k := 24) (x := "script") (CX := fun _ => CX0) (sp := fun w => sp_law (K w.params)) hn (by decide) hdf ⟨rfl, by decide, by decide⟩ hY F (fun _ _ a ns hl _ hS => ⟨a, ns, rfl, hS, hl, fun _ => rfl⟩) fun _ _ _ _ _ z => z
end My
open PySem PySem.W PyProof.Rows
set_option maxRecDepth 100000 in
set_option maxHeartbeats 0 in
theorem PySem.Challenge.cw_topstretch_k09_long_rows_holds : PySem.Challenge.rw_topstretch_k09_long_rows.Holds := by
  w_on; o_law; k_head; (case hw => w_witness2)
  k_fill
  refine My.walk (l := PySem.Challenge.rw_topstretch_k09_long_rows) rfl rfl (fun w h Y => PySem.W.kIn_of Y) ?F
  case F =>
    intro w mg fa h KX G hmg
    refine' My.all_mk KX G hmg ?a0 ?l0 ?c0 ?k0 ?a1 ?l1 ?c1 ?k1 ?a2 ?l2 ?c2 ?k2 ?a3 ?l3 ?c3 ?k3 ?a4 ?l4 ?c4 ?k4 ?a5 ?l5 ?c5 ?k5 ?a6 ?l6 ?c6 ?k6 ?a7 ?l7 ?c7 ?k7 ?a8 ?l8 ?c8 ?k8 ?a9 ?l9 ?c9 ?k9 ?a10 ?l10 ?c10 ?k10 ?a11 ?l11 ?c11 ?k11 ?a12 ?l12 ?c12 ?k12 ?a13 ?l13 ?c13 ?k13 ?a14 ?l14 ?c14 ?k14 ?a15 ?l15 ?c15 ?k15 ?a16 ?l16 ?c16 ?k16 ?z0 ?z1 ?z2 ?z3 ?z4 ?z5 ?z6 ?z7 ?z8 ?z9 ?z10 ?z11 ?z12 ?z13 ?z14 
    (case a0 => k_is); (case l0 => k_is); (case c0 => k_is); (case k0 => k_is)
    (case a1 => k_is); (case l1 => k_is); (case c1 => k_is); (case k1 => k_is)
    (case a2 => k_is); (case l2 => k_is); (case c2 => k_is); (case k2 => k_is)
    (case a3 => k_is); (case l3 => k_is); (case c3 => k_is); (case k3 => k_is)
    (case a4 => k_is); (case l4 => k_is); (case c4 => k_is); (case k4 => k_is)
    (case a5 => k_is); (case l5 => k_is); (case c5 => k_is); (case k5 => k_is)
    (case a6 => k_is); (case l6 => k_is); (case c6 => k_is); (case k6 => k_is)
    (case a7 => k_is); (case l7 => k_is); (case c7 => k_is); (case k7 => k_is)
    (case a8 => k_is); (case l8 => k_is); (case c8 => k_is); (case k8 => k_is)
    (case a9 => k_is); (case l9 => k_is); (case c9 => k_is); (case k9 => k_is)
    (case a10 => k_is); (case l10 => k_is); (case c10 => k_is); (case k10 => k_is)
    (case a11 => k_is); (case l11 => k_is); (case c11 => k_is); (case k11 => k_is)
    (case a12 => k_is); (case l12 => k_is); (case c12 => k_is); (case k12 => k_is)
    (case a13 => k_is); (case l13 => k_is); (case c13 => k_is); (case k13 => k_is)
    (case a14 => k_is); (case l14 => k_is); (case c14 => k_is); (case k14 => k_is)
    (case a15 => k_is); (case l15 => k_is); (case c15 => k_is); (case k15 => k_is)
    (case a16 => k_is); (case l16 => k_is); (case c16 => k_is); (case k16 => k_is)
    (case z0 => k_is)
    (case z1 => k_is)
    (case z2 => k_is)
    (case z3 => k_is)
    (case z4 => k_is)
    (case z5 => k_is)
    (case z6 => k_is)
    (case z7 => k_is)
    (case z8 => k_is)
    (case z9 => k_is)
    (case z10 => k_is)
    (case z11 => k_is)
    (case z12 => k_is)
    (case z13 => k_is)
    (case z14 => k_is)
