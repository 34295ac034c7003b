import PyProof.Rows.All
import Wide.All
import OpenK.AllK
import Wide.FinOn
import Lean
import PyProof.EqAt
import PyProof.EqKinds
import PyProof.TupleCall
import PySem.Challenge.RW_topstretch_k24_whole_bounds_are_best
set_option Elab.async false
set_option linter.all false
set_option maxRecDepth 100000
namespace L2
open PySem PySem.Spec PyProof.Rows

noncomputable abbrev Key := Sum Int Str
noncomputable def keyIs : Key → Value → Bool
  | .inl k, v => Value.isInt k v
  | .inr x, v => Value.isStrOf x v
noncomputable def keyH (w : World) : Key → Int
  | .inl k => hashInt k
  | .inr x => hashStr w x
theorem keyIs_shape : ∀ {k : Key} {v : Value}, keyIs k v = true → (∃ i t, k = Sum.inl i ∧ v = Value.int i t) ∨ (∃ x t, k = Sum.inr x ∧ v = Value.str x t)
  | .inl i, v, h => by
    obtain ⟨t, e⟩ := Value.isInt_shape (k := i) (v := v) h
    exact .inl ⟨i, t, rfl, e⟩
  | .inr x, v, h => by
    obtain ⟨t, e⟩ := Value.isStrOf_shape (x := x) (v := v) h
    exact .inr ⟨x, t, rfl, e⟩
theorem keyIs_int (i : Int) (t : Tok) : keyIs (.inl i) (.int i t) = true := by simp [keyIs, Value.isInt]
theorem keyIs_str (x : Str) (t : Tok) : keyIs (.inr x) (.str x t) = true := by simp [keyIs, Value.isStrOf]
theorem key_ll (a b : Int) : decide ((Sum.inl a : Key) = Sum.inl b) = (a == b) := by
  by_cases e : a = b
  · subst e; simp
  · have h : ¬ (Sum.inl a : Key) = Sum.inl b := fun q => e (Sum.inl.inj q)
    rw [decide_eq_false h]
    exact (beq_eq_false_iff_ne.mpr e).symm
theorem key_rr (a b : Str) : decide ((Sum.inr a : Key) = Sum.inr b) = decide (a = b) := by
  by_cases e : a = b
  · subst e; simp
  · have h : ¬ (Sum.inr a : Key) = Sum.inr b := fun q => e (Sum.inr.inj q)
    rw [decide_eq_false h, decide_eq_false e]
theorem key_lr (a : Int) (b : Str) : decide ((Sum.inl a : Key) = Sum.inr b) = false := decide_eq_false (fun q => nomatch q)
theorem key_rl (a : Str) (b : Int) : decide ((Sum.inr a : Key) = Sum.inl b) = false := decide_eq_false (fun q => nomatch q)

noncomputable def mixKind (prog : Program) (w : World) : PySem.KeyKind prog w Key where
  is := keyIs
  hash := keyH w
  inj := fun v a b ha hb => by
    rcases keyIs_shape ha with ⟨i, t, rfl, rfl⟩ | ⟨x, t, rfl, rfl⟩
    · rcases keyIs_shape hb with ⟨j, u, rfl, e⟩ | ⟨y, u, rfl, e⟩
      · injection e with e1 _; rw [e1]
      · exact nomatch e
    · rcases keyIs_shape hb with ⟨j, u, rfl, e⟩ | ⟨y, u, rfl, e⟩
      · exact nomatch e
      · injection e with e1 _; rw [e1]
  byValue := fun k v h => by
    rcases keyIs_shape h with ⟨i, t, rfl, rfl⟩ | ⟨x, t, rfl, rfl⟩ <;> rfl
  pyHash := fun hv h => by
    rcases keyIs_shape hv with ⟨i, t, rfl, rfl⟩ | ⟨x, t, rfl, rfl⟩
    · exact wpAny_pyHash_int h
    · exact wpAny_pyHash_str h
  eqBool := fun hu hv h => by
    rcases keyIs_shape hu with ⟨i, t, rfl, rfl⟩ | ⟨x, t, rfl, rfl⟩
    · rcases keyIs_shape hv with ⟨j, u, rfl, rfl⟩ | ⟨y, u, rfl, rfl⟩
      · rw [key_ll] at h; exact wpAny_eqBool_int h
      · rw [key_lr] at h; exact SeqAt.EqAt.int_str i t y u _ _ _ _ h
    · rcases keyIs_shape hv with ⟨j, u, rfl, rfl⟩ | ⟨y, u, rfl, rfl⟩
      · rw [key_rl] at h; exact SeqAt.EqAt.str_int x t j u _ _ _ _ h
      · rw [key_rr] at h; exact wpAny_eqBool_str h
  «strs» := fun k x t v h => by
    rcases keyIs_shape h with ⟨i, u, rfl, e⟩ | ⟨y, u, rfl, e⟩
    · exact nomatch e
    · injection e with e1 _
      subst e1
      cases v <;> rfl

theorem mixKind_int (prog : Program) (w : World) (i : Int) (t : Tok) : (mixKind prog w).is (.inl i) (.int i t) = true := keyIs_int i t
theorem mixKind_str (prog : Program) (w : World) (x : Str) (t : Tok) : (mixKind prog w).is (.inr x) (.str x t) = true := keyIs_str x t
end L2

namespace L2
open PySem PySem.Spec PyProof.Rows

inductive V where
  | non | bl (b : Bool) | int (i : Int) | str (x : Str) | byt (b : Array UInt8) | flt (b : UInt64) | ref (a : Addr) | ty (n : String)
  deriving DecidableEq

noncomputable def RelV : V → Value → Prop
  | .non, u => u = Value.none
  | .bl b, u => u = Value.bool b
  | .int i, u => ∃ t, u = Value.int i t
  | .str x, u => ∃ t, u = Value.str x t
  | .byt b, u => ∃ t, u = Value.bytes b t
  | .flt b, u => ∃ t, u = Value.float b t
  | .ref a, u => u = Value.ref a
  | .ty n, u => u = Value.type n

noncomputable abbrev Vals : List V → List Value → Prop := Paired RelV
theorem Vals.length {xs : List V} {us : List Value} (r : Vals xs us) : xs.length = us.length := Paired.length r
theorem Vals.get : ∀ {xs : List V} {us : List Value} {i : Nat} {x : V}, Vals xs us → xs[i]? = some x → ∃ u, us[i]? = some u ∧ RelV x u
  | _, _, _, _, .nil, e => by simp at e
  | _, _, 0, _, .cons r _, e => by simp at e; subst e; exact ⟨_, rfl, r⟩
  | _, _, i + 1, x, .cons _ t, e => by
    obtain ⟨u, h1, h2⟩ := Vals.get (i := i) (x := x) t (by simpa using e)
    exact ⟨u, by simpa using h1, h2⟩
theorem Vals.set {x : V} {u : Value} (r : RelV x u) : ∀ {xs : List V} {us : List Value} (i : Nat), Vals xs us → Vals (xs.set i x) (us.set i u)
  | _, _, _, .nil => .nil
  | _, _, 0, .cons _ t => .cons r t
  | _, _, i + 1, .cons q t => .cons q (Vals.set r i t)
theorem Vals.append : ∀ {xs ys : List V} {us ws : List Value}, Vals xs us → Vals ys ws → Vals (xs ++ ys) (us ++ ws)
  | _, _, _, _, .nil, s => s
  | _, _, _, _, .cons r t, s => .cons r (Vals.append t s)
theorem Vals.take : ∀ {xs : List V} {us : List Value} (n : Nat), Vals xs us → Vals (xs.take n) (us.take n)
  | _, _, 0, _ => .nil
  | _, _, _ + 1, .nil => .nil
  | _, _, n + 1, .cons r t => .cons r (Vals.take n t)
theorem Vals.drop : ∀ {xs : List V} {us : List Value} (n : Nat), Vals xs us → Vals (xs.drop n) (us.drop n)
  | _, _, 0, r => r
  | _, _, _ + 1, .nil => .nil
  | _, _, n + 1, .cons _ t => Vals.drop n t
noncomputable def RelO : Option V → Option Value → Prop
  | some v, some u => RelV v u
  | none, none => True
  | _, _ => False
noncomputable def KV {κ : Type} : List (κ × V) → List (κ × Value) → Prop := Paired fun (p : κ × V) (q : κ × Value) => p.1 = q.1 ∧ RelV p.2 q.2

noncomputable def kV : Key → V
  | .inl i => .int i
  | .inr x => .str x

inductive HO where
    | lst (xs : List V)
    | tup (xs : List V)
    | dK (kvs : List (Key × V)) | dT (kvs : List (List Key × V))
    | set (S : Int → Bool) (n : Nat)
    | ins (C dx : Addr) (fs : List (Str × V))
    | own (x : Addr)
    | xd (fs : List (Str × V))
    | met (f x : Addr)
    | rng (lo hi : Int)
    | frz (o : Obj) (u : HO)
    | tbl (ps : Array Value)
    | ext (φ : Heap → Prop)

noncomputable abbrev Hp := Addr → Option HO
noncomputable def upd (H : Hp) (a : Addr) (o : HO) : Hp := fun b => if b = a then some o else H b
theorem upd_same {H : Hp} {a : Addr} {o : HO} : upd H a o a = some o := by unfold upd; rw [if_pos rfl]
theorem upd_ne {H : Hp} {a b : Addr} {o : HO} (h : b ≠ a) : upd H a o b = H b := by unfold upd; rw [if_neg h]
theorem upd_upd {H : Hp} {a : Addr} {o u : HO} : upd (upd H a o) a u = upd H a u := by
  funext b; unfold upd; split <;> rfl
theorem ne_of_none {H : Hp} {a b : Addr} {o : HO} (h : H a = some o) (h' : H b = none) : a ≠ b := by
  intro e; subst e; rw [h] at h'; cases h'

section
variable (P : Program) (w : World)
noncomputable def ObjOk (H : Hp) (h : Heap) (a : Addr) : HO → Prop
  | .lst xs => xs.length ≤ sizeLine ∧ ∃ (its : List Value) (n : Nat), Vals xs its ∧ h.get? a = some { cls := .type "list", data := .seq its.toArray n }
  | .tup xs => xs.length ≤ sizeLine ∧ ∃ its : List Value, Vals xs its ∧ IsTup h a its.toArray
  | .dK kvs => kvs.length ≤ sizeLine ∧ (a == sysModules) = false ∧ ∃ vs, KV kvs vs ∧ h.DictOf (mixKind P w) a vs
  | .dT kvs => kvs.length ≤ sizeLine ∧ (a == sysModules) = false ∧ ∃ xs : List (List Key × Addr × Value),
      Paired (fun (p : List Key × V) (q : List Key × Addr × Value) => p.1 = q.1 ∧ H q.2.1 = some (.tup (p.1.map kV)) ∧ RelV p.2 q.2.2) kvs xs ∧
      ∃ o es ep, h.get? a = some o ∧ o.ExactDict ∧ o.data = .dict es ep ∧ es.toList = xs.map (entryOfKey (tupleKind (mixKind P w))) ∧ (xs.map (·.1)).Nodup
  | .set S n => h.SetOf (intKind P w) a S n
  | .ins C dx fs => H dx = some (.own a) ∧ fs.length ≤ 1000 ∧ dx ≠ a ∧ h.get? a = some (PySem.W.instObj C dx) ∧
      ∃ mA, h.Ns1 dx mA ∧ (∀ f, RelO (fs.lookup f) (mA f)) ∧ PySem.Within mA (fs.map (·.1))
  | .own _ => ∃ o, h.get? a = some o
  | .xd fs => ∃ mA, h.Ns1 a mA ∧ ∀ f, RelO (fs.lookup f) (mA f)
  | .rng lo hi => ∃ t u v, h.get? a = some { cls := .type "range", data := .fields #[.int lo t, .int hi u, .int 1 v] }
  | .frz o u => h.get? a = some o ∧ ObjOk H h a u
  | .tbl ps => h.get? a = some { cls := .none, data := .fields ps }
  | .met f x => h.get? a = some (PySem.W.methodObj (.ref f) (.ref x))
  | .ext φ => φ h ∧ (∃ o, h.get? a = some o) ∧ ∀ h1 h2 : Heap, φ h1 → (∀ o, h1.get? a = some o → h2.get? a = some o) → φ h2
noncomputable def HOk (H : Hp) (h : Heap) : Prop := ∀ a o, H a = some o → ObjOk P w H h a o
end

section
variable {P : Program} {w : World} {H H' : Hp} {h h' : Heap} {a : Addr} {o : HO}
theorem ObjOk.lt (x : ObjOk P w H h a o) : a < h.objs.size := by
  cases o with
  | lst xs => obtain ⟨_, _, _, _, e⟩ := x; exact Heap.lt_size e
  | tup xs => obtain ⟨_, _, _, p⟩ := x; exact p.lt
  | dK kvs => obtain ⟨_, _, _, _, o, _, _, e, _⟩ := x; exact Heap.lt_size e
  | dT kvs => obtain ⟨_, _, _, _, o, _, _, e, _⟩ := x; exact Heap.lt_size e
  | set S n => obtain ⟨o, _, _, _, e, _⟩ := x; exact Heap.lt_size e
  | ins C dx fs => obtain ⟨_, _, _, e, _⟩ := x; exact Heap.lt_size e
  | own y => obtain ⟨_, e⟩ := x; exact Heap.lt_size e
  | xd fs => obtain ⟨_, ⟨_, _, _, e, _⟩, _⟩ := x; exact Heap.lt_size e
  | rng lo hi => obtain ⟨_, _, _, e⟩ := x; exact Heap.lt_size e
  | frz ob u => obtain ⟨e, _⟩ := x; exact Heap.lt_size e
  | tbl ps => exact Heap.lt_size (show h.get? a = some _ from x)
  | met f y => exact Heap.lt_size (show h.get? a = some _ from x)
  | ext φ => obtain ⟨_, ⟨_, e⟩, _⟩ := x; exact Heap.lt_size e
theorem Paired.mapP {α β : Type} {F G : α → β → Prop} : ∀ {l₁ : List α} {l₂ : List β}, Paired F l₁ l₂ → (∀ a b, F a b → G a b) → Paired G l₁ l₂
  | _, _, .nil, _ => .nil
  | _, _, .cons r t, f => .cons (f _ _ r) (Paired.mapP t f)
theorem ObjOk.stay (x : ObjOk P w H h a o) (k : ∀ b u, (b = a ∨ H b = some (.own a)) → h.get? b = some u → h'.get? b = some u)
    (ho : ∀ b, H b = some (.own a) → H' b = some (.own a)) (ht : ∀ b xs, H b = some (.tup xs) → H' b = some (.tup xs)) : ObjOk P w H' h' a o := by
  induction o with
  | lst xs => obtain ⟨z, its, n, r, e⟩ := x; exact ⟨z, its, n, r, k _ _ (.inl rfl) e⟩
  | tup xs => obtain ⟨z, its, r, ob, e, c⟩ := x; exact ⟨z, its, r, ob, k _ _ (.inl rfl) e, c⟩
  | dK kvs => obtain ⟨z, y, vs, r, ob, es, ep, e, c⟩ := x; exact ⟨z, y, vs, r, ob, es, ep, k _ _ (.inl rfl) e, c⟩
  | dT kvs =>
    obtain ⟨z, y, xs, r, ob, es, ep, e, c⟩ := x
    exact ⟨z, y, xs, Paired.mapP r fun p q z => ⟨z.1, ht _ _ z.2.1, z.2.2⟩, ob, es, ep, k _ _ (.inl rfl) e, c⟩
  | set S n => obtain ⟨ob, es, ep, t, e, c⟩ := x; exact ⟨ob, es, ep, t, k _ _ (.inl rfl) e, c⟩
  | ins C dx fs =>
    obtain ⟨d, z, ne, e, mA, ⟨od, es, ep, e2, c⟩, r⟩ := x
    exact ⟨ho _ d, z, ne, k _ _ (.inl rfl) e, mA, ⟨od, es, ep, k _ _ (.inr d) e2, c⟩, r⟩
  | own y => obtain ⟨ob, e⟩ := x; exact ⟨ob, k _ _ (.inl rfl) e⟩
  | xd fs => obtain ⟨mA, ⟨od, es, ep, e, c⟩, r⟩ := x; exact ⟨mA, ⟨od, es, ep, k _ _ (.inl rfl) e, c⟩, r⟩
  | rng lo hi => obtain ⟨t, u, v, e⟩ := x; exact ⟨t, u, v, k _ _ (.inl rfl) e⟩
  | frz ob u ih => obtain ⟨e, q⟩ := x; exact ⟨k _ _ (.inl rfl) e, ih q⟩
  | tbl ps =>
    have e : h.get? a = some { cls := .none, data := .fields ps } := x
    show h'.get? a = some { cls := .none, data := .fields ps }
    exact k a _ (.inl rfl) e
  | met f y =>
    have e : h.get? a = some (PySem.W.methodObj (.ref f) (.ref y)) := x
    show h'.get? a = some (PySem.W.methodObj (.ref f) (.ref y))
    exact k a _ (.inl rfl) e
  | ext φ => obtain ⟨p, ⟨o, e⟩, st⟩ := x; exact ⟨st _ _ p fun o q => k _ _ (.inl rfl) q, ⟨o, k _ _ (.inl rfl) e⟩, st⟩
theorem HOk.lt (x : HOk P w H h) (e : H a = some o) : a < h.objs.size := (x a o e).lt
theorem HOk.fresh (x : HOk P w H h) (e : h.objs.size ≤ a) : H a = none := by
  cases q : H a with
  | none => rfl
  | some u => exact absurd (Nat.lt_of_lt_of_le (x.lt q) e) (Nat.lt_irrefl _)
theorem HOk.kept (x : HOk P w H h) (k : ∀ b u, h.get? b = some u → h'.get? b = some u) : HOk P w H h' := fun a o e =>
  (x a o e).stay (fun b u _ q => k b u q) (fun _ q => q) fun _ _ q => q
theorem HOk.laid (x : HOk P w H h) (k : ∀ b u, h.get? b = some u → h'.get? b = some u) (hp : h.objs.size ≤ a) (new : ObjOk P w (upd H a o) h' a o) : HOk P w (upd H a o) h' := fun b u e => by
  have hn := x.fresh hp
  by_cases hb : b = a
  · subst hb; rw [upd_same] at e; cases e; exact new
  · rw [upd_ne hb] at e
    exact (x b u e).stay (fun c v _ q => k c v q) (fun c q => by rw [upd_ne (ne_of_none q hn)]; exact q) fun c xs q => by rw [upd_ne (ne_of_none q hn)]; exact q
end

noncomputable def Rd (H : Hp) (a : Addr) (u : HO) : Prop := H a = some u ∨ ∃ o, H a = some (.frz o u)
theorem Rd.ok {P : Program} {w : World} {H : Hp} {h : Heap} {a : Addr} {u : HO} (r : Rd H a u) (x : HOk P w H h) : ObjOk P w H h a u := by
  rcases r with r | ⟨o, r⟩
  · exact x a u r
  · obtain ⟨_, q⟩ := x a _ r
    exact q
noncomputable def Mut : Option HO → Prop
  | some (.lst _) => True
  | some (.dK _) => True
  | some (.dT _) => True
  | some (.set _ _) => True
  | some (.ins _ _ _) => True
  | some (.ext _) => True
  | _ => False
section
variable {P : Program} {w : World} {H : Hp} {h h' : Heap} {x e : Addr} {o' : HO}
theorem HOk.write (ok : HOk P w H h) (mu : Mut (H x)) (he : e = x ∨ H e = some (.own x)) (k : ∀ b u, b ≠ e → h.get? b = some u → h'.get? b = some u) (heo : ∃ u, h'.get? e = some u)
    (new : ObjOk P w (upd H x o') h' x o') : HOk P w (upd H x o') h' := fun b u q => by
  have nown : ∀ c y, H c = some (.own y) → c ≠ x := fun c y r z => by subst z; rw [r] at mu; exact mu
  have ntup : ∀ c xs, H c = some (.tup xs) → c ≠ x := fun c xs r z => by subst z; rw [r] at mu; exact mu
  by_cases hb : b = x
  · subst hb; rw [upd_same] at q; cases q; exact new
  · rw [upd_ne hb] at q
    by_cases hbe : b = e
    · have q' : H b = some (.own x) := by
        rcases he with z | z
        · exact absurd (hbe.trans z) hb
        · rw [hbe]; exact z
      rw [q] at q'; cases q'
      obtain ⟨v, hv⟩ := heo
      exact ⟨v, by rw [hbe]; exact hv⟩
    · refine (ok b u q).stay (fun c v hc r => k c v ?_ r) (fun c r => by rw [upd_ne (nown c b r)]; exact r) fun c xs r => by rw [upd_ne (ntup c xs r)]; exact r
      rcases hc with rfl | hc
      · exact hbe
      · rintro rfl
        rcases he with z | z
        · exact nown c b hc z
        · rw [hc] at z; cases z; exact hb rfl
end

structure Un (fs ex : List Addr) (H H' : Hp) (h h' : Heap) : Prop where
  keep : ∀ b o, h.get? b = some o → H b = none → b ∉ fs → b ∉ ex → h'.get? b = some o
  slot : ∀ b o, h.get? b = some o → H b = none → b ∈ fs → b ∉ ex → ∃ sl, h'.get? b = some { o with slots := sl }
  free : ∀ b o, h.get? b = some o → H b = none → b ∉ ex → H' b = none
  there : ∀ b o, h.get? b = some o → b ∉ ex → ∃ o', h'.get? b = some o'
  tups : ∀ b xs, H b = some (.tup xs) → H' b = some (.tup xs)
  frzs : ∀ b o u, H b = some (.frz o u) → H' b = some (.frz o u)
  tbls : ∀ b ps, H b = some (.tbl ps) → ∃ more, H' b = some (.tbl (ps ++ more))
section
variable {fs fs' ex ex' : List Addr} {H H1 H2 : Hp} {h h1 h2 h' : Heap} {a x e : Addr} {o : HO}
theorem Un.any (u : Un fs ex H H1 h h1) {b : Addr} {ob : Obj} (q : h.get? b = some ob) (n : H b = none) (hx : b ∉ ex) : ∃ sl, h1.get? b = some { ob with slots := sl } := by
  by_cases hb : b ∈ fs
  · exact u.slot b ob q n hb hx
  · exact ⟨ob.slots, u.keep b ob q n hb hx⟩
theorem Un.trans (a : Un fs ex H H1 h h1) (b : Un fs ex H1 H2 h1 h2) : Un fs ex H H2 h h2 where
  keep := fun c ob q n hc hx => b.keep c ob (a.keep c ob q n hc hx) (a.free c ob q n hx) hc hx
  slot := fun c ob q n hc hx => by
    obtain ⟨sl, e1⟩ := a.slot c ob q n hc hx
    obtain ⟨sl', e2⟩ := b.slot c _ e1 (a.free c ob q n hx) hc hx
    exact ⟨sl', e2⟩
  free := fun c ob q n hx => by
    obtain ⟨o', e1⟩ := a.there c ob q hx
    exact b.free c o' e1 (a.free c ob q n hx) hx
  there := fun c ob q hx => by
    obtain ⟨o', e1⟩ := a.there c ob q hx
    exact b.there c o' e1 hx
  tups := fun c xs q => b.tups c xs (a.tups c xs q)
  frzs := fun c ob xs q => b.frzs c ob xs (a.frzs c ob xs q)
  tbls := fun c ps q => by
    obtain ⟨m1, e1⟩ := a.tbls c ps q
    obtain ⟨m2, e2⟩ := b.tbls c _ e1
    exact ⟨m1 ++ m2, by rw [e2, Array.append_assoc]⟩
theorem Un.kept (k : ∀ b u, h.get? b = some u → h'.get? b = some u) : Un fs ex H H h h' :=
  ⟨fun b ob q _ _ _ => k b ob q, fun b ob q _ _ _ => ⟨ob.slots, k b ob q⟩, fun _ _ _ n _ => n, fun b ob q _ => ⟨ob, k b ob q⟩, fun _ _ q => q, fun _ _ _ q => q, fun _ ps q => ⟨#[], by rw [q]; simp⟩⟩
theorem Un.refl : Un fs ex H H h h := Un.kept fun _ _ q => q
theorem Un.laid (k : ∀ b u, h.get? b = some u → h'.get? b = some u) (hp : h.objs.size ≤ a) (hn : H a = none) : Un fs ex H (upd H a o) h h' where
  keep := fun b u q _ _ _ => k b u q
  slot := fun b u q _ _ _ => ⟨u.slots, k b u q⟩
  free := fun b u q n _ => by rw [upd_ne (Nat.ne_of_lt (Nat.lt_of_lt_of_le (Heap.lt_size q) hp))]; exact n
  there := fun b u q _ => ⟨u, k b u q⟩
  tups := fun b xs q => by rw [upd_ne (ne_of_none q hn)]; exact q
  frzs := fun b u xs q => by rw [upd_ne (ne_of_none q hn)]; exact q
  tbls := fun b ps q => ⟨#[], by rw [upd_ne (ne_of_none q hn), q]; simp⟩
theorem Un.write (mu : Mut (H x)) (he : e = x ∨ H e = some (.own x)) (k : ∀ b u, b ≠ e → h.get? b = some u → h'.get? b = some u) (heo : ∃ u, h'.get? e = some u) : Un fs ex H (upd H x o) h h' := by
  have hx : ∀ b, H b = none → b ≠ x := fun b n z => by subst z; rw [n] at mu; exact mu
  have hb : ∀ b, H b = none → b ≠ e := fun b n z => by
    subst z
    rcases he with r | r
    · exact hx b n r
    · rw [n] at r; cases r
  have hm : ∀ b u, H b = some u → ¬ Mut (some u) → b ≠ x := fun b u q nm z => by subst z; rw [q] at mu; exact nm mu
  refine ⟨fun b u q n _ _ => k b u (hb b n) q, fun b u q n _ _ => ⟨u.slots, k b u (hb b n) q⟩, fun b u q n _ => by rw [upd_ne (hx b n)]; exact n, fun b u q _ => ?_,
    fun b xs q => by rw [upd_ne (hm b _ q fun z => z)]; exact q, fun b u xs q => by rw [upd_ne (hm b _ q fun z => z)]; exact q, fun b ps q => ⟨#[], by rw [upd_ne (hm b _ q fun z => z), q]; simp⟩⟩
  by_cases hbe : b = e
  · subst hbe; exact heo
  · exact ⟨u, k b u hbe q⟩
end

noncomputable def trk (h : Heap) (H : Hp) : List Addr := (List.range h.objs.size).filter fun a => (H a).isSome
noncomputable def hidT (h : Heap) (H : Hp) : Heap := PySem.W.hideAll h (trk h H)
theorem hidT_size (h : Heap) (H : Hp) : (hidT h H).objs.size = h.objs.size := PySem.W.hideAll_size _ _
theorem hidT_get {h : Heap} {H : Hp} {b : Addr} {o : Obj} (e : h.get? b = some o) (n : H b = none) : (hidT h H).get? b = some o :=
  PySem.W.hideAll_get _ e fun hm => by
    have q : (H b).isSome = true := (List.mem_filter.mp hm).2
    rw [n] at q; simp at q
theorem of_hidT {h : Heap} {H : Hp} {b : Addr} {o : Obj} (e : (hidT h H).get? b = some o) : h.get? b = some o ∧ H b = none := by
  have e' : h.get? b = some o := PySem.W.of_hideAll (trk h H) e
  refine ⟨e', ?_⟩
  cases q : H b with
  | none => rfl
  | some x =>
    have hm : b ∈ trk h H := List.mem_filter.mpr ⟨List.mem_range.mpr (Heap.lt_size e'), by simp [q]⟩
    have z : (hidT h H).get? b = none := PySem.W.hideAll_none (trk h H) hm
    rw [z] at e; cases e

noncomputable def allNews (g h : Heap) (L : Addr) : List (Addr × Obj) := (List.range h.objs.size).filterMap fun a => if a = L ∨ (g.get? a).isSome = true then none else (h.get? a).map fun o => (a, o)
noncomputable def rest (g h : Heap) (L d : Addr) : List (Addr × Obj) := (allNews g h L).filter fun p => decide (p.1 ≠ d)
end L2

namespace L2
open PySem PySem.Spec PyProof.Rows

structure Mod (K : PySem.W.Frag) (mg : Str → Option Value) (base : Heap) : Prop where
  kin : K.In base
  glob : base.Ns mainGlobals mg
  blt : ∃ mb, base.Ns builtinsNs mb ∧ ∀ x : Str, x ≠ "__name__" → mb x = bootBuiltins x
  nolimit : base.NoLimit

structure Cx where
  prog : Program
  w : World
  K : PySem.W.Frag
  mg : Str → Option Value
  base : Heap
  A : Around
  N : List Str
  s₀ : Shared
  H₀ : Hp
  env : Env
  outer : List Env
  stack : List Env
  ex : List Addr
  fn : Str → Bool
  calm : Bool
  pn : List (Addr × Obj)
  xe : Value → Shared → Prop
noncomputable def frs (l : List Env) : List Addr := l.filterMap (·.frame)
noncomputable abbrev Cx.fs (X : Cx) : List Addr := frs X.outer

noncomputable def Vis (sc : Scope) (x : Str) : Prop := sc.names.lookup x = some .local ∨ sc.names.lookup x = some .cell ∨ sc.names.lookup x = some .free
noncomputable def Loc (sc : Scope) (x : Str) : Prop := sc.names.lookup x = some .local ∨ sc.names.lookup x = some .cell
noncomputable def Look (env : Env) (h : Heap) (m : Str → Option Value) (x : Str) (u : Value) : Prop :=
  (env.kindOf x = some .local ∧ m x = some u) ∨ ((env.kindOf x = some .cell ∨ env.kindOf x = some .free) ∧ ∃ c, env.cells.lookup x = some c ∧ h.IsCell c (some u))

structure Cx.Ok (X : Cx) : Prop where
  mod : Mod X.K X.mg X.base
  kind : X.env.scope.kind = .function
  glob : X.env.globals = mainGlobals
  blt : X.env.builtins = builtinsNs
  above : X.s₀.heap.objs.size ≤ X.env.locals
  inj : ∀ x y c, X.env.cells.lookup x = some c → X.env.cells.lookup y = some c → x = y
  has : ∀ x, (X.env.kindOf x = some .cell ∨ X.env.kindOf x = some .free) → ∃ c, X.env.cells.lookup x = some c
  cab : ∀ x c, X.fn x = true → X.env.cells.lookup x = some c → X.s₀.heap.objs.size ≤ c
  hd : X.calm = true → X.A.handled = none
  frames : X.A.frames = some X.stack
  stk : X.stack = X.outer ∨ (X.stack = X.env :: X.outer ∧ X.env.frame = some X.env.locals)
  exf : ∀ b ∈ X.ex, b ≠ X.env.locals ∧ ∀ x c, X.env.cells.lookup x = some c → c ≠ b
  bs : ∀ b o, X.base.get? b = some o → X.s₀.heap.get? b = some o ∧ X.H₀ b = none
  bsz : X.base.objs.size ≤ X.s₀.heap.objs.size
  noex : ∀ b o, X.base.get? b = some o → b ∉ X.ex
  exfs : ∀ b ∈ X.ex, b ∉ X.fs
  funs : X.s₀.heap.FunFrames X.base X.outer
  frf : ∀ b ∈ X.fs, X.H₀ b = none

structure Inv (X : Cx) (pins : List (Addr × Obj)) (σ : List (Option V)) (H : Hp) (s : Shared) : Prop where
  ok : X.Ok
  os : s.os = X.s₀.os
  bare : AllBare s.gens
  base : Un X.fs X.ex X.H₀ H X.s₀.heap s.heap
  loc : ∃ m, s.heap.Ns X.env.locals m ∧ ∀ (i : Nat) (x : Str) (v : V), X.N[i]? = some x → σ[i]? = some (some v) → Vis X.env.scope x → ∃ u, RelV v u ∧ Look X.env s.heap m x u
  cell : ∀ x c, X.env.cells.lookup x = some c → ∃ v, s.heap.IsCell c v
  free : H X.env.locals = none
  freeC : ∀ x c, X.env.cells.lookup x = some c → H c = none
  pin : ∀ p ∈ X.pn ++ pins, s.heap.get? p.1 = some p.2 ∧ H p.1 = none ∧ p.1 ≠ X.env.locals ∧ p.1 ∉ X.fs ∧ ∀ v, p.2.data ≠ .cell v
  hok : HOk X.prog X.w H s.heap
  len : σ.length = X.N.length

section
variable {X : Cx} {pins : List (Addr × Obj)} {σ : List (Option V)} {H H' : Hp} {s : Shared} {h' : Heap}

theorem Cx.Ok.nofr (ok : X.Ok) {b : Addr} {o : Obj} (e : X.base.get? b = some o) : b ∉ X.fs := fun hb => by
  have := (ok.funs.mem hb).1
  rw [e] at this; cases this
theorem Inv.bs (I : Inv X pins σ H s) : ∀ b o, X.base.get? b = some o → s.heap.get? b = some o ∧ H b = none := fun b o e =>
  ⟨I.base.keep b o (I.ok.bs b o e).1 (I.ok.bs b o e).2 (I.ok.nofr e) (I.ok.noex b o e), I.base.free b o (I.ok.bs b o e).1 (I.ok.bs b o e).2 (I.ok.noex b o e)⟩
theorem Inv.bk (I : Inv X pins σ H s) : ∀ b o, X.base.get? b = some o → s.heap.get? b = some o := fun b o e => (I.bs b o e).1
theorem Inv.mod (I : Inv X pins σ H s) : Mod X.K X.mg X.base := I.ok.mod
theorem Inv.kIn (I : Inv X pins σ H s) : X.K.In s.heap := I.ok.mod.kin.keeps I.bk
theorem Inv.lt (I : Inv X pins σ H s) : X.env.locals < s.heap.objs.size := let ⟨_, hn, _⟩ := I.loc; hn.lt
theorem Inv.sz (I : Inv X pins σ H s) : X.s₀.heap.objs.size ≤ s.heap.objs.size := Nat.le_trans I.ok.above (Nat.le_of_lt I.lt)
theorem Inv.nofs (I : Inv X pins σ H s) {a : Addr} (h : s.heap.objs.size ≤ a) : a ∉ X.fs := fun hb => by
  obtain ⟨_, o, ho, _⟩ := I.ok.funs.mem hb
  exact absurd (Nat.lt_of_lt_of_le (Heap.lt_size ho) (Nat.le_trans I.sz h)) (Nat.lt_irrefl _)
theorem Inv.cne (I : Inv X pins σ H s) : ∀ x c, X.env.cells.lookup x = some c → c ≠ X.env.locals := fun x c e z => by
  obtain ⟨v, o, ho, hd⟩ := I.cell x c e
  obtain ⟨m, ⟨o', es, ep, ho', hd', _⟩, _⟩ := I.loc
  rw [z, ho'] at ho; cases ho; rw [hd'] at hd; cases hd
theorem Inv.funs (I : Inv X pins σ H s) : s.heap.FunFrames X.base X.outer := by
  have all : ∀ (l : List Env), (∀ b ∈ frs l, b ∈ X.fs) → X.s₀.heap.FunFrames X.base l → s.heap.FunFrames X.base l := by
    intro l
    induction l with
    | nil => intro _ _; trivial
    | cons env r ih =>
      intro hs hl
      obtain ⟨hk, ⟨L, o, hf, hn, ho, hd⟩, hr⟩ := hl
      have hL : L ∈ X.fs := hs L (by unfold frs; rw [List.filterMap_cons, hf]; exact List.mem_cons_self)
      obtain ⟨sl, e⟩ := I.base.slot L o ho (I.ok.frf L hL) hL fun z => I.ok.exfs L z hL
      exact ⟨hk, ⟨L, _, hf, hn, e, hd⟩, ih (fun b hb => hs b (by unfold frs; rw [List.filterMap_cons, hf]; exact List.mem_cons_of_mem _ hb)) hr⟩
  exact all X.outer (fun _ hb => hb) I.ok.funs

theorem Inv.stack (I : Inv X pins σ H s) : s.heap.FunFrames X.base X.stack := by
  rcases I.ok.stk with e | ⟨e, hf⟩
  · rw [e]; exact I.funs
  · rw [e]
    obtain ⟨m, hn, _⟩ := I.loc
    refine .cons (by rw [I.ok.kind]; decide) hf hn ?_ I.funs
    exact Heap.get?_none_of_le (Nat.le_trans I.ok.bsz I.ok.above)
theorem Inv.stkSub (I : Inv X pins σ H s) : ∀ b ∈ frs X.stack, b ∈ X.env.locals :: X.fs := fun b hb => by
  rcases I.ok.stk with e | ⟨e, hf⟩
  · rw [e] at hb; exact List.mem_cons_of_mem _ hb
  · rw [e] at hb
    unfold frs at hb
    rw [List.filterMap_cons, hf] at hb
    exact hb
theorem Inv.stkFree (I : Inv X pins σ H s) : ∀ b ∈ frs X.stack, H b = none := fun b hb => by
  rcases List.mem_cons.mp (I.stkSub b hb) with e | hb
  · rw [e]; exact I.free
  · obtain ⟨_, o, ho, _⟩ := I.ok.funs.mem hb
    exact I.base.free b o ho (I.ok.frf b hb) fun z => I.ok.exfs b z hb

theorem Inv.step {g' : Array GenState} {t' : Nat} {d' : Drawn} {ch : List Addr} (I : Inv X pins σ H s)
    (hch : ∀ b ∈ ch, (b ∈ X.ex ∨ X.s₀.heap.objs.size ≤ b) ∧ b ≠ X.env.locals ∧ (∀ x c, X.env.cells.lookup x = some c → c ≠ b) ∧ ∀ p ∈ X.pn ++ pins, p.1 ≠ b)
    (keep : ∀ b o, b ≠ X.env.locals → b ∉ X.fs → b ∉ ch → s.heap.get? b = some o → H b = none → h'.get? b = some o)
    (slot : ∀ b o, b ≠ X.env.locals → b ∈ X.fs → b ∉ ch → s.heap.get? b = some o → H b = none → ∃ sl, h'.get? b = some { o with slots := sl }) (free : ∀ b o, b ∉ ch → s.heap.get? b = some o → H b = none → H' b = none)
    (there : ∀ b o, b ∉ ch → s.heap.get? b = some o → ∃ o', h'.get? b = some o')
    (tups : ∀ b xs, H b = some (.tup xs) → H' b = some (.tup xs)) (frzs : ∀ b o u, H b = some (.frz o u) → H' b = some (.frz o u)) (tbls : ∀ b ps, H b = some (.tbl ps) → ∃ more, H' b = some (.tbl (ps ++ more)))
    (ns : ∀ m, s.heap.Ns X.env.locals m → h'.Ns X.env.locals m) (hok : HOk X.prog X.w H' h') (hg : AllBare g') :
    Inv X pins σ H' { s with heap := h', gens := g', drawn := d', toks := t' } := by
  have neL : ∀ b o, X.s₀.heap.get? b = some o → b ≠ X.env.locals := fun b o e => Nat.ne_of_lt (Nat.lt_of_lt_of_le (Heap.lt_size e) I.ok.above)
  have neC : ∀ b o, X.s₀.heap.get? b = some o → b ∉ X.ex → b ∉ ch := fun b o e hx hb => by
    rcases (hch b hb).1 with z | z
    · exact hx z
    · exact absurd (Nat.lt_of_lt_of_le (Heap.lt_size e) z) (Nat.lt_irrefl _)
  have cellK : ∀ x c, X.env.cells.lookup x = some c → ∀ v, s.heap.IsCell c v → h'.IsCell c v := fun x c e v ⟨o, ho, hd⟩ => by
    have nch : c ∉ ch := fun z => (hch c z).2.2.1 x c e rfl
    by_cases hc : c ∈ X.fs
    · obtain ⟨sl, q⟩ := slot c o (I.cne x c e) hc nch ho (I.freeC x c e)
      exact ⟨_, q, hd⟩
    · exact ⟨o, keep c o (I.cne x c e) hc nch ho (I.freeC x c e), hd⟩
  refine ⟨I.ok, I.os, hg, ⟨fun b o e n hb hx => ?_, fun b o e n hb hx => ?_, fun b o e n hx => ?_, fun b o e hx => ?_, fun b xs e => tups b xs (I.base.tups b xs e), fun b o xs e => frzs b o xs (I.base.frzs b o xs e), fun b ps e => ?_⟩, ?_, fun x c e => ?_, ?_, fun x c e => ?_, fun p hp => ?_, hok, I.len⟩
  · exact keep b o (neL b o e) hb (neC b o e hx) (I.base.keep b o e n hb hx) (I.base.free b o e n hx)
  · obtain ⟨sl, e1⟩ := I.base.slot b o e n hb hx
    obtain ⟨sl', e2⟩ := slot b _ (neL b o e) hb (neC b o e hx) e1 (I.base.free b o e n hx)
    exact ⟨sl', e2⟩
  · obtain ⟨o', e1⟩ := I.base.there b o e hx
    exact free b o' (neC b o e hx) e1 (I.base.free b o e n hx)
  · obtain ⟨o', e1⟩ := I.base.there b o e hx
    exact there b o' (neC b o e hx) e1
  · obtain ⟨m1, e1⟩ := I.base.tbls b ps e
    obtain ⟨m2, e2⟩ := tbls b _ e1
    exact ⟨m1 ++ m2, by rw [e2, Array.append_assoc]⟩
  · obtain ⟨m, hn, hl⟩ := I.loc
    refine ⟨m, ns m hn, fun i x v e1 e2 e3 => ?_⟩
    obtain ⟨u, r, l⟩ := hl i x v e1 e2 e3
    refine ⟨u, r, ?_⟩
    rcases l with l | ⟨k, c, e, z⟩
    · exact .inl l
    · exact .inr ⟨k, c, e, cellK x c e _ z⟩
  · obtain ⟨v, z⟩ := I.cell x c e
    exact ⟨v, cellK x c e v z⟩
  · obtain ⟨m, ⟨o, _, _, ho, _⟩, _⟩ := I.loc
    exact free _ o (fun z => (hch _ z).2.1 rfl) ho I.free
  · obtain ⟨v, o, ho, hd⟩ := I.cell x c e
    exact free c o (fun z => (hch c z).2.2.1 x c e rfl) ho (I.freeC x c e)
  · obtain ⟨e, n, ne, nf, d⟩ := I.pin p hp
    have nch : p.1 ∉ ch := fun z => (hch p.1 z).2.2.2 p hp rfl
    exact ⟨keep p.1 p.2 ne nf nch e n, free p.1 p.2 nch e n, ne, nf, d⟩
theorem Inv.un {t' : Nat} (I : Inv X pins σ H s) (u : Un X.fs [] H H' s.heap h') (hok : HOk X.prog X.w H' h') : Inv X pins σ H' { s with heap := h', toks := t' } := by
  obtain ⟨m, ⟨o, es, ep, ho, r⟩, _⟩ := id I.loc
  obtain ⟨sl, hL⟩ := u.any ho I.free (by simp)
  exact I.step (g' := s.gens) (d' := s.drawn) (ch := []) (fun _ z => nomatch z) (fun b o _ hb _ e n => u.keep b o e n hb (by simp)) (fun b o _ hb _ e n => u.slot b o e n hb (by simp)) (fun b o _ e n => u.free b o e n (by simp)) (fun b o _ e => u.there b o e (by simp)) u.tups u.frzs u.tbls (fun m' hm => by
    obtain ⟨o', es', ep', ho', r'⟩ := hm
    rw [ho] at ho'; cases ho'
    exact ⟨_, es', ep', hL, r'⟩) hok I.bare
theorem Inv.call {g' : Array GenState} {t' : Nat} {d' : Drawn} {ch : List Addr} (I : Inv X pins σ H s) (u : Un (frs X.stack) ch H H' s.heap h') (hok : HOk X.prog X.w H' h') (hg : AllBare g')
    (hch : ∀ b ∈ ch, (b ∈ X.ex ∨ X.s₀.heap.objs.size ≤ b) ∧ b ≠ X.env.locals ∧ (∀ x c, X.env.cells.lookup x = some c → c ≠ b) ∧ ∀ p ∈ X.pn ++ pins, p.1 ≠ b) :
    Inv X pins σ H' { s with heap := h', gens := g', drawn := d', toks := t' } := by
  obtain ⟨m, ⟨o, es, ep, ho, r⟩, _⟩ := id I.loc
  obtain ⟨sl, hL⟩ := u.any ho I.free fun z => (hch _ z).2.1 rfl
  exact I.step (ch := ch) hch (fun b o hL hb hc e n => u.keep b o e n (fun z => (List.mem_cons.mp (I.stkSub b z)).elim hL hb) hc) (fun b o _ _ hc e n => u.any e n hc) (fun b o hc e n => u.free b o e n hc) (fun b o hc e => u.there b o e hc) u.tups u.frzs u.tbls (fun m' hm => by
    obtain ⟨o', es', ep', ho', r'⟩ := hm
    rw [ho] at ho'; cases ho'
    exact ⟨_, es', ep', hL, r'⟩) hok hg
theorem Inv.turned {t' : Nat} {it : Addr} (I : Inv X pins σ H s) (k : ∀ b o, b ≠ it → s.heap.get? b = some o → h'.get? b = some o) (hn : H it = none) (hL : it ≠ X.env.locals)
    (h1 : it ∈ X.ex ∨ X.s₀.heap.objs.size ≤ it) (h2 : ∀ x c, X.env.cells.lookup x = some c → c ≠ it) (h3 : ∀ p ∈ X.pn ++ pins, p.1 ≠ it) : Inv X pins σ H { s with heap := h', toks := t' } := by
  have nit : ∀ b u, H b = some u → b ≠ it := fun b u e z => by rw [z, hn] at e; cases e
  refine I.step (g' := s.gens) (d' := s.drawn) (ch := [it]) (fun b hb => ?_) (fun b o _ _ hc e _ => k b o (fun z => hc (by simp [z])) e) (fun b o _ _ hc e _ => ⟨o.slots, k b o (fun z => hc (by simp [z])) e⟩) (fun _ _ _ _ n => n)
    (fun b o hc e => ⟨o, k b o (fun z => hc (by simp [z])) e⟩) (fun _ _ e => e) (fun _ _ _ e => e) (fun b ps e => ⟨#[], by rw [e]; simp⟩) (fun m hm => ?_) (fun b u e => ?_) I.bare
  · have e : b = it := by simpa using hb
    subst e
    exact ⟨h1, hL, h2, h3⟩
  · obtain ⟨o, es, ep, ho, r⟩ := hm
    exact ⟨o, es, ep, k _ o (Ne.symm hL) ho, r⟩
  · refine (I.hok b u e).stay (fun c v hc q => k c v ?_ q) (fun _ q => q) fun _ _ q => q
    rcases hc with z | z
    · rw [z]; exact nit b u e
    · exact nit c _ z
theorem Inv.tok (I : Inv X pins σ H s) (t : Nat) : Inv X pins σ H { s with toks := t } := I.un (h' := s.heap) (t' := t) Un.refl I.hok
theorem Inv.kept {t' : Nat} (I : Inv X pins σ H s) (k : ∀ b u, s.heap.get? b = some u → h'.get? b = some u) : Inv X pins σ H { s with heap := h', toks := t' } := I.un (Un.kept k) (I.hok.kept k)
theorem Inv.laid {a : Addr} {o : HO} {t' : Nat} (I : Inv X pins σ H s) (k : ∀ b u, s.heap.get? b = some u → h'.get? b = some u) (hp : s.heap.objs.size ≤ a) (new : ObjOk X.prog X.w (upd H a o) h' a o) :
    Inv X pins σ (upd H a o) { s with heap := h', toks := t' } := I.un (Un.laid k hp (I.hok.fresh hp)) (I.hok.laid k hp new)
theorem Inv.write {x e : Addr} {o : HO} {t' : Nat} (I : Inv X pins σ H s) (mu : Mut (H x)) (he : e = x ∨ H e = some (.own x)) (k : ∀ b u, b ≠ e → s.heap.get? b = some u → h'.get? b = some u) (heo : ∃ u, h'.get? e = some u)
    (new : ObjOk X.prog X.w (upd H x o) h' x o) : Inv X pins σ (upd H x o) { s with heap := h', toks := t' } := I.un (Un.write mu he k heo) (I.hok.write mu he k heo new)
theorem Inv.pins_of {pins' : List (Addr × Obj)} (I : Inv X pins σ H s) (h : ∀ p ∈ pins', s.heap.get? p.1 = some p.2 ∧ H p.1 = none ∧ p.1 ≠ X.env.locals ∧ p.1 ∉ X.fs ∧ ∀ v, p.2.data ≠ .cell v) : Inv X pins' σ H s :=
  ⟨I.ok, I.os, I.bare, I.base, I.loc, I.cell, I.free, I.freeC, fun p hp => (List.mem_append.mp hp).elim (fun z => I.pin p (List.mem_append_left _ z)) (h p), I.hok, I.len⟩

theorem nodup_ix {N : List Str} (hN : N.Nodup) {i j : Nat} {x : Str} (a : N[i]? = some x) (b : N[j]? = some x) : i = j := by
  obtain ⟨h1, e1⟩ := List.getElem?_eq_some_iff.mp a
  obtain ⟨h2, e2⟩ := List.getElem?_eq_some_iff.mp b
  exact (List.getElem_inj hN).mp (e1.trans e2.symm)

theorem store_ok2 {M : Model} {A : Around} {E : Value → Shared → Prop} {i : Nat} {x : Str} {v : V} {u : Value} {Q : Unit → Shared → Prop} (I : Inv X pins σ H s) (hN : X.N.Nodup) (hi : X.N[i]? = some x) (hx : Loc X.env.scope x) (r : RelV v u)
    (h : ∀ s', Inv X pins (σ.set i (some v)) H s' → (∃ a, Heap.SameBut a s.heap s'.heap ∧ (a = X.env.locals ∨ X.env.cells.lookup x = some a)) → Q () s') (hf : X.fn x = true ∨ X.env.scope.names.lookup x = some .local := by first | exact .inl rfl | exact .inr rfl | assumption) : wpAny M A (storeName X.env x u) Q E s := by
  obtain ⟨m, hn, hl⟩ := id I.loc
  have hcls : (X.env.scope.kind == .class || (X.env.scope.kind == .module && X.env.locals != X.env.globals)) = false := by rw [I.ok.kind]; rfl
  have hiσ : i < σ.length := by rw [I.len]; exact (List.getElem?_eq_some_iff.mp hi).1
  have cne := I.cne
  have tracked : ∀ {a : Addr} {h' : Heap}, (∃ o, s.heap.get? a = some o ∧ H a = none) → Heap.SameBut a s.heap h' → HOk X.prog X.w H h' := fun {a h'} ha hs b ob e => by
    obtain ⟨_, _, hfree⟩ := ha
    refine (I.hok b ob e).stay (fun c w' hc q => (hs.2 c ?_).trans q) (fun _ q => q) fun _ _ q => q
    rintro rfl
    rcases hc with rfl | hc
    · rw [hfree] at e; cases e
    · rw [hfree] at hc; cases hc
  rcases hx with hk | hk
  · refine wpAny_storeName_local hk hn (fun h' hn' hs => ?_) hcls
    obtain ⟨oL, _, _, hoL, _⟩ := id hn
    refine h _ ⟨I.ok, I.os, I.bare, ⟨fun b o e n hb hx => ?_, fun b o e n hb hx => ?_, I.base.free, fun b o e hx => ?_, I.base.tups, I.base.frzs, I.base.tbls⟩, ⟨_, hn', fun j y v' e1 e2 e3 => ?_⟩, fun y c e => ?_, I.free, I.freeC, fun p hp => ?_, tracked ⟨oL, hoL, I.free⟩ hs, by simpa using I.len⟩ ⟨_, hs, .inl rfl⟩
    · exact (hs.2 b (Nat.ne_of_lt (Nat.lt_of_lt_of_le (Heap.lt_size e) I.ok.above))).trans (I.base.keep b o e n hb hx)
    · obtain ⟨sl, e1⟩ := I.base.slot b o e n hb hx
      exact ⟨sl, (hs.2 b (Nat.ne_of_lt (Nat.lt_of_lt_of_le (Heap.lt_size e) I.ok.above))).trans e1⟩
    · obtain ⟨o', e1⟩ := I.base.there b o e hx
      exact ⟨o', (hs.2 b (Nat.ne_of_lt (Nat.lt_of_lt_of_le (Heap.lt_size e) I.ok.above))).trans e1⟩
    · by_cases hj : j = i
      · subst hj
        rw [hi] at e1; cases e1
        rw [List.getElem?_set_self hiσ] at e2
        cases e2
        exact ⟨u, r, .inl ⟨hk, by simp⟩⟩
      · rw [List.getElem?_set_ne (Ne.symm hj)] at e2
        obtain ⟨u', r', q⟩ := hl j y v' e1 e2 e3
        refine ⟨u', r', ?_⟩
        rcases q with ⟨k, e⟩ | ⟨k, c, e, z⟩
        · refine .inl ⟨k, ?_⟩
          have : y ≠ x := fun e => hj (nodup_ix hN e1 (e ▸ hi))
          simp [this, e]
        · exact .inr ⟨k, c, e, z.sameBut hs (cne y c e)⟩
    · obtain ⟨w', z⟩ := I.cell y c e
      exact ⟨w', z.sameBut hs (cne y c e)⟩
    · obtain ⟨e, n, ne, nf, d⟩ := I.pin p hp
      exact ⟨(hs.2 p.1 ne).trans e, n, ne, nf, d⟩
  · have hfn : X.fn x = true := by
      rcases hf with z | z
      · exact z
      · rw [z] at hk; cases hk
    obtain ⟨c, hc⟩ := I.ok.has x (.inl hk)
    obtain ⟨w', z⟩ := I.cell x c hc
    refine wpAny_storeName_cell I.ok.kind hk hc z (fun h' hc' hs => ?_)
    obtain ⟨oc, hoc, hocd⟩ := id z
    refine h { s with heap := h' } ⟨I.ok, I.os, I.bare, ⟨fun b o e n hb hx => ?_, fun b o e n hb hx => ?_, I.base.free, fun b o e hx => ?_, I.base.tups, I.base.frzs, I.base.tbls⟩, ⟨m, hn.sameBut hs (Ne.symm (cne x c hc)), fun j y v' e1 e2 e3 => ?_⟩, fun y c' e => ?_, I.free, I.freeC, fun p hp => ?_, tracked ⟨oc, hoc, I.freeC x c hc⟩ hs, by simpa using I.len⟩ ⟨c, hs, .inr hc⟩
    · exact (hs.2 b (Nat.ne_of_lt (Nat.lt_of_lt_of_le (Heap.lt_size e) (I.ok.cab x c hfn hc)))).trans (I.base.keep b o e n hb hx)
    · obtain ⟨sl, e1⟩ := I.base.slot b o e n hb hx
      exact ⟨sl, (hs.2 b (Nat.ne_of_lt (Nat.lt_of_lt_of_le (Heap.lt_size e) (I.ok.cab x c hfn hc)))).trans e1⟩
    · obtain ⟨o', e1⟩ := I.base.there b o e hx
      exact ⟨o', (hs.2 b (Nat.ne_of_lt (Nat.lt_of_lt_of_le (Heap.lt_size e) (I.ok.cab x c hfn hc)))).trans e1⟩
    · by_cases hj : j = i
      · subst hj
        rw [hi] at e1; cases e1
        rw [List.getElem?_set_self hiσ] at e2
        cases e2
        exact ⟨u, r, .inr ⟨.inl hk, c, hc, hc'⟩⟩
      · rw [List.getElem?_set_ne (Ne.symm hj)] at e2
        obtain ⟨u', r', q⟩ := hl j y v' e1 e2 e3
        refine ⟨u', r', ?_⟩
        rcases q with q | ⟨k, c', e, z'⟩
        · exact .inl q
        · refine .inr ⟨k, c', e, z'.sameBut hs ?_⟩
          rintro rfl
          exact hj (nodup_ix hN e1 (I.ok.inj _ _ _ e hc ▸ hi))
    · by_cases hcc : c' = c
      · subst hcc; exact ⟨_, hc'⟩
      · obtain ⟨w2, z2⟩ := I.cell y c' e
        exact ⟨w2, z2.sameBut hs hcc⟩
    · obtain ⟨e, n, ne, nf, d⟩ := I.pin p hp
      refine ⟨(hs.2 p.1 ?_).trans e, n, ne, nf, d⟩
      intro q
      rw [q, hoc] at e
      have q' : oc = p.2 := Option.some.inj e
      exact d w' (by rw [← q']; exact hocd)
theorem store_ok {M : Model} {A : Around} {E : Value → Shared → Prop} {i : Nat} {x : Str} {v : V} {u : Value} {Q : Unit → Shared → Prop} (I : Inv X pins σ H s) (hN : X.N.Nodup) (hi : X.N[i]? = some x) (hx : Loc X.env.scope x) (r : RelV v u)
    (h : ∀ s', Inv X pins (σ.set i (some v)) H s' → Q () s') (hf : X.fn x = true ∨ X.env.scope.names.lookup x = some .local := by first | exact .inl rfl | exact .inr rfl | assumption) : wpAny M A (storeName X.env x u) Q E s :=
  store_ok2 I hN hi hx r (fun s' I' _ => h s' I') hf
theorem Inv.call' {s' : Shared} {ch : List Addr} (I : Inv X pins σ H s) (ho : s'.os = s.os) (u : Un (frs X.stack) ch H H' s.heap s'.heap) (hok : HOk X.prog X.w H' s'.heap) (hg : AllBare s'.gens)
    (hch : ∀ b ∈ ch, (b ∈ X.ex ∨ X.s₀.heap.objs.size ≤ b) ∧ b ≠ X.env.locals ∧ (∀ x c, X.env.cells.lookup x = some c → c ≠ b) ∧ ∀ p ∈ X.pn ++ pins, p.1 ≠ b) : Inv X pins σ H' s' := by
  obtain ⟨h', g', d', t', o'⟩ := s'
  have e : o' = s.os := ho
  subst e
  exact I.call (g' := g') (t' := t') (d' := d') u hok hg hch
end

noncomputable abbrev XK := Value → Option Addr → Hp → Prop
noncomputable abbrev St := List (Option V)
noncomputable abbrev VK := V → Hp → Prop
noncomputable abbrev TE := St → Hp → VK → Prop
noncomputable abbrev TT := St → Hp → (Bool → Hp → Prop) → Prop
noncomputable abbrev TA := St → Hp → (List V → Hp → Prop) → Prop
structure Ends where
  nx : St → Hp → Prop
  rt : VK
  bk : St → Hp → Prop := fun _ _ => False
  ct : St → Hp → Prop := fun _ _ => False
noncomputable abbrev TS := Ends → St → Hp → Prop

noncomputable def EP (X : Cx) (pins : List (Addr × Obj)) (σ : St) (Q : VK) (u : Value) (s' : Shared) : Prop := ∃ v H', Inv X pins σ H' s' ∧ RelV v u ∧ Q v H'
noncomputable def TP (X : Cx) (pins : List (Addr × Obj)) (σ : St) (Q : Bool → Hp → Prop) (b : Bool) (s' : Shared) : Prop := ∃ H', Inv X pins σ H' s' ∧ Q b H'
noncomputable def AP (X : Cx) (pins : List (Addr × Obj)) (σ : St) (Q : List V → Hp → Prop) (us : List Value) (s' : Shared) : Prop := ∃ vs H', Inv X pins σ H' s' ∧ Vals vs us ∧ Q vs H'
noncomputable def SP (X : Cx) (pins : List (Addr × Obj)) (D : Ends) (f : Flow) (s' : Shared) : Prop :=
  match f with
  | .next => ∃ σ' H', Inv X pins σ' H' s' ∧ D.nx σ' H'
  | .brk => ∃ σ' H', Inv X pins σ' H' s' ∧ D.bk σ' H'
  | .cont => ∃ σ' H', Inv X pins σ' H' s' ∧ D.ct σ' H'
  | .ret u => ∃ v σ' H', Inv X pins σ' H' s' ∧ RelV v u ∧ D.rt v H'

noncomputable def PE (X : Cx) (e : Expr) (t : TE) : Prop :=
  ∀ (pins : List (Addr × Obj)) (s : Shared) (σ : St) (H : Hp) (Q : VK), Inv X pins σ H s → t σ H Q → wpAny (model X.prog X.w) X.A (eval e X.env) (EP X pins σ Q) X.xe s
noncomputable def PT (X : Cx) (e : Expr) (t : TT) : Prop :=
  ∀ (pins : List (Addr × Obj)) (s : Shared) (σ : St) (H : Hp) (Q : Bool → Hp → Prop), Inv X pins σ H s → t σ H Q → wpAny (model X.prog X.w) X.A (isTrue e X.env (eval e X.env)) (TP X pins σ Q) X.xe s
noncomputable def PW (X : Cx) (e : Expr) (t : TT) : Prop :=
  ∀ (whole : Sem Value) (pins : List (Addr × Obj)) (s : Shared) (σ : St) (H : Hp) (Q : Bool → Hp → Prop), Inv X pins σ H s → t σ H Q → wpAny (model X.prog X.w) X.A (isTrue e X.env whole) (TP X pins σ Q) X.xe s
theorem PW.pt {X : Cx} {e : Expr} {t : TT} (h : PW X e t) : PT X e t := h _
noncomputable def PA (X : Cx) (es : List Expr) (t : TA) : Prop :=
  ∀ (pos : Pos) (pins : List (Addr × Obj)) (s : Shared) (σ : St) (H : Hp) (Q : List V → Hp → Prop), Inv X pins σ H s → t σ H Q → wpAny (model X.prog X.w) X.A (spliced (backTo pos (starEach es X.env))) (AP X pins σ Q) X.xe s
noncomputable def PS (X : Cx) (st : Stmt) (t : TS) : Prop :=
  ∀ (pins : List (Addr × Obj)) (s : Shared) (σ : St) (H : Hp) (D : Ends), Inv X pins σ H s → t D σ H → wpAny (model X.prog X.w) X.A (exec st X.env) (SP X pins D) X.xe s
noncomputable def PSs (X : Cx) (st : List Stmt) (t : TS) : Prop :=
  ∀ (pins : List (Addr × Obj)) (s : Shared) (σ : St) (H : Hp) (D : Ends), Inv X pins σ H s → t D σ H → wpAny (model X.prog X.w) X.A (execs st X.env) (SP X pins D) X.xe s
theorem thn {α : Type} {t : Sem α} {Q Q' : α → Shared → Prop} {M : Model} {A : Around} {E : Value → Shared → Prop} {s : Shared} (h : wpAny M A t Q E s) (hQ : ∀ a s, Q a s → Q' a s) : wpAny M A t Q' E s := wpAny_mono h hQ fun _ _ x => x
end L2

namespace L2
open PySem PySem.Spec PyProof.Rows
section
variable {X : Cx}

theorem bin {a b : Expr} {ta tb : TE} (ha : PE X a ta) (hb : PE X b tb) {pins : List (Addr × Obj)} {s : Shared} {σ : St} {H : Hp} {R : V → V → Hp → Prop} (I : Inv X pins σ H s) (h : ta σ H fun x H1 => tb σ H1 fun y H2 => R x y H2)
    {α : Type} {Q : α → Shared → Prop} {f : Value → Value → Sem α}
    (hf : ∀ v u s2 x y H2, Inv X pins σ H2 s2 → RelV x v → RelV y u → R x y H2 → wpAny (model X.prog X.w) X.A (f v u) Q X.xe s2) :
    wpAny (model X.prog X.w) X.A (eval a X.env) (fun v s₁ => wpAny (model X.prog X.w) X.A (eval b X.env) (fun u s₂ => wpAny (model X.prog X.w) X.A (f v u) Q X.xe s₂) X.xe s₁) X.xe s := by
  refine thn (ha pins s σ H _ I h) fun v s1 ⟨x, H1, I1, r1, q1⟩ => ?_
  refine thn (hb pins s1 σ H1 _ I1 q1) fun u s2 ⟨y, H2, I2, r2, q2⟩ => ?_
  exact hf v u s2 x y H2 I2 r1 r2 q2

noncomputable def tVar (i : Nat) : TE := fun σ H Q => ∃ v, σ[i]? = some (some v) ∧ Q v H
noncomputable def tC (v : V) : TE := fun _ H Q => Q v H
theorem pe_var {i : Nat} {x : Str} {pos : Pos} (hN : X.N[i]? = some x) (hv : Vis X.env.scope x) (hd : (x == ("__debug__" : Str)) = false := by decide) (hcd : (x == ("__classdict__" : Str)) = false := by decide) : PE X (.Name x pos) (tVar i) := by
  intro pins s σ H Q I h
  obtain ⟨v, e, h⟩ := h
  obtain ⟨m, hn, hl⟩ := I.loc
  obtain ⟨u, r, l⟩ := hl i x v hN e hv
  have fin : EP X pins σ Q u s := ⟨v, H, I, r, h⟩
  rcases l with ⟨hk, hm⟩ | ⟨hk, c, hc, hcell⟩
  · exact wpAny_Name (wpAny_loadName_local I.ok.kind hk hn hm fin) hd
  · rcases hk with hk | hk
    · exact wpAny_Name (wpAny_loadName_cell I.ok.kind hk hc hcell fin) hd
    · exact wpAny_Name (wpAny_loadName_free I.ok.kind hk hc hcell fin hcd) hd
theorem pe_int {i j pos} : PE X (.Constant (.int i) j pos) (tC (.int i)) := fun _ _ _ H _ I h => wpAny_Constant_int ⟨.int i, H, I.tok _, ⟨_, rfl⟩, h⟩
theorem pe_bl {b j pos} : PE X (.Constant (.bool b) j pos) (tC (.bl b)) := fun _ _ _ H _ I h => Constant_bool ⟨.bl b, H, I, rfl, h⟩
theorem pe_non {j pos} : PE X (.Constant .none j pos) (tC .non) := fun _ _ _ H _ I h => Constant_none ⟨.non, H, I, rfl, h⟩
theorem pe_str {x j pos} : PE X (.Constant (.str x) j pos) (tC (.str x)) := fun _ _ _ H _ I h => Calls.Constant_str ⟨.str x, H, I.tok _, ⟨_, rfl⟩, h⟩

noncomputable def Gl (X : Cx) (x : Str) : Prop := X.env.kindOf x = some .globalImplicit
theorem ld_glob {E : Value → Shared → Prop} {pins : List (Addr × Obj)} {s : Shared} {σ : St} {H : Hp} {x : Str} {u : Value} {pos : Pos} {Q : Value → Shared → Prop} (I : Inv X pins σ H s) (hg : Gl X x) (hm : X.mg x = some u) (h : Q u s)
    (hd : (x == ("__debug__" : Str)) = false := by decide) : wpAny (model X.prog X.w) X.A (eval (.Name x pos) X.env) Q E s :=
  Calls.Name_function_global I.ok.kind hg (Calls.loadGlobal_global (by rw [I.ok.glob]; exact I.mod.glob.keeps I.bk) hm h) hd
theorem ld_blt {E : Value → Shared → Prop} {pins : List (Addr × Obj)} {s : Shared} {σ : St} {H : Hp} {x : Str} {u : Value} {pos : Pos} {Q : Value → Shared → Prop} (I : Inv X pins σ H s) (hg : Gl X x) (hm : X.mg x = none) (hv : bootBuiltins x = some u) (h : Q u s)
    (hn : x ≠ "__name__" := by decide) (hd : (x == ("__debug__" : Str)) = false := by decide) : wpAny (model X.prog X.w) X.A (eval (.Name x pos) X.env) Q E s := by
  obtain ⟨mb, h1, h2⟩ := I.mod.blt
  exact Calls.Name_function_global I.ok.kind hg (Calls.loadGlobal_builtin (by rw [I.ok.glob]; exact I.mod.glob.keeps I.bk) hm (by rw [I.ok.blt]; exact h1.keeps I.bk) ((h2 x hn).trans hv) h) hd
theorem pe_bltn {x : Str} {v : V} {u : Value} {pos : Pos} (hg : Gl X x) (hm : X.mg x = none) (hv : bootBuiltins x = some u) (r : RelV v u) (hn : x ≠ "__name__" := by decide) (hd : (x == ("__debug__" : Str)) = false := by decide) : PE X (.Name x pos) (tC v) :=
  fun _ _ _ H _ I h => ld_blt I hg hm hv ⟨v, H, I, r, h⟩ hn hd

noncomputable def t2I (ta tb : TE) (k : Int → Int → Hp → Prop) : St → Hp → Prop := fun σ H => ta σ H fun x H1 => tb σ H1 fun y H2 => ∃ i j, x = .int i ∧ y = .int j ∧ k i j H2
noncomputable def tAdd (ta tb : TE) : TE := fun σ H Q => t2I ta tb (fun i j H2 => Q (.int (i + j)) H2) σ H
noncomputable def tSub (ta tb : TE) : TE := fun σ H Q => t2I ta tb (fun i j H2 => Q (.int (i - j)) H2) σ H
noncomputable def tMul (ta tb : TE) : TE := fun σ H Q => t2I ta tb (fun i j H2 => (-(2 ^ 64) < i ∧ i < 2 ^ 64) ∧ Q (.int (i * j)) H2) σ H
variable {a b : Expr} {ta tb : TE} {pos : Pos}
noncomputable def PC (X : Cx) (op : CmpOp) (a b : Expr) (t : TE) : Prop :=
  ∀ (pins : List (Addr × Obj)) (s : Shared) (σ : St) (H : Hp) (Q : VK), Inv X pins σ H s → t σ H Q →
    wpAny (model X.prog X.w) X.A (eval a X.env) (fun v s₁ => wpAny (model X.prog X.w) X.A (eval b X.env) (fun u s₂ => wpAny (model X.prog X.w) X.A (compareOp op v u) (EP X pins σ Q) X.xe s₂) X.xe s₁) X.xe s
noncomputable def tCmp (p : Int → Int → Bool) (ta tb : TE) : TE := fun σ H Q => t2I ta tb (fun i j H2 => Q (.bl (p i j)) H2) σ H
noncomputable abbrev tLt : TE → TE → TE := tCmp fun i j => decide (i < j)
noncomputable abbrev tLe : TE → TE → TE := tCmp fun i j => decide (i ≤ j)
noncomputable abbrev tGt : TE → TE → TE := tCmp fun i j => decide (j < i)
noncomputable abbrev tGe : TE → TE → TE := tCmp fun i j => decide (j ≤ i)
noncomputable abbrev tEqI : TE → TE → TE := tCmp fun i j => decide (i = j)
noncomputable abbrev tNeI : TE → TE → TE := tCmp fun i j => !decide (i = j)
noncomputable def tIsN (ta : TE) : TE := fun σ H Q => ta σ H fun x H1 => Q (.bl (decide (x = .non))) H1
noncomputable def tNotN (ta : TE) : TE := fun σ H Q => ta σ H fun x H1 => Q (.bl (!decide (x = .non))) H1
noncomputable def tB (t : TE) : TT := fun σ H Q => t σ H fun x H1 => ∃ c, x = .bl c ∧ Q c H1
theorem pt_cmp {op : CmpOp} {t : TE} (h : PC X op a b t) (h1 : behindInMarks op b = false := by first | exact nobehind _ (by decide) (by decide) | rfl) : PT X (.Compare a [op] [b] pos) (tB t) := by
  intro pins s σ H Q I hw
  refine wpAny_isTrue_Compare1 (thn (h pins s σ H _ I hw) fun v s1 h1 => thn h1 fun u s2 h2 => thn h2 fun c s3 ⟨x, H1, I1, r1, q1⟩ => ?_) h1
  obtain ⟨d, rfl, q⟩ := q1
  cases r1
  exact wpAny_truthy_bool ⟨H1, I1, q⟩
theorem pt_val {e : Expr} {t : TE} (h : PE X e t) (he : ∀ whole, isTrue e X.env whole = (do let v ← whole; standAt e.pos; holding [v] (truthy v)) := by intro _; rfl) : PT X e (tB t) := by
  intro pins s σ H Q I hw
  refine isTrue_plain (thn (h pins s σ H _ I hw) fun v s1 ⟨x, H1, I1, r1, q1⟩ => ?_) (he _)
  obtain ⟨d, rfl, q⟩ := q1
  cases r1
  exact wpAny_truthy_bool ⟨H1, I1, q⟩

variable {tA tB' : TT} {rest : List Expr}
noncomputable def tAnd (t u : TT) : TT := fun σ H Q => t σ H fun c H1 => if c = true then u σ H1 Q else Q false H1
noncomputable def tOr (t u : TT) : TT := fun σ H Q => t σ H fun c H1 => if c = true then Q true H1 else u σ H1 Q
noncomputable def tNot (t : TT) : TT := fun σ H Q => t σ H fun c H1 => Q (!c) H1
theorem pw_and1 (ha : PT X a tA) : PW X (.BoolOp .And [a] pos) tA := by
  intro wh pins s σ H Q I h
  refine isTrue_and (thn (ha pins s σ H Q I h) fun c s1 e => ?_)
  cases c with
  | true => exact isTrue_and_nil e
  | false => exact e
theorem pw_or1 (ha : PT X a tA) : PW X (.BoolOp .Or [a] pos) tA := by
  intro wh pins s σ H Q I h
  refine isTrue_or (thn (ha pins s σ H Q I h) fun c s1 e => ?_)
  cases c with
  | false => exact isTrue_or_nil e
  | true => exact e
theorem pw_and (ha : PT X a tA) (hb : PW X (.BoolOp .And (b :: rest) pos) tB') : PW X (.BoolOp .And (a :: b :: rest) pos) (tAnd tA tB') := by
  intro wh pins s σ H Q I h
  refine isTrue_and (thn (ha pins s σ H _ I h) fun c s1 ⟨H1, I1, q1⟩ => ?_)
  cases c with
  | true => exact hb wh pins s1 σ H1 Q I1 q1
  | false => exact ⟨H1, I1, q1⟩
theorem pw_or (ha : PT X a tA) (hb : PW X (.BoolOp .Or (b :: rest) pos) tB') : PW X (.BoolOp .Or (a :: b :: rest) pos) (tOr tA tB') := by
  intro wh pins s σ H Q I h
  refine isTrue_or (thn (ha pins s σ H _ I h) fun c s1 ⟨H1, I1, q1⟩ => ?_)
  cases c with
  | true => exact ⟨H1, I1, q1⟩
  | false => exact hb wh pins s1 σ H1 Q I1 q1
theorem pt_not (ha : PT X a tA) : PT X (.UnaryOp .Not a pos) (tNot tA) := by
  intro pins s σ H Q I h
  exact isTrue_not (ha pins s σ H (fun c H1 => Q (!c) H1) I h)
noncomputable def tAndV (ta tb : TE) : TE := fun σ H Q => ta σ H fun x H1 => ∃ c, x = .bl c ∧ if c = true then tb σ H1 Q else Q (.bl false) H1
noncomputable def tOrV (ta tb : TE) : TE := fun σ H Q => ta σ H fun x H1 => ∃ c, x = .bl c ∧ if c = true then Q (.bl true) H1 else tb σ H1 Q
noncomputable def tNotV (ta : TE) : TE := fun σ H Q => ta σ H fun x H1 => ∃ c, x = .bl c ∧ Q (.bl (!c)) H1
theorem pe_one {op} {t : TE} (h : PE X a t) : PE X (.BoolOp op [a] pos) t := fun pins s σ H Q I hw => BoolOp_one (h pins s σ H Q I hw)
theorem pe_and (ha : PE X a ta) (hb : PE X (.BoolOp .And (b :: rest) pos) tb) : PE X (.BoolOp .And (a :: b :: rest) pos) (tAndV ta tb) := by
  intro pins s σ H Q I h
  refine BoolOp_and (thn (ha pins s σ H _ I h) fun v s1 ⟨x, H1, I1, r1, q1⟩ => ?_)
  obtain ⟨c, rfl, q1⟩ := q1
  cases r1
  refine wpAny_truthy_bool ?_
  cases c with
  | true => exact hb pins s1 σ H1 Q I1 q1
  | false => exact ⟨.bl false, H1, I1, rfl, q1⟩
theorem pe_not (ha : PE X a ta) : PE X (.UnaryOp .Not a pos) (tNotV ta) := by
  intro pins s σ H Q I h
  refine UnaryOp_ (thn (ha pins s σ H _ I h) fun v s1 ⟨x, H1, I1, r1, q1⟩ => ?_)
  obtain ⟨c, rfl, q1⟩ := q1
  cases r1
  exact not_of (wpAny_truthy_bool ⟨.bl (!c), H1, I1, rfl, q1⟩)
noncomputable def tIf (t : TT) (ta tb : TE) : TE := fun σ H Q => t σ H fun c H1 => if c = true then ta σ H1 Q else tb σ H1 Q
theorem pe_ifExp {c : Expr} (hc : PT X c tA) (ha : PE X a ta) (hb : PE X b tb) : PE X (.IfExp c a b pos) (tIf tA ta tb) := by
  intro pins s σ H Q I h
  refine wpAny_IfExp (thn (hc pins s σ H _ I h) fun d s1 ⟨H1, I1, q1⟩ => ?_)
  cases d with
  | true => exact ha pins s1 σ H1 Q I1 q1
  | false => exact hb pins s1 σ H1 Q I1 q1
end
end L2

namespace L2
open PySem PySem.Spec PyProof.Rows

noncomputable def SqL (K : PySem.W.Frag) (H : Hp) (a : Addr) (xs : List V) : Prop :=
  Rd H a (.lst xs) ∨
    ∃ (o : Obj) (its : Array Value) (n : Nat), K.lookup a = some o ∧ o.cls = .type "list" ∧ o.dict = none ∧ o.data = .seq its n ∧ its.size ≤ sizeLine ∧ Vals xs its.toList
noncomputable def SqT (K : PySem.W.Frag) (H : Hp) (a : Addr) (xs : List V) : Prop :=
  Rd H a (.tup xs) ∨
    ∃ (o : Obj) (its : Array Value) (n : Nat), K.lookup a = some o ∧ o.cls = .type "tuple" ∧ o.data = .seq its n ∧ its.size ≤ sizeLine ∧ Vals xs its.toList
noncomputable def absV : Value → Option V
  | .none => some .non
  | .bool b => some (.bl b)
  | .int i _ => some (.int i)
  | .str x _ => some (.str x)
  | .bytes b _ => some (.byt b)
  | .float b _ => some (.flt b)
  | .ref a => some (.ref a)
  | .type n => some (.ty n)
  | _ => none
theorem RelV.abs {x : V} {u : Value} (r : RelV x u) : absV u = some x := by
  cases x with
  | non => cases r; rfl
  | bl _ => cases r; rfl
  | int _ => obtain ⟨t, rfl⟩ := r; rfl
  | str _ => obtain ⟨t, rfl⟩ := r; rfl
  | byt _ => obtain ⟨t, rfl⟩ := r; rfl
  | flt _ => obtain ⟨t, rfl⟩ := r; rfl
  | ref _ => cases r; rfl
  | ty _ => cases r; rfl
theorem RelV.inj {x y : V} {u : Value} (r : RelV x u) (q : RelV y u) : x = y := Option.some.inj (r.abs.symm.trans q.abs)
theorem Vals.inj : ∀ {xs ys : List V} {us : List Value}, Vals xs us → Vals ys us → xs = ys
  | _, _, _, .nil, .nil => rfl
  | _, _, _, .cons r t, .cons r' t' => by rw [r.inj r', Vals.inj t t']
section
variable {X : Cx} {pins : List (Addr × Obj)} {σ : St} {H : Hp} {s : Shared} {a : Addr} {xs ys : List V}
theorem SqL.of {K : PySem.W.Frag} (h : H a = some (.lst xs)) : SqL K H a xs := .inl (.inl h)
theorem SqT.of {K : PySem.W.Frag} (h : H a = some (.tup xs)) : SqT K H a xs := .inl (.inl h)
theorem Inv.list (I : Inv X pins σ H s) (h : SqL X.K H a xs) : ∃ its : List Value, Vals xs its ∧ PlainL s.heap a its.toArray ∧ xs.length ≤ sizeLine := by
  rcases h with h | ⟨o, its, n, hk, hc, hd, hs, hz, r⟩
  · obtain ⟨z, its, n, r, e⟩ := h.ok I.hok
    exact ⟨its, r, ⟨_, n, e, rfl, rfl, rfl⟩, z⟩
  · refine ⟨its.toList, r, ⟨o, n, I.kIn a o hk, hc, hd, by simpa using hs⟩, ?_⟩
    have e := r.length
    simp only [Array.length_toList] at e
    (first | lia | omega)
theorem Inv.tuple (I : Inv X pins σ H s) (h : SqT X.K H a xs) : ∃ its : List Value, Vals xs its ∧ IsTup s.heap a its.toArray ∧ xs.length ≤ sizeLine := by
  rcases h with h | ⟨o, its, n, hk, hc, hs, hz, r⟩
  · obtain ⟨z, its, r, p⟩ := h.ok I.hok
    exact ⟨its, r, p, z⟩
  · refine ⟨its.toList, r, ⟨o, I.kIn a o hk, hc, n, by simpa using hs⟩, ?_⟩
    have e := r.length
    simp only [Array.length_toList] at e
    (first | lia | omega)
theorem Inv.list_inj (I : Inv X pins σ H s) (h : SqL X.K H a xs) (h' : SqL X.K H a ys) : xs = ys := by
  obtain ⟨its, r, ⟨o, n, e, _, _, d⟩, _⟩ := I.list h
  obtain ⟨its', r', ⟨o', n', e', _, _, d'⟩, _⟩ := I.list h'
  rw [e] at e'; cases e'
  rw [d] at d'
  injection d' with d1 _
  have : its = its' := by simpa using congrArg Array.toList d1
  subst this
  exact r.inj r'
theorem Inv.tuple_inj (I : Inv X pins σ H s) (h : SqT X.K H a xs) (h' : SqT X.K H a ys) : xs = ys := by
  obtain ⟨its, r, ⟨o, e, _, n, d⟩, _⟩ := I.tuple h
  obtain ⟨its', r', ⟨o', e', _, n', d'⟩, _⟩ := I.tuple h'
  rw [e] at e'; cases e'
  rw [d] at d'
  injection d' with d1 _
  have : its = its' := by simpa using congrArg Array.toList d1
  subst this
  exact r.inj r'
end

noncomputable abbrev Cx.wish (X : Cx) (E : Value → Shared → Prop) : Cx := { X with xe := E }
noncomputable abbrev Cx.nox (X : Cx) : Cx := X.wish fun _ _ => False
theorem Cx.Ok.wish {X : Cx} (ok : X.Ok) (E : Value → Shared → Prop) : (X.wish E).Ok :=
  ⟨ok.mod, ok.kind, ok.glob, ok.blt, ok.above, ok.inj, ok.has, ok.cab, ok.hd, ok.frames, ok.stk, ok.exf, ok.bs, ok.bsz, ok.noex, ok.exfs, ok.funs, ok.frf⟩
theorem Cx.Ok.unwish {X : Cx} {E : Value → Shared → Prop} (ok : (X.wish E).Ok) : X.Ok :=
  ⟨ok.mod, ok.kind, ok.glob, ok.blt, ok.above, ok.inj, ok.has, ok.cab, ok.hd, ok.frames, ok.stk, ok.exf, ok.bs, ok.bsz, ok.noex, ok.exfs, ok.funs, ok.frf⟩
section
variable {X : Cx} {pins : List (Addr × Obj)} {σ : St} {H : Hp} {s : Shared} {E : Value → Shared → Prop}
theorem Inv.wish (I : Inv X pins σ H s) (E : Value → Shared → Prop) : Inv (X.wish E) pins σ H s := ⟨I.ok.wish E, I.os, I.bare, I.base, I.loc, I.cell, I.free, I.freeC, I.pin, I.hok, I.len⟩
theorem Inv.unwish (I : Inv (X.wish E) pins σ H s) : Inv X pins σ H s := ⟨I.ok.unwish, I.os, I.bare, I.base, I.loc, I.cell, I.free, I.freeC, I.pin, I.hok, I.len⟩
theorem SP.unwish {D : Ends} {f : Flow} {s' : Shared} (h : SP (X.wish E) pins D f s') : SP X pins D f s' := by
  cases f with
  | next => obtain ⟨σ', H', I, q⟩ := h; exact ⟨σ', H', I.unwish, q⟩
  | brk => obtain ⟨σ', H', I, q⟩ := h; exact ⟨σ', H', I.unwish, q⟩
  | cont => obtain ⟨σ', H', I, q⟩ := h; exact ⟨σ', H', I.unwish, q⟩
  | ret u => obtain ⟨v, σ', H', I, r, q⟩ := h; exact ⟨v, σ', H', I.unwish, r, q⟩
theorem PSs.nox {st : List Stmt} {t : TS} (h : PSs X.nox st t) : PSs X st t := fun pins s σ H D I hw =>
  wpAny_mono (h pins s σ H D (I.wish _) hw) (fun _ _ q => q.unwish) fun _ _ z => False.elim z
end

section
variable {X : Cx} {st : Stmt} {rest : List Stmt} {t u : TS} {e : Expr} {te : TE} {pos : Pos}
noncomputable def tNext : TS := fun D σ H => D.nx σ H
noncomputable def tSeq (t u : TS) : TS := fun D σ H => t { D with nx := u D } σ H
theorem pss_nil : PSs X [] tNext := fun _ _ σ H _ I h => wpAny_execs_nil ⟨σ, H, I, h⟩
theorem pss_cons (h1 : PS X st t) (h2 : PSs X rest u) : PSs X (st :: rest) (tSeq t u) := by
  intro pins s σ H D I h
  refine wpAny_execs_cons (thn (h1 pins s σ H { D with nx := u D } I h) fun f s1 q => ?_)
  cases f with
  | next =>
    obtain ⟨σ', H', I', q⟩ := q
    exact h2 pins s1 σ' H' D I' q
  | ret v => exact q
  | brk => exact q
  | cont => exact q
theorem pss_one (h1 : PS X st t) : PSs X [st] t := by
  intro pins s σ H D I h
  refine wpAny_execs_cons (thn (h1 pins s σ H D I h) fun f s1 q => ?_)
  cases f with
  | next => exact wpAny_execs_nil q
  | ret v => exact q
  | brk => exact q
  | cont => exact q
noncomputable def tBreak : TS := fun D σ H => D.bk σ H
noncomputable def tCont : TS := fun D σ H => D.ct σ H
theorem Inv.quiet {pins : List (Addr × Obj)} {σ : St} {H : Hp} {s : Shared} (I : Inv X pins σ H s) : interactive X.env = false := by simp [interactive, I.ok.kind]
noncomputable def tDrop (te : TE) : TS := fun D σ H => te σ H fun _ H1 => D.nx σ H1
theorem ps_expr (he : PE X e te) (hs : swapsWith e none pos.line X.env = pure false := by rfl) : PS X (.Expr e pos) (tDrop te) := by
  intro pins s σ H D I h
  exact wpAny_Expr_any (thn (he pins s σ H _ I h) fun v s1 ⟨x, H1, I1, r1, q1⟩ => ⟨σ, H1, I1, q1⟩) I.quiet hs
noncomputable def tRet (te : TE) : TS := fun D σ H => te σ H D.rt
theorem ps_ret (he : PE X e te) : PS X (.Return (some e) pos) (tRet te) := by
  intro pins s σ H D I h
  exact wpAny_Return_some (thn (he pins s σ H _ I h) fun v s1 ⟨x, H1, I1, r1, q1⟩ => ⟨x, σ, H1, I1, r1, q1⟩)
noncomputable def tRetN : TS := fun D _ H => D.rt .non H
noncomputable def tIfS (c : TT) (t u : TS) : TS := fun D σ H => c σ H fun b H1 => if b = true then t D σ H1 else u D σ H1
theorem ps_if {c : Expr} {a b : List Stmt} {tc : TT} (hc : PT X c tc) (ha : PSs X a t) (hb : PSs X b u) : PS X (.If c a b pos) (tIfS tc t u) := by
  intro pins s σ H D I h
  refine wpAny_If (thn (hc pins s σ H _ I h) fun d s1 ⟨H1, I1, q1⟩ => ?_)
  cases d with
  | true => exact ha pins s1 σ H1 D I1 q1
  | false => exact hb pins s1 σ H1 D I1 q1
noncomputable def tNever : TS := fun _ _ _ => False
theorem ps_never : PS X st tNever := fun _ _ _ _ _ _ h => h.elim
end

noncomputable abbrev TG := V → St → Hp → (St → Hp → Prop) → Prop
noncomputable abbrev TGs := List V → St → Hp → (St → Hp → Prop) → Prop
noncomputable def PG (X : Cx) (target : Expr) (t : TG) : Prop :=
  ∀ (pins : List (Addr × Obj)) (s : Shared) (σ : St) (H : Hp) (v : V) (u : Value) (Q : St → Hp → Prop), Inv X pins σ H s → RelV v u → t v σ H Q →
    wpAny (model X.prog X.w) X.A (assign target X.env u) (fun _ s' => ∃ σ' H', Inv X pins σ' H' s' ∧ Q σ' H') X.xe s
noncomputable def PGs (X : Cx) (ts : List Expr) (t : TGs) : Prop :=
  ∀ (pins : List (Addr × Obj)) (s : Shared) (σ : St) (H : Hp) (vs : List V) (us : List Value) (Q : St → Hp → Prop), Inv X pins σ H s → Vals vs us → t vs σ H Q →
    wpAny (model X.prog X.w) X.A (assignInOrder ((assignEach ts X.env).map (·.2)) us) (fun _ s' => ∃ σ' H', Inv X pins σ' H' s' ∧ Q σ' H') X.xe s
noncomputable abbrev TSet := V → V → V → Hp → (Hp → Prop) → Prop
noncomputable def PSet (X : Cx) (t : TSet) : Prop :=
  ∀ (pins : List (Addr × Obj)) (s : Shared) (σ : St) (H : Hp) (o i v : V) (ov iv u : Value) (Q : Hp → Prop), Inv X pins σ H s → RelV o ov → RelV i iv → RelV v u → t o i v H Q →
    wpAny (model X.prog X.w) X.A (setItem ov iv u) (fun _ s' => ∃ H', Inv X pins σ H' s' ∧ Q H') X.xe s
noncomputable abbrev TIp := V → V → Hp → VK → Prop
noncomputable def PIp (X : Cx) (op : Operator) (t : TIp) : Prop :=
  ∀ (pins : List (Addr × Obj)) (s : Shared) (σ : St) (H : Hp) (x y : V) (v u : Value) (Q : VK), Inv X pins σ H s → RelV x v → RelV y u → t x y H Q →
    wpAny (model X.prog X.w) X.A (inplaceOp op v u) (EP X pins σ Q) X.xe s
section
variable {X : Cx} {pos : Pos}
noncomputable def gName (i : Nat) : TG := fun v σ H Q => Q (σ.set i (some v)) H
theorem pg_name {i : Nat} {x : Str} (hN : X.N.Nodup) (hi : X.N[i]? = some x) (hx : Loc X.env.scope x) (hf : X.fn x = true ∨ X.env.scope.names.lookup x = some .local := by first | exact .inl rfl | exact .inr rfl | assumption) : PG X (.Name x pos) (gName i) := by
  intro pins s σ H v u Q I r h
  exact wpAny_assign_Name (store_ok I hN hi hx r (fun s' I' => ⟨_, H, I', h⟩) hf)
noncomputable def gNil : TGs := fun vs σ H Q => vs = [] ∧ Q σ H
noncomputable def gCons (t : TG) (u : TGs) : TGs := fun vs σ H Q => ∃ v r, vs = v :: r ∧ t v σ H fun σ' H' => u r σ' H' Q
theorem pgs_nil : PGs X [] gNil := by
  intro pins s σ H vs us Q I r h
  obtain ⟨e, h⟩ := h
  subst e
  cases r
  exact assignInOrder_nil ⟨σ, H, I, h⟩
theorem pgs_cons {e : Expr} {es : List Expr} {t : TG} {u : TGs} (h1 : PG X e t) (h2 : PGs X es u)
    (hs : (assignEach (e :: es) X.env).map (·.2) = assign e X.env :: (assignEach es X.env).map (·.2) := by rfl) : PGs X (e :: es) (gCons t u) := by
  intro pins s σ H vs us Q I r h
  obtain ⟨v, vr, e1, h⟩ := h
  subst e1
  cases r with
  | cons r rr =>
    rw [hs]
    refine assignInOrder_cons (thn (h1 pins s σ H _ _ _ I r h) fun _ s1 ⟨σ1, H1, I1, q1⟩ => ?_)
    exact h2 pins s1 σ1 H1 _ _ Q I1 rr q1
noncomputable def gTup (K : PySem.W.Frag) (n : Nat) (t : TGs) : TG := fun v σ H Q => ∃ a xs, v = .ref a ∧ SqT K H a xs ∧ xs.length = n ∧ t xs σ H Q
theorem pg_tup {es : List Expr} {k : Nat} {t : TGs} {n : Nat} (hc : X.calm = true) (h : PGs X es t)
    (hn : (assignEach es X.env).length = n := by rfl) (hst : (assignEach es X.env).findIdx? (·.1) = none := by rfl) : PG X (.Tuple es k pos) (gTup X.K n t) := by
  intro pins s σ H v u Q I r hw
  obtain ⟨a, xs, e1, hq, hl, hw⟩ := hw
  subst e1
  cases r
  obtain ⟨its, rv, ht, hz⟩ := I.tuple hq
  refine assign_Tuple_tuple (I.ok.hd hc) ht (by simp [hn, ← hl, rv.length]) hst fun h' hx => ?_
  have I1 : Inv X pins σ H { s with heap := h' } := I.kept (t' := s.toks) fun b o e => hx b o (Nat.ne_of_lt (Heap.lt_size e)) e
  exact h pins _ σ H xs _ Q I1 (by simpa using rv) hw
noncomputable def gSub (to ti : TE) (t : TSet) : TG := fun v σ H Q => to σ H fun o H1 => ti σ H1 fun i H2 => t o i v H2 fun H3 => Q σ H3
theorem pg_sub {o i : Expr} {to ti : TE} {t : TSet} (ho : PE X o to) (hi : PE X i ti) (hs : PSet X t)
    (ha : ∀ v, assign (.Subscript o i pos) X.env v = (do
      let ov ← holding [v] (eval o X.env)
      let iv ← holding [v, ov] (eval i X.env)
      standAt pos
      holding [v, ov, iv] (setItem ov iv v)
      release [v, ov, iv] []) := by intro _; rfl) : PG X (.Subscript o i pos) (gSub to ti t) := by
  intro pins s σ H v u Q I r h
  rw [ha]
  refine wpAny_bind (wpAny_holding (thn (ho pins s σ H _ I h) fun ov s1 ⟨x, H1, I1, r1, q1⟩ => ?_))
  refine wpAny_bind (wpAny_holding (thn (hi pins s1 σ H1 _ I1 q1) fun iv s2 ⟨y, H2, I2, r2, q2⟩ => ?_))
  refine wpAny_bind (wpAny_standAt (wpAny_bind (wpAny_holding (thn (hs pins s2 σ H2 x y v ov iv u _ I2 r1 r2 r q2) fun _ s3 ⟨H3, I3, q3⟩ => ?_))))
  exact wpAny_release ⟨σ, H3, I3, q3⟩
noncomputable def tAsg (te : TE) (g : TG) : TS := fun D σ H => te σ H fun x H1 => g x σ H1 D.nx
theorem ps_asg {tg e : Expr} {te : TE} {g : TG} (he : PE X e te) (hg : PG X tg g) (hs : swapsWithSole [tg] e pos.line X.env = pure false := by rfl) (hw : swappedStores [tg] e X.env = pure none := by rfl)
    (h1 : (assignEach [tg] X.env).map (·.2) = [assign tg X.env] := by rfl) : PS X (.Assign [tg] e pos) (tAsg te g) := by
  intro pins s σ H D I h
  refine wpAny_Assign_stores (thn (he pins s σ H _ I h) fun v s1 ⟨x, H1, I1, r1, q1⟩ => ?_) hs hw
  rw [h1]
  exact thn (hg pins s1 σ H1 x v _ I1 r1 q1) fun _ s2 q => q
theorem ps_set {i : Nat} {x : Str} {e : Expr} {te : TE} {pos' : Pos} (hN : X.N.Nodup) (hi : X.N[i]? = some x) (hx : Loc X.env.scope x) (he : PE X e te) (hs : swapsWith e (some (.Name x pos')) pos.line X.env = pure false := by rfl) (hf : X.fn x = true ∨ X.env.scope.names.lookup x = some .local := by first | exact .inl rfl | exact .inr rfl | assumption) :
    PS X (.Assign [.Name x pos'] e pos) (tAsg te (gName i)) := by
  intro pins s σ H D I h
  refine wpAny_Assign_Name (thn (he pins s σ H _ I h) fun v s1 ⟨y, H1, I1, r1, q1⟩ => ?_) hs
  exact store_ok I1 hN hi hx r1 (fun s2 I2 => ⟨_, H1, I2, q1⟩) hf
noncomputable def tPar (i j : Nat) (ta : TA) : TS := fun D σ H => ta σ H fun vs H1 => ∃ v w, vs = [v, w] ∧ D.nx ((σ.set i (some v)).set j (some w)) H1
noncomputable def tAug (i : Nat) (te : TE) (ti : TIp) : TS := fun D σ H => ∃ x, σ[i]? = some (some x) ∧ te σ H fun y H1 => ti x y H1 fun z H2 => D.nx (σ.set i (some z)) H2
theorem ps_aug {i : Nat} {x : Str} {e : Expr} {te : TE} {op : Operator} {ti : TIp} {pos' : Pos} (hN : X.N.Nodup) (hi : X.N[i]? = some x) (hx : Loc X.env.scope x) (he : PE X e te) (ho : PIp X op ti) (hf : X.fn x = true ∨ X.env.scope.names.lookup x = some .local := by first | exact .inl rfl | exact .inr rfl | assumption) :
    PS X (.AugAssign (.Name x pos') op e pos) (tAug i te ti) := by
  intro pins s σ H D I h
  obtain ⟨v, e1, h⟩ := h
  obtain ⟨m, hn, hl⟩ := I.loc
  have vis : Vis X.env.scope x := by rcases hx with k | k; exact .inl k; exact .inr (.inl k)
  obtain ⟨u, r, l⟩ := hl i x v hi e1 vis
  refine wpAny_AugAssign_Name ?_
  have go : wpAny (model X.prog X.w) X.A (eval e X.env) (fun w s₂ => wpAny (model X.prog X.w) X.A (inplaceOp op u w) (fun r s₃ => wpAny (model X.prog X.w) X.A (storeName X.env x r) (fun _ => SP X pins D .next) X.xe s₃) X.xe s₂) X.xe s := by
    refine thn (he pins s σ H _ I h) fun w s1 ⟨y, H1, I1, r1, q1⟩ => ?_
    refine thn (ho pins s1 σ H1 v y u w _ I1 r r1 q1) fun z s2 ⟨zv, H2, I2, r2, q2⟩ => ?_
    exact store_ok I2 hN hi hx r2 (fun s3 I3 => ⟨_, H2, I3, q2⟩) hf
  rcases l with ⟨hk, hm⟩ | ⟨hk, c, hc, hcell⟩
  · exact wpAny_loadName_local I.ok.kind hk hn hm go
  · rcases hk with hk | hk
    · exact wpAny_loadName_cell I.ok.kind hk hc hcell go
    · rcases hx with k | k
      · have : X.env.scope.names.lookup x = some .free := hk
        rw [k] at this; cases this
      · have : X.env.scope.names.lookup x = some .free := hk
        rw [k] at this; cases this
noncomputable def tAugS (to ti te : TE) (tget : V → V → Hp → VK → Prop) (tip : TIp) (tset : TSet) : TS := fun D σ H => to σ H fun o H1 => ti σ H1 fun i H2 => tget o i H2 fun x H3 => te σ H3 fun y H4 => tip x y H4 fun z H5 => tset o i z H5 fun H6 => D.nx σ H6
noncomputable def PGet (X : Cx) (t : V → V → Hp → VK → Prop) : Prop :=
  ∀ (pins : List (Addr × Obj)) (s : Shared) (σ : St) (H : Hp) (o i : V) (ov iv : Value) (Q : VK), Inv X pins σ H s → RelV o ov → RelV i iv → t o i H Q →
    wpAny (model X.prog X.w) X.A (getItem ov iv) (EP X pins σ Q) X.xe s
noncomputable def ipI (f : Int → Int → Int) : TIp := fun x y H Q => ∃ i j, x = .int i ∧ y = .int j ∧ Q (.int (f i j)) H
theorem ip_add : PIp X .Add (ipI fun i j => i + j) := by
  intro pins s σ H x y v u Q I r1 r2 h
  obtain ⟨i, j, e1, e2, q⟩ := h
  subst e1; subst e2
  obtain ⟨t, rfl⟩ := r1
  obtain ⟨t', rfl⟩ := r2
  exact iadd_int ⟨.int _, H, I.tok _, ⟨_, rfl⟩, q⟩
theorem ip_sub : PIp X .Sub (ipI fun i j => i - j) := by
  intro pins s σ H x y v u Q I r1 r2 h
  obtain ⟨i, j, e1, e2, q⟩ := h
  subst e1; subst e2
  obtain ⟨t, rfl⟩ := r1
  obtain ⟨t', rfl⟩ := r2
  exact isub_int ⟨.int _, H, I.tok _, ⟨_, rfl⟩, q⟩
end

section
variable {X : Cx} {pos : Pos}
noncomputable def tWhile (c : TT) (tb : TS) : TS := fun D σ H => ∃ W : Nat → St → Hp → Prop, (∃ m, W m σ H) ∧ ∀ m σ H, W m σ H →
  c σ H fun b H1 => if b = true then ∃ N : St → Hp → Prop, (∀ σ' H', N σ' H' → ∃ m', m' < m ∧ W m' σ' H') ∧ tb { D with nx := N, ct := N, bk := D.nx } σ H1 else D.nx σ H1
theorem ps_while {c : Expr} {body : List Stmt} {tc : TT} {tb : TS} (hp : PassesOwn (model X.prog X.w) X.A X.env X.xe) (hc : PT X c tc) (hb : PSs X body tb) : PS X (.While c body [] pos) (tWhile tc tb) := by
  intro pins s σ H D I h
  obtain ⟨W, ⟨m0, w0⟩, turn⟩ := h
  refine wpAny_While (codeAny_whileLoop (fun n s' => ∃ σ' H', Inv X pins σ' H' s' ∧ W n σ' H') ?_ m0 ⟨σ, H, I, w0⟩)
  rintro n s1 ⟨σ1, H1, I1, w1⟩
  refine wpAny_passesOwn hp (thn (hc pins s1 σ1 H1 _ I1 (turn n σ1 H1 w1)) fun b s2 ⟨H2, I2, q2⟩ => ?_)
  cases b with
  | true =>
    obtain ⟨N, hN, q2⟩ := q2
    rw [if_pos rfl]
    refine wpAny_passesOwn hp (thn (hb pins s2 σ1 H2 _ I2 q2) fun f s3 q3 => ?_)
    cases f with
    | next =>
      obtain ⟨σ3, H3, I3, n3⟩ := q3
      obtain ⟨m', hm, w3⟩ := hN σ3 H3 n3
      exact ⟨m', hm, σ3, H3, I3, w3⟩
    | cont =>
      obtain ⟨σ3, H3, I3, n3⟩ := q3
      obtain ⟨m', hm, w3⟩ := hN σ3 H3 n3
      exact ⟨m', hm, σ3, H3, I3, w3⟩
    | brk => exact q3
    | ret v => exact q3
  | false =>
    rw [if_neg Bool.false_ne_true]
    exact wpAny_execs_nil ⟨σ1, H2, I2, q2⟩
end

structure It where
  go : Nat → Hp → Prop
  yld : Nat → Hp → V → Hp → Prop
  stop : Nat → Hp → Prop
noncomputable def FpOk (X : Cx) (pins : List (Addr × Obj)) (H : Hp) (b : Addr) : Prop :=
  H b = none ∧ b ≠ X.env.locals ∧ b ∉ X.fs ∧ (b ∈ X.ex ∨ X.s₀.heap.objs.size ≤ b) ∧ (∀ x c, X.env.cells.lookup x = some c → c ≠ b) ∧ ∀ p ∈ X.pn ++ pins, p.1 ≠ b
theorem Inv.fpOk {X : Cx} {pins : List (Addr × Obj)} {σ : St} {H H' : Hp} {s : Shared} {b : Addr} (I : Inv X pins σ H s) (hb : s.heap.objs.size ≤ b) (hn : H' b = none) : FpOk X pins H' b := by
  refine ⟨hn, Nat.ne_of_gt (Nat.lt_of_lt_of_le I.lt hb), I.nofs hb, .inr (Nat.le_trans I.sz hb), fun x c e z => ?_, fun p hp z => ?_⟩
  · obtain ⟨v, q⟩ := I.cell x c e
    exact absurd (Nat.lt_of_lt_of_le q.lt (by rw [z]; exact hb)) (Nat.lt_irrefl _)
  · exact absurd (Nat.lt_of_lt_of_le (Heap.lt_size (I.pin p hp).1) (by rw [z]; exact hb)) (Nat.lt_irrefl _)
structure Turn (P : Program) (w : World) (K : PySem.W.Frag) (tg : Expr) (J : It) (fp : List Addr) (it : Addr) (tn : Nat → Heap → Prop) : Prop where
  mem : it ∈ fp
  obj : ∀ i h, tn i h → ∀ b ∈ fp, ∃ o, h.get? b = some o ∧ ∀ v, o.data ≠ .cell v
  keep : ∀ i h h', tn i h → (∀ b ∈ fp, ∀ o, h.get? b = some o → h'.get? b = some o) → tn i h'
  item : ∀ (X : Cx), X.prog = P → X.w = w → X.K = K → X.calm = true → ∀ (i : Nat) (pins : List (Addr × Obj)) (s : Shared) (σ : St) (H : Hp) (E : Value → Shared → Prop), Inv X pins σ H s → (∀ b ∈ fp, FpOk X pins H b) → tn i s.heap → J.go i H →
    wpAny (model P w) X.A (pyNext (.ref it)) (fun r s1 => ∃ u, r = some u ∧
      wpAny (model P w) X.A (letOwnedTupleGo tg (.ref it) u) (fun _ s2 => ∃ x H', Inv X pins σ H' s2 ∧ RelV x u ∧ J.yld i H x H' ∧ tn (i + 1) s2.heap ∧ ∀ b ∈ fp, H' b = none) E s1) E s
  done : ∀ (X : Cx), X.prog = P → X.w = w → X.K = K → X.calm = true → ∀ (i : Nat) (pins : List (Addr × Obj)) (s : Shared) (σ : St) (H : Hp) (E : Value → Shared → Prop), Inv X pins σ H s → (∀ b ∈ fp, FpOk X pins H b) → tn i s.heap → J.stop i H →
    wpAny (model P w) X.A (pyNext (.ref it)) (fun r s1 => r = none ∧ Inv X pins σ H s1) E s
  self : ∀ (A : Around) (i : Nat) (s : Shared) (Q : Value → Shared → Prop) (E : Value → Shared → Prop), tn i s.heap → Q (.ref it) s → wpAny (model P w) A (pyIter (.ref it)) Q E s
noncomputable abbrev TI := St → Hp → (It → Hp → Prop) → Prop
noncomputable def PIE (X : Cx) (pins : List (Addr × Obj)) (σ : St) (tg : Expr) (R : It → Hp → Prop) (itv : Value) (s2 : Shared) : Prop :=
  ∃ (it : Addr) (fp : List Addr) (tn : Nat → Heap → Prop) (J : It) (H' : Hp), itv = .ref it ∧ Inv X pins σ H' s2 ∧ Turn X.prog X.w X.K tg J fp it tn ∧ tn 0 s2.heap ∧ (∀ b ∈ fp, FpOk X pins H' b) ∧ R J H'
noncomputable def PI (X : Cx) (tg iter : Expr) (wi : TI) : Prop :=
  ∀ (pins : List (Addr × Obj)) (s : Shared) (σ : St) (H : Hp) (R : It → Hp → Prop), Inv X pins σ H s → wi σ H R →
    wpAny (model X.prog X.w) X.A (eval iter X.env) (fun v s1 => wpAny (model X.prog X.w) X.A (pyIter v) (PIE X pins σ tg R) X.xe s1) X.xe s

theorem go_of {M : Model} {A : Around} {E : Value → Shared → Prop} {s : Shared} {tg : Expr} {it : Addr} {u : Value} {o : Obj} {n : String} {vs : Array Value} {Q : Unit → Shared → Prop} (ho : s.heap.get? it = some o) (hc : o.cls = .type n) (hd : o.data = .fields vs)
    (hn : ["enumerate", "zip", "dict_itemiterator", "dict_reverseitemiterator", "odict_iterator", "itertools.zip_longest", "itertools.pairwise"].contains n = false) (hQ : Q () s) : wpAny M A (letOwnedTupleGo tg (.ref it) u) Q E s := by
  unfold letOwnedTupleGo
  cases tg <;> first
    | exact wpAny_pure hQ
    | (cases u <;> first
        | exact wpAny_pure hQ
        | (refine wpAny_bind (wpAny_load ho ?_)
           rw [hc, hd]
           show wpAny M A (if (["enumerate", "zip", "dict_itemiterator", "dict_reverseitemiterator", "odict_iterator", "itertools.zip_longest", "itertools.pairwise"].contains n && vs[0]? == some (rawInt _)) = true then _ else _) Q E s
           rw [if_neg (by intro h; rw [hn, Bool.false_and] at h; cases h)]
           exact wpAny_pure hQ))

noncomputable def Itl (K : PySem.W.Frag) (a : Addr) : It :=
  ⟨fun i H => ∃ xs x, SqL K H a xs ∧ xs[i]? = some x, fun i H x H' => H' = H ∧ ∀ xs, SqL K H a xs → xs[i]? = some x, fun i H => ∃ xs, SqL K H a xs ∧ xs.length ≤ i⟩
noncomputable def Itt (K : PySem.W.Frag) (a : Addr) : It :=
  ⟨fun i H => ∃ xs x, SqT K H a xs ∧ xs[i]? = some x, fun i H x H' => H' = H ∧ ∀ xs, SqT K H a xs → xs[i]? = some x, fun i H => ∃ xs, SqT K H a xs ∧ xs.length ≤ i⟩
noncomputable def Itr (lo : Int) (n : Nat) : It := ⟨fun i _ => i < n, fun i H x H' => H' = H ∧ x = .int (lo + i), fun i _ => n ≤ i⟩
theorem turn_list {P : Program} {w : World} {K : PySem.W.Frag} {tg : Expr} (a it : Addr) : Turn P w K tg (Itl K a) [it] it (fun i h => h.IsListIter it a i) where
  mem := by simp
  obj := fun i h st b hb => by
    have e : b = it := by simpa using hb
    subst e
    obtain ⟨o, e, c, d⟩ := st
    exact ⟨o, e, fun v z => by rw [d] at z; cases z⟩
  keep := fun i h h' st k => st.at fun o e => k it (by simp) o e
  item := by
    intro X hP hw hK hc i pins s σ H E I hf st hg
    subst hP hw hK
    obtain ⟨xs, x, hq, hx⟩ := hg
    obtain ⟨its, rv, p, hz⟩ := I.list hq
    obtain ⟨u, hu, ru⟩ := rv.get hx
    obtain ⟨f0, f1, f2, f3, f4, f5⟩ := hf it (by simp)
    refine wpAny_pyNext_list_item st p.isList (x := u) (by simpa using hu) fun h' st' sb => ?_
    have I1 : Inv X pins σ H { s with heap := h' } := I.turned (t' := s.toks) (fun b o hb e => (sb.2 b hb).trans e) f0 f1 f3 f4 f5
    obtain ⟨o, e, c, d⟩ := id st'
    exact ⟨u, rfl, go_of (s := { s with heap := h' }) e c d (by decide) ⟨x, H, I1, ru, ⟨rfl, fun ys hy => by rw [I.list_inj hy hq]; exact hx⟩, st', fun b hb => (hf b hb).1⟩⟩
  done := by
    intro X hP hw hK hc i pins s σ H E I hf st hg
    subst hP hw hK
    obtain ⟨xs, hq, hx⟩ := hg
    obtain ⟨its, rv, p, hz⟩ := I.list hq
    obtain ⟨f0, f1, f2, f3, f4, f5⟩ := hf it (by simp)
    have hl := rv.length
    exact wpAny_pyNext_list_end (I.ok.hd hc) st p.isList (by simp; (first | lia | omega)) fun h' eb => ⟨rfl, I.turned (t' := s.toks) (fun b o hb e => eb b o hb e) f0 f1 f3 f4 f5⟩
  self := fun _ _ _ _ _ st h => wpAny_pyIter_listiter st h
theorem turn_range {P : Program} {w : World} {K : PySem.W.Frag} {tg : Expr} (it : Addr) (lo : Int) (n : Nat) : Turn P w K tg (Itr lo n) [it] it (fun i h => IsRangeIter h it (lo + (i : Nat) * 1) ((n : Int) - (i : Nat)) 1) where
  mem := by simp
  obj := fun i h st b hb => by
    have e : b = it := by simpa using hb
    subst e
    exact ⟨_, st, fun v z => by
      have z' : Data.fields _ = Data.cell v := z
      cases z'⟩
  keep := fun i h h' st k => k it (by simp) _ st
  item := by
    intro X hP hw hK hc i pins s σ H E I hf st hg
    subst hP hw hK
    obtain ⟨f0, f1, f2, f3, f4, f5⟩ := hf it (by simp)
    have W := Walks.range (prog := X.prog) (w := X.w) (I.ok.hd hc) it lo 1 n
    refine W.item i s _ _ hg st fun v h' tk hv st' kk => ?_
    obtain ⟨t, rfl⟩ := hv
    have I1 : Inv X pins σ H { s with heap := h', toks := tk } := I.turned (fun b o hb e => kk b o (by simpa using hb) e) f0 f1 f3 f4 f5
    refine ⟨_, rfl, go_of (s := { s with heap := h', toks := tk }) (n := "range_iterator") st' rfl rfl (by decide) ⟨.int (lo + i), H, I1, ⟨t, ?_⟩, ⟨rfl, rfl⟩, st', fun b hb => (hf b hb).1⟩⟩
    rw [Int.mul_one]
  done := by
    intro X hP hw hK hc i pins s σ H E I hf st hg
    subst hP hw hK
    obtain ⟨f0, f1, f2, f3, f4, f5⟩ := hf it (by simp)
    exact wpAny_pyNext_range_end (I.ok.hd hc) st (by have : n ≤ i := hg; (first | lia | omega)) fun h' eb => ⟨rfl, I.turned (t' := s.toks) (fun b o hb e => eb b o hb e) f0 f1 f3 f4 f5⟩
  self := fun _ _ _ _ _ st h => wpAny_pyIter_rangeiter st h
end L2

namespace L2
open PySem PySem.Spec PyProof.Rows
section
variable {X : Cx} {tg : Expr}
noncomputable def iList (K : PySem.W.Frag) (tl : TE) : TI := fun σ H R => tl σ H fun x H1 => ∃ a, x = .ref a ∧ (∃ xs, SqL K H1 a xs) ∧ R (Itl K a) H1
noncomputable def iTup (K : PySem.W.Frag) (tl : TE) : TI := fun σ H R => tl σ H fun x H1 => ∃ a, x = .ref a ∧ (∃ xs, SqT K H1 a xs) ∧ R (Itt K a) H1
theorem pi_list {l : Expr} {tl : TE} (hl : PE X l tl) : PI X tg l (iList X.K tl) := by
  intro pins s σ H R I h
  refine thn (hl pins s σ H _ I h) fun v s1 ⟨x, H1, I1, r1, q1⟩ => ?_
  obtain ⟨a, e, ⟨xs, hq⟩, q⟩ := q1
  subst e
  cases r1
  obtain ⟨its, rv, p, hz⟩ := I1.list hq
  refine wpAny_pyIter_list p.isList ?_
  refine ⟨s1.heap.objs.size, [s1.heap.objs.size], _, _, H1, rfl, I1.kept (t' := s1.toks) fun b o e => Heap.get?_push_of_some _ e, turn_list a _, ⟨_, Heap.get?_push_size _ rfl, rfl, rfl⟩, fun b hb => ?_, q⟩
  have e : b = s1.heap.objs.size := by simpa using hb
  subst e
  exact I1.fpOk (Nat.le_refl _) (I1.hok.fresh (Nat.le_refl _))
theorem range_it {pins : List (Addr × Obj)} {σ : St} {H : Hp} {s : Shared} {R : It → Hp → Prop} {E : Value → Shared → Prop} {lo hi : Int} {t u v : Tok} {tk : Nat} (I : Inv X pins σ H s) (h1 : -(2 ^ 62) ≤ lo) (h2 : lo < 2 ^ 62) (h3 : -(2 ^ 62) ≤ hi) (h4 : hi < 2 ^ 62)
    (q : R (Itr lo (hi - lo).toNat) H) : wpAny (model X.prog X.w) X.A (pyIter (.ref s.heap.objs.size)) (PIE X pins σ tg R) E { s with heap := s.heap.push { cls := .type "range", data := .fields #[.int lo t, .int hi u, .int 1 v] }, toks := tk } := by
  refine wpAny_pyIter_range (IsRange.new ..) (small_one h1 h2 h3 h4) ?_
  have I1 : Inv X pins σ H { s with heap := s.heap.push { cls := .type "range", data := .fields #[.int lo t, .int hi u, .int 1 v] }, toks := tk } := I.kept fun b o e => Heap.get?_push_of_some _ e
  refine ⟨(s.heap.push { cls := .type "range", data := .fields #[.int lo t, .int hi u, .int 1 v] }).objs.size, [(s.heap.push { cls := .type "range", data := .fields #[.int lo t, .int hi u, .int 1 v] }).objs.size], _, _, H, rfl,
    I1.kept (t' := tk) fun b o e => Heap.get?_push_of_some _ e, turn_range _ lo (hi - lo).toNat, ?_, fun b hb => ?_, q⟩
  · have e1 : lo + ((0 : Nat) : Int) * 1 = lo := by simp
    have e2 : (((hi - lo).toNat : Nat) : Int) - ((0 : Nat) : Int) = Builtin.Range.rangeSize lo hi 1 := by rw [rangeSize_one]; split <;> (first | lia | omega)
    show IsRangeIter _ _ (lo + ((0 : Nat) : Int) * 1) ((((hi - lo).toNat : Nat) : Int) - ((0 : Nat) : Int)) 1
    rw [e1, e2]
    exact Heap.get?_push_size _ rfl
  · have e : b = (s.heap.push { cls := .type "range", data := .fields #[.int lo t, .int hi u, .int 1 v] }).objs.size := by simpa using hb
    subst e
    exact I1.fpOk (Nat.le_refl _) (I1.hok.fresh (Nat.le_refl _))
noncomputable def iRng1 (ta : TA) : TI := fun σ H R => ta σ H fun vs H1 => ∃ j : Int, vs = [.int j] ∧ -(2 ^ 62) ≤ j ∧ j < 2 ^ 62 ∧ R (Itr 0 j.toNat) H1
noncomputable def iRng2 (ta : TA) : TI := fun σ H R => ta σ H fun vs H1 => ∃ i j : Int, vs = [.int i, .int j] ∧ (-(2 ^ 62) ≤ i ∧ i < 2 ^ 62 ∧ -(2 ^ 62) ≤ j ∧ j < 2 ^ 62) ∧ R (Itr i (j - i).toNat) H1
theorem pi_range1 {a : Expr} {ta : TA} {p pos : Pos} (hg : Gl X "range") (hm : X.mg "range" = none) (ha : PA X [a] ta) (hs : starEach [a] X.env = [(false, eval a X.env)] := by rfl) : PI X tg (.Call (.Name "range" p) [a] [] pos) (iRng1 ta) := by
  intro pins s σ H R I h
  refine Call_ (ld_blt I hg hm boot_range (PyProof.Rows.callWith_type1 (thn (ha pos pins s σ H _ I h) fun us s1 ⟨vs, H1, I1, r1, q1⟩ => ?_) hs rfl))
  obtain ⟨j, e, q1, q2, q⟩ := q1
  subst e
  cases r1 with
  | cons r rr =>
    cases rr
    obtain ⟨t, rfl⟩ := r
    exact call_range_1 (range_it I1 (by (first | lia | omega)) (by (first | lia | omega)) q1 q2 (by simpa using q))
theorem pi_range2 {a b : Expr} {ta : TA} {p pos : Pos} (hg : Gl X "range") (hm : X.mg "range" = none) (ha : PA X [a, b] ta) (hs : starEach [a, b] X.env = [(false, eval a X.env), (false, eval b X.env)] := by rfl) (hs2 : starEach [b] X.env = [(false, eval b X.env)] := by rfl) :
    PI X tg (.Call (.Name "range" p) [a, b] [] pos) (iRng2 ta) := by
  intro pins s σ H R I h
  refine Call_ (ld_blt I hg hm boot_range (PyProof.Rows.callWith_type1 (thn (ha pos pins s σ H _ I h) fun us s1 ⟨vs, H1, I1, r1, q1⟩ => ?_) (by rw [hs, hs2]) (by rw [hs2]; rfl)))
  obtain ⟨i, j, e, ⟨q1, q2, q3, q4⟩, q⟩ := q1
  subst e
  cases r1 with
  | cons r rr =>
    cases rr with
    | cons r' rr =>
      cases rr
      obtain ⟨t, rfl⟩ := r
      obtain ⟨t', rfl⟩ := r'
      exact call_range_2 (range_it I1 q1 q2 q3 q4 q)

noncomputable def tFor (wi : TI) (g : TG) (tb : TS) : TS := fun D σ H => wi σ H fun J H1 => ∃ W : Nat → Nat → St → Hp → Prop, (∃ m, W 0 m σ H1) ∧ ∀ i m σ H, W i m σ H →
  (J.stop i H ∧ D.nx σ H) ∨ (J.go i H ∧ ∃ N : St → Hp → Prop, (∀ σ' H', N σ' H' → ∃ m', m' < m ∧ W (i + 1) m' σ' H') ∧ ∀ x H', J.yld i H x H' → g x σ H' fun σ2 H2 => tb { D with nx := N, ct := N, bk := D.nx } σ2 H2)
noncomputable def pinsAt (fp : List Addr) (h : Heap) : List (Addr × Obj) := fp.filterMap fun b => (h.get? b).map fun o => (b, o)
theorem mem_pinsAt {fp : List Addr} {h : Heap} {b : Addr} {o : Obj} (hb : b ∈ fp) (e : h.get? b = some o) : (b, o) ∈ pinsAt fp h := List.mem_filterMap.mpr ⟨b, hb, by rw [e]; rfl⟩
theorem of_pinsAt {fp : List Addr} {h : Heap} {p : Addr × Obj} (hp : p ∈ pinsAt fp h) : p.1 ∈ fp ∧ h.get? p.1 = some p.2 := by
  obtain ⟨b, hb, e⟩ := List.mem_filterMap.mp hp
  cases q : h.get? b with
  | none => rw [q] at e; cases e
  | some o =>
    rw [q] at e
    have e' : (b, o) = p := Option.some.inj e
    subst e'
    exact ⟨hb, q⟩
theorem Inv.pinned {pins : List (Addr × Obj)} {σ : St} {H : Hp} {s : Shared} {fp : List Addr} (I : Inv X pins σ H s) (hf : ∀ b ∈ fp, FpOk X pins H b) (ho : ∀ b ∈ fp, ∃ o, s.heap.get? b = some o ∧ ∀ v, o.data ≠ .cell v) : Inv X (pins ++ pinsAt fp s.heap) σ H s :=
  I.pins_of fun p hp => (List.mem_append.mp hp).elim (fun z => I.pin p (List.mem_append_right _ z)) fun z => by
    obtain ⟨hb, e⟩ := of_pinsAt z
    obtain ⟨f0, f1, f2, _⟩ := hf p.1 hb
    obtain ⟨o, e', d⟩ := ho p.1 hb
    rw [e] at e'; cases e'
    exact ⟨e, f0, f1, f2, d⟩
theorem Inv.unpinned {pins pl : List (Addr × Obj)} {σ : St} {H : Hp} {s : Shared} (I : Inv X (pins ++ pl) σ H s) : Inv X pins σ H s := I.pins_of fun p hp => I.pin p (List.mem_append_right _ (List.mem_append_left _ hp))
theorem ps_for {iter : Expr} {body : List Stmt} {wi : TI} {g : TG} {tb : TS} {pos : Pos} (hp : PassesOwn (model X.prog X.w) X.A X.env X.xe) (hc : X.calm = true) (hi : PI X tg iter wi) (hg : PG X tg g) (hb : PSs X body tb)
    (hs : ∀ x, foldedSetIterable iter X.env x = pure x := by intro _; rfl) : PS X (.For tg iter body [] pos) (tFor wi g tb) := by
  intro pins s σ H D I h
  refine wpAny_For (thn (hi pins s σ H _ I h) fun v s1 h1 => thn h1 fun itv s2 h2 => ?_) hs
  obtain ⟨it, fp, tn, J, H2, e, I2, T, st2, f2, W, ⟨m0, w0⟩, turn⟩ := h2
  subst e
  -- what stays true of the iterator's objects through the loop
  have stat : ∀ {H' : Hp}, (∀ b ∈ fp, H' b = none) → ∀ b ∈ fp, FpOk X pins H' b := fun hn b hb => ⟨hn b hb, (f2 b hb).2⟩
  refine codeAny_forLoop_any (fun n s' => ∃ i σ' H', Inv X pins σ' H' s' ∧ tn i s'.heap ∧ (∀ b ∈ fp, H' b = none) ∧ W i n σ' H') ?_ m0 ⟨0, σ, H2, I2, st2, fun b hb => (f2 b hb).1, w0⟩
  rintro n s3 ⟨i, σ3, H3, I3, st3, fr3, w3⟩
  rcases turn i n σ3 H3 w3 with ⟨stop, qn⟩ | ⟨go, N, hN, step⟩
  · refine wpAny_passesOwn hp (thn (T.done X rfl rfl rfl hc i pins s3 σ3 H3 X.xe I3 (stat fr3) st3 stop) fun r s4 ⟨hr, I4⟩ => ?_)
    subst hr
    exact wpAny_execs_nil ⟨σ3, H3, I4, qn⟩
  · refine wpAny_passesOwn hp (thn (T.item X rfl rfl rfl hc i pins s3 σ3 H3 X.xe I3 (stat fr3) st3 go) fun r s4 ⟨u, hr, h4⟩ => ?_)
    subst hr
    refine wpAny_passesOwn hp (thn h4 fun _ s5 ⟨x, H5, I5, r5, y5, st5, fr5⟩ => ?_)
    have I5' := I5.pinned (stat fr5) (T.obj _ _ st5)
    refine wpAny_passesOwn hp (thn (hg _ s5 σ3 H5 x u _ I5' r5 (step x H5 y5)) fun _ s6 ⟨σ6, H6, I6, q6⟩ => ?_)
    refine wpAny_passesOwn hp (thn (hb _ s6 σ6 H6 _ I6 q6) fun f s7 q7 => ?_)
    have again : ∀ {σ7 : St} {H7 : Hp}, Inv X (pins ++ pinsAt fp s5.heap) σ7 H7 s7 → N σ7 H7 → ∃ m, m < n ∧ ∃ i σ' H', Inv X pins σ' H' s7 ∧ tn i s7.heap ∧ (∀ b ∈ fp, H' b = none) ∧ W i m σ' H' := fun {σ7 H7} I7 n7 => by
      obtain ⟨m', hm, w7⟩ := hN σ7 H7 n7
      refine ⟨m', hm, i + 1, σ7, H7, I7.unpinned, T.keep _ _ _ st5 fun b hb o e => (I7.pin (b, o) (List.mem_append_right _ (List.mem_append_right _ (mem_pinsAt hb e)))).1, fun b hb => ?_, w7⟩
      obtain ⟨o, e, d⟩ := T.obj _ _ st5 b hb
      exact (I7.pin (b, o) (List.mem_append_right _ (List.mem_append_right _ (mem_pinsAt hb e)))).2.1
    cases f with
    | next => obtain ⟨σ7, H7, I7, n7⟩ := q7; exact again I7 n7
    | cont => obtain ⟨σ7, H7, I7, n7⟩ := q7; exact again I7 n7
    | brk => obtain ⟨σ7, H7, I7, q7⟩ := q7; exact ⟨σ7, H7, I7.unpinned, q7⟩
    | ret v => obtain ⟨x7, σ7, H7, I7, r7, q7⟩ := q7; exact ⟨x7, σ7, H7, I7.unpinned, r7, q7⟩
end

theorem for_list {K : PySem.W.Frag} {a : Addr} {xs : List V} {g : TG} {tb : TS} {D : Ends} {σ : St} {H : Hp} (Pv : Nat → St → Hp → Prop) (h0 : Pv 0 σ H) (hl : ∀ i σ H, i ≤ xs.length → Pv i σ H → SqL K H a xs)
    (hs : ∀ i x σ H, xs[i]? = some x → Pv i σ H → g x σ H fun σ2 H2 => tb { D with nx := Pv (i + 1), ct := Pv (i + 1), bk := D.nx } σ2 H2) (hd : ∀ σ H, Pv xs.length σ H → D.nx σ H) :
    ∃ W : Nat → Nat → St → Hp → Prop, (∃ m, W 0 m σ H) ∧ ∀ i m σ H, W i m σ H →
      ((Itl K a).stop i H ∧ D.nx σ H) ∨ ((Itl K a).go i H ∧ ∃ N : St → Hp → Prop, (∀ σ' H', N σ' H' → ∃ m', m' < m ∧ W (i + 1) m' σ' H') ∧ ∀ x H', (Itl K a).yld i H x H' → g x σ H' fun σ2 H2 => tb { D with nx := N, ct := N, bk := D.nx } σ2 H2) := by
  refine ⟨fun i m σ H => m = xs.length - i ∧ i ≤ xs.length ∧ Pv i σ H, ⟨xs.length, by simp, Nat.zero_le _, h0⟩, ?_⟩
  rintro i m σ H ⟨rfl, hi, p⟩
  have q := hl i σ H hi p
  by_cases hlt : i < xs.length
  · refine .inr ⟨⟨xs, xs[i], q, by simp [hlt]⟩, Pv (i + 1), fun σ' H' p' => ⟨xs.length - (i + 1), by (first | lia | omega), rfl, hlt, p'⟩, fun x H' y => ?_⟩
    obtain ⟨e, y⟩ := y
    subst e
    exact hs i x σ _ (y xs q) p
  · have e : i = xs.length := by (first | lia | omega)
    subst e
    exact .inl ⟨⟨xs, q, Nat.le_refl _⟩, hd σ H p⟩
theorem for_range {lo : Int} {n : Nat} {g : TG} {tb : TS} {D : Ends} {σ : St} {H : Hp} (Pv : Nat → St → Hp → Prop) (h0 : Pv 0 σ H)
    (hs : ∀ i σ H, i < n → Pv i σ H → g (.int (lo + i)) σ H fun σ2 H2 => tb { D with nx := Pv (i + 1), ct := Pv (i + 1), bk := D.nx } σ2 H2) (hd : ∀ σ H, Pv n σ H → D.nx σ H) :
    ∃ W : Nat → Nat → St → Hp → Prop, (∃ m, W 0 m σ H) ∧ ∀ i m σ H, W i m σ H →
      ((Itr lo n).stop i H ∧ D.nx σ H) ∨ ((Itr lo n).go i H ∧ ∃ N : St → Hp → Prop, (∀ σ' H', N σ' H' → ∃ m', m' < m ∧ W (i + 1) m' σ' H') ∧ ∀ x H', (Itr lo n).yld i H x H' → g x σ H' fun σ2 H2 => tb { D with nx := N, ct := N, bk := D.nx } σ2 H2) := by
  refine ⟨fun i m σ H => m = n - i ∧ i ≤ n ∧ Pv i σ H, ⟨n, by simp, Nat.zero_le _, h0⟩, ?_⟩
  rintro i m σ H ⟨rfl, hi, p⟩
  by_cases hlt : i < n
  · refine .inr ⟨hlt, Pv (i + 1), fun σ' H' p' => ⟨n - (i + 1), by (first | lia | omega), rfl, hlt, p'⟩, fun x H' y => ?_⟩
    obtain ⟨e, y⟩ := y
    subst e y
    exact hs i σ _ hlt p
  · have e : i = n := by (first | lia | omega)
    subst e
    exact .inl ⟨Nat.le_refl _, hd σ H p⟩
end L2

namespace L2
open PySem PySem.Spec PyProof.Rows

noncomputable abbrev R2 := V → V → Hp → VK → Prop
noncomputable def OpR (X : Cx) (f : Value → Value → Sem Value) (r : R2) : Prop :=
  ∀ (pins : List (Addr × Obj)) (s : Shared) (σ : St) (H : Hp) (x y : V) (v u : Value) (Q : VK), Inv X pins σ H s → RelV x v → RelV y u → r x y H Q →
    wpAny (model X.prog X.w) X.A (f v u) (EP X pins σ Q) X.xe s
noncomputable def UnR (X : Cx) (f : Value → Sem Value) (r : V → Hp → VK → Prop) : Prop :=
  ∀ (pins : List (Addr × Obj)) (s : Shared) (σ : St) (H : Hp) (x : V) (v : Value) (Q : VK), Inv X pins σ H s → RelV x v → r x H Q →
    wpAny (model X.prog X.w) X.A (f v) (EP X pins σ Q) X.xe s
noncomputable def CallR (X : Cx) (f : Value) (r : List V → Hp → VK → Prop) : Prop :=
  ∀ (pins : List (Addr × Obj)) (s : Shared) (σ : St) (H : Hp) (xs : List V) (us : List Value) (Q : VK), Inv X pins σ H s → Vals xs us → r xs H Q →
    wpAny (model X.prog X.w) X.A (call f us) (EP X pins σ Q) X.xe s
noncomputable def TruR (X : Cx) (r : V → Hp → (Bool → Hp → Prop) → Prop) : Prop :=
  ∀ (pins : List (Addr × Obj)) (s : Shared) (σ : St) (H : Hp) (x : V) (v : Value) (Q : Bool → Hp → Prop), Inv X pins σ H s → RelV x v → r x H Q →
    wpAny (model X.prog X.w) X.A (truthy v) (TP X pins σ Q) X.xe s

noncomputable def tOp (r : R2) (ta tb : TE) : TE := fun σ H Q => ta σ H fun x H1 => tb σ H1 fun y H2 => r x y H2 Q
noncomputable def tUn (r : V → Hp → VK → Prop) (ta : TE) : TE := fun σ H Q => ta σ H fun x H1 => r x H1 Q
noncomputable def rI (C : Int → Int → Prop) (g : Int → Int → V) : R2 := fun x y H Q => ∃ i j, x = .int i ∧ y = .int j ∧ C i j ∧ Q (g i j) H
noncomputable def rI0 (g : Int → Int → V) : R2 := fun x y H Q => ∃ i j, x = .int i ∧ y = .int j ∧ Q (g i j) H
noncomputable def rU (g : Int → V) : V → Hp → VK → Prop := fun x H Q => ∃ i, x = .int i ∧ Q (g i) H

section
variable {X : Cx} {a b c : Expr} {ta tb tc : TE} {pos : Pos}

theorem binT (ha : PE X a ta) (hb : PE X b tb) {pins : List (Addr × Obj)} {s : Shared} {σ : St} {H : Hp} {R : V → V → Hp → Prop} (I : Inv X pins σ H s)
    (h : ta σ H fun x H1 => tb σ H1 fun y H2 => R x y H2) {Q : Value → Shared → Prop} {f : Value → Value → Sem Value}
    (hf : ∀ v u s2 x y H2, Inv X pins σ H2 s2 → RelV x v → RelV y u → R x y H2 → wpAny (model X.prog X.w) X.A (f v u) Q X.xe s2) :
    wpAny (model X.prog X.w) X.A (eval a X.env) (fun v s₁ => wpAny (model X.prog X.w) X.A (eval b X.env) (fun u s₂ => wpAny (model X.prog X.w) X.A (f v u) Q X.xe s₂) X.xe s₁) X.xe s := by
  refine thn (ha pins s σ H _ I h) fun v s1 ⟨x, H1, I1, r1, q1⟩ => ?_
  refine thn (hb pins s1 σ H1 _ I1 q1) fun u s2 ⟨y, H2, I2, r2, q2⟩ => ?_
  exact hf v u s2 x y H2 I2 r1 r2 q2

theorem pe_op {op : Operator} {r : R2} (ho : OpR X (binaryOp op) r) (ha : PE X a ta) (hb : PE X b tb) : PE X (.BinOp a op b pos) (tOp r ta tb) := by
  intro pins s σ H Q I h
  exact wpAny_BinOp (binT ha hb I h fun v u s2 x y H2 I2 rx ry q => ho pins s2 σ H2 x y v u Q I2 rx ry q)
theorem pe_un {op : UnaryOp} {r : V → Hp → VK → Prop} (ho : UnR X (unaryOp op) r) (ha : PE X a ta) : PE X (.UnaryOp op a pos) (tUn r ta) := by
  intro pins s σ H Q I h
  exact UnaryOp_ (thn (ha pins s σ H _ I h) fun v s1 ⟨x, H1, I1, r1, q1⟩ => ho pins s1 σ H1 x v Q I1 r1 q1)
theorem opI {f : Value → Value → Sem Value} {C : Int → Int → Prop} {g : Int → Int → Int}
    (rule : ∀ (i j : Int) (t u : Tok) (s : Shared) (Q : Value → Shared → Prop) (E : Value → Shared → Prop), C i j → Q (.int (g i j) s.toks) { s with toks := s.toks + 1 } → wpAny (model X.prog X.w) X.A (f (.int i t) (.int j u)) Q E s) :
    OpR X f (rI C fun i j => .int (g i j)) := by
  intro pins s σ H x y v u Q I rx ry h
  obtain ⟨i, j, rfl, rfl, hc, q⟩ := h
  obtain ⟨t, rfl⟩ := rx
  obtain ⟨t', rfl⟩ := ry
  exact rule i j t t' s _ _ hc ⟨.int (g i j), H, I.tok _, ⟨_, rfl⟩, q⟩
theorem opI0 {f : Value → Value → Sem Value} {g : Int → Int → Int}
    (rule : ∀ (i j : Int) (t u : Tok) (s : Shared) (Q : Value → Shared → Prop) (E : Value → Shared → Prop), Q (.int (g i j) s.toks) { s with toks := s.toks + 1 } → wpAny (model X.prog X.w) X.A (f (.int i t) (.int j u)) Q E s) :
    OpR X f (rI0 fun i j => .int (g i j)) := by
  intro pins s σ H x y v u Q I rx ry h
  obtain ⟨i, j, rfl, rfl, q⟩ := h
  obtain ⟨t, rfl⟩ := rx
  obtain ⟨t', rfl⟩ := ry
  exact rule i j t t' s _ _ ⟨.int (g i j), H, I.tok _, ⟨_, rfl⟩, q⟩
theorem opB0 {f : Value → Value → Sem Value} {g : Int → Int → Bool}
    (rule : ∀ (i j : Int) (t u : Tok) (s : Shared) (Q : Value → Shared → Prop) (E : Value → Shared → Prop), Q (.bool (g i j)) s → wpAny (model X.prog X.w) X.A (f (.int i t) (.int j u)) Q E s) :
    OpR X f (rI0 fun i j => .bl (g i j)) := by
  intro pins s σ H x y v u Q I rx ry h
  obtain ⟨i, j, rfl, rfl, q⟩ := h
  obtain ⟨t, rfl⟩ := rx
  obtain ⟨t', rfl⟩ := ry
  exact rule i j t t' s _ _ ⟨.bl (g i j), H, I, rfl, q⟩

noncomputable def CDiv (i j : Int) : Prop := 0 < j ∧ j < 1073741824
noncomputable def CDivN (i j : Int) : Prop := j ≠ 0 ∧ j.natAbs < 1073741824
noncomputable def CPow (i j : Int) : Prop := 0 ≤ j ∧ j ≤ 1000000 ∧ i.natAbs < 2 ^ 64
noncomputable def CMul (i j : Int) : Prop := (-(2 ^ 64) < i ∧ i < 2 ^ 64) ∨ (-(2 ^ 64) < j ∧ j < 2 ^ 64)
theorem CMul.ok {i j : Int} (h : CMul i j) : IntMulOk i j := by
  rcases h with ⟨h1, h2⟩ | ⟨h1, h2⟩
  · exact .of_left (intBits_le_64 h1 h2)
  · exact .of_right (intBits_le_64 h1 h2)
theorem op_add : OpR X (binaryOp .Add) (rI0 fun i j => .int (i + j)) := opI0 fun _ _ _ _ _ _ _ q => add_int q
theorem op_sub : OpR X (binaryOp .Sub) (rI0 fun i j => .int (i - j)) := opI0 fun _ _ _ _ _ _ _ q => sub_int q
theorem op_mul : OpR X (binaryOp .Mult) (rI CMul fun i j => .int (i * j)) := opI fun _ _ _ _ _ _ _ hc q => mul_int q hc.ok
theorem op_fdiv : OpR X (binaryOp .FloorDiv) (rI CDiv fun i j => .int (i / j)) := opI fun i j _ _ _ _ _ hc q => by
  have h1 : (0 : Int) < j := hc.1
  have h2 : j < 1073741824 := hc.2
  exact floordiv_int (by (first | lia | omega)) (by rw [Int.fdiv_eq_ediv_of_nonneg i (by (first | lia | omega))]; exact q) (.inl (PyProof.noPylong_small (by (first | lia | omega))))
theorem op_mod : OpR X (binaryOp .Mod) (rI (fun _ j => 0 < j) fun i j => .int (i % j)) := opI fun i j _ _ _ _ _ hc q => by
  have h1 : (0 : Int) < j := hc
  exact mod_int' (by (first | lia | omega)) (by rw [Int.fmod_eq_emod_of_nonneg i (by (first | lia | omega))]; exact q)
theorem op_pow : OpR X (binaryOp .Pow) (rI CPow fun i j => .int (i ^ j.toNat)) := opI fun _ _ _ _ _ _ _ hc q => pow_int_small hc.1 hc.2.1 hc.2.2 q
theorem unI {f : Value → Sem Value} {g : Int → Int}
    (rule : ∀ (i : Int) (t : Tok) (s : Shared) (Q : Value → Shared → Prop) (E : Value → Shared → Prop), Q (.int (g i) s.toks) { s with toks := s.toks + 1 } → wpAny (model X.prog X.w) X.A (f (.int i t)) Q E s) :
    UnR X f (rU fun i => .int (g i)) := by
  intro pins s σ H x v Q I rx h
  obtain ⟨i, rfl, q⟩ := h
  obtain ⟨t, rfl⟩ := rx
  exact rule i t s _ _ ⟨.int (g i), H, I.tok _, ⟨_, rfl⟩, q⟩
theorem un_neg : UnR X (unaryOp .USub) (rU fun i => .int (-i)) := unI fun _ _ _ _ _ q => neg_int q
end

noncomputable def scal : V → V → Bool
  | .non, .non => true | .non, .int _ => true | .int _, .non => true | .non, .bl _ => true | .bl _, .non => true | .non, .str _ => true | .str _, .non => true
  | .int _, .int _ => true | .bl _, .bl _ => true | .str _, .str _ => true | .byt _, .byt _ => true
  | .int _, .str _ => true | .str _, .int _ => true | .bl _, .str _ => true | .str _, .bl _ => true
  | _, _ => false
noncomputable def rEq : R2 := fun x y H Q => scal x y = true ∧ Q (.bl (decide (x = y))) H
noncomputable def rNe : R2 := fun x y H Q => scal x y = true ∧ Q (.bl (!decide (x = y))) H

theorem dec_int {i j : Int} : decide (V.int i = V.int j) = (i == j) := by
  rw [Bool.eq_iff_iff]
  simp
theorem dec_bl {i j : Bool} : decide (V.bl i = V.bl j) = (i == j) := by
  rw [Bool.eq_iff_iff]
  simp
theorem dec_str {i j : Str} : decide (V.str i = V.str j) = (i == j) := by
  rw [Bool.eq_iff_iff]
  simp
theorem dec_byt {i j : Array UInt8} : decide (V.byt i = V.byt j) = (i.toList == j.toList) := by
  rw [Bool.eq_iff_iff]
  cases i
  cases j
  simp

section
variable {X : Cx} {a b c : Expr} {ta tb tc : TE} {pos : Pos}
theorem fin_bl {pins : List (Addr × Obj)} {σ : St} {H : Hp} {s : Shared} {Q : VK} {k k' : Bool} (I : Inv X pins σ H s) (q : Q (.bl k) H) (e : k = k') : EP X pins σ Q (.bool k') s := by
  subst e
  exact ⟨.bl k, H, I, rfl, q⟩
theorem op_eq : OpR X (compareOp .Eq) rEq := by
  intro pins s σ H x y v u Q I rx ry h
  obtain ⟨hs, q⟩ := h
  cases x with
  | non =>
    cases rx
    cases y with
    | non => cases ry; exact PySem.EqNone.eq_none_none (fin_bl I q (by simp))
    | bl j => cases ry; exact PySem.EqNone.eq_none_bool (fin_bl I q (by simp))
    | int j => obtain ⟨t', rfl⟩ := ry; exact PySem.EqNone.eq_none_int (fin_bl I q (by simp))
    | str j => obtain ⟨t', rfl⟩ := ry; exact PySem.EqNone.eq_none_str (fin_bl I q (by simp))
    | _ => exact absurd (show false = true from hs) Bool.false_ne_true
  | bl i =>
    cases rx
    cases y with
    | non => cases ry; exact PySem.EqNone.eq_bool_none (fin_bl I q (by simp))
    | bl j => cases ry; exact eq_bool (fin_bl I q dec_bl)
    | str j => obtain ⟨t', rfl⟩ := ry; exact PySem.EqMixed.eq_bool_str (fin_bl I q (by simp))
    | _ => exact absurd (show false = true from hs) Bool.false_ne_true
  | int i =>
    obtain ⟨t, rfl⟩ := rx
    cases y with
    | non => cases ry; exact PySem.EqNone.eq_int_none (fin_bl I q (by simp))
    | int j => obtain ⟨t', rfl⟩ := ry; exact eq_int (fin_bl I q dec_int)
    | str j => obtain ⟨t', rfl⟩ := ry; exact PySem.EqMixed.eq_int_str (fin_bl I q (by simp))
    | _ => exact absurd (show false = true from hs) Bool.false_ne_true
  | str i =>
    obtain ⟨t, rfl⟩ := rx
    cases y with
    | non => cases ry; exact PySem.EqNone.eq_str_none (fin_bl I q (by simp))
    | bl j => cases ry; exact PySem.EqMixed.eq_str_bool (fin_bl I q (by simp))
    | int j => obtain ⟨t', rfl⟩ := ry; exact PySem.EqMixed.eq_str_int (fin_bl I q (by simp))
    | str j => obtain ⟨t', rfl⟩ := ry; exact eq_str (fin_bl I q dec_str)
    | _ => exact absurd (show false = true from hs) Bool.false_ne_true
  | byt i =>
    obtain ⟨t, rfl⟩ := rx
    cases y with
    | byt j => obtain ⟨t', rfl⟩ := ry; exact PySem.W.eq_bytes (fin_bl I q dec_byt)
    | _ => exact absurd (show false = true from hs) Bool.false_ne_true
  | _ => cases y <;> exact absurd (show false = true from hs) Bool.false_ne_true
theorem op_ne : OpR X (compareOp .NotEq) rNe := by
  intro pins s σ H x y v u Q I rx ry h
  obtain ⟨hs, q⟩ := h
  cases x with
  | non =>
    cases rx
    cases y with
    | non => cases ry; exact PySem.EqNone.ne_none_none (fin_bl I q (by simp))
    | bl j => cases ry; exact PySem.EqNone.ne_none_bool (fin_bl I q (by simp))
    | int j => obtain ⟨t', rfl⟩ := ry; exact PySem.EqNone.ne_none_int (fin_bl I q (by simp))
    | str j => obtain ⟨t', rfl⟩ := ry; exact PySem.EqNone.ne_none_str (fin_bl I q (by simp))
    | _ => exact absurd (show false = true from hs) Bool.false_ne_true
  | bl i =>
    cases rx
    cases y with
    | non => cases ry; exact PySem.EqNone.ne_bool_none (fin_bl I q (by simp))
    | bl j => cases ry; exact ne_bool (fin_bl I q (congrArg not dec_bl))
    | str j => obtain ⟨t', rfl⟩ := ry; exact PySem.EqMixed.ne_bool_str (fin_bl I q (by simp))
    | _ => exact absurd (show false = true from hs) Bool.false_ne_true
  | int i =>
    obtain ⟨t, rfl⟩ := rx
    cases y with
    | non => cases ry; exact PySem.EqNone.ne_int_none (fin_bl I q (by simp))
    | int j => obtain ⟨t', rfl⟩ := ry; exact ne_int (fin_bl I q (congrArg not dec_int))
    | str j => obtain ⟨t', rfl⟩ := ry; exact PySem.EqMixed.ne_int_str (fin_bl I q (by simp))
    | _ => exact absurd (show false = true from hs) Bool.false_ne_true
  | str i =>
    obtain ⟨t, rfl⟩ := rx
    cases y with
    | non => cases ry; exact PySem.EqNone.ne_str_none (fin_bl I q (by simp))
    | bl j => cases ry; exact PySem.EqMixed.ne_str_bool (fin_bl I q (by simp))
    | int j => obtain ⟨t', rfl⟩ := ry; exact PySem.EqMixed.ne_str_int (fin_bl I q (by simp))
    | str j => obtain ⟨t', rfl⟩ := ry; exact ne_str (fin_bl I q (congrArg not dec_str))
    | _ => exact absurd (show false = true from hs) Bool.false_ne_true
  | byt i =>
    obtain ⟨t, rfl⟩ := rx
    cases y with
    | byt j => obtain ⟨t', rfl⟩ := ry; exact PySem.W.ne_bytes (fin_bl I q (congrArg not dec_byt))
    | _ => exact absurd (show false = true from hs) Bool.false_ne_true
  | _ => cases y <;> exact absurd (show false = true from hs) Bool.false_ne_true

theorem op_lt : OpR X (compareOp .Lt) (rI0 fun i j => .bl (decide (i < j))) := opB0 fun _ _ _ _ _ _ _ q => lt_int q
theorem op_gt : OpR X (compareOp .Gt) (rI0 fun i j => .bl (decide (j < i))) := opB0 fun _ _ _ _ _ _ _ q => gt_int q
theorem op_ge : OpR X (compareOp .GtE) (rI0 fun i j => .bl (decide (j ≤ i))) := opB0 fun _ _ _ _ _ _ _ q => ge_int q
theorem op_isN : OpR X (compareOp .Is) (fun x y H Q => y = .non ∧ Q (.bl (decide (x = .non))) H) := by
  intro pins s σ H x y v u Q I rx ry h
  obtain ⟨rfl, q⟩ := h
  cases ry
  refine is_none_gen (fin_bl I q ?_)
  cases x <;> first
    | (cases rx; rfl)
    | (obtain ⟨t, rfl⟩ := rx; rfl)
theorem op_notN : OpR X (compareOp .IsNot) (fun x y H Q => y = .non ∧ Q (.bl (!decide (x = .non))) H) := by
  intro pins s σ H x y v u Q I rx ry h
  obtain ⟨rfl, q⟩ := h
  cases ry
  refine isnot_none_gen (fin_bl I q ?_)
  cases x <;> first
    | (cases rx; rfl)
    | (obtain ⟨t, rfl⟩ := rx; rfl)

noncomputable def isObj : HO → Bool
  | .lst _ => true
  | .ins _ _ _ => true
  | _ => false
theorem nomark (b : Expr) {op : CmpOp} (h : op ≠ .In := by decide) (h2 : op ≠ .NotIn := by decide) : behindInMarks op b = false := by
  have e1 : (op == CmpOp.In) = false := by cases op <;> first | rfl | exact absurd rfl h
  have e2 : (op == CmpOp.NotIn) = false := by cases op <;> first | rfl | exact absurd rfl h2
  cases b <;> simp [behindInMarks, e1, e2]
theorem pe_cmpR {op : CmpOp} {r : R2} (ho : OpR X (compareOp op) r) (ha : PE X a ta) (hb : PE X b tb) (hm : behindInMarks op b = false) : PE X (.Compare a [op] [b] pos) (tOp r ta tb) := by
  intro pins s σ H Q I h
  exact wpAny_Compare1 (binT ha hb I h fun v u s2 x y H2 I2 rx ry q => ho pins s2 σ H2 x y v u Q I2 rx ry q) hm
noncomputable def tTest (t : TE) : TT := fun σ H Q => t σ H fun x H' => ∃ k, x = .bl k ∧ Q k H'
theorem pt_cmpR {op : CmpOp} {r : R2} (ho : OpR X (compareOp op) r) (ha : PE X a ta) (hb : PE X b tb) (hm : behindInMarks op b = false) : PT X (.Compare a [op] [b] pos) (tTest (tOp r ta tb)) := by
  intro pins s σ H Q I h
  refine wpAny_isTrue_Compare1 (thn (ha pins s σ H _ I h) fun v s1 ⟨x, H1, I1, r1, q1⟩ => thn (hb pins s1 σ H1 _ I1 q1) fun u s2 ⟨y, H2, I2, r2, q2⟩ =>
    thn (ho pins s2 σ H2 x y v u _ I2 r1 r2 q2) fun c s3 ⟨z, H3, I3, r3, k, e, q3⟩ => ?_) hm
  subst e
  cases r3
  exact wpAny_truthy_bool ⟨H3, I3, q3⟩
noncomputable def tChain (r r' : R2) (ta tb tc : TE) : TE := fun σ H Q => ta σ H fun x H1 => tb σ H1 fun y H2 => r x y H2 fun z H3 => ∃ k, z = .bl k ∧
  (if k = true then tc σ H3 fun w' H4 => r' y w' H4 Q else Q (.bl false) H3)
noncomputable def TruV (K : PySem.W.Frag) (x : V) (H : Hp) (k : Bool) : Prop :=
  match x with
  | .non => k = false
  | .bl b => k = b
  | .int i => k = (i != 0)
  | .str y => y.length ≤ sizeLine ∧ k = ((y.length : Int) != 0)
  | .byt y => y.size ≤ sizeLine ∧ k = ((y.size : Int) != 0)
  | .ref p => (∃ xs, SqL K H p xs ∧ k = !xs.isEmpty) ∨ (∃ xs, SqT K H p xs ∧ k = !xs.isEmpty) ∨ ∃ kvs, H p = some (.dK kvs) ∧ k = !kvs.isEmpty
  | _ => False
theorem isEmpty_kv {κ : Type} {kvs : List (κ × V)} {vs : List (κ × Value)} (r : KV kvs vs) : (!vs.isEmpty) = !kvs.isEmpty := by
  cases r <;> rfl
theorem isEmpty_of {xs : List V} {its : List Value} (r : Vals xs its) : (!its.toArray.isEmpty) = !xs.isEmpty := by
  cases r <;> simp
theorem line63 : (sizeLine : Nat) < 2 ^ 63 := by rw [sizeLine_eq]; decide
theorem tru_ok : TruR X (fun x H Q => ∃ k, TruV X.K x H k ∧ Q k H) := by
  intro pins s σ H x v Q I rx h
  obtain ⟨k, e, q⟩ := h
  have hl := line63
  have hs : sizeLine = 16777216 := sizeLine_eq
  cases x with
  | non =>
    cases rx
    have e' : k = false := e
    subst e'
    exact truthy_none ⟨H, I, q⟩
  | bl b =>
    cases rx
    have e' : k = b := e
    subst e'
    exact wpAny_truthy_bool ⟨H, I, q⟩
  | int i =>
    obtain ⟨t, rfl⟩ := rx
    have e' : k = (i != 0) := e
    subst e'
    exact PySem.P.truthy_int ⟨H, I, q⟩
  | str y =>
    obtain ⟨t, rfl⟩ := rx
    obtain ⟨hy, e'⟩ : y.length ≤ sizeLine ∧ k = ((y.length : Int) != 0) := e
    subst e'
    exact PySem.P.truthy_str (by (first | lia | omega)) ⟨H, I.tok _, q⟩
  | byt y =>
    obtain ⟨t, rfl⟩ := rx
    obtain ⟨hy, e'⟩ : y.size ≤ sizeLine ∧ k = ((y.size : Int) != 0) := e
    subst e'
    exact PySem.W.truthy_bytes (by (first | lia | omega)) ⟨H, I.tok _, q⟩
  | ref p =>
    cases rx
    have e' : (∃ xs, SqL X.K H p xs ∧ k = !xs.isEmpty) ∨ (∃ xs, SqT X.K H p xs ∧ k = !xs.isEmpty) ∨ ∃ kvs, H p = some (.dK kvs) ∧ k = !kvs.isEmpty := e
    rcases e' with ⟨xs, hx, e'⟩ | ⟨xs, hx, e'⟩ | ⟨kvs, hx, e'⟩
    · subst e'
      obtain ⟨its, r, pl, hz⟩ := I.list hx
      have hlen := r.length
      exact wpAny_truthy_list pl.isList (by simp only [List.size_toArray]; (first | lia | omega)) ⟨H, I.tok _, by rw [isEmpty_of r]; exact q⟩
    · subst e'
      obtain ⟨its, r, pl, hz⟩ := I.tuple hx
      have hlen := r.length
      exact truthy_tuple pl (by simp only [List.size_toArray]; (first | lia | omega)) ⟨H, I.tok _, by rw [isEmpty_of r]; exact q⟩
    · subst e'
      obtain ⟨hz, hS, vs, r, m⟩ : kvs.length ≤ sizeLine ∧ (p == sysModules) = false ∧ ∃ vs, KV kvs vs ∧ s.heap.DictOf (mixKind X.prog X.w) p vs := I.hok p _ hx
      have hlen : kvs.length = vs.length := Paired.length r
      exact wpAny_truthy_dict hS m (by (first | lia | omega)) ⟨H, I.tok _, by rw [isEmpty_kv r]; exact q⟩
  | _ => exact (show False from e).elim
theorem pt_truth (ha : PE X a ta) (he : ∀ whole, isTrue a X.env whole = (do let v ← whole; standAt a.pos; holding [v] (truthy v))) :
    PT X a (fun σ H Q => ta σ H fun x H' => ∃ k, TruV X.K x H' k ∧ Q k H') := by
  intro pins s σ H Q I h
  exact isTrue_plain (thn (ha pins s σ H _ I h) fun v s1 ⟨x, H1, I1, r1, q1⟩ => tru_ok pins s1 σ H1 x v Q I1 r1 q1) (he _)

noncomputable def PlainIxT (b : Expr) : Prop := ∀ o i, subscripted b false o i = operate [o, i] (getItem o i)
theorem vals1 {x : V} {us : List Value} (r : Vals [x] us) : ∃ u, us = [u] ∧ RelV x u := by
  cases r with
  | cons r1 r2 => cases r2; exact ⟨_, rfl, r1⟩
theorem vals2 {x y : V} {us : List Value} (r : Vals [x, y] us) : ∃ u w', us = [u, w'] ∧ RelV x u ∧ RelV y w' := by
  cases r with
  | cons r1 r2 =>
    cases r2 with
    | cons r3 r4 => cases r4; exact ⟨_, _, rfl, r1, r3⟩
theorem call_abs : CallR X (.builtin "abs") (fun xs H Q => ∃ i, xs = [.int i] ∧ Q (.int (if i < 0 then -i else i)) H) := by
  intro pins s σ H xs us Q I r h
  obtain ⟨i, rfl, q⟩ := h
  obtain ⟨u, rfl, t, rfl⟩ := vals1 r
  exact call_abs_int fun u tk => ⟨.int (if i < 0 then -i else i), H, I.tok _, ⟨_, rfl⟩, q⟩
theorem call_max2 (hc : X.calm = true) : CallR X (.builtin "max") (fun xs H Q => ∃ i j, xs = [.int i, .int j] ∧ Q (.int (if j > i then j else i)) H) := by
  intro pins s σ H xs us Q I r h
  obtain ⟨i, j, rfl, q⟩ := h
  obtain ⟨u, w', rfl, ⟨t, rfl⟩, ⟨t', rfl⟩⟩ := vals2 r
  refine max_two_ints (I.ok.hd hc) fun h' tk k => ⟨_, H, I.kept k, ?_, q⟩
  by_cases hj : j > i
  · rw [if_pos hj, if_pos hj]; exact ⟨_, rfl⟩
  · rw [if_neg hj, if_neg hj]; exact ⟨_, rfl⟩
theorem call_min2 (hc : X.calm = true) : CallR X (.builtin "min") (fun xs H Q => ∃ i j, xs = [.int i, .int j] ∧ Q (.int (if j < i then j else i)) H) := by
  intro pins s σ H xs us Q I r h
  obtain ⟨i, j, rfl, q⟩ := h
  obtain ⟨u, w', rfl, ⟨t, rfl⟩, ⟨t', rfl⟩⟩ := vals2 r
  refine min_two_ints (I.ok.hd hc) fun h' tk k => ⟨_, H, I.kept k, ?_, q⟩
  by_cases hj : j < i
  · rw [if_pos hj, if_pos hj]; exact ⟨_, rfl⟩
  · rw [if_neg hj, if_neg hj]; exact ⟨_, rfl⟩
theorem call_int1 : CallR X (.type "int") (fun xs H Q => (∃ i, xs = [.int i] ∧ Q (.int i) H) ∨ ∃ k, xs = [.bl k] ∧ Q (.int (if k then 1 else 0)) H) := by
  intro pins s σ H xs us Q I r h
  rcases h with ⟨i, rfl, q⟩ | ⟨k, rfl, q⟩
  · obtain ⟨u, rfl, t, rfl⟩ := vals1 r
    exact call_int_int ⟨.int i, H, I, ⟨_, rfl⟩, q⟩
  · obtain ⟨u, rfl, r1⟩ := vals1 r
    cases r1
    exact call_int_bool ⟨.int (if k then 1 else 0), H, I.tok _, ⟨_, rfl⟩, q⟩
noncomputable def LenV (K : PySem.W.Frag) (x : V) (H : Hp) (n : Nat) : Prop :=
  match x with
  | .str y => y.length ≤ sizeLine ∧ n = y.length
  | .byt y => y.size ≤ sizeLine ∧ n = y.size
  | .ref p => (∃ xs, SqL K H p xs ∧ n = xs.length) ∨ ∃ xs, SqT K H p xs ∧ n = xs.length
  | _ => False
end
end L2

namespace L2
open PySem PySem.Spec PyProof.Rows

structure ObjM (h : Heap) (x dx C : Addr) (mA : Str → Option Value) : Prop where
  obj : h.get? x = some (PySem.W.instObj C dx)
  ns : h.Ns1 dx mA
  ne : dx ≠ x

theorem lookIn_ns {h : Heap} {dx : Addr} {mA : Str → Option Value} (n : h.Ns1 dx mA) : ∃ od, h.get? dx = some od ∧ ∀ name, PySem.W.lookIn name od = some (mA name) := by
  obtain ⟨o, es, ep, ho, hd, hk, _, hm⟩ := n
  refine ⟨o, ho, fun name => ?_⟩
  have e := hm name
  unfold nsFind findBy at e
  rw [← Array.find?_toList] at e
  unfold PySem.W.lookIn
  rw [hd]
  dsimp only
  split
  · rename_i y q
    rw [q] at e
    exact congrArg some e
  · rename_i q
    rw [q] at e
    have a : es.toList.any (·.refKey) = false := by
      rw [List.any_eq_false]
      intro y hy
      obtain ⟨z, t, hkey⟩ := hk y (Array.mem_toList_iff.mp hy)
      simp [DictEntry.refKey, hkey]
    have a' : ¬ es.toList.any (·.refKey) = true := by rw [a]; exact Bool.false_ne_true
    rw [if_neg a']
    exact congrArg some e

theorem ObjM.look {h : Heap} {x dx C : Addr} {mA : Str → Option Value} (I : ObjM h x dx C mA) : ∃ od, PySem.W.InstAt h x (PySem.W.instObj C dx) C (some od) ∧ ∀ name, PySem.W.lookIn name od = some (mA name) :=
  let ⟨od, ho, hl⟩ := lookIn_ns I.ns
  ⟨od, ⟨I.obj, rfl, rfl, ho⟩, hl⟩

section
variable {prog : Program} {w : World} {A : Around} {E : Value → Shared → Prop} {s : Shared} {K : PySem.W.Frag} {x dx C f : Addr} {mA : Str → Option Value} {name : Str} {v : Value}

end

noncomputable def putF (f : Str) (v : V) : List (Str × V) → List (Str × V)
  | [] => [(f, v)]
  | (g, x) :: r => if g = f then (g, v) :: r else (g, x) :: putF f v r
theorem RelO.some_of {v : V} {o : Option Value} (r : RelO (some v) o) : ∃ u, o = some u ∧ RelV v u := by
  cases o with
  | none => exact (show False from r).elim
  | some u => exact ⟨u, rfl, r⟩
section
variable {P : Program} {w : World} {H H' : Hp} {h h' : Heap} {a C dx : Addr} {fs fs' : List (Str × V)}
theorem ins_get (hok : HOk P w H h) (e : H a = some (.ins C dx fs)) : ∃ mA, ObjM h a dx C mA ∧ (∀ f, RelO (fs.lookup f) (mA f)) ∧ PySem.Within mA (fs.map (·.1)) ∧ fs.length ≤ 1000 ∧ H dx = some (.own a) := by
  obtain ⟨d, z, ne, ob, mA, n, r, q⟩ := (show ObjOk P w H h a (.ins C dx fs) from hok a _ e)
  exact ⟨mA, ⟨ob, n, ne⟩, r, q, z, d⟩
end

structure Cls (K : PySem.W.Frag) (C : Addr) : Prop where
  pg : PySem.W.plainGet K C Str.empty = true
  hd : PySem.W.hasDictIn K C = true
  po : PySem.W.plainOver K C = true
  sa : PySem.W.findIn K (.ref C) "__setattr__" = some (some (.builtin "object.__setattr__"))
theorem Cls.get {K : PySem.W.Frag} {C : Addr} (c : Cls K C) (f : Str) : PySem.W.plainGet K C f = true := c.pg
noncomputable def NoAttr (K : PySem.W.Frag) (C : Addr) (f : Str) : Prop := PySem.W.findIn K (.ref C) f = some none
structure Con (K : PySem.W.Frag) (C : Addr) (f : Str) (v : V) (u : Value) : Prop where
  at_ : PySem.W.findIn K (.ref C) f = some (some u)
  rel : RelV v u
  get : PySem.W.specialIn K u "__get__" = some none
  cp : PySem.W.copiedNames.contains f = false
structure Meth (K : PySem.W.Frag) (C : Addr) (m : Str) (f : Addr) : Prop where
  at_ : PySem.W.findIn K (.ref C) m = some (some (.ref f))
  fn : PySem.W.isFn K (.ref f) = true
  kp : PySem.W.keepIn K (.ref f) = true

section
variable {X : Cx} {pins : List (Addr × Obj)} {σ : St} {H : Hp} {s : Shared} {a C dx : Addr} {fs : List (Str × V)} {f : Str} {v : V} {A : Around} {E : Value → Shared → Prop}

end

noncomputable def tFld (K : PySem.W.Frag) (ta : TE) (f : Str) : TE := fun σ H Q => ta σ H fun x H1 => ∃ a C dx fs v, x = .ref a ∧ H1 a = some (.ins C dx fs) ∧ Cls K C ∧ NoAttr K C f ∧ fs.lookup f = some v ∧ Q v H1
noncomputable def tCon (K : PySem.W.Frag) (ta : TE) (f : Str) : TE := fun σ H Q => ta σ H fun x H1 => ∃ a C dx fs v u, x = .ref a ∧ H1 a = some (.ins C dx fs) ∧ Cls K C ∧ Con K C f v u ∧ fs.lookup f = none ∧ Q v H1
noncomputable def sFld (K : PySem.W.Frag) (ta tv : TE) (f : Str) : TS := fun D σ H => tv σ H fun y H1 => ta σ H1 fun x H2 => ∃ a C dx fs, x = .ref a ∧ H2 a = some (.ins C dx fs) ∧ Cls K C ∧ NoAttr K C f ∧ fs.length < 1000 ∧
  D.nx σ (upd H2 a (.ins C dx (putF f y fs)))
noncomputable def InOp (X : Cx) (op : Operator) (rd : V → V → Hp → VK → Prop) : Prop :=
  ∀ (pins : List (Addr × Obj)) (s : Shared) (σ : St) (H : Hp) (x y : V) (u v : Value) (Q : VK), Inv X pins σ H s → RelV x u → RelV y v → rd x y H Q → wpAny (model X.prog X.w) X.A (inplaceOp op u v) (EP X pins σ Q) X.xe s
noncomputable def sFldAug (K : PySem.W.Frag) (ta tv : TE) (rd : V → V → Hp → VK → Prop) (f : Str) : TS := fun D σ H => ta σ H fun x H1 => ∃ a C dx fs v, x = .ref a ∧ H1 a = some (.ins C dx fs) ∧ Cls K C ∧ NoAttr K C f ∧ fs.lookup f = some v ∧
  tv σ H1 fun y H2 => rd v y H2 fun z H3 => ∃ dx' fs', H3 a = some (.ins C dx' fs') ∧ fs'.length < 1000 ∧ D.nx σ (upd H3 a (.ins C dx' (putF f z fs')))

section
variable {X : Cx} {o e value : Expr} {f : Str} {pos pos' tpos : Pos} {ta tv : TE}
noncomputable def rAdd : V → V → Hp → VK → Prop := fun x y H Q => ∃ i j, x = .int i ∧ y = .int j ∧ Q (.int (i + j)) H
noncomputable def rSub : V → V → Hp → VK → Prop := fun x y H Q => ∃ i j, x = .int i ∧ y = .int j ∧ Q (.int (i - j)) H
end

section
variable {X : Cx} {pins : List (Addr × Obj)} {σ : St} {H : Hp} {s : Shared} {A : Around} {E : Value → Shared → Prop} {Q : Value → Shared → Prop} {c : Value} {b : Bool}
inductive TyOf (K : PySem.W.Frag) (H : Hp) : V → Value → Prop where
  | non : TyOf K H .non (.type "NoneType")
  | bl (x : Bool) : TyOf K H (.bl x) (.type "bool")
  | int (i : Int) : TyOf K H (.int i) (.type "int")
  | str (x : Str) : TyOf K H (.str x) (.type "str")
  | flt (x : UInt64) : TyOf K H (.flt x) (.type "float")
  | lst {a : Addr} {xs : List V} (e : H a = some (.lst xs)) : TyOf K H (.ref a) (.type "list")
  | frz {a : Addr} {o : Obj} {xs : List V} (e : H a = some (.frz o (.lst xs))) : TyOf K H (.ref a) (.type "list")
  | tup {a : Addr} {xs : List V} (e : H a = some (.tup xs)) : TyOf K H (.ref a) (.type "tuple")
  | dK {a : Addr} {kvs : List (Key × V)} (e : H a = some (.dK kvs)) : TyOf K H (.ref a) (.type "dict")
  | dT {a : Addr} {kvs : List (List Key × V)} (e : H a = some (.dT kvs)) : TyOf K H (.ref a) (.type "dict")
  | ins {a C dx : Addr} {fs : List (Str × V)} (e : H a = some (.ins C dx fs)) (cl : Cls K C) (ha : PySem.W.findIn K (.ref C) "__class__" = some (some (.builtin "object.__class__")))
      (hn : PySem.W.specialIn K (.builtin "object.__class__") "__get__" = some (some (.builtin "getset_descriptor.__get__"))) (htk : PySem.W.takesIn K (.builtin "object.__class__") = some true)
      (hm : PySem.W.mroIn K C (.type "object") = some true) : TyOf K H (.ref a) (.ref C)
theorem isinst_ok {x : V} {u t : Value} (I : Inv X pins σ H s) (rx : RelV x u) (ty : TyOf X.K H x t) (e : PySem.W.kitOne X.K t c = some b) (h : ∀ tk, Q (.bool b) { s with toks := tk }) :
    wpAny (model X.prog X.w) A (call (.builtin "isinstance") [u, c]) Q E s := by
  cases ty with
  | non => cases (show u = Value.none from rx); exact PySem.W.kia_one PySem.W.kitx_none I.kIn True.intro e (fun z => nomatch z) h
  | bl y => cases (show u = Value.bool y from rx); exact PySem.W.kia_one PySem.W.kitx_bool I.kIn True.intro e (fun z => nomatch z) h
  | int i => obtain ⟨t, q⟩ := (show ∃ t, u = Value.int i t from rx); cases q; exact PySem.W.kia_one PySem.W.kitx_int I.kIn True.intro e (fun z => nomatch z) h
  | str y => obtain ⟨t, q⟩ := (show ∃ t, u = Value.str y t from rx); cases q; exact PySem.W.kia_one PySem.W.kitx_str I.kIn True.intro e (fun z => nomatch z) h
  | flt y => obtain ⟨t, q⟩ := (show ∃ t, u = Value.float y t from rx); cases q; exact PySem.W.kia_one PySem.W.kitx_float I.kIn True.intro e (fun z => nomatch z) h
  | @lst a xs ea =>
    cases (show u = Value.ref a from rx)
    obtain ⟨_, _, n, _, h1⟩ := (show ObjOk X.prog X.w H s.heap a (.lst xs) from I.hok a _ ea)
    exact PySem.W.kia_one PySem.W.kitx_list I.kIn ⟨_, h1, rfl⟩ e (fun z => nomatch z) h
  | @frz a ob xs ea =>
    cases (show u = Value.ref a from rx)
    obtain ⟨_, _, _, n, _, h1⟩ := (show ObjOk X.prog X.w H s.heap a (.frz ob (.lst xs)) from I.hok a _ ea)
    exact PySem.W.kia_one PySem.W.kitx_list I.kIn ⟨_, h1, rfl⟩ e (fun z => nomatch z) h
  | @tup a xs ea =>
    cases (show u = Value.ref a from rx)
    obtain ⟨_, _, _, p⟩ := (show ObjOk X.prog X.w H s.heap a (.tup xs) from I.hok a _ ea)
    obtain ⟨o, h1, h2, _⟩ := p
    exact PySem.W.kia_one PySem.W.kitx_tuple I.kIn ⟨o, h1, h2⟩ e (fun z => nomatch z) h
  | @dK a kvs ea =>
    cases (show u = Value.ref a from rx)
    obtain ⟨_, _, vs, _, p⟩ := (show ObjOk X.prog X.w H s.heap a (.dK kvs) from I.hok a _ ea)
    obtain ⟨o, es, ep, h1, h2, _⟩ := p
    exact PySem.W.kia_one PySem.W.kitx_dict I.kIn ⟨o, h1, h2.1⟩ e (fun z => nomatch z) h
  | @dT a kvs ea =>
    cases (show u = Value.ref a from rx)
    obtain ⟨_, _, xs, _, o, es, ep, h1, h2, _⟩ := (show ObjOk X.prog X.w H s.heap a (.dT kvs) from I.hok a _ ea)
    exact PySem.W.kia_one PySem.W.kitx_dict I.kIn ⟨o, h1, h2.1⟩ e (fun z => nomatch z) h
  | @ins a C dx fs ea cl ha hn htk hm =>
    cases (show u = Value.ref a from rx)
    obtain ⟨mA, O, _⟩ := ins_get I.hok ea
    obtain ⟨od, J, _⟩ := O.look
    exact PySem.W.kia_one (PySem.W.kitx_own (cl.get _) cl.hd ha hn htk hm) I.kIn J e (fun z => nomatch z) h
end
end L2

namespace L2
open PySem PySem.Spec PyProof.Rows

structure Room (k : Nat) (A : Around) : Prop where
  hd : A.handled = none
  dp : A.depth + 3 * k + 5 < recursionLimit
  un : A.units + 16 * k + 200 < cLine
theorem Room.mono {j k : Nat} {A : Around} (r : Room k A) (h : j ≤ k) : Room j A := ⟨r.hd, by have := r.dp; (first | lia | omega), by have := r.un; (first | lia | omega)⟩
theorem Room.deeper {k : Nat} {A : Around} (r : Room (k + 1) A) (env : Env) : Room k (A.deeper env) :=
  ⟨r.hd, by have := r.dp; show A.depth + 1 + 3 * k + 5 < _; (first | lia | omega), by have := r.un; show A.units + 3 + 16 * k + 200 < _; (first | lia | omega)⟩
theorem Room.depth {k : Nat} {A : Around} (r : Room k A) : A.depth < recursionLimit := by have := r.dp; (first | lia | omega)
theorem Room.units {k : Nat} {A : Around} (r : Room k A) : A.units + 64 < cLine := by have := r.un; (first | lia | omega)
noncomputable def tNil : TA := fun _ H Q => Q [] H
noncomputable def tCons (ta : TE) (tr : TA) : TA := fun σ H Q => ta σ H fun x H1 => tr σ H1 fun xs H2 => Q (x :: xs) H2
section
variable {X : Cx} {e : Expr} {es : List Expr} {te : TE} {t : TA} {pos : Pos}
theorem pa_nil : PA X [] tNil := fun _ _ _ _ H Q I h => Calls.spliced_nil ⟨[], H, I, .nil, h⟩
theorem pa_cons (ha : PE X e te) (hr : PA X es t) (hs : starEach (e :: es) X.env = (false, eval e X.env) :: starEach es X.env := by rfl) : PA X (e :: es) (tCons te t) := by
  intro pos pins s σ H Q I h
  rw [hs]
  show wpAny _ _ (spliced ((false, eval e X.env) :: backTo pos (starEach es X.env))) _ _ s
  refine Calls.spliced_cons (thn (ha pins s σ H _ I h) fun u s1 ⟨x, H1, I1, r1, q1⟩ => ?_)
  exact thn (hr pos pins s1 σ H1 _ I1 q1) fun us s2 ⟨xs, H2, I2, r2, q2⟩ => ⟨x :: xs, H2, I2, .cons r1 r2, q2⟩

noncomputable def tTup (t : TA) : TE := fun σ H Q => t σ H fun xs H1 => xs.length ≤ sizeLine ∧ ∀ p, H1 p = none → Q (.ref p) (upd H1 p (.tup xs))
noncomputable def tLst (t : TA) : TE := fun σ H Q => t σ H fun xs H1 => xs.length ≤ sizeLine ∧ ∀ p, H1 p = none → Q (.ref p) (upd H1 p (.lst xs))
theorem pe_tup {x1} (h : PA X es t) : PE X (.Tuple es x1 pos) (tTup t) := by
  intro pins s σ H Q I hq
  refine wpAny_Tuple_spliced (thn (h pos pins s σ H _ I hq) fun us s1 ⟨xs, H1, I1, r, z, q⟩ => ⟨by rw [← r.length]; exact z, ?_⟩)
  have hf : H1 s1.heap.objs.size = none := I1.hok.fresh (Nat.le_refl _)
  refine ⟨.ref s1.heap.objs.size, upd H1 s1.heap.objs.size (.tup xs), I1.laid (t' := s1.toks) (fun b u e => Heap.get?_push_of_some _ e) (Nat.le_refl _) ?_, rfl, q _ hf⟩
  exact ⟨z, us, r, ⟨_, Heap.get?_push_size _ rfl, rfl, _, rfl⟩⟩
theorem pe_lst (h : PA X es t) : PE X (.List es pos) (tLst t) := by
  intro pins s σ H Q I hq
  refine wpAny_List_spliced (thn (h pos pins s σ H _ I hq) fun us s1 ⟨xs, H1, I1, r, z, q⟩ => ⟨by rw [← r.length]; exact z, ?_⟩)
  have hf : H1 s1.heap.objs.size = none := I1.hok.fresh (Nat.le_refl _)
  refine ⟨.ref s1.heap.objs.size, upd H1 s1.heap.objs.size (.lst xs), I1.laid (t' := s1.toks) (fun b u e => Heap.get?_push_of_some _ e) (Nat.le_refl _) ?_, rfl, q _ hf⟩
  exact ⟨z, us, 0, r, Heap.get?_push_size _ rfl⟩
end

noncomputable abbrev Sp := List V → Hp → VK → XK → Prop
noncomputable abbrev CXT := List Env → Hp → Shared → XK → Value → Shared → Prop

structure Env0 (P : Program) (w : World) (K : PySem.W.Frag) (mg : Str → Option Value) (base : Heap) (A : Around) (outer : List Env) (s : Shared) (H : Hp) : Prop where
  frames : A.frames = some outer
  mod : Mod K mg base
  bs : ∀ b o, base.get? b = some o → s.heap.get? b = some o ∧ H b = none
  bsz : base.objs.size ≤ s.heap.objs.size
  funs : s.heap.FunFrames base outer
  frf : ∀ b ∈ frs outer, H b = none
  hok : HOk P w H s.heap
  bare : AllBare s.gens
noncomputable def CE (outer : List Env) (P : Program) (w : World) (H : Hp) (s : Shared) (Q : VK) (u : Value) (s' : Shared) : Prop :=
  ∃ v H', s'.os = s.os ∧ AllBare s'.gens ∧ Un (frs outer) [] H H' s.heap s'.heap ∧ HOk P w H' s'.heap ∧ RelV v u ∧ Q v H'
noncomputable def CR (CX : CXT) (outer : List Env) (P : Program) (w : World) (H : Hp) (s : Shared) (Q : VK) (E : XK) (r : Result) (s' : Shared) : Prop :=
  match r with
  | .ok (.ret u) => CE outer P w H s Q u s'
  | .ok _ => False
  | .error e => CX outer H s E e s'
structure FnOk (P : Program) (w : World) (K : PySem.W.Frag) (mg : Str → Option Value) (base : Heap) (CX : CXT) (k : Nat) (f : Addr) (fd : FuncData) (ps : List Str) (sp : Sp) : Prop where
  len : ∀ vs H Q E, sp vs H Q E → vs.length = ps.length
  run : ∀ (A : Around) (outer : List Env) (s : Shared) (H : Hp) (args : Args) (us : List Value) (vs : List V) (Q : VK) (E : XK), Room k A → Env0 P w K mg base A outer s H → BindsTo s fd args (ps.zip us) → Vals vs us → sp vs H Q E →
    codeAny (model P w) A (.call (.ref f) args) (CR CX outer P w H s Q E) s
theorem FnOk.mono {P : Program} {w : World} {K : PySem.W.Frag} {mg : Str → Option Value} {base : Heap} {CX : CXT} {j k : Nat} {f : Addr} {fd : FuncData} {ps : List Str} {sp : Sp} (F : FnOk P w K mg base CX j f fd ps sp) (h : j ≤ k) :
    FnOk P w K mg base CX k f fd ps sp := ⟨F.len, fun A outer s H args us vs Q E hr => F.run A outer s H args us vs Q E (hr.mono h)⟩
section
variable {X : Cx} {pins : List (Addr × Obj)} {σ : St} {H : Hp} {s s' : Shared}
theorem Inv.env0 (I : Inv X pins σ H s) : Env0 X.prog X.w X.K X.mg X.base X.A X.stack s H :=
  ⟨I.ok.frames, I.ok.mod, I.bs, Nat.le_trans I.ok.bsz I.sz, I.stack, I.stkFree, I.hok, I.bare⟩
theorem Inv.after {Q : VK} {u : Value} (I : Inv X pins σ H s) (h : CE X.stack X.prog X.w H s Q u s') : EP X pins σ Q u s' := by
  obtain ⟨v, H', os, bare, un, hok, r, q⟩ := h
  obtain ⟨hh, g, d, t, os'⟩ := s'
  obtain rfl : os' = s.os := os
  exact ⟨v, H', I.call (h' := hh) (g' := g) (d' := d) (t' := t) (ch := []) un hok bare (fun b z => absurd z (by simp)), r, q⟩
end

noncomputable def tCall (sp : Sp) (dvs : List V) (E : XK) (t : TA) : TE := fun σ H Q => t σ H fun vs H1 => sp (vs ++ dvs) H1 Q E
noncomputable def tMeth (C : Addr) (m : Str) (sp : Sp) (dvs : List V) (E : XK) (ta : TE) (t : TA) : TE := fun σ H Q => ta σ H fun x H1 => ∃ a dx fs, x = .ref a ∧ H1 a = some (.ins C dx fs) ∧ fs.lookup m = none ∧
  t σ H1 fun vs H2 => sp (x :: (vs ++ dvs)) H2 Q E
noncomputable def tMake (C : Addr) (sp : Sp) (dvs : List V) (E : XK) (t : TA) : TE := fun σ H Q => t σ H fun vs H1 => ∀ x dx, H1 x = none → H1 dx = none → dx ≠ x →
  sp (.ref x :: (vs ++ dvs)) (upd (upd H1 dx (.own x)) x (.ins C dx [])) (fun v H2 => v = .non ∧ Q (.ref x) H2) E

noncomputable def Binds (K : PySem.W.Frag) (fd : FuncData) (ps : List Str) (ds : List Value) : Prop :=
  ∀ (s : Shared) (us : List Value), K.In s.heap → (us ++ ds).length = ps.length → BindsTo s fd ⟨us, []⟩ (ps.zip (us ++ ds))
theorem Binds.all {K : PySem.W.Frag} {fd : FuncData} {ps : List Str} (h : ∀ us : List Value, us.length = ps.length → bindArgs fd ⟨us, []⟩ = pure (ps.zip us)) : Binds K fd ps [] := fun s us _ hl => by
  rw [List.append_nil] at hl ⊢
  exact .of_eq (h us hl)

noncomputable def Passes (CX : CXT) (X : Cx) (E : XK) : Prop := ∀ (pins : List (Addr × Obj)) (σ : St) (H : Hp) (s : Shared) (e : Value) (s' : Shared), Inv X pins σ H s → CX X.stack H s E e s' → X.xe e s'

section
variable {X : Cx} {CX : CXT} {k : Nat} {f C : Addr} {fd : FuncData} {ps : List Str} {sp : Sp} {dvs : List V} {ds : List Value} {E : XK} {x m : Str} {p pos apos : Pos} {e o : Expr} {es : List Expr} {ta : TE} {t : TA}

theorem run_fn {pins : List (Addr × Obj)} {σ : St} {H : Hp} {s : Shared} {Q : VK} {us : List Value} {vs : List V} (F : FnOk X.prog X.w X.K X.mg X.base CX k f fd ps sp) (hr : Room k X.A) (hb : Binds X.K fd ps ds) (hd : Vals dvs ds) (hx : Passes CX X E)
    (I : Inv X pins σ H s) (r : Vals vs us) (h : sp (vs ++ dvs) H Q E) : wpAny (model X.prog X.w) X.A (call (.ref f) us) (EP X pins σ Q) X.xe s := by
  have r2 : Vals (vs ++ dvs) (us ++ ds) := r.append hd
  have hl : (us ++ ds).length = ps.length := by rw [← r2.length]; exact F.len _ _ _ _ h
  refine wpAny_call (codeAny_mono (F.run X.A X.stack s H ⟨us, []⟩ (us ++ ds) (vs ++ dvs) Q E hr I.env0 (hb s us I.kIn hl) r2 h) fun r s' hq => ?_)
  cases r with
  | error e => exact hx pins σ H s e s' I hq
  | ok fl =>
    cases fl with
    | ret u => exact I.after hq
    | next => exact False.elim hq
    | brk => exact False.elim hq
    | cont => exact False.elim hq

theorem pe_call (F : FnOk X.prog X.w X.K X.mg X.base CX k f fd ps sp) (hr : Room k X.A) (hg : Gl X x) (hm : X.mg x = some (.ref f)) (hk : PySem.W.keepIn X.K (.ref f) = true) (hb : Binds X.K fd ps ds) (hd : Vals dvs ds) (hx : Passes CX X E)
    (ha : PA X (e :: es) t) (hdb : (x == ("__debug__" : Str)) = false := by decide) (he : starEach (e :: es) X.env = (false, eval e X.env) :: starEach es X.env := by rfl) (hpl : (backTo pos (starEach es X.env)).any (·.1) = false := by rfl) :
    PE X (.Call (.Name x p) (e :: es) [] pos) (tCall sp dvs E t) := by
  intro pins s σ H Q I h
  refine wpAny_Call_Name_kw (ld_glob I hg hm ?_ hdb)
  refine PySem.W.callWith_K (h₀ := X.base) I.ok.mod.kin hk (thn (ha pos pins s σ H _ I h) fun us s1 ⟨vs, H1, I1, r, q⟩ => ⟨I1.kIn, ?_⟩) he hpl
  exact run_fn F hr hb hd hx I1 r q
structure Mk (K : PySem.W.Frag) (C f : Addr) : Prop where
  makes : PySem.W.makesIn K C = true
  init : PySem.W.findIn K (.ref C) "__init__" = some (some (.ref f))
  fn : PySem.W.isFn K (.ref f) = true
  kp : PySem.W.keepIn K (.ref C) = true

end

noncomputable def PK (X : Cx) (kws : List Keyword) (t : TA) : Prop :=
  ∀ (pos : Pos) (pins : List (Addr × Obj)) (s : Shared) (σ : St) (H : Hp) (Q : List V → Hp → Prop), Inv X pins σ H s → t σ H Q → wpAny (model X.prog X.w) X.A (evalAll ((backToKw pos (keywordEach kws X.env)).map (·.2))) (AP X pins σ Q) X.xe s
section
variable {X : Cx} {CX : CXT} {k : Nat} {f C : Addr} {fd : FuncData} {ps ks : List Str} {sp : Sp} {E : XK} {x m : Str} {p pos apos kpos : Pos} {e o : Expr} {es : List Expr} {kws : List Keyword} {te ta : TE} {t tk : TA} {nm : Option Str}
structure KBinds (K : PySem.W.Frag) (fd : FuncData) (ps ks : List Str) (g : List Value → List Value → List Value) (gV : List V → List V → List V) : Prop where
  to : ∀ (s : Shared) (us ws : List Value), K.In s.heap → (g us ws).length = ps.length → BindsTo s fd ⟨us, ks.zip ws⟩ (ps.zip (g us ws))
  rel : ∀ {vs : List V} {us : List Value} {zs : List V} {ws : List Value}, Vals vs us → Vals zs ws → Vals (gV vs zs) (g us ws)
noncomputable def tCallK (sp : Sp) (gV : List V → List V → List V) (E : XK) (t tk : TA) : TE := fun σ H Q => t σ H fun vs H1 => tk σ H1 fun zs H2 => sp (gV vs zs) H2 Q E
variable {g : List Value → List Value → List Value} {gV : List V → List V → List V}
end

structure FnScope (N P : List Str) (sc : Scope) : Prop where
  kind : sc.kind = .function
  co : sc.isCoroutine = false
  gen : sc.isGenerator = false
  nd : N.Nodup
  pre : N.take P.length = P
  par : ∀ x ∈ P, sc.names.lookup x = some .local ∨ sc.names.lookup x = some .cell
  nofree : ∀ y ∈ sc.names, y.2 ≠ .free

theorem bindL_out {kindOf : Str → Option NameKind} {x : Str} : ∀ {binds : List (Str × Value)} {m : Str → Option Value}, (∀ v, (x, v) ∉ binds) → bindL kindOf binds m x = m x
  | [], _, _ => rfl
  | (n, v) :: r, m, h => by
    unfold bindL
    rw [bindL_out fun w hw => h w (List.mem_cons_of_mem _ hw)]
    split
    · have : x ≠ n := by rintro rfl; exact h v List.mem_cons_self
      simp [this]
    · rfl
theorem bindC_out {kindOf : Str → Option NameKind} {x : Str} : ∀ {binds : List (Str × Value)} {m : Str → Option Value}, (∀ v, (x, v) ∉ binds) → bindC kindOf binds m x = m x
  | [], _, _ => rfl
  | (n, v) :: r, m, h => by
    unfold bindC
    rw [bindC_out fun w hw => h w (List.mem_cons_of_mem _ hw)]
    split
    · rfl
    · have : x ≠ n := by rintro rfl; exact h v List.mem_cons_self
      simp [this]
theorem bindL_get {kindOf : Str → Option NameKind} {x : Str} {v : Value} : ∀ {P : List Str} {vs : List Value} {i : Nat} {m : Str → Option Value}, P.Nodup → P[i]? = some x → vs[i]? = some v → kindOf x = some .local →
    bindL kindOf (P.zip vs) m x = some v
  | [], _, _, _, _, h, _, _ => by simp at h
  | _ :: _, [], _, _, _, _, h, _ => by simp at h
  | p :: P, w :: vs, 0, m, nd, h1, h2, hk => by
    simp at h1 h2; subst h1; subst h2
    show bindL kindOf ((p, w) :: P.zip vs) m p = _
    unfold bindL
    rw [bindL_out fun v hv => (List.nodup_cons.mp nd).1 (List.of_mem_zip hv).1, if_pos hk]
    simp
  | p :: P, w :: vs, i + 1, m, nd, h1, h2, hk => by
    show bindL kindOf ((p, w) :: P.zip vs) m x = _
    unfold bindL
    exact bindL_get (i := i) (List.nodup_cons.mp nd).2 (by simpa using h1) (by simpa using h2) hk
theorem bindC_get {kindOf : Str → Option NameKind} {x : Str} {v : Value} : ∀ {P : List Str} {vs : List Value} {i : Nat} {m : Str → Option Value}, P.Nodup → P[i]? = some x → vs[i]? = some v → kindOf x ≠ some .local →
    bindC kindOf (P.zip vs) m x = some v
  | [], _, _, _, _, h, _, _ => by simp at h
  | _ :: _, [], _, _, _, _, h, _ => by simp at h
  | p :: P, w :: vs, 0, m, nd, h1, h2, hk => by
    simp at h1 h2; subst h1; subst h2
    show bindC kindOf ((p, w) :: P.zip vs) m p = _
    unfold bindC
    rw [bindC_out fun v hv => (List.nodup_cons.mp nd).1 (List.of_mem_zip hv).1, if_neg hk]
    simp
  | p :: P, w :: vs, i + 1, m, nd, h1, h2, hk => by
    show bindC kindOf ((p, w) :: P.zip vs) m x = _
    unfold bindC
    exact bindC_get (i := i) (List.nodup_cons.mp nd).2 (by simpa using h1) (by simpa using h2) hk

noncomputable def start (N : List Str) (vs : List V) : St := vs.map some ++ List.replicate (N.length - vs.length) none

noncomputable def cxOf (CX : CXT) (P : Program) (w : World) (K : PySem.W.Frag) (mg : Str → Option Value) (base : Heap) (N : List Str) (qual : Str) (scope : Scope) (f : Addr) (cd : Value) (A : Around) (outer : List Env) (s : Shared) (H : Hp) (E : XK) : Cx where
  prog := P
  w := w
  K := K
  mg := mg
  base := base
  A := A.deeper (envOfC qual scope s.heap.objs.size f cd)
  N := N
  s₀ := s
  H₀ := H
  env := envOfC qual scope s.heap.objs.size f cd
  outer := outer
  stack := envOfC qual scope s.heap.objs.size f cd :: outer
  ex := []
  calm := true
  fn := fun _ => true
  pn := []
  xe := fun e s' => wpAny (model P w) (A.deeper (envOfC qual scope s.heap.objs.size f cd)) (leaving (envOfC qual scope s.heap.objs.size f cd) e) (fun _ s'' => CX outer H s E e s'') (fun e' s'' => CX outer H s E e' s'') s'

theorem cell_has {sc : Scope} {n : Nat} {x : Str} (h : sc.names.lookup x = some .cell) : ∃ c, (cellsFrom n sc.names []).lookup x = some c := by
  have q := PySem.W.cellsFrom_some sc.names n [] (.inl h)
  exact Option.isSome_iff_exists.mp q

theorem inv_start {CX : CXT} {P : Program} {w : World} {K : PySem.W.Frag} {mg : Str → Option Value} {base : Heap} {N ps : List Str} {qual : Str} {scope : Scope} {f : Addr} {cd : Value} {A : Around} {outer : List Env} {s s1 : Shared} {H : Hp} {E : XK} {us : List Value} {vs : List V}
    (S : FnScope N ps scope) (hd : A.handled = none) (e0 : Env0 P w K mg base A outer s H) (hl : vs.length = ps.length) (r : Vals vs us)
    (x : InCallC s s.heap.objs.size (bindL (envOfC qual scope s.heap.objs.size f cd).kindOf (ps.zip us) fun _ => none) (cellsFrom (s.heap.objs.size + 1) scope.names []) (bindC (envOfC qual scope s.heap.objs.size f cd).kindOf (ps.zip us) fun _ => none) s1) :
    Inv (cxOf CX P w K mg base N qual scope f cd A outer s H E) [] (start N vs) H s1 := by
  have hpl : ps.length ≤ N.length := by have := congrArg List.length S.pre; rw [List.length_take] at this; (first | lia | omega)
  obtain ⟨h1, tk, rfl, hk⟩ := x.done
  have noA : ∀ b : Addr, b ∉ (cxOf CX P w K mg base N qual scope f cd A outer s H E).ex := fun b z => absurd (show b ∈ ([] : List Addr) from z) (by simp)
  refine ⟨⟨e0.mod, S.kind, rfl, rfl, Nat.le_refl _, fun y z c h1 h2 => ?_, fun y hy => ?_, fun y c _ h => ?_, fun _ => hd, Around.frames_deeper e0.frames, .inr ⟨rfl, rfl⟩, fun b z => absurd z (noA b), e0.bs, e0.bsz, fun b _ _ => noA b, fun b z => absurd z (noA b), e0.funs, e0.frf⟩,
    rfl, e0.bare, Un.kept hk, ⟨_, x.toInCall.ns, fun i y v h1 h2 h3 => ?_⟩, fun y c h => ⟨_, x.cell y c h⟩, e0.hok.fresh (Nat.le_refl _), fun y c h => ?_, fun p hp => absurd (show p ∈ ([] : List (Addr × Obj)) from hp) (by simp), e0.hok.kept hk, ?_⟩
  · exact name_of_addr x.apart (PySem.mem_of_lookup h1) (PySem.mem_of_lookup h2)
  · have hy : scope.names.lookup y = some .cell ∨ scope.names.lookup y = some .free := hy
    rcases hy with hy | hy
    · exact cell_has hy
    · exact absurd rfl (S.nofree _ (PySem.mem_of_lookup hy))
  · exact Nat.le_of_lt (x.above y c (PySem.mem_of_lookup h))
  · have hi : i < vs.length := by
      unfold start at h2
      by_cases hi : i < vs.length
      · exact hi
      · rw [List.getElem?_append_right (by simpa using hi)] at h2
        rw [List.getElem?_replicate] at h2
        split at h2 <;> cases h2
    have ha : vs[i]? = some v := by
      unfold start at h2
      rw [List.getElem?_append_left (by simpa using hi), List.getElem?_map] at h2
      cases e : vs[i]? with
      | none => rw [e] at h2; cases h2
      | some a => rw [e] at h2; cases h2; rfl
    obtain ⟨u, hu, rv⟩ := r.get ha
    have hp : ps[i]? = some y := by
      rw [← S.pre, List.getElem?_take_of_lt (by (first | lia | omega))]; exact h1
    have ndP : ps.Nodup := by rw [← S.pre]; exact S.nd.sublist (List.take_sublist _ _)
    refine ⟨u, rv, ?_⟩
    rcases S.par y (List.mem_of_getElem? hp) with k | k
    · exact .inl ⟨k, bindL_get ndP hp hu k⟩
    · obtain ⟨c, e⟩ := cell_has (n := s.heap.objs.size + 1) k
      refine .inr ⟨.inl k, c, e, ?_⟩
      have q := x.cell y c e
      rw [bindC_get ndP hp hu (by show scope.names.lookup y ≠ _; rw [k]; decide)] at q
      exact q
  · exact e0.hok.fresh (Nat.le_of_lt (x.above y c (PySem.mem_of_lookup h)))
  · unfold start
    show _ = N.length
    rw [List.length_append, List.length_map, List.length_replicate]
    (first | lia | omega)

theorem fn_of {CX : CXT} {P : Program} {w : World} {K : PySem.W.Frag} {mg : Str → Option Value} {base : Heap} {k : Nat} {f : Addr} {name qual : Str} {params : Arguments} {body : List Stmt} {scope : Scope} {dV kV doc pm cdv ct oc : Value} {an od : Option Addr}
    {osl : Array (Option Value)} {N ps : List Str} {sp : Sp} (lk : K.lookup f = some ⟨oc, od, .func (PySem.W.fnOf name qual params body scope dV kV doc pm an cdv ct), osl⟩) (hcd : PySem.W.codeIn K cdv qual = true) (S : FnScope N ps scope)
    (len : ∀ vs H Q E, sp vs H Q E → vs.length = ps.length)
    (hbody : ∀ (A : Around) (outer : List Env) (s : Shared) (H : Hp) (vs : List V) (Q : VK) (E : XK), Room k (A.deeper (envOfC qual scope s.heap.objs.size f cdv)) → sp vs H Q E →
      ∃ t, PSs (cxOf CX P w K mg base N qual scope f cdv A outer s H E) body t ∧ t { nx := fun _ H' => Q .non H', rt := Q } (start N vs) H) :
    FnOk P w K mg base CX (k + 1) f (PySem.W.fnOf name qual params body scope dV kV doc pm an cdv ct) ps sp := by
  refine ⟨len, fun A outer s H args us vs Q E hr e0 hb r hsp => ?_⟩
  have hl := len _ _ _ _ hsp
  have KX : K.In s.heap := e0.mod.kin.keeps fun b o e => (e0.bs b o e).1
  have lim : s.heap.NoLimit := e0.mod.nolimit.keeps fun b o e => (e0.bs b o e).1
  have hkind : ∀ y ∈ ps.zip us, scope.names.lookup y.1 = some .local ∨ (scope.names.lookup y.1 = some .cell ∧ ((cellsFrom (s.heap.objs.size + 1) scope.names []).lookup y.1).isSome = true) := fun ⟨n, v⟩ hy => by
    rcases S.par n (List.of_mem_zip hy).1 with q | q
    · exact .inl q
    · exact .inr ⟨q, PySem.W.cellsFrom_some _ _ _ (.inl q)⟩
  refine codeAny_call_function hr.depth (KX _ _ lk) rfl S.co S.gen rfl (PySem.W.codeRec_of KX hcd) (hb _ _ _ _ ?_)
  refine wpAny_newFunctionEnv_cells S.kind hkind fun env he s1 x => ?_
  subst he
  refine ⟨lim.keeps x.toInCall.keep, codeAny_func ?_⟩
  obtain ⟨t, ht, hq⟩ := hbody A outer s H vs Q E (hr.deeper _) hsp
  have I : Inv (cxOf CX P w K mg base N qual scope f cdv A outer s H E) [] (start N vs) H s1 := inv_start S hr.hd e0 hl r x
  refine wpAny_mono (ht [] s1 (start N vs) H _ I hq) (fun fl s' hs => ?_) fun e s' hs => hs
  have fin : ∀ {σ' : St} {H' : Hp} {v : V} {u : Value}, Inv (cxOf CX P w K mg base N qual scope f cdv A outer s H E) [] σ' H' s' → RelV v u → Q v H' → CE outer P w H s Q u s' :=
    fun {σ' H' v u} J rv q => ⟨v, H', J.os, J.bare, J.base, J.hok, rv, q⟩
  cases fl with
  | ret u =>
    obtain ⟨v, σ', H', J, rv, q⟩ := hs
    exact fin J rv q
  | next =>
    obtain ⟨σ', H', J, q⟩ := hs
    exact fin (v := V.non) (u := Value.none) J rfl q
  | brk =>
    obtain ⟨_, _, _, q⟩ := hs
    exact False.elim q
  | cont =>
    obtain ⟨_, _, _, q⟩ := hs
    exact False.elim q
end L2

namespace L2
open PySem PySem.Spec PyProof.Rows
section
variable {X : Cx} {x : Str} {p pos : Pos} {e : Expr} {es : List Expr} {t : TA} {id T : String} {r : List V → Hp → VK → Prop}

noncomputable def tCB (r : List V → Hp → VK → Prop) (t : TA) : TE := fun σ H Q => t σ H fun vs H1 => r vs H1 Q
theorem pe_callB (hc : CallR X (.builtin id) r) (hg : Gl X x) (hm : X.mg x = none) (hv : bootBuiltins x = some (.builtin id)) (ha : PA X (e :: es) t) (hn : x ≠ "__name__" := by decide) (hdb : (x == ("__debug__" : Str)) = false := by decide)
    (he : starEach (e :: es) X.env = (false, eval e X.env) :: starEach es X.env := by rfl) (hpl : (backTo pos (starEach es X.env)).any (·.1) = false := by rfl) : PE X (.Call (.Name x p) (e :: es) [] pos) (tCB r t) := by
  intro pins s σ H Q I h
  refine wpAny_Call_Name_kw (ld_blt I hg hm hv ?_ hn hdb)
  exact PyProof.Rows.callWith_builtin1 (thn (ha pos pins s σ H _ I h) fun us s1 ⟨vs, H1, I1, r1, q1⟩ => hc pins s1 σ H1 vs us Q I1 r1 q1) he hpl
theorem pe_callTy (hc : CallR X (.type T) r) (hg : Gl X x) (hm : X.mg x = none) (hv : bootBuiltins x = some (.type T)) (ha : PA X (e :: es) t) (hn : x ≠ "__name__" := by decide) (hdb : (x == ("__debug__" : Str)) = false := by decide)
    (he : starEach (e :: es) X.env = (false, eval e X.env) :: starEach es X.env := by rfl) (hpl : (backTo pos (starEach es X.env)).any (·.1) = false := by rfl) : PE X (.Call (.Name x p) (e :: es) [] pos) (tCB r t) := by
  intro pins s σ H Q I h
  refine wpAny_Call_Name_kw (ld_blt I hg hm hv ?_ hn hdb)
  exact PyProof.Rows.callWith_type1 (thn (ha pos pins s σ H _ I h) fun us s1 ⟨vs, H1, I1, r1, q1⟩ => hc pins s1 σ H1 vs us Q I1 r1 q1) he hpl
end
end L2

namespace HT
open PySem PyProof.Rows

noncomputable def lexLt : List Int → List Int → Bool
  | [], [] => false
  | [], _ :: _ => true
  | _ :: _, [] => false
  | x :: xs, y :: ys => if x = y then lexLt xs ys else decide (x < y)
section
open PySem.SeqAt
open PySem.AutoSeq1 (wpAny_loadPart')
open PySem.MeetsSeq PySem.MeetsSeq2 PySem.MeetsSeq3

end

section
variable {prog : Program} {w : World} {A : Around} {E : Value → Shared → Prop} {s : Shared}

noncomputable def sIx (n d : Nat) : Option Int → Nat
  | none => d
  | some v => if v < 0 then (v + (n : Int)).toNat else min v.toNat n
theorem sIx_none (n d : Nat) : sIx n d none = d := rfl
theorem sIx_nat (n d k : Nat) : sIx n d (some (k : Int)) = min k n := by
  show (if (k : Int) < 0 then ((k : Int) + (n : Int)).toNat else min (k : Int).toNat n) = min k n
  rw [if_neg (by (first | lia | omega)), Int.toNat_natCast]
end
end HT

namespace L2
open PySem PySem.Spec PyProof.Rows

noncomputable abbrev TO := St → Hp → (Option Int → Hp → Prop) → Prop
noncomputable def PO (X : Cx) (e : Option Expr) (t : TO) : Prop :=
  ∀ (pins : List (Addr × Obj)) (s : Shared) (σ : St) (H : Hp) (Q : Option Int → Hp → Prop), Inv X pins σ H s → t σ H Q →
    wpAny (model X.prog X.w) X.A (evalPart e X.env) (fun u s' => ∃ o H', Inv X pins σ H' s' ∧ IsPart u o ∧ Q o H') X.xe s
noncomputable def tNoPart : TO := fun _ H Q => Q none H
noncomputable def tPart (t : TE) : TO := fun σ H Q => t σ H fun x H1 => ∃ i, x = .int i ∧ Q (some i) H1

theorem intsAre_of {ns : List Int} : ∀ {us : List Value}, Vals (ns.map V.int) us → IntsAre us ns := by
  induction ns with
  | nil => intro us r; rw [List.map_nil] at r; cases r; exact .nil
  | cons n ns ih =>
    intro us r
    rw [List.map_cons] at r
    cases r with
    | cons r1 r2 =>
      obtain ⟨t, e⟩ := r1
      subst e
      exact .cons n t (ih r2)

section
variable {X : Cx} {e : Expr} {te : TE} {lo hi : Option Expr} {tl th : TO} {pos p2 : Pos}

theorem po_none : PO X none tNoPart := by
  intro pins s σ H Q I h
  rw [evalPart_none]
  exact wpAny_pure ⟨none, H, I, .none, h⟩
theorem po_some (h : PE X e te) : PO X (some e) (tPart te) := by
  intro pins s σ H Q I hw
  rw [evalPart_some]
  refine thn (h pins s σ H _ I hw) fun u s1 ⟨x, H1, I1, r1, q1⟩ => ?_
  obtain ⟨i, rfl, q⟩ := q1
  obtain ⟨t, rfl⟩ := r1
  exact ⟨some i, H1, I1, .int i t, q⟩

noncomputable def SlR (X : Cx) (r : V → Option Int → Option Int → Hp → VK → Prop) : Prop :=
  ∀ (pins : List (Addr × Obj)) (s : Shared) (σ : St) (H : Hp) (x : V) (v vl vu : Value) (lo hi : Option Int) (sl : Addr) (Q : VK), Inv X pins σ H s → RelV x v → s.heap.IsSliceOf sl vl vu .none → IsPart vl lo → IsPart vu hi → r x lo hi H Q →
    ∃ T id, typeLookup (.type T) "__getitem__" = pure (some (.builtin id)) ∧ s.TypeIs v T ∧ wpAny (model X.prog X.w) X.A (getItem v (.ref sl)) (EP X pins σ Q) X.xe s
noncomputable def tSl (r : V → Option Int → Option Int → Hp → VK → Prop) (te : TE) (tl th : TO) : TE := fun σ H Q => te σ H fun x H1 => tl σ H1 fun l H2 => th σ H2 fun u H3 => r x l u H3 Q
theorem pe_slice {r : V → Option Int → Option Int → Hp → VK → Prop} (hr : SlR X r) (he : PE X e te) (hl : PO X lo tl) (hu : PO X hi th) : PE X (.Subscript e (.Slice lo hi none p2) pos) (tSl r te tl th) := by
  intro pins s σ H Q I h
  refine Subscript_ (thn (he pins s σ H _ I h) fun v s1 ⟨x, H1, I1, r1, q1⟩ => ?_)
  refine wpAny_Slice (thn (hl pins s1 σ H1 _ I1 q1) fun vl s2 ⟨l, H2, I2, pl, q2⟩ => thn (hu pins s2 σ H2 _ I2 q2) fun vu s3 ⟨u, H3, I3, pu, q3⟩ => ?_)
  rw [evalPart_none]
  refine wpAny_pure ?_
  have I4 : Inv X pins σ H3 { s3 with heap := s3.heap.push { cls := .type "slice", data := .fields #[vl, vu, .none] } } := I3.kept (t' := s3.toks) fun b ob q => Heap.get?_push_of_some _ q
  obtain ⟨T, id, hT, ht, hg⟩ := hr pins { s3 with heap := s3.heap.push { cls := .type "slice", data := .fields #[vl, vu, .none] } } σ H3 x v vl vu l u s3.heap.objs.size Q I4 r1 (Heap.IsSliceOf.new ..) pl pu q3
  show wpAny (model X.prog X.w) X.A (subscriptTail e (.Slice lo hi none p2) v (.ref s3.heap.objs.size)) (EP X pins σ Q) X.xe { s3 with heap := s3.heap.push { cls := .type "slice", data := .fields #[vl, vu, .none] } }
  exact tail_any (ops := [.ref s3.heap.objs.size, v]) ht hT hg (by with_unfolding_all rfl)

noncomputable def cutV (xs : List V) (lo hi : Option Int) : List V := (xs.drop (HT.sIx xs.length 0 lo)).take (HT.sIx xs.length xs.length hi - HT.sIx xs.length 0 lo)
theorem cutV_length (xs : List V) (lo hi : Option Int) : (cutV xs lo hi).length ≤ xs.length := by
  unfold cutV
  rw [List.length_take, List.length_drop]
  (first | lia | omega)
noncomputable def rSlT (K : PySem.W.Frag) : V → Option Int → Option Int → Hp → VK → Prop := fun x lo hi H Q => ∃ a xs, x = .ref a ∧ SqT K H a xs ∧
  ¬ (HT.sIx xs.length 0 lo = 0 ∧ HT.sIx xs.length xs.length hi = xs.length) ∧ ∀ p, H p = none → Q (.ref p) (upd H p (.tup (cutV xs lo hi)))
noncomputable def rLtT (K : PySem.W.Frag) : R2 := fun x y H Q => ∃ a b ns ms, x = .ref a ∧ y = .ref b ∧ SqT K H a (ns.map V.int) ∧ SqT K H b (ms.map V.int) ∧ Q (.bl (HT.lexLt ns ms)) H
noncomputable def rCatT (K : PySem.W.Frag) : R2 := fun x y H Q => ∃ a b xs ys, x = .ref a ∧ y = .ref b ∧ SqT K H a xs ∧ SqT K H b ys ∧ xs ≠ [] ∧ xs.length + ys.length ≤ sizeLine ∧
  (ys = [] → Q (.ref a) H) ∧ (ys ≠ [] → ∀ p, H p = none → Q (.ref p) (upd H p (.tup (xs ++ ys))))
end
end L2

namespace L2
open PySem PySem.Spec PyProof.Rows

noncomputable def ixN (n : Nat) (i : Int) : Option Nat := if 0 ≤ i then (if i < n then some i.toNat else none) else if -(n : Int) ≤ i then some (i + n).toNat else none
noncomputable def atI {α : Type} (xs : List α) (i : Int) : Option α := (ixN xs.length i).bind fun j => xs[j]?
theorem ixN_seq {n : Nat} {i : Int} {j : Nat} (h : ixN n i = some j) : seqIndex? i n = some j ∧ j < n ∧ -(n : Int) ≤ i ∧ i < n := by
  unfold ixN at h
  by_cases h0 : 0 ≤ i
  · rw [if_pos h0] at h
    by_cases h1 : i < n
    · rw [if_pos h1] at h
      have e : i.toNat = j := Option.some.inj h
      exact ⟨by rw [seqIndex_of h0 h1, e], by (first | lia | omega), by (first | lia | omega), h1⟩
    · rw [if_neg h1] at h; cases h
  · rw [if_neg h0] at h
    by_cases h1 : -(n : Int) ≤ i
    · rw [if_pos h1] at h
      have e : (i + n).toNat = j := Option.some.inj h
      exact ⟨by rw [seqIndex_neg (by (first | lia | omega)) h1, e], by (first | lia | omega), h1, by (first | lia | omega)⟩
    · rw [if_neg h1] at h; cases h
theorem atI_get {α : Type} {xs : List α} {i : Int} {v : α} (h : atI xs i = some v) : ∃ j, seqIndex? i xs.length = some j ∧ xs[j]? = some v ∧ j < xs.length ∧ -(xs.length : Int) ≤ i ∧ i < xs.length := by
  unfold atI at h
  cases e : ixN xs.length i with
  | none => rw [e] at h; cases h
  | some j =>
    rw [e] at h
    obtain ⟨h1, h2, h3, h4⟩ := ixN_seq e
    exact ⟨j, h1, h, h2, h3, h4⟩
theorem atI_nat {α : Type} {xs : List α} {j : Nat} {v : α} (h : xs[j]? = some v) : atI xs (j : Int) = some v := by
  have hj : j < xs.length := (List.getElem?_eq_some_iff.mp h).1
  have e : ixN xs.length (j : Int) = some j := by
    unfold ixN
    rw [if_pos (by (first | lia | omega)), if_pos (by (first | lia | omega))]; simp
  unfold atI; rw [e]; exact h
theorem atI_last {α : Type} (xs : List α) (v : α) : atI (xs ++ [v]) (-1) = some v := by
  have hl : (xs ++ [v]).length = xs.length + 1 := by simp
  have e : ixN (xs ++ [v]).length (-1) = some xs.length := by
    unfold ixN
    rw [hl, if_neg (by decide), if_pos (by (first | lia | omega))]
    congr 1
    (first | lia | omega)
  unfold atI
  rw [e]
  show (xs ++ [v])[xs.length]? = some v
  simp

noncomputable def PlainIx (b : Expr) : Prop := ∀ o i, subscripted b false o i = operate [o, i] (getItem o i)
noncomputable def IxR (X : Cx) (r : R2) : Prop :=
  ∀ (value slice : Expr) (pins : List (Addr × Obj)) (s : Shared) (σ : St) (H : Hp) (x y : V) (v u : Value) (Q : VK), Inv X pins σ H s → RelV x v → RelV y u → r x y H Q →
    subscripted slice false v u = operate [v, u] (getItem v u) → wpAny (model X.prog X.w) X.A (subscriptTail value slice v u) (EP X pins σ Q) X.xe s
noncomputable def MtR (X : Cx) (id : String) (r : V → List V → Hp → VK → Prop) : Prop :=
  ∀ (pins : List (Addr × Obj)) (s : Shared) (σ : St) (H : Hp) (x : V) (xs : List V) (v : Value) (us : List Value) (Q : VK), Inv X pins σ H s → RelV x v → Vals xs us → r x xs H Q →
    wpAny (model X.prog X.w) X.A (call (.builtin id) (v :: us)) (EP X pins σ Q) X.xe s
section
variable {X : Cx} {a b : Expr} {ta tb : TE} {pos : Pos}
theorem pe_ix {r : R2} (hr : IxR X r) (ha : PE X a ta) (hb : PE X b tb) (hs : PlainIx b) : PE X (.Subscript a b pos) (tOp r ta tb) := by
  intro pins s σ H Q I h
  exact Subscript_ (binT ha hb I h fun v u s2 x y H2 I2 rx ry q => hr a b pins s2 σ H2 x y v u Q I2 rx ry q (hs _ _))

noncomputable def rIxL (K : PySem.W.Frag) : R2 := fun x y H Q => ∃ p xs i v, x = .ref p ∧ y = .int i ∧ SqL K H p xs ∧ atI xs i = some v ∧ Q v H
noncomputable def rIxT (K : PySem.W.Frag) : R2 := fun x y H Q => ∃ p xs i v, x = .ref p ∧ y = .int i ∧ SqT K H p xs ∧ atI xs i = some v ∧ Q v H
noncomputable def rIxS : R2 := fun x y H Q => ∃ z i c, x = .str z ∧ y = .int i ∧ z.length ≤ sizeLine ∧ atI z.cps.toList i = some c ∧ Q (.str ⟨#[c]⟩) H
theorem ix_list : IxR X (rIxL X.K) := by
  intro value slice pins s σ H x y v u Q I rx ry h hs
  obtain ⟨p, xs, i, z, rfl, rfl, hq, he, q⟩ := h
  cases rx
  obtain ⟨t, rfl⟩ := ry
  obtain ⟨its, r, pl, hz⟩ := I.list hq
  obtain ⟨j, h1, h2, h3, h4, h5⟩ := atI_get he
  obtain ⟨w, ew, rw'⟩ := r.get h2
  have hl := r.length
  have hn := line63
  have fin : EP X pins σ Q w s := ⟨z, H, I, rw', q⟩
  by_cases h0 : 0 ≤ i
  · have hj : i.toNat = j := by
      rw [seqIndex_of h0 h5] at h1
      exact Option.some.inj h1
    exact item_listR pl.isList h0 (by (first | lia | omega)) (by rw [hj]; simpa using ew) fin hs
  · have hj : (i + (its.toArray.size : Int)).toNat = j := by
      rw [seqIndex_neg (by (first | lia | omega)) h4] at h1
      rw [List.size_toArray, ← hl]
      exact Option.some.inj h1
    exact subscriptTail_builtinR (x := w) pl.isList.typeIs slot_list_getitem.lookup
      (wpAny_getItem_list_neg (Q := fun r s' => r = w ∧ EP X pins σ Q r s') pl.isList (by (first | lia | omega)) (by rw [List.size_toArray] <;> (first | lia | omega)) (by (first | lia | omega)) (by rw [hj]; simpa using ew) ⟨rfl, fin⟩) hs
theorem ix_tup : IxR X (rIxT X.K) := by
  intro value slice pins s σ H x y v u Q I rx ry h hs
  obtain ⟨p, xs, i, z, rfl, rfl, hq, he, q⟩ := h
  cases rx
  obtain ⟨t, rfl⟩ := ry
  obtain ⟨its, r, pl, hz⟩ := I.tuple hq
  obtain ⟨j, h1, h2, h3, h4, h5⟩ := atI_get he
  obtain ⟨w, ew, rw'⟩ := r.get h2
  have hl := r.length
  have hn := line63
  have fin : EP X pins σ Q w s := ⟨z, H, I, rw', q⟩
  exact subscriptTail_builtinR (x := w) pl.typeIs slot_tuple_getitem.lookup
    (getItem_tuple (j := j) (Q := fun r s' => r = w ∧ EP X pins σ Q r s') pl (by (first | lia | omega)) (by (first | lia | omega)) (by rw [List.size_toArray, ← hl]; exact h1) (by simpa using ew) ⟨rfl, fin⟩) hs
noncomputable def rIx (K : PySem.W.Frag) : R2 := fun x y H Q => rIxL K x y H Q ∨ rIxT K x y H Q ∨ rIxS x y H Q
theorem mapSeq_set (its : List Value) (n j : Nat) (u : Value) : Obj.mapSeq (·.setIfInBounds j u) { cls := .type "list", data := .seq its.toArray n } = { cls := .type "list", data := .seq (its.set j u).toArray n } := by
  simp [Obj.mapSeq]
theorem Inv.lst {pins : List (Addr × Obj)} {σ : St} {H : Hp} {s : Shared} {p : Addr} {xs : List V} (I : Inv X pins σ H s) (h : H p = some (.lst xs)) :
    ∃ (its : List Value) (n : Nat), Vals xs its ∧ s.heap.get? p = some { cls := .type "list", data := .seq its.toArray n } ∧ xs.length ≤ sizeLine := by
  obtain ⟨z, its, n, r, e⟩ := I.hok p _ h
  exact ⟨its, n, r, e, z⟩
theorem Inv.lstUpd {pins : List (Addr × Obj)} {σ : St} {H : Hp} {s : Shared} {p : Addr} {xs ys : List V} {its its' : List Value} {n n' : Nat} {f : Obj → Obj} (I : Inv X pins σ H s) (h : H p = some (.lst xs))
    (ho : s.heap.get? p = some { cls := .type "list", data := .seq its.toArray n }) (hf : f { cls := .type "list", data := .seq its.toArray n } = { cls := .type "list", data := .seq its'.toArray n' }) (r : Vals ys its') (hz : ys.length ≤ sizeLine) (t : Nat) :
    Inv X pins σ (upd H p (.lst ys)) { s with heap := s.heap.update p f, toks := t } := by
  have e : (s.heap.update p f).get? p = some { cls := .type "list", data := .seq its'.toArray n' } := by
    rw [Heap.get?_update_self f ho (by rw [hf] <;> rfl), hf]
  refine I.write (x := p) (e := p) (by rw [h]; trivial) (.inl rfl) (fun b u hb q => (Heap.get?_update_other _ _ (Ne.symm hb)).trans q) ⟨_, e⟩ ?_
  exact ⟨hz, its', n', r, e⟩
noncomputable def rSetL : V → V → V → Hp → (Hp → Prop) → Prop := fun o i v H Q => ∃ p xs k j, o = .ref p ∧ i = .int k ∧ H p = some (.lst xs) ∧ ixN xs.length k = some j ∧ Q (upd H p (.lst (xs.set j v)))
theorem set_list : PSet X rSetL := by
  intro pins s σ H o i v ov iv u Q I ro ri rv h
  obtain ⟨p, xs, k, j, rfl, rfl, hp, hj, q⟩ := h
  cases ro
  obtain ⟨t, rfl⟩ := ri
  obtain ⟨its, n, r, ho, hz⟩ := I.lst hp
  obtain ⟨h1, h2, h3, h4⟩ := ixN_seq hj
  have hl := r.length
  have hn := line63
  have I' : Inv X pins σ (upd H p (.lst (xs.set j v))) { s with heap := s.heap.update p (Obj.mapSeq (·.setIfInBounds j u)) } :=
    I.lstUpd hp ho (mapSeq_set its n j u) (r.set rv j) (by rw [List.length_set]; exact hz) s.toks
  by_cases h0 : 0 ≤ k
  · have hk : k.toNat = j := by
      rw [seqIndex_of h0 h4] at h1
      exact Option.some.inj h1
    exact PySem.W.ki_setAt ho h0 (by (first | lia | omega)) (by rw [List.size_toArray, ← hl]; exact h4) (by rw [hk]; exact ⟨_, I', q⟩)
  · have hk : (k + (its.toArray.size : Int)).toNat = j := by
      rw [seqIndex_neg (by (first | lia | omega)) h3] at h1
      rw [List.size_toArray, ← hl]
      exact Option.some.inj h1
    exact PySem.W.ki_setBack ho (by (first | lia | omega)) (by rw [List.size_toArray, ← hl]; exact h3) (by (first | lia | omega)) (by rw [hk]; exact ⟨_, I', q⟩)

theorem slice_bounds (lo hi : Option Int) (n : Nat) : (sliceBounds lo hi none n).1 = ((HT.sIx n 0 lo : Nat) : Int) ∧ (sliceBounds lo hi none n).2.1 = ((HT.sIx n n hi : Nat) : Int) ∧ (sliceBounds lo hi none n).2.2 = 1 := by
  refine ⟨?_, ?_, rfl⟩
  · cases lo with
    | none => simp [sliceBounds, HT.sIx]
    | some i =>
      simp only [sliceBounds, HT.sIx, Option.getD_none, show (1 : Int) > 0 by decide, if_true]
      by_cases h : i < 0
      · simp only [h, if_true] <;> (first | lia | omega)
      · simp only [h, if_false] <;> (first | lia | omega)
  · cases hi with
    | none => simp [sliceBounds, HT.sIx]
    | some i =>
      simp only [sliceBounds, HT.sIx, Option.getD_none, show (1 : Int) > 0 by decide, if_true]
      by_cases h : i < 0
      · simp only [h, if_true] <;> (first | lia | omega)
      · simp only [h, if_false] <;> (first | lia | omega)
theorem slicePick_cut (its : List Value) (lo hi : Option Int) : slicePick its.toArray lo hi none = ((its.drop (HT.sIx its.length 0 lo)).take (HT.sIx its.length its.length hi - HT.sIx its.length 0 lo)).toArray := by
  obtain ⟨h1, h2, h3⟩ := slice_bounds lo hi its.toArray.size
  unfold slicePick
  rw [h1, h2, h3]
  simp only [sliceRange_one, pick_run, List.size_toArray] <;> rfl
noncomputable def rSlL (K : PySem.W.Frag) : V → Option Int → Option Int → Hp → VK → Prop := fun x lo hi H Q => ∃ a xs, x = .ref a ∧ SqL K H a xs ∧ ∀ p, H p = none → Q (.ref p) (upd H p (.lst (cutV xs lo hi)))
theorem sl_list : SlR X (rSlL X.K) := by
  intro pins s σ H x v vl vu lo hi sl Q I rx hs pl pu h
  obtain ⟨a, xs, rfl, hx, q⟩ := h
  cases rx
  obtain ⟨its, r, ht, hz⟩ := I.list hx
  have hlen := r.length
  refine ⟨"list", _, slot_list_getitem.lookup, ht.isList.typeIs, ?_⟩
  refine wpAny_getItem_list_slice ht.isList hs pl pu .none (by simp) ?_ (by rw [List.size_toArray] <;> (first | lia | omega))
  rw [slicePick_cut, ← hlen]
  refine ⟨.ref s.heap.objs.size, _, I.laid (t' := s.toks) (o := .lst (cutV xs lo hi)) (fun b ob q => Heap.get?_push_of_some _ q) (Nat.le_refl _) ?_, rfl, q _ (I.hok.fresh (Nat.le_refl _))⟩
  exact ⟨Nat.le_trans (cutV_length xs lo hi) hz, _, 0, (r.drop (HT.sIx xs.length 0 lo)).take (HT.sIx xs.length xs.length hi - HT.sIx xs.length 0 lo), Heap.get?_push_size _ rfl⟩

noncomputable def flatV : V → Bool
  | .non => true
  | .bl _ => true
  | .int _ => true
  | .str _ => true
  | _ => false
noncomputable def eqV : V → V → Bool
  | .non, .non => true
  | .bl a, .bl b => a == b
  | .bl a, .int b => (if a then 1 else 0) == b
  | .int a, .bl b => a == (if b then 1 else 0)
  | .int a, .int b => a == b
  | .str a, .str b => a == b
  | _, _ => false
theorem eqAt_V {A : Around} {s : Shared} {y x : V} {u v : Value} (ry : RelV y u) (rx : RelV x v) (fy : flatV y = true) (fx : flatV x = true) : SeqAt.EqAt A s u v (eqV y x) := by
  cases y with
  | non =>
    cases ry
    cases x with
    | non => cases rx; exact SeqAt.EqAt.same _
    | bl b => cases rx; exact SeqAt.EqAt.none_bool b
    | int b => obtain ⟨t, rfl⟩ := rx; exact SeqAt.EqAt.none_int b t
    | str b => obtain ⟨t, rfl⟩ := rx; exact SeqAt.EqAt.none_str b t
    | _ => exact absurd (show false = true from fx) Bool.false_ne_true
  | bl a =>
    cases ry
    cases x with
    | non => cases rx; exact SeqAt.EqAt.bool_none a
    | bl b => cases rx; exact SeqAt.EqAt.bool_bool a b
    | int b => obtain ⟨t, rfl⟩ := rx; exact SeqAt.EqAt.bool_int a b t
    | str b => obtain ⟨t, rfl⟩ := rx; exact SeqAt.EqAt.bool_str a b t
    | _ => exact absurd (show false = true from fx) Bool.false_ne_true
  | int a =>
    obtain ⟨t', rfl⟩ := ry
    cases x with
    | non => cases rx; exact SeqAt.EqAt.int_none a t'
    | bl b => cases rx; exact SeqAt.EqAt.int_bool a t' b
    | int b => obtain ⟨t, rfl⟩ := rx; exact SeqAt.EqAt.int_int a t' b t
    | str b => obtain ⟨t, rfl⟩ := rx; exact SeqAt.EqAt.int_str a t' b t
    | _ => exact absurd (show false = true from fx) Bool.false_ne_true
  | str a =>
    obtain ⟨t', rfl⟩ := ry
    cases x with
    | non => cases rx; exact SeqAt.EqAt.str_none a t'
    | bl b => cases rx; exact SeqAt.EqAt.str_bool a t' b
    | int b => obtain ⟨t, rfl⟩ := rx; exact SeqAt.EqAt.str_int a t' b t
    | str b => obtain ⟨t, rfl⟩ := rx; exact SeqAt.EqAt.str_str a t' b t
    | _ => exact absurd (show false = true from fx) Bool.false_ne_true
  | _ => exact absurd (show false = true from fy) Bool.false_ne_true
noncomputable def eqU (x : V) (u : Value) : Bool := match u with
  | .none => eqV .non x
  | .bool b => eqV (.bl b) x
  | .int i _ => eqV (.int i) x
  | .str z _ => eqV (.str z) x
  | _ => false
noncomputable def inV (x : V) (xs : List V) : Bool := xs.any fun y => eqV y x
noncomputable def rIn (K : PySem.W.Frag) (neg : Bool) : R2 := fun x y H Q => ∃ p xs, y = .ref p ∧ (SqL K H p xs ∨ SqT K H p xs) ∧ flatV x = true ∧ xs.all flatV = true ∧ Q (.bl (if neg then !inV x xs else inV x xs)) H
theorem call_len_seq : CallR X (.builtin "len") (fun xs H Q => ∃ p ys, xs = [.ref p] ∧ (SqL X.K H p ys ∨ SqT X.K H p ys) ∧ Q (.int ys.length) H) := by
  intro pins s σ H xs us Q I r h
  obtain ⟨p, ys, rfl, hq, q⟩ := h
  obtain ⟨u, rfl, rx⟩ := vals1 r
  cases rx
  have hn := line63
  rcases hq with hq | hq
  · obtain ⟨its, r', pl, hz⟩ := I.list hq
    have hlen := r'.length
    exact Calls.call_len_list pl.isList (by simp only [List.size_toArray] <;> (first | lia | omega)) ⟨.int ys.length, H, I.tok _, ⟨s.toks + 1, by rw [List.size_toArray, hlen]⟩, q⟩
  · obtain ⟨its, r', pl, hz⟩ := I.tuple hq
    have hlen := r'.length
    exact len_tuple pl (by simp only [List.size_toArray] <;> (first | lia | omega)) ⟨.int ys.length, H, I.tok _, ⟨s.toks + 1, by rw [List.size_toArray, hlen]⟩, q⟩
theorem call_list_of : CallR X (.type "list") (fun xs H Q => ∃ p ys, xs = [.ref p] ∧ (SqL X.K H p ys ∨ SqT X.K H p ys) ∧ ∀ l, H l = none → Q (.ref l) (upd H l (.lst ys))) := by
  intro pins s σ H xs us Q I r h
  obtain ⟨p, ys, rfl, hq, q⟩ := h
  obtain ⟨u, rfl, rx⟩ := vals1 r
  cases rx
  have fin : ∀ (its : List Value), Vals ys its → ys.length ≤ sizeLine → ∀ (h' : Heap) (c' : Nat), (∀ b o', s.heap.get? b = some o' → h'.get? b = some o') →
      h'.get? s.heap.objs.size = some { cls := .type "list", dict := none, data := .seq its.toArray c', slots := #[] } → EP X pins σ Q (.ref s.heap.objs.size) { s with heap := h' } := fun its r' hz h' c' kp e =>
    ⟨.ref s.heap.objs.size, _, I.laid (t' := s.toks) kp (Nat.le_refl _) (show ObjOk X.prog X.w _ h' _ (.lst ys) from ⟨hz, its, c', r', e⟩), rfl, q _ (I.hok.fresh (Nat.le_refl _))⟩
  rcases hq with hq | hq
  · obtain ⟨its, r', pl, hz⟩ := I.list hq
    have hlen := r'.length
    obtain ⟨o, ho, hc, n, hd⟩ := pl.isList
    exact call_list_seq p (.inl rfl) ho hc hd (fun h' c' kp e => fin its r' hz h' c' kp e) (by simp only [List.size_toArray] <;> (first | lia | omega))
  · obtain ⟨its, r', pl, hz⟩ := I.tuple hq
    have hlen := r'.length
    obtain ⟨o, ho, hc, n, hd⟩ := pl
    exact call_list_seq p (.inr rfl) ho hc hd (fun h' c' kp e => fin its r' hz h' c' kp e) (by simp only [List.size_toArray] <;> (first | lia | omega))
noncomputable def tyV (K : PySem.W.Frag) (T : String) (x : V) (H : Hp) : Prop := match x with
  | .str _ => T = "str"
  | .int _ => T = "int"
  | .ref p => (T = "list" ∧ ∃ xs, SqL K H p xs) ∨ (T = "tuple" ∧ ∃ o, K.lookup p = some o ∧ o.cls = .type "tuple" ∧ o.dict = none) ∨
      (T = "dict" ∧ ((∃ kvs, H p = some (.dK kvs)) ∨ ∃ kvs, H p = some (.dT kvs))) ∨ (T = "set" ∧ ∃ S n, H p = some (.set S n))
  | _ => False
theorem tyV_is {pins : List (Addr × Obj)} {σ : St} {H : Hp} {s : Shared} {T : String} {x : V} {v : Value} (I : Inv X pins σ H s) (r : RelV x v) (ty : tyV X.K T x H) :
    s.TypeIs v T ∧ ∀ a, v = .ref a → ∃ ob, s.heap.get? a = some ob ∧ ob.dict = none := by
  cases x with
  | str z =>
    obtain ⟨t, rfl⟩ := r
    cases (show T = "str" from ty)
    exact ⟨typeIs_str s z t, fun _ e => nomatch e⟩
  | int i =>
    obtain ⟨t, rfl⟩ := r
    cases (show T = "int" from ty)
    exact ⟨typeIs_int s i t, fun _ e => nomatch e⟩
  | ref p =>
    cases r
    rcases ty with ⟨rfl, xs, hq⟩ | ⟨rfl, o, hk, hc, hd⟩ | ⟨rfl, hk⟩ | ⟨rfl, S, n, hk⟩
    · obtain ⟨its, _, pl, _⟩ := I.list hq
      refine ⟨pl.isList.typeIs, fun a e => ?_⟩
      cases e
      obtain ⟨o, n, e, c, hd, _⟩ := pl
      exact ⟨o, e, hd⟩
    · refine ⟨⟨o, I.kIn p o hk, hc⟩, fun a e => ?_⟩
      cases e
      exact ⟨o, I.kIn _ o hk, hd⟩
    · have z : ∃ o, s.heap.get? p = some o ∧ o.ExactDict := by
        rcases hk with ⟨kvs, hk⟩ | ⟨kvs, hk⟩
        · obtain ⟨_, _, _, _, o, _, _, e, ex, _⟩ := I.hok p _ hk
          exact ⟨o, e, ex⟩
        · obtain ⟨_, _, _, _, o, _, _, e, ex, _⟩ := I.hok p _ hk
          exact ⟨o, e, ex⟩
      obtain ⟨o, e, ex⟩ := z
      refine ⟨⟨o, e, ex.1⟩, fun a e2 => ?_⟩
      cases e2
      exact ⟨o, e, ex.2.1⟩
    · obtain ⟨o, _, _, _, e, ex, _⟩ := I.hok p _ hk
      refine ⟨⟨o, e, ex.1⟩, fun a e2 => ?_⟩
      cases e2
      exact ⟨o, e, ex.2.1⟩
  | _ => exact False.elim ty
noncomputable def tBM0 (K : PySem.W.Frag) (T : String) (r : V → List V → Hp → VK → Prop) (to : TE) : TE := fun σ H Q => to σ H fun x H1 => tyV K T x H1 ∧ r x [] H1 Q
noncomputable def tBM (K : PySem.W.Frag) (T : String) (r : V → List V → Hp → VK → Prop) (to : TE) (t : TA) : TE := fun σ H Q => to σ H fun x H1 => tyV K T x H1 ∧ t σ H1 fun xs H2 => r x xs H2 Q
variable {o e : Expr} {es : List Expr} {to : TE} {t : TA} {name : Str} {apos cpos : Pos} {T id : String} {r : V → List V → Hp → VK → Prop}
theorem pe_bm0 (pa : PlainAttrs T) (slot : Slot T name id) (hty : typeOf (.builtin id) = pure (.type "method_descriptor")) (hm : MtR X id r) (ho : PE X o to)
    (hbase : attributeBase o name X.env (eval o X.env) = eval o X.env := by rfl) (hline : (apos.endLine == cpos.line) = true := by rfl) : PE X (.Call (.Attribute o name apos) [] [] cpos) (tBM0 X.K T r to) := by
  intro pins s σ H Q I h
  refine wpAny_Call_method0_late hbase hline (thn (ho pins s σ H _ I h) fun v s1 ⟨x, H1, I1, r1, ty, q1⟩ => ?_)
  obtain ⟨h1, h2⟩ := tyV_is I1 r1 ty
  exact ⟨T, id, pa, slot, hty, h1, h2, Calls.callWith_builtin rfl (PySem.evalArgs_none (hm pins s1 σ H1 x [] v [] Q I1 r1 .nil q1))⟩
theorem pe_bm (pa : PlainAttrs T) (slot : Slot T name id) (hty : typeOf (.builtin id) = pure (.type "method_descriptor")) (hm : MtR X id r) (ho : PE X o to) (ha : PA X (e :: es) t)
    (hbase : attributeBase o name X.env (eval o X.env) = eval o X.env := by rfl)
    (hfew : ((backTo cpos (starEach (e :: es) X.env)).all (fun x => !x.1) && (backToKw cpos (keywordEach [] X.env)).all (fun x => x.1.isSome)
      && decide ((e :: es).length + ([] : List Keyword).length + (if ([] : List Keyword).isEmpty then 0 else 1) < 30)) = true := by rfl)
    (hline : (apos.endLine == cpos.line) = true := by rfl) (hs : starEach (e :: es) X.env = (false, eval e X.env) :: starEach es X.env := by rfl) (hplain : (backTo cpos (starEach es X.env)).any (·.1) = false := by rfl) :
    PE X (.Call (.Attribute o name apos) (e :: es) [] cpos) (tBM X.K T r to t) := by
  intro pins s σ H Q I h
  refine wpAny_Call_method_late hbase hfew hline rfl (thn (ho pins s σ H _ I h) fun v s1 ⟨x, H1, I1, r1, ty, q1⟩ => ?_)
  obtain ⟨h1, h2⟩ := tyV_is I1 r1 ty
  refine ⟨T, id, pa, slot, hty, h1, h2, ?_⟩
  have hA := ha cpos pins s1 σ H1 _ I1 q1
  rw [hs] at hA ⊢
  refine Calls.callWith_builtin (by show (false || (backTo cpos (starEach es X.env)).any (·.1)) = false; rw [hplain] <;> rfl) (Calls.evalArgs_plain ?_)
  exact thn hA fun us s2 ⟨vs, H2, I2, r2, q2⟩ => hm pins s2 σ H2 x vs v us Q I2 r1 r2 q2
/- xs.append(e), list.index on a module's tuple .. are MtR facts of 06m -/
end
end L2

namespace L2
open PySem PySem.Spec PyProof.Rows

noncomputable def MtM (X : Cx) (id : String) (r : V → List V → Hp → VK → Prop) : Prop :=
  ∀ (pins : List (Addr × Obj)) (s : Shared) (σ : St) (H : Hp) (x : V) (xs : List V) (v : Value) (us : List Value) (Q : VK), Inv X pins σ H s → RelV x v → Vals xs us → r x xs H Q →
    wpAny (model X.prog X.w) X.A (call (.builtin id) (v :: us)) (EP X pins σ Q) X.xe s

theorem Vals.one : ∀ {x : V} {us : List Value}, Vals [x] us → ∃ u, us = [u] ∧ RelV x u
  | _, _, .cons r .nil => ⟨_, rfl, r⟩
theorem Vals.zero : ∀ {us : List Value}, Vals [] us → us = []
  | _, .nil => rfl
theorem Vals.dropLast {xs : List V} {us : List Value} (h : Vals xs us) : Vals xs.dropLast us.dropLast := by
  induction h with
  | nil => exact .nil
  | cons r t ih =>
    cases t with
    | nil => exact .nil
    | cons q t' => exact .cons r ih
theorem Vals.eraseIdx : ∀ {xs : List V} {us : List Value} (i : Nat), Vals xs us → Vals (xs.eraseIdx i) (us.eraseIdx i)
  | _, _, _, .nil => .nil
  | _, _, 0, .cons _ t => t
  | _, _, i + 1, .cons r t => .cons r (Vals.eraseIdx i t)
theorem Vals.reverse {xs : List V} {us : List Value} (h : Vals xs us) : Vals xs.reverse us.reverse := by
  induction h with
  | nil => exact .nil
  | cons r t ih => rw [List.reverse_cons, List.reverse_cons]; exact Vals.append ih (.cons r .nil)
theorem Vals.rep {xs : List V} {us : List Value} (h : Vals xs us) : ∀ k : Nat, Vals (List.replicate k xs).flatten (List.replicate k us).flatten
  | 0 => .nil
  | k + 1 => by
    rw [List.replicate_succ, List.replicate_succ, List.flatten_cons, List.flatten_cons]
    exact Vals.append h (Vals.rep h k)
theorem erase_last {α : Type} (l : List α) : l.eraseIdx (l.length - 1) = l.dropLast := by
  induction l with
  | nil => rfl
  | cons a r ih =>
    cases r with
    | nil => rfl
    | cons b r =>
      have e : (a :: b :: r).length - 1 = ((b :: r).length - 1) + 1 := by
        have h1 : (a :: b :: r).length = r.length + 2 := rfl
        have h2 : (b :: r).length = r.length + 1 := rfl
        (first | lia | omega)
      rw [e, List.eraseIdx_cons_succ, ih]
      all_goals rfl
theorem len_erase {α : Type} : ∀ (l : List α) (i : Nat), (l.eraseIdx i).length ≤ l.length
  | [], _ => Nat.le_refl _
  | _ :: _, 0 => Nat.le_succ _
  | _ :: r, i + 1 => Nat.succ_le_succ (len_erase r i)
theorem foldl_rep (its : List Value) : ∀ (k : Nat) (acc : List Value),
    List.foldl (fun x1 x2 => x1 ++ x2) acc.toArray (List.replicate k its.toArray) = (acc ++ (List.replicate k its).flatten).toArray
  | 0, acc => by simp
  | k + 1, acc => by
    have e : acc.toArray ++ its.toArray = (acc ++ its).toArray := by simp
    have e2 : (acc ++ its) ++ (List.replicate k its).flatten = acc ++ (List.replicate (k + 1) its).flatten := by
      rw [List.replicate_succ, List.flatten_cons, List.append_assoc]
    rw [← e2, ← foldl_rep its k (acc ++ its), ← e, List.replicate_succ, List.foldl_cons]

section
variable {X : Cx} {pins : List (Addr × Obj)} {σ : St} {H : Hp} {s : Shared} {l b : Addr} {xs ys zs : List V}

theorem Inv.lset {its its' : List Value} {n : Nat} {f : Array Value → Array Value} {t' : Nat} (I : Inv X pins σ H s) (hH : H l = some (.lst xs))
    (e : s.heap.get? l = some { cls := .type "list", data := .seq its.toArray n }) (hf : f its.toArray = its'.toArray) (hv : Vals ys its') (hz : ys.length ≤ sizeLine) :
    Inv X pins σ (upd H l (.lst ys)) { s with heap := s.heap.update l (Obj.mapSeq f), toks := t' } := by
  have q := PySem.IsL.update e f
  rw [hf] at q
  refine I.write (x := l) (e := l) (by rw [hH]; exact trivial) (.inl rfl) (fun b' u hb hu => (Heap.get?_update_other s.heap (Obj.mapSeq f) (Ne.symm hb)).trans hu) ⟨_, q⟩ ?_
  exact ⟨hz, its', _, hv, q⟩
theorem Inv.lnew {its : List Value} {t' : Nat} (I : Inv X pins σ H s) (hv : Vals ys its) (hz : ys.length ≤ sizeLine) :
    Inv X pins σ (upd H s.heap.objs.size (.lst ys)) { s with heap := s.heap.push { cls := .type "list", data := .seq its.toArray }, toks := t' } :=
  I.laid (fun _ _ q => Heap.get?_push_of_some _ q) (Nat.le_refl _) ⟨hz, its, 0, hv, Heap.get?_push_size _ rfl⟩
theorem Inv.fresh (I : Inv X pins σ H s) : H s.heap.objs.size = none := I.hok.fresh (Nat.le_refl _)
theorem Inv.lstM (I : Inv X pins σ H s) (hH : H l = some (.lst xs)) : xs.length ≤ sizeLine ∧ ∃ (its : List Value) (n : Nat), Vals xs its ∧ xs.length = its.length ∧ s.heap.get? l = some { cls := .type "list", data := .seq its.toArray n } := by
  obtain ⟨z, its, n, r, e⟩ := I.hok l _ hH
  exact ⟨z, its, n, r, r.length, e⟩

theorem notLongL {n : Nat} (h : n ≤ sizeLine) : Builtin.List.listTooLong n = false := by
  unfold Builtin.List.listTooLong
  exact decide_eq_false (by (first | lia | omega))
end

section
variable {X : Cx}

noncomputable def rAppend : V → List V → Hp → VK → Prop := fun x vs H Q => ∃ l xs y, x = .ref l ∧ vs = [y] ∧ H l = some (.lst xs) ∧ xs.length < sizeLine ∧ Q .non (upd H l (.lst (xs ++ [y])))
theorem mt_append : MtM X "list.append" rAppend := by
  intro pins s σ H x vs v us Q I rx rv h
  obtain ⟨l, xs, y, rfl, rfl, hH, hz, q⟩ := h
  cases rx
  obtain ⟨u, rfl, ru⟩ := rv.one
  obtain ⟨z, its, n, r, hl, e⟩ := I.lstM hH
  refine call_meets F.slot_list_append ⟨_, e, rfl⟩ F.entry_list_append (F.args_list_append_2 _ _) (PySem.list_append l its.toArray n u (by rw [List.size_toArray]; (first | lia | omega))) ⟨e, ?_⟩
  refine ⟨.non, _, I.lset (its' := its ++ [u]) hH e (by simp) (r.append (.cons ru .nil)) ?_, rfl, q⟩
  rw [List.length_append, List.length_singleton]
  (first | lia | omega)

noncomputable def rExtend : V → List V → Hp → VK → Prop := fun x vs H Q => ∃ l b xs zs, x = .ref l ∧ vs = [.ref b] ∧ H l = some (.lst xs) ∧ H b = some (.lst zs) ∧ xs.length + zs.length ≤ sizeLine ∧ Q .non (upd H l (.lst (xs ++ zs)))
theorem mt_extend : MtM X "list.extend" rExtend := by
  intro pins s σ H x vs v us Q I rx rv h
  obtain ⟨l, b, xs, zs, rfl, rfl, hH, hB, hz, q⟩ := h
  cases rx
  obtain ⟨u, rfl, ru⟩ := rv.one
  cases ru
  obtain ⟨z, its, n, r, hl, e⟩ := I.lstM hH
  obtain ⟨z2, its2, n2, r2, hl2, e2⟩ := I.lstM hB
  have hsz : its.toArray.size + its2.toArray.size ≤ sizeLine := by rw [List.size_toArray, List.size_toArray]; (first | lia | omega)
  have hlong : ¬ (!its.toArray.isEmpty && Builtin.List.listTooLong (its.toArray.size + its2.toArray.size)) = true := by
    rw [notLongL hsz, Bool.and_false]
    exact Bool.false_ne_true
  refine call_meets F.slot_list_extend ⟨_, e, rfl⟩ F.entry_list_extend (F.args_list_extend_2 _ _)
    (AutoSeq1.list_extend_list_list_0 l its.toArray n b its2.toArray n2 hlong (by rw [List.size_toArray]; (first | lia | omega)) (by (first | lia | omega))) ⟨e, e2, ?_⟩
  refine ⟨.non, _, I.lset (its' := its ++ its2) hH e (by simp) (r.append r2) ?_, rfl, q⟩
  rw [List.length_append]
  (first | lia | omega)

noncomputable def rPop : V → List V → Hp → VK → Prop := fun x vs H Q => ∃ l xs y, x = .ref l ∧ vs = [] ∧ H l = some (.lst xs) ∧ xs[xs.length - 1]? = some y ∧ Q y (upd H l (.lst xs.dropLast))
theorem mt_pop : MtM X "list.pop" rPop := by
  intro pins s σ H x vs v us Q I rx rv h
  obtain ⟨l, xs, y, rfl, rfl, hH, hy, q⟩ := h
  cases rx
  have hus := rv.zero
  subst hus
  obtain ⟨z, its, n, r, hl, e⟩ := I.lstM hH
  obtain ⟨u, hu, ru⟩ := r.get hy
  have hy' : its.toArray[its.toArray.size - 1]? = some u := by
    show its.toArray[its.length - 1]? = some u
    rw [← Array.getElem?_toList, ← hl]
    exact hu
  refine call_meets F.slot_list_pop ⟨_, e, rfl⟩ F.entry_list_pop (F.args_list_pop_1 _) (MeetsSeq.list_pop_last l its.toArray n u hy' (by rw [List.size_toArray]; (first | lia | omega))) ⟨e, ?_⟩
  refine ⟨y, _, I.lset (its' := its.dropLast) hH e ?_ r.dropLast ?_, ru, q⟩
  · show its.toArray.eraseIdxIfInBounds (its.toArray.size - 1) = its.dropLast.toArray
    rw [List.size_toArray, List.eraseIdxIfInBounds_toArray, erase_last]
  · rw [List.length_dropLast]
    (first | lia | omega)

noncomputable def rPopAt : V → List V → Hp → VK → Prop := fun x vs H Q => ∃ l xs i k y, x = .ref l ∧ vs = [.int i] ∧ H l = some (.lst xs) ∧ -(2 ^ 63) ≤ i ∧ i < 2 ^ 63 ∧ seqIndex? i xs.length = some k ∧ xs[k]? = some y ∧ Q y (upd H l (.lst (xs.eraseIdx k)))
theorem mt_popAt : MtM X "list.pop" rPopAt := by
  intro pins s σ H x vs v us Q I rx rv h
  obtain ⟨l, xs, i, k, y, rfl, rfl, hH, h1, h2, hk, hy, q⟩ := h
  cases rx
  obtain ⟨u, rfl, ru⟩ := rv.one
  obtain ⟨t, rfl⟩ := ru
  obtain ⟨z, its, n, r, hl, e⟩ := I.lstM hH
  obtain ⟨w, hw, rw'⟩ := r.get hy
  refine call_meets F.slot_list_pop ⟨_, e, rfl⟩ F.entry_list_pop (F.args_list_pop_2 _ _)
    (MeetsSeq.list_pop_at l its.toArray n i t k w (fitsIndex_both h1 h2) (by rw [List.size_toArray, ← hl]; exact hk) (by rw [← Array.getElem?_toList]; exact hw) (by rw [List.size_toArray]; (first | lia | omega))) ⟨e, ?_⟩
  refine ⟨y, _, I.lset (its' := its.eraseIdx k) hH e ?_ (r.eraseIdx k) ?_, rw', q⟩
  · show its.toArray.eraseIdxIfInBounds k = (its.eraseIdx k).toArray
    rw [List.eraseIdxIfInBounds_toArray]
  · have := len_erase xs k
    (first | lia | omega)

noncomputable def rReverse : V → List V → Hp → VK → Prop := fun x vs H Q => ∃ l xs, x = .ref l ∧ vs = [] ∧ H l = some (.lst xs) ∧ Q .non (upd H l (.lst xs.reverse))
noncomputable def rClear : V → List V → Hp → VK → Prop := fun x vs H Q => ∃ l xs, x = .ref l ∧ vs = [] ∧ H l = some (.lst xs) ∧ Q .non (upd H l (.lst []))
noncomputable def rCat : R2 := fun x y H Q => ∃ l b xs zs, x = .ref l ∧ y = .ref b ∧ H l = some (.lst xs) ∧ H b = some (.lst zs) ∧ xs.length + zs.length ≤ sizeLine ∧ ∀ p, H p = none → Q (.ref p) (upd H p (.lst (xs ++ zs)))
theorem op_cat : OpR X (binaryOp .Add) rCat := by
  intro pins s σ H x y v u Q I rx ry h
  obtain ⟨l, b, xs, zs, rfl, rfl, hH, hB, hz, q⟩ := h
  cases rx
  cases ry
  obtain ⟨z, its, n, r, hl, e⟩ := I.lstM hH
  obtain ⟨z2, its2, n2, r2, hl2, e2⟩ := I.lstM hB
  refine PySem.P.add_list e e2 ?_ (by rw [List.size_toArray, List.size_toArray]; (first | lia | omega))
  have ea : its.toArray ++ its2.toArray = (its ++ its2).toArray := by simp
  rw [ea]
  exact ⟨.ref _, _, I.lnew (t' := s.toks) (r.append r2) (by rw [List.length_append]; (first | lia | omega)), rfl, q _ I.fresh⟩
noncomputable def rRep : R2 := fun x y H Q => ∃ l k xs, x = .ref l ∧ y = .int k ∧ H l = some (.lst xs) ∧ -(2 ^ 63) ≤ k ∧ k < 2 ^ 63 ∧ xs.length * k.toNat ≤ sizeLine ∧
  ∀ p, H p = none → Q (.ref p) (upd H p (.lst (List.replicate k.toNat xs).flatten))
theorem len_rep {α : Type} (xs : List α) (k : Nat) : (List.replicate k xs).flatten.length = k * xs.length := by
  induction k with
  | zero => simp
  | succ k ih => rw [List.replicate_succ, List.flatten_cons, List.length_append, ih, Nat.succ_mul, Nat.add_comm]
theorem op_rep : OpR X (binaryOp .Mult) rRep := by
  intro pins s σ H x y v u Q I rx ry h
  obtain ⟨l, k, xs, rfl, rfl, hH, h1, h2, hz, q⟩ := h
  cases rx
  obtain ⟨t, rfl⟩ := ry
  obtain ⟨z, its, n, r, hl, e⟩ := I.lstM hH
  have hlen : its.toArray.size * k.toNat ≤ sizeLine := by rw [List.size_toArray, ← hl]; exact hz
  have hcap : ¬ its.toArray.size * k.toNat > (2 ^ 63 - 1) / 8 := by
    have : (sizeLine : Nat) ≤ (2 ^ 63 - 1) / 8 := by decide
    (first | lia | omega)
  have hfit : ¬ (!Builtin.List.listFitsIndex k) = true := by
    rw [fitsIndex_both h1 h2]
    exact Bool.false_ne_true
  have hlong : ¬ Builtin.List.listTooLong (its.toArray.size * k.toNat) = true := by
    rw [notLongL hlen]
    exact Bool.false_ne_true
  have hnew : List.foldl (fun x1 x2 => x1 ++ x2) #[] (List.replicate (if its.toArray.isEmpty = true then 0 else k.toNat) its.toArray) = (List.replicate k.toNat its).flatten.toArray := by
    have f0 : ∀ m : Nat, List.foldl (fun x1 x2 => x1 ++ x2) #[] (List.replicate m its.toArray) = (List.replicate m its).flatten.toArray := fun m => by
      have := foldl_rep its m []
      rw [List.nil_append] at this
      exact this
    rw [f0]
    cases its with
    | nil => simp
    | cons a r' => rw [if_neg (by simp)]
  refine wpAny_binaryOp_repeat_ref (T := "list") (U := "int") (by decide) ⟨_, e, rfl⟩ (fun s' => typeIs_int s' k t) noFill_list_mul F.fills_int_mul F.slot_int_rmul repeat_list F.slot_int_index.lookup
    (call_meets F.slot_int_rmul (typeIs_int s k t) F.entry_int_rmul (F.args_int_rmul_2 _ _) (int___rmul___int_list k t l its.toArray n)
      ⟨e, rfl, ⟨_, e, rfl⟩, call_meets F.slot_list_mul ⟨_, e, rfl⟩ F.entry_list_mul (F.args_list_mul_2 _ _) (AutoListH.list___mul___list_int_3 l its.toArray n k t hfit hcap hlong) ⟨e, ?_⟩⟩)
  rw [hnew]
  exact ⟨.ref _, _, I.lnew (t' := s.toks) (r.rep k.toNat) (by rw [len_rep, Nat.mul_comm]; exact hz), rfl, q _ I.fresh⟩

end

section
variable {prog : Program} {w : World} {A : Around} {E : Value → Shared → Prop} {s : Shared}
end

section
variable {X : Cx}
end
end L2

namespace Att
open PySem PySem.W PySem.Calls PyProof.Rows

theorem ints_of_wellAll {P : Params} {h : Heap} : ∀ (ns : List Int) (vs : List Value), WellAll P h vs (ns.map WData.int) → IntsAre vs ns := by
  intro ns
  induction ns with
  | nil =>
    intro vs w
    rw [List.map_nil] at w
    cases w
    exact .nil
  | cons n ns ih =>
    intro vs w
    rw [List.map_cons] at w
    cases w with
    | cons a b =>
      cases a
      exact .cons _ _ (ih _ b)

theorem script_of {l : OpenLaw} {n : Nat} (hn : l.most = some n) {P : Params} {h : Heap} {args : List WData} {vals : List Value}
    (hpre : l.row.toRowW.claim.pre args = true) (hwl : WellAll P h vals args) :
    ∃ a vs ns, vals = [Value.ref a] ∧ args = [WData.list (ns.map WData.int)] ∧ h.get? a = some { cls := .type "list", data := .seq vs.toArray } ∧ IntsAre vs ns ∧ ns.length ≤ n := by
  have hsh : WShape.hasAll [] args [.list .int] = true := (pre_splitW hpre).1
  have hc : l.pre.holds [] { args := args } = true := (pre_splitW hpre).2
  obtain ⟨d, r, rfl, h1, h2⟩ := hasAllW_cons hsh
  obtain rfl := hasAllW_nil h2
  obtain ⟨xs, rfl, h3⟩ := hasW_list h1
  obtain ⟨ns, rfl⟩ := items_int h3
  have hlen : ns.length ≤ n := by
    unfold OpenLaw.pre at hc
    have h4 : (WTm.not (.lt (.lit (.int (n : Int))) (.len (.arg 0)))).holds [] { args := [.list (ns.map .int)] } = true := by
      have h4 := (holds_andW hc).1
      rw [hn] at h4
      exact h4
    have h5 := condW_of h4 (w_not (w_lt w_lit (w_len_list (w_arg rfl))))
    rw [List.length_map] at h5
    refine Nat.le_of_not_lt fun q => ?_
    have q' : (n : Int) < ((ns.length : Nat) : Int) := by (first | lia | omega)
    first
      | (rw [decide_eq_true q'] at h5; exact absurd h5 (by decide))
      | (simp at h5; (first | lia | omega))
  cases hwl with
  | cons w1 w2 =>
    cases w2
    cases w1 with
    | list ho hall => exact ⟨_, _, ns, rfl, rfl, ho, ints_of_wellAll ns _ hall, hlen⟩

theorem post_true (l : OpenLaw) (args : List WData) : l.row.toRowW.claim.post args (.bool true) args = true :=
  postW_of (r := l.row.toRowW) (X := (true == true))
    (show WShape.has [] (.bool true) .bool = true by first | rfl | decide | simp [WShape.has, WShape.arms, WShape.armsAll])
    (show (WTm.eq .res (.lit (.bool true))).value [] { args := args, res := some (.bool true), after := args } = some (.bool (true == true)) from w_eq_bool (w_res rfl) w_lit) rfl

theorem attach_call {l : OpenLaw} {n : Nat} {q : Program} {loose : List Str} {XP : (Str → Option Value) → Heap → Prop} {YP : World → Heap → Prop} {d : DefRec}
    (hn : l.most = some n) (hdf : d.params.defaults = [])
    (call : ∀ (w : World) (s₀ s₁ : Shared) (mg mb : Str → Option Value) (fa : Addr) (o : Obj) (pm cd doc : Value) (a : Addr) (vs : List Value) (ns : List Int),
      Ground q loose [] XP w s₀ mg mb s₁.heap → YP w s₁.heap →
      s₁.heap.get? fa = some o → o.data = .func (docDef d.name d.params d.body d.scope pm cd doc) → s₁.heap.CodeRec cd d.name → mg d.name = some (.ref fa) →
      s₁.heap.get? a = some { cls := .type "list", data := .seq vs.toArray } → IntsAre vs ns → ns.length ≤ n → s₁.gens = #[] →
      codeAny (model l.prog w) callerA (.call (.ref fa) ⟨[.ref a], []⟩) (fun r s' => r = .ok (.ret (.bool true)) ∧ OldK s₁.heap s'.heap ∧ s'.os = s₁.os ∧ AllBare s'.gens) s₁) :
    WalkO q loose XP YP l.row.toRowW d [] (fun f vs => PySem.call f vs) := by
  intro w s₀ s₁ mg mb G Y fa o pm cd doc dV kV ho hd hcd hD hmg hg args vals as hpre hlay hrd hwl hlo
  obtain rfl : dV = .none := Dflts.none hD hdf
  obtain rfl : kV = .none := Dflts.noKw hD
  obtain ⟨a, vs, ns, rfl, rfl, hobj, hints, hlen⟩ := script_of hn hpre hwl
  refine enter_call (codeAny_mono (call w s₀ s₁ mg mb fa o pm cd doc a vs ns G Y ho (fd_plain hd) hcd hmg hobj hints hlen hg) fun r s' hq => ?_)
  obtain ⟨rfl, h2, h3, h4⟩ := hq
  exact ⟨.inl ⟨.bool true, .bool true, [], rfl, fun _ => rfl, .bool true, post_true l _, fun _ => ⟨List.Pairwise.nil, fun _ hm => (nomatch hm)⟩⟩, h2, h3, h4⟩

section
variable {prog : Program} {w : World} {A : Around} {E : Value → Shared → Prop} {s : Shared} {K : Frag}

noncomputable def noObjs (h : Heap) : Heap := { h with objs := #[] }
noncomputable def ledger (h : Heap) (L d : Addr) : List (Addr × Obj) := (List.range h.objs.size).filterMap fun a => if a = L ∨ a = d then none else (h.get? a).map fun o => (a, o)
end
end Att

namespace L2
open PySem PySem.Spec PyProof.Rows

theorem vals_ints : ∀ {vs : List Value} {ns : List Int}, IntsAre vs ns → Vals (ns.map V.int) vs
  | _, _, .nil => .nil
  | _, _, .cons n t h => .cons ⟨t, rfl⟩ (vals_ints h)

noncomputable def Only (H : Hp) : Prop := ∀ b, H b = none ∨ ∃ o xs, H b = some (.frz o (.lst xs))

theorem law_call {P : Program} {w : World} {K : PySem.W.Frag} {mg mb : Str → Option Value} {CX : CXT} {k : Nat} {fa a : Addr} {fd : FuncData} {x : Str} {sp : Sp} {s₁ : Shared} {vs : List Value} {ns : List Int}
    (KX : K.In s₁.heap) (hns : s₁.heap.Ns mainGlobals mg) (hb : s₁.heap.Ns builtinsNs mb) (hbb : ∀ x : Str, x ≠ "__name__" → mb x = bootBuiltins x) (hlim : s₁.heap.NoLimit) (hg : s₁.gens = #[])
    (ha : s₁.heap.get? a = some { cls := .type "list", data := .seq vs.toArray }) (hi : IntsAre vs ns) (hl : ns.length ≤ sizeLine) (hr : Room k callerA)
    (F : ∀ base : Heap, K.In base → base.Ns mainGlobals mg → FnOk P w K mg base CX k fa fd [x] sp) (hbind : ∀ (s : Shared) (u : Value), BindsTo s fd ⟨[u], []⟩ [(x, u)])
    (hsp : ∀ H : Hp, Only H → SqL K H a (ns.map V.int) → sp [.ref a] H (fun v _ => v = .bl true) fun _ _ _ => False)
    (hCX : ∀ H e s', CX [] H s₁ (fun _ _ _ => False) e s' → False) :
    codeAny (model P w) callerA (.call (.ref fa) ⟨[.ref a], []⟩) (fun r s' => r = .ok (.ret (.bool true)) ∧ OldK s₁.heap s'.heap ∧ s'.os = s₁.os ∧ AllBare s'.gens) s₁ := by
  have rv := vals_ints hi
  have lenV := hi.length
  -- from an abstract heap in which nothing but the script may be tracked
  have core : ∀ H : Hp, Only H → SqL K H a (ns.map V.int) → HOk P w H s₁.heap → (∀ b, H b ≠ none → b = a) → (H a ≠ none → K.lookup a = none) →
      codeAny (model P w) callerA (.call (.ref fa) ⟨[.ref a], []⟩) (fun r s' => r = .ok (.ret (.bool true)) ∧ OldK s₁.heap s'.heap ∧ s'.os = s₁.os ∧ AllBare s'.gens) s₁ := by
    intro H hO hS hok hA hK
    have base_of : ∀ {b : Addr} {o : Obj}, s₁.heap.get? b = some o → H b = none → (hidT s₁.heap H).get? b = some o := fun e n => hidT_get e n
    have noA : ∀ {b : Addr} {o : Obj} {es : Array DictEntry} {ep : Nat}, s₁.heap.get? b = some o → o.data = .dict es ep → H b = none := fun {b o es ep} e d => by
      cases q : H b with
      | none => rfl
      | some u =>
        have e' : b = a := hA b (by rw [q]; simp)
        subst e'
        rw [ha] at e; cases e
        have d' : Data.seq vs.toArray _ = Data.dict es ep := d
        cases d'
    have nsK : ∀ {b : Addr} {m : Str → Option Value}, s₁.heap.Ns b m → (hidT s₁.heap H).Ns b m := fun {b m} ⟨o, es, ep, e, d, r⟩ => ⟨o, es, ep, base_of e (noA e d), d, r⟩
    have hKb : K.In (hidT s₁.heap H) := fun b o e => base_of (KX b o e) (by
      cases q : H b with
      | none => rfl
      | some u =>
        have e' : b = a := hA b (by rw [q]; simp)
        subst e'
        rw [hK (by rw [q]; simp)] at e; cases e)
    have hM : Mod K mg (hidT s₁.heap H) := ⟨hKb, nsK hns, ⟨mb, nsK hb, hbb⟩, let ⟨mc, h1, h2⟩ := hlim; ⟨mc, nsK h1, h2⟩⟩
    have e0 : Env0 P w K mg (hidT s₁.heap H) callerA [] s₁ H := ⟨rfl, hM, fun b o e => of_hidT e, Nat.le_of_eq (hidT_size _ _), trivial, fun b hb => absurd (show b ∈ ([] : List Addr) from hb) (by simp), hok, .of_eq hg⟩
    refine codeAny_mono ((F _ hKb (nsK hns)).run callerA [] s₁ H ⟨[.ref a], []⟩ [.ref a] [.ref a] _ _ hr e0 (hbind s₁ (.ref a)) (.cons rfl .nil) (hsp H hO hS)) fun r s' h => ?_
    cases r with
    | error e => exact (hCX H e s' h).elim
    | ok fl =>
      cases fl with
      | next => exact False.elim h
      | brk => exact False.elim h
      | cont => exact False.elim h
      | ret u =>
        obtain ⟨v, H', os, bare, un, hok', r', q⟩ := h
        have q' : v = .bl true := q
        subst q'
        obtain rfl : u = Value.bool true := r'
        refine ⟨rfl, OldK.of_keep fun b o e => ?_, os, bare⟩
        cases q : H b with
        | none => exact un.keep b o e q (by intro z; exact absurd (show b ∈ ([] : List Addr) from z) (by simp)) (by simp)
        | some u =>
          rcases hO b with z | ⟨ob, xs, z⟩
          · rw [q] at z; cases z
          · have z2 := un.frzs b ob _ z
            obtain ⟨e1, _⟩ := hok b _ z
            obtain ⟨e2, _⟩ := hok' b _ z2
            rw [e] at e1; cases e1
            exact e2
  cases hk : K.lookup a with
  | some o =>
    -- the script is one of the module's own objects
    have e := KX a o hk
    rw [ha] at e
    cases e
    refine core (fun _ => none) (fun _ => .inl rfl) (.inr ⟨_, vs.toArray, _, hk, rfl, rfl, rfl, by rw [List.size_toArray, lenV]; exact hl, by simpa using rv⟩) (fun b u z => by have z' : (none : Option HO) = some u := z; cases z') (fun b z => absurd rfl z) fun z => absurd rfl z
  | none =>
    refine core (fun b => if b = a then some (.frz { cls := .type "list", data := .seq vs.toArray } (.lst (ns.map V.int))) else none) (fun b => ?_) (.inl (.inr ⟨{ cls := .type "list", data := .seq vs.toArray }, if_pos rfl⟩)) (fun b u z => ?_) (fun b z => ?_) fun _ => hk
    · by_cases hb : b = a
      · exact .inr ⟨_, _, if_pos hb⟩
      · exact .inl (if_neg hb)
    · by_cases hb : b = a
      · have z' := (if_pos hb).symm.trans z
        cases z'
        subst hb
        exact ⟨ha, by rw [List.length_map]; exact hl, vs, _, rv, ha⟩
      · have z' := (if_neg hb).symm.trans z
        cases z'
    · by_cases hb : b = a
      · exact hb
      · exact absurd (if_neg hb) z
end L2

namespace L2
open PySem PySem.Spec PyProof.Rows

noncomputable abbrev KOf {K : PySem.W.Frag} {h : Heap} (_ : K.In h) : PySem.W.Frag := K

theorem walk_of {l : PySem.W.OpenLaw} {n k : Nat} {q : Program} {loose : List Str} {XP : (Str → Option Value) → Heap → Prop} {YP : World → Heap → Prop} {d : DefRec} {K : Params → PySem.W.Frag} {CX : World → CXT} {sp : World → Sp} {x : Str}
    (hn : l.most = some n) (hn2 : n ≤ sizeLine) (hdf : d.params.defaults = []) (hr : Room k callerA)
    (hY : ∀ (w : World) (h : Heap), YP w h → (K w.params).In h)
    (F : ∀ (w : World) (mg : Str → Option Value) (fa : Addr) (h : Heap), (K w.params).In h → h.Ns mainGlobals mg → mg d.name = some (.ref fa) →
      ∃ fd : FuncData, (∀ (s : Shared) (u : Value), BindsTo s fd ⟨[u], []⟩ [(x, u)]) ∧
        ∀ base : Heap, (K w.params).In base → base.Ns mainGlobals mg → FnOk l.prog w (K w.params) mg base (CX w) k fa fd [x] (sp w))
    (hsp : ∀ (w : World) (H : Hp) (a : Addr) (ns : List Int), ns.length ≤ n → Only H → SqL (K w.params) H a (ns.map V.int) → sp w [.ref a] H (fun v _ => v = .bl true) fun _ _ _ => False)
    (hCX : ∀ (w : World) (H : Hp) (s : Shared) (e : Value) (s' : Shared), CX w [] H s (fun _ _ _ => False) e s' → False) :
    PySem.W.WalkO q loose XP YP l.row.toRowW d [] (fun f vs => PySem.call f vs) := by
  refine Att.attach_call hn hdf fun w s₀ s₁ mg mb fa o pm cd doc a vs ns G Y ho hd hcd hmg hobj hints hlen hg => ?_
  have KX := hY w _ Y
  obtain ⟨fd, hb, hF⟩ := F w mg fa _ KX G.T.g hmg
  exact law_call KX G.T.g G.T.b G.T.builtins G.T.nolimit hg hobj hints (Nat.le_trans hlen hn2) hr hF hb (fun H hO hS => hsp w H a ns hlen hO hS) fun H e s' => hCX w H s₁ e s'
end L2

/- THE LAST THEOREM (shape; LID, My.* are yours):
   My.Adr: a structure of the addresses that your layer names (classes, functions); My.Txt K t: a structure (Prop) of the equations over K;
   My.txt_mk : {K} {implicit addresses ..} (e1 : nsIn K mainGlobals "law" = some (some (.ref f))) (e2 : K.lookup f = some ⟨oc, od, .func (fnOf "law" "law" params body scope dV kV doc pm an cdv ct), sl⟩) (e3 : codeIn K cdv "law" = true) .. : ∃ t, My.Txt K t

set_option maxRecDepth 100000 in
set_option maxHeartbeats 0 in
theorem PySem.Challenge.cw_LID_holds : PySem.Challenge.rw_LID.Holds := by
  w_on; o_law; k_head; (case hw => w_witness2)
  k_fill
  refine L2.walk_of (l := PySem.Challenge.rw_LID) (n := 63) (k := 40) (x := "script") (CX := fun w => ..) (sp := fun _ => My.sp_law) rfl (by decide) rfl ⟨rfl, by decide, by decide⟩ (fun w h Y => PySem.W.kIn_of Y) ?F ?S ?C
  case F =>
    intro w mg fa h KX G hmg
    have T : ∃ t, My.Txt (L2.KOf KX) t := by
      dsimp only [L2.KOf]                          -- K must stand as «<heap const> w.params» for k_is
      refine' My.txt_mk ?e1 ?e2 ?e3 ..
      (case e1 => PySem.W.k_is)                    -- in the order: a name -> its address -> its object -> its parts
      (case e2 => PySem.W.k_is)
      ..
    obtain ⟨t, T⟩ := T
    have e0 := hmg.symm.trans (PySem.W.mg_of KX G T.law)
    cases e0                                       -- fa is the law's own address
    exact ⟨_, fun s u => .of_eq rfl, fun base kb nb => My.law_fn T kb nb⟩     -- if «.of_eq rfl» comes too early: refine' ⟨_, ?b, fun base kb nb => My.law_fn T kb nb⟩; exact fun s u => .of_eq rfl
  case S => exact fun w H a ns hl hO hS => ..
  case C => exact ..
(the tactic k_is has no namespace: write k_is) -/

namespace L2
open PySem PySem.Spec PyProof.Rows

noncomputable def inClass (s : Stmt) (j : Nat) : Stmt := match s with
  | .ClassDef _ _ _ body _ _ _ _ _ _ _ => body.getD j (.Pass ⟨0, 0, 0, 0⟩)
  | _ => .Pass ⟨0, 0, 0, 0⟩
noncomputable def defArgs (s : Stmt) : Arguments := match s with
  | .FunctionDef _ a _ _ _ _ _ _ _ _ => a
  | _ => { posonlyargs := [], args := [], vararg := none, kwonlyargs := [], kw_defaults := [], kwarg := none, defaults := [] }
noncomputable def defBody (s : Stmt) : List Stmt := match s with
  | .FunctionDef _ _ b _ _ _ _ _ _ _ => b
  | _ => []
noncomputable def defScope (s : Stmt) : Scope := match s with
  | .FunctionDef _ _ _ _ _ _ sc _ _ _ => sc
  | _ => { kind := .function, names := [], isGenerator := false, isCoroutine := false }

noncomputable abbrev CX0 : CXT := fun _ _ _ _ _ _ => False
noncomputable abbrev E0 : XK := fun _ _ _ => False
theorem pass0 {X : Cx} : Passes CX0 X E0 := fun _ _ _ _ _ _ _ h => h.elim

structure Fun (K : PySem.W.Frag) (x qual : Str) (st : Stmt) (f : Addr) (fd : FuncData) : Prop where
  ex : ∃ (oc : Value) (od : Option Addr) (kV doc pm : Value) (an : Option Addr) (cdv ct : Value) (osl : Array (Option Value)),
    fd = PySem.W.fnOf x qual (defArgs st) (defBody st) (defScope st) .none kV doc pm an cdv ct ∧ K.lookup f = some ⟨oc, od, .func fd, osl⟩ ∧ PySem.W.codeIn K cdv qual = true
  kp : PySem.W.keepIn K (.ref f) = true
section
variable {P : Program} {w : World} {K : PySem.W.Frag} {mg : Str → Option Value} {base : Heap}
theorem Fun.ok {x qual : Str} {st : Stmt} {f : Addr} {fd : FuncData} {N ps : List Str} {k : Nat} {sp : Sp} (F : Fun K x qual st f fd) (S : FnScope N ps (defScope st)) (len : ∀ vs H Q E, sp vs H Q E → vs.length = ps.length)
    (hbody : ∀ (cdv : Value) (A : Around) (outer : List Env) (s : Shared) (H : Hp) (vs : List V) (Q : VK) (E : XK), Room k (A.deeper (envOfC qual (defScope st) s.heap.objs.size f cdv)) → sp vs H Q E →
      ∃ t, PSs (cxOf CX0 P w K mg base N qual (defScope st) f cdv A outer s H E).nox (defBody st) t ∧ t { nx := fun _ H' => Q .non H', rt := Q } (start N vs) H) : FnOk P w K mg base CX0 (k + 1) f fd ps sp := by
  obtain ⟨oc, od, kV, doc, pm, an, cdv, ct, osl, rfl, lk, hcd⟩ := F.ex
  refine fn_of lk hcd S len fun A outer s H vs Q E hr hsp => ?_
  obtain ⟨t, h, q⟩ := hbody cdv A outer s H vs Q E hr hsp
  exact ⟨t, h.nox, q⟩
theorem Fun.binds {x qual : Str} {st : Stmt} {f : Addr} {fd : FuncData} {ps : List Str} (F : Fun K x qual st f fd)
    (h : ∀ (kV doc pm : Value) (an : Option Addr) (cdv ct : Value) (us : List Value), us.length = ps.length → bindArgs (PySem.W.fnOf x qual (defArgs st) (defBody st) (defScope st) .none kV doc pm an cdv ct) ⟨us, []⟩ = pure (ps.zip us)) : Binds K fd ps [] := by
  obtain ⟨oc, od, kV, doc, pm, an, cdv, ct, osl, rfl, lk, hcd⟩ := F.ex
  exact .all (h kV doc pm an cdv ct)
theorem fun_mk {x qual : Str} {st : Stmt} {f : Addr} {oc : Value} {od an : Option Addr} {osl : Array (Option Value)} {kV doc pm cdv ct : Value} (l : K.lookup f = some ⟨oc, od, .func (PySem.W.fnOf x qual (defArgs st) (defBody st) (defScope st) .none kV doc pm an cdv ct), osl⟩)
    (c : PySem.W.codeIn K cdv qual = true) (k : PySem.W.keepIn K (.ref f) = true) : Fun K x qual st f (PySem.W.fnOf x qual (defArgs st) (defBody st) (defScope st) .none kV doc pm an cdv ct) := ⟨⟨oc, od, kV, doc, pm, an, cdv, ct, osl, rfl, l, c⟩, k⟩
end
theorem hu_of {A : Around} {k : Nat} (hr : Room k A) : A.units + 1 < cLine := Nat.lt_of_le_of_lt (Nat.add_le_add_left (by decide : 1 ≤ 64) _) hr.units
section
variable {X : Cx}
theorem pv (i : Nat) {x : Str} {pos : Pos} (hN : X.N[i]? = some x := by rfl) (hv : Vis X.env.scope x := by first | exact Or.inl rfl | exact Or.inr (Or.inl rfl) | exact Or.inr (Or.inr rfl)) (hd : (x == ("__debug__" : Str)) = false := by decide)
    (hcd : (x == ("__classdict__" : Str)) = false := by decide) : PE X (.Name x pos) (tVar i) := pe_var hN hv hd hcd
end

theorem iteF {A B : Prop} (h : B) : if false = true then A else B := by
  rw [if_neg Bool.false_ne_true]
  exact h
theorem iteT {A B : Prop} (h : A) : if true = true then A else B := by
  rw [if_pos rfl]
  exact h
noncomputable def Same (H H' : Hp) : Prop := ∀ b o, H b = some o → H' b = some o
theorem Same.refl (H : Hp) : Same H H := fun _ _ h => h
theorem Same.trans {H H1 H2 : Hp} (a : Same H H1) (b : Same H1 H2) : Same H H2 := fun c o h => b c o (a c o h)
theorem Same.free {H H' : Hp} (e : Same H H') {l : Addr} (h : H' l = Option.none) : H l = Option.none := by
  cases q : H l with
  | none => rfl
  | some o =>
    rw [e l o q] at h
    cases h
theorem Same.seq {K : PySem.W.Frag} {H H' : Hp} {a : Addr} {xs : List V} (e : Same H H') (h : SqL K H a xs) : SqL K H' a xs := by
  rcases h with (h | ⟨o, h⟩) | h
  · exact .inl (.inl (e _ _ h))
  · exact .inl (.inr ⟨o, e _ _ h⟩)
  · exact .inr h

end L2
section
namespace L2
open PySem PySem.Spec PyProof.Rows

section
variable {κ : Type} [DecidableEq κ]
noncomputable def valV (kvs : List (κ × V)) (k : κ) : Option V := (kvs.find? fun kv => decide (kv.1 = k)).map (·.2)
noncomputable def putK (kvs : List (κ × V)) (k : κ) (v : V) : List (κ × V) :=
  if (kvs.any fun kv => decide (kv.1 = k)) = true then kvs.map (fun kv => if kv.1 = k then (kv.1, v) else kv) else kvs ++ [(k, v)]
noncomputable def dropK (kvs : List (κ × V)) (k : κ) : List (κ × V) := kvs.filter fun kv => decide (kv.1 ≠ k)

theorem valV_pos {p : κ × V} {r : List (κ × V)} {k : κ} (e : p.1 = k) : valV (p :: r) k = some p.2 := by simp [valV, List.find?_cons, e]
theorem valV_neg {p : κ × V} {r : List (κ × V)} {k : κ} (e : ¬ p.1 = k) : valV (p :: r) k = valV r k := by simp [valV, List.find?_cons, e]
theorem length_putK (kvs : List (κ × V)) (k : κ) (v : V) : (putK kvs k v).length ≤ kvs.length + 1 := by
  unfold putK
  split
  · rw [List.length_map]; (first | lia | omega)
  · rw [List.length_append, List.length_cons, List.length_nil]; (first | lia | omega)
theorem KV.val {kvs : List (κ × V)} {vs : List (κ × Value)} (r : KV kvs vs) (k : κ) : RelO (valV kvs k) (valueAt vs k) := by
  unfold KV at r
  induction r with
  | nil => exact True.intro
  | @cons p q ps qs h t ih =>
    obtain ⟨h1, h2⟩ := h
    by_cases e : p.1 = k
    · have e' : q.1 = k := h1.symm.trans e
      have b : valueAt (q :: qs) k = some q.2 := by simp [valueAt, List.find?_cons, e']
      rw [valV_pos e, b]; exact h2
    · have e' : ¬ q.1 = k := fun z => e (h1.trans z)
      have b : valueAt (q :: qs) k = valueAt qs k := by simp [valueAt, List.find?_cons, e']
      rw [valV_neg e, b]; exact ih
theorem KV.any {kvs : List (κ × V)} {vs : List (κ × Value)} (r : KV kvs vs) (k : κ) : (kvs.any fun kv => decide (kv.1 = k)) = vs.any fun kv => decide (kv.1 = k) := by
  unfold KV at r
  induction r with
  | nil => rfl
  | cons h t ih => rw [List.any_cons, List.any_cons, ih, h.1]
theorem KV.repl {kvs : List (κ × V)} {vs : List (κ × Value)} (r : KV kvs vs) (k : κ) {y : V} {u : Value} (ry : RelV y u) :
    KV (kvs.map fun kv => if kv.1 = k then (kv.1, y) else kv) (vs.map fun kv => if kv.1 = k then (kv.1, u) else kv) := by
  unfold KV at r ⊢
  induction r with
  | nil => exact .nil
  | @cons p q ps qs h t ih =>
    rw [List.map_cons, List.map_cons]
    refine .cons ?_ ih
    obtain ⟨h1, h2⟩ := h
    by_cases e : p.1 = k
    · rw [if_pos e, if_pos (h1.symm.trans e)]; exact ⟨h1, ry⟩
    · rw [if_neg e, if_neg (fun z => e (h1.trans z))]; exact ⟨h1, h2⟩
theorem KV.put {kvs : List (κ × V)} {vs : List (κ × Value)} (r : KV kvs vs) (k : κ) {y : V} {u : Value} (ry : RelV y u) : KV (putK kvs k y) (stored vs k u) := by
  unfold putK stored
  rw [r.any k]
  by_cases e : (vs.any fun kv => decide (kv.1 = k)) = true
  · rw [if_pos e, if_pos e]; exact r.repl k ry
  · rw [if_neg e, if_neg e]; exact Paired.snoc r ⟨rfl, ry⟩
end


theorem kV_is {P : Program} {w : World} {k : Key} {u : Value} (r : RelV (kV k) u) : (mixKind P w).is k u = true := by
  cases k with
  | inl i => obtain ⟨t, e⟩ := (show ∃ t, u = Value.int i t from r); subst e; exact mixKind_int P w i t
  | inr x => obtain ⟨t, e⟩ := (show ∃ t, u = Value.str x t from r); subst e; exact mixKind_str P w x t
theorem items_are {P : Program} {w : World} : ∀ {ks : List Key} {us : List Value}, Vals (ks.map kV) us → ItemsAre (mixKind P w) ks us
  | [], _, r => by rw [List.map_nil] at r; cases r; exact .nil
  | k :: ks, _, r => by
    rw [List.map_cons] at r
    cases r with
    | cons h t => exact .cons (kV_is h) (items_are t)

noncomputable abbrev KT (H : Hp) : List (List Key × V) → List (List Key × Addr × Value) → Prop := Paired fun p q => p.1 = q.1 ∧ H q.2.1 = some (.tup (p.1.map kV)) ∧ RelV p.2 q.2.2
theorem KT.val {H : Hp} {kvs : List (List Key × V)} {xs : List (List Key × Addr × Value)} (r : KT H kvs xs) (k : List Key) : RelO (valV kvs k) ((atKey xs k).map (·.2)) := by
  induction r with
  | nil => exact True.intro
  | @cons p q ps qs h t ih =>
    obtain ⟨h1, _, h2⟩ := h
    by_cases e : p.1 = k
    · have e' : q.1 = k := h1.symm.trans e
      have b : atKey (q :: qs) k = some q.2 := by simp [atKey, List.find?_cons, e']
      rw [valV_pos e, b]; exact h2
    · have e' : ¬ q.1 = k := fun z => e (h1.trans z)
      have b : atKey (q :: qs) k = atKey qs k := by simp [atKey, List.find?_cons, e']
      rw [valV_neg e, b]; exact ih
section
variable {P : Program} {w : World} {H : Hp} {h : Heap} {a : Addr}
theorem rd_of {u : HO} (ok : HOk P w H h) (e : Rd H a u) : ObjOk P w H h a u := e.ok ok
theorem dk_rd {kvs : List (Key × V)} (ok : HOk P w H h) (e : Rd H a (.dK kvs)) : kvs.length ≤ sizeLine ∧ (a == sysModules) = false ∧ ∃ vs, KV kvs vs ∧ h.DictOf (mixKind P w) a vs :=
  show ObjOk P w H h a (.dK kvs) from rd_of ok e
theorem dk_of {kvs : List (Key × V)} (ok : HOk P w H h) (e : H a = some (.dK kvs)) : kvs.length ≤ sizeLine ∧ (a == sysModules) = false ∧ ∃ vs, KV kvs vs ∧ h.DictOf (mixKind P w) a vs := dk_rd ok (.inl e)
theorem key_of {ks : List Key} (ok : HOk P w H h) (e : H a = some (.tup (ks.map kV))) : (tupleKind (mixKind P w)).is h ks a := by
  obtain ⟨_, its, r, o, h1, h2, n, h3⟩ := (show ObjOk P w H h a (.tup (ks.map kV)) from ok a _ e)
  exact ⟨o, its.toArray, n, h1, h2, h3, by simpa using items_are r⟩
theorem dt_rd {kvs : List (List Key × V)} (ok : HOk P w H h) (e : Rd H a (.dT kvs)) : kvs.length ≤ sizeLine ∧ (a == sysModules) = false ∧
    ∃ xs, KT H kvs xs ∧ h.DictOfH (tupleKind (mixKind P w)) a xs := by
  obtain ⟨z, y, xs, r, o, es, ep, h1, h2, h3, h4, h5⟩ := (show ObjOk P w H h a (.dT kvs) from rd_of ok e)
  refine ⟨z, y, xs, r, o, es, ep, h1, h2, h3, h4, fun x hx => ?_, h5⟩
  have all : ∀ {l : List (List Key × V)} {m : List (List Key × Addr × Value)}, KT H l m → ∀ x ∈ m, (tupleKind (mixKind P w)).is h x.1 x.2.1 := by
    intro l m q
    induction q with
    | nil => intro x hx; exact nomatch hx
    | @cons p q ps qs hq t ih =>
      intro x hx
      rcases List.mem_cons.mp hx with e | hx
      · subst e
        exact key_of ok (by rw [← hq.1]; exact hq.2.1)
      · exact ih x hx
  exact all r x hx
end

noncomputable def DGet (H : Hp) (a : Addr) (y : V) (r : Option V) : Prop :=
  (∃ kvs k, Rd H a (.dK kvs) ∧ y = kV k ∧ r = valV kvs k) ∨ ∃ kvs k b, Rd H a (.dT kvs) ∧ y = .ref b ∧ H b = some (.tup (k.map kV)) ∧ r = valV kvs k
noncomputable def DPut (H : Hp) (a : Addr) (y v : V) (H' : Hp) : Prop :=
  (∃ kvs k, H a = some (.dK kvs) ∧ y = kV k ∧ kvs.length < sizeLine ∧ H' = upd H a (.dK (putK kvs k v))) ∨
  ∃ kvs k b, H a = some (.dT kvs) ∧ y = .ref b ∧ H b = some (.tup (k.map kV)) ∧ kvs.length < sizeLine ∧ H' = upd H a (.dT (putK kvs k v))
theorem DGet.k {H : Hp} {a : Addr} {kvs : List (Key × V)} {k : Key} (e : H a = some (.dK kvs)) : DGet H a (kV k) (valV kvs k) := .inl ⟨kvs, k, .inl e, rfl, rfl⟩
section
variable {X : Cx} {pins : List (Addr × Obj)} {σ : St} {H : Hp} {s : Shared} {a : Addr} {y v : V} {u r : Value} {o : Option V} {A : Around} {E : Value → Shared → Prop}

theorem Inv.big (I : Inv X pins σ H s) : sysModules < s.heap.objs.size := by
  have h : mainGlobals < s.heap.objs.size := (I.mod.glob.keeps I.bk).lt
  exact Nat.lt_trans (by decide) h

theorem d_getItem {Q : Value → Shared → Prop} (hu : A.units + 1 < cLine) (I : Inv X pins σ H s) (g : DGet H a y (some v)) (ry : RelV y u) (h : ∀ w' s', Inv X pins σ H s' → RelV v w' → Q w' s') :
    wpAny (model X.prog X.w) A (getItem (.ref a) u) Q E s := by
  rcases g with ⟨kvs, k, e, ey, l⟩ | ⟨kvs, k, b, e, ey, eb, l⟩
  · subst ey
    obtain ⟨z, hd, vs, rel, dd⟩ := dk_rd I.hok e
    obtain ⟨w', hw, rw'⟩ := RelO.some_of (v := v) (o := valueAt vs k) (by rw [l]; exact rel.val k)
    exact wpAny_getItem_of (kV_is ry) dd.mapOf hw (h w' _ (I.tok _) rw')
  · subst ey
    cases (show u = Value.ref b from ry)
    obtain ⟨z, hd, xs, rel, dd⟩ := dt_rd I.hok e
    obtain ⟨w', hw, rw'⟩ := RelO.some_of (v := v) (o := (atKey xs k).map (·.2)) (by rw [l]; exact rel.val k)
    obtain ⟨p, hp, hp2⟩ := Option.map_eq_some_iff.mp hw
    refine wpAny_getItem_heap (tupleKind_room_in1 hu) (key_of I.hok eb) dd hp ?_
    rw [hp2]
    exact h w' _ (I.tok _) rw'
theorem d_write {h' : Heap} {t' : Nat} {ob : HO} (I : Inv X pins σ H s) (mu : Mut (H a)) (hs : Heap.SameBut a s.heap h') (he : ∃ q, h'.get? a = some q) (new : ObjOk X.prog X.w (upd H a ob) h' a ob) :
    Inv X pins σ (upd H a ob) { s with heap := h', toks := t' } :=
  I.write (x := a) (e := a) mu (.inl rfl) (fun b q hb z => (hs.2 b hb).trans z) he new
theorem dk_new {P : Program} {w : World} {H' : Hp} {h' : Heap} {kvs : List (Key × V)} {vs : List (Key × Value)} (z : kvs.length ≤ sizeLine) (hd : (a == sysModules) = false) (rel : KV kvs vs) (dd : h'.DictOf (mixKind P w) a vs) :
    ObjOk P w H' h' a (.dK kvs) := ⟨z, hd, vs, rel, dd⟩
end

section
variable {X : Cx} {pins : List (Addr × Obj)} {σ : St} {H : Hp} {s : Shared} {a : Addr} {kvs : List (Key × V)} {k : Key} {u : Value} {A : Around} {E : Value → Shared → Prop}
end


noncomputable def NoSl (i : Expr) : Prop := ∀ ov iv, subscripted i false ov iv = operate [ov, iv] (getItem ov iv)
theorem subD_of {prog : Program} {w : World} {A : Around} {E : Value → Shared → Prop} {s : Shared} {env : Env} {value slice : Expr} {pos : Pos} {T id : String} {Q : Value → Shared → Prop}
    (hl : typeLookup (.type T) "__getitem__" = pure (some (.builtin id))) (hs : NoSl slice)
    (h : wpAny (model prog w) A (eval value env) (fun o s₁ => wpAny (model prog w) A (eval slice env) (fun i s₂ => s₂.TypeIs o T ∧ wpAny (model prog w) A (getItem o i) Q E s₂) E s₁) E s) :
    wpAny (model prog w) A (eval (.Subscript value slice pos) env) Q E s := by
  refine Subscript_ (wpAny_mono h (fun o s₁ h₁ => wpAny_mono h₁ (fun i s₂ h₂ => ?_) fun _ _ x => x) fun _ _ x => x)
  obtain ⟨hT, h₂⟩ := h₂
  unfold subscriptTail
  refine wpAny_bind ?_
  rw [getitemInPython_of_ne hT.not_modules]
  refine wpAny_bind (wpAny_specialOf hT hl ?_)
  have fin : wpAny (model prog w) A (subscripted slice false o i) (fun r s₃ => wpAny (model prog w) A (letTemporaryGo value o r >>= fun _ => pure r) Q E s₃) E s₂ := by
    rw [hs o i]
    exact wpAny_operating (wpAny_mono h₂ (fun r s₃ h₃ => wpAny_bind (wpAny_letTemporaryGo (wpAny_pure h₃))) fun _ _ x => x)
  first
    | exact wpAny_pure (wpAny_bind fin)
    | exact wpAny_bind (wpAny_pure (wpAny_bind fin))
    | exact wpAny_bind fin

theorem dict_typeIs {X : Cx} {pins : List (Addr × Obj)} {σ : St} {H : Hp} {s : Shared} {a : Addr} {y : V} {o : Option V} (I : Inv X pins σ H s) (g : DGet H a y o) : s.TypeIs (.ref a) "dict" := by
  rcases g with ⟨kvs, k, e, _, _⟩ | ⟨kvs, k, b, e, _, _, _⟩
  · obtain ⟨_, _, vs, _, dd⟩ := dk_rd I.hok e
    exact dd.typeIs
  · obtain ⟨_, _, xs, _, dd⟩ := dt_rd I.hok e
    exact dd.typeIs
noncomputable def tDGet (td ty : TE) : TE := fun σ H Q => td σ H fun x H1 => ty σ H1 fun y H2 => ∃ a v, x = .ref a ∧ DGet H2 a y (some v) ∧ Q v H2
noncomputable def tDIn (ty td : TE) : TE := fun σ H Q => ty σ H fun y H1 => td σ H1 fun x H2 => ∃ a o, x = .ref a ∧ DGet H2 a y o ∧ Q (.bl o.isSome) H2
noncomputable def tDNotIn (ty td : TE) : TE := fun σ H Q => ty σ H fun y H1 => td σ H1 fun x H2 => ∃ a o, x = .ref a ∧ DGet H2 a y o ∧ Q (.bl (!o.isSome)) H2
noncomputable def sDPut (td ty tv : TE) : TS := fun D σ H => tv σ H fun v H1 => td σ H1 fun x H2 => ty σ H2 fun y H3 => ∃ a H4, x = .ref a ∧ DPut H3 a y v H4 ∧ D.nx σ H4
noncomputable def sDAug (td ty tv : TE) (rd : V → V → Hp → VK → Prop) : TS := fun D σ H => td σ H fun x H1 => ty σ H1 fun y H2 => ∃ a v, x = .ref a ∧ DGet H2 a y (some v) ∧
  tv σ H2 fun y2 H3 => rd v y2 H3 fun z H4 => ∃ H5, DPut H4 a y z H5 ∧ D.nx σ H5
noncomputable def sDDel (td ty : TE) : TS := fun D σ H => td σ H fun x H1 => ty σ H1 fun y H2 => ∃ a kvs k, x = .ref a ∧ H2 a = some (.dK kvs) ∧ y = kV k ∧ (valV kvs k).isSome = true ∧ D.nx σ (upd H2 a (.dK (dropK kvs k)))

section
variable {X : Cx} {o i e value : Expr} {pos pos' tpos : Pos} {td ty tv : TE}
theorem pe_dget (hu : X.A.units + 1 < cLine) (ho : PE X o td) (hi : PE X i ty) (hs : NoSl i) : PE X (.Subscript o i pos) (tDGet td ty) := by
  intro pins s σ H Q I h
  refine subD_of PySem.F.slot_dict_getitem.lookup hs (thn (ho pins s σ H _ I h) fun u s1 ⟨x, H1, I1, rx, q1⟩ => thn (hi pins s1 σ H1 _ I1 q1) fun iv s2 ⟨y, H2, I2, ry, a, v, ex, g, q2⟩ => ?_)
  subst ex
  obtain rfl : u = Value.ref a := rx
  exact ⟨dict_typeIs I2 g, d_getItem hu I2 g ry fun w' s3 I3 rw' => ⟨v, H2, I3, rw', q2⟩⟩
end


theorem dk_empty {P : Program} {w : World} {H : Hp} (h : Heap) (hb : sysModules < h.objs.size) : ObjOk P w H (h.push { cls := .type "dict", data := .dict #[] }) h.objs.size (.dK []) :=
  ⟨Nat.zero_le _, beq_eq_false_iff_ne.mpr (Ne.symm (Nat.ne_of_lt hb)), [], .nil, Heap.DictOf.new h⟩
noncomputable def tDNewK : TE := fun _ H Q => ∀ p, H p = none → Q (.ref p) (upd H p (.dK []))
noncomputable def tDNewT : TE := fun _ H Q => ∀ p, H p = none → Q (.ref p) (upd H p (.dT []))
section
variable {X : Cx} {pos : Pos}
end

noncomputable def tPairs : List (TE × TE) → St → Hp → (List (V × V) → Hp → Prop) → Prop
  | [], _, H, Q => Q [] H
  | (tk, tv) :: r, σ, H, Q => tk σ H fun x H1 => tv σ H1 fun y H2 => tPairs r σ H2 fun ps H3 => Q ((x, y) :: ps) H3
noncomputable abbrev VV : List (V × V) → List (Value × Value) → Prop := Paired fun p q => RelV p.1 q.1 ∧ RelV p.2 q.2
noncomputable def PPs (X : Cx) (pos : Pos) (keys : List (Option Expr)) (values : List Expr) (trs : List (TE × TE)) : Prop :=
  ∀ (pins : List (Addr × Obj)) (s : Shared) (σ : St) (H : Hp) (Q : List (V × V) → Hp → Prop), Inv X pins σ H s → tPairs trs σ H Q →
    wpAny (model X.prog X.w) X.A (evalPairs (pairTrees keys values X.env pos)) (fun vs s' => ∃ ps H', Inv X pins σ H' s' ∧ VV ps vs ∧ Q ps H') X.xe s
theorem pps_nil {X : Cx} {pos : Pos} : PPs X pos [] [] [] := fun pins s σ H Q I h => pairTrees_nil_walk ⟨[], H, I, .nil, h⟩
theorem pps_cons {X : Cx} {pos : Pos} {k v : Expr} {ks : List (Option Expr)} {vs : List Expr} {tk tv : TE} {trs : List (TE × TE)} (hk : PE X k tk) (hv : PE X v tv) (hr : PPs X pos ks vs trs) :
    PPs X pos (some k :: ks) (v :: vs) ((tk, tv) :: trs) := fun pins s σ H Q I h =>
  pairTrees_cons_walk (thn (hk pins s σ H _ I h) fun u s1 ⟨x, H1, I1, rx, q1⟩ => thn (hv pins s1 σ H1 _ I1 q1) fun w2 s2 ⟨y, H2, I2, ry, q2⟩ =>
    thn (hr pins s2 σ H2 _ I2 q2) fun ws s3 ⟨ps, H3, I3, rel, q3⟩ => ⟨(x, y) :: ps, H3, I3, .cons ⟨rx, ry⟩ rel, q3⟩)

noncomputable def mergeK (kvs more : List (Key × V)) : List (Key × V) := more.foldl (fun acc kv => putK acc kv.1 kv.2) kvs
theorem KV.merge : ∀ {more : List (Key × V)} {rs : List (Key × Value)} {kvs : List (Key × V)} {vs : List (Key × Value)}, KV more rs → KV kvs vs → KV (mergeK kvs more) (merged vs rs) := by
  intro more rs kvs vs r
  unfold KV at r
  induction r generalizing kvs vs with
  | nil => intro q; exact q
  | @cons p q ps qs h t ih =>
    intro r0
    have e : KV (putK kvs p.1 p.2) (stored vs q.1 q.2) := by
      have := r0.put p.1 h.2
      rw [← h.1]; exact this
    exact ih e
theorem length_mergeK : ∀ (more kvs : List (Key × V)), (mergeK kvs more).length ≤ kvs.length + more.length
  | [], kvs => by show kvs.length ≤ kvs.length + 0; (first | lia | omega)
  | p :: r, kvs => by
    have h1 := length_mergeK r (putK kvs p.1 p.2)
    have h2 := length_putK kvs p.1 p.2
    show (mergeK (putK kvs p.1 p.2) r).length ≤ _
    rw [List.length_cons]; (first | lia | omega)
theorem carries_of {P : Program} {w : World} : ∀ {kvs : List (Key × V)} {ws : List (Value × Value)}, VV (kvs.map fun kv => (kV kv.1, kv.2)) ws → ∃ rs, Carries (mixKind P w) ws rs ∧ KV kvs rs
  | [], _, r => by rw [List.map_nil] at r; cases r; exact ⟨[], True.intro, .nil⟩
  | p :: kvs, _, r => by
    rw [List.map_cons] at r
    cases r with
    | @cons a b as bs h t =>
      obtain ⟨rs, c, q⟩ := carries_of (P := P) (w := w) t
      obtain ⟨b1, b2⟩ := b
      exact ⟨(p.1, b2) :: rs, ⟨kV_is h.1, rfl, c⟩, .cons ⟨rfl, h.2⟩ q⟩
noncomputable def tDisp (trs : List (TE × TE)) : TE := fun σ H Q => ∀ p, H p = none → tPairs trs σ (upd H p (.dK [])) fun ps H2 => H2 p = some (.dK []) ∧ ∃ kvs : List (Key × V), ps = kvs.map (fun kv => (kV kv.1, kv.2)) ∧ kvs.length ≤ 15 ∧ Q (.ref p) (upd H2 p (.dK (mergeK [] kvs)))
theorem pe_disp {X : Cx} {pos : Pos} {keys : List (Option Expr)} {values : List Expr} {trs : List (TE × TE)} (h : PPs X pos keys values trs) (hall : keys.all (·.isSome) = true) (hl : keys.length = values.length) (h0 : keys ≠ [])
    (h15 : keys.length ≤ 15) : PE X (.Dict keys values pos) (tDisp trs) := by
  intro pins s σ H Q I q
  have hn := I.hok.fresh (Nat.le_refl s.heap.objs.size)
  have I1 := I.laid (a := s.heap.objs.size) (o := .dK []) (h' := s.heap.push { cls := .type "dict", data := .dict #[] }) (t' := s.toks) (fun _ _ q => Heap.get?_push_of_some _ q) (Nat.le_refl _) (dk_empty s.heap I.big)
  refine wpAny_Dict_walk (knd := mixKind X.prog X.w) hall hl h0 h15 (thn (h pins _ σ _ _ I1 (q _ hn)) fun ws s2 ⟨ps, H2, I2, rel, e, kvs, ep, lk, q2⟩ => ?_)
  subst ep
  obtain ⟨rs, c, rk⟩ := carries_of (P := X.prog) (w := X.w) rel
  obtain ⟨z, hd, vs0, r0, dd⟩ := dk_of I2.hok e
  cases r0
  refine ⟨rs, c, dd, fun h' dd' hs => ⟨.ref s.heap.objs.size, _, ?_, rfl, q2⟩⟩
  have hz : (mergeK [] kvs).length ≤ sizeLine := by
    have h1 := length_mergeK kvs []
    rw [List.length_nil] at h1
    rw [sizeLine_eq]; (first | lia | omega)
  have he : ∃ q, h'.get? s.heap.objs.size = some q := let ⟨q, _, _, hq, _⟩ := dd'; ⟨q, hq⟩
  exact d_write I2 (by rw [e]; exact True.intro) hs he (dk_new hz hd (rk.merge .nil) dd')


structure M1 (X : Cx) (o : Expr) (m : Str) (apos : Pos) (e : Expr) (cpos : Pos) : Prop where
  base : attributeBase o m X.env (eval o X.env) = eval o X.env
  few : ((backTo cpos (starEach [e] X.env)).all (fun x => !x.1) && (backToKw cpos (keywordEach [] X.env)).all (fun x => x.1.isSome)
    && decide (([e] : List Expr).length + ([] : List Keyword).length + (if ([] : List Keyword).isEmpty then 0 else 1) < 30)) = true
  line : (apos.endLine == cpos.line) = true
  trees : backTo cpos (starEach [e] X.env) = [(false, eval e X.env)]
structure M2 (X : Cx) (o : Expr) (m : Str) (apos : Pos) (e f : Expr) (cpos : Pos) : Prop where
  base : attributeBase o m X.env (eval o X.env) = eval o X.env
  few : ((backTo cpos (starEach [e, f] X.env)).all (fun x => !x.1) && (backToKw cpos (keywordEach [] X.env)).all (fun x => x.1.isSome)
    && decide (([e, f] : List Expr).length + ([] : List Keyword).length + (if ([] : List Keyword).isEmpty then 0 else 1) < 30)) = true
  line : (apos.endLine == cpos.line) = true
  trees : backTo cpos (starEach [e, f] X.env) = [(false, eval e X.env), (false, eval f X.env)]

noncomputable def IsD (H : Hp) (a : Addr) : Prop := (∃ kvs, Rd H a (.dK kvs)) ∨ ∃ kvs, Rd H a (.dT kvs)
section
variable {X : Cx} {pins : List (Addr × Obj)} {σ : St} {H : Hp} {s : Shared} {a : Addr} {y d : V} {u r : Value} {o : Option V} {A : Around} {E : Value → Shared → Prop}
end

noncomputable def tDGet1 (td ty : TE) : TE := fun σ H Q => td σ H fun x H1 => ∃ a, x = .ref a ∧ IsD H1 a ∧ ty σ H1 fun y H2 => ∃ o, DGet H2 a y o ∧ Q (o.getD .non) H2
noncomputable def tDGet2 (td ty tx : TE) : TE := fun σ H Q => td σ H fun x H1 => ∃ a, x = .ref a ∧ IsD H1 a ∧ ty σ H1 fun y H2 => tx σ H2 fun z H3 => ∃ o, DGet H3 a y o ∧ Q (o.getD z) H3
noncomputable def tDPop1 (td ty : TE) : TE := fun σ H Q => td σ H fun x H1 => ∃ a, x = .ref a ∧ IsD H1 a ∧ ty σ H1 fun y H2 => ∃ kvs k v, H2 a = some (.dK kvs) ∧ y = kV k ∧ valV kvs k = some v ∧ Q v (upd H2 a (.dK (dropK kvs k)))
noncomputable def tDPop2 (td ty tx : TE) : TE := fun σ H Q => td σ H fun x H1 => ∃ a, x = .ref a ∧ IsD H1 a ∧ ty σ H1 fun y H2 => tx σ H2 fun z H3 => ∃ kvs k, H3 a = some (.dK kvs) ∧ y = kV k ∧
  (∀ v, valV kvs k = some v → Q v (upd H3 a (.dK (dropK kvs k)))) ∧ (valV kvs k = none → Q z H3)
section
variable {X : Cx} {o e f : Expr} {apos cpos : Pos} {td ty tx : TE}
end

section
variable {X : Cx} {pins : List (Addr × Obj)} {σ : St} {H : Hp} {s : Shared} {a : Addr} {kvs : List (Key × V)} {A : Around} {E : Value → Shared → Prop}
end


section
variable {X : Cx} {pins : List (Addr × Obj)} {σ : St} {H : Hp} {s : Shared} {a : Addr} {y : V} {u : Value} {A : Around} {E : Value → Shared → Prop}
end
end L2
namespace L2
open PySem PySem.Spec PyProof.Rows
section
variable {κ : Type} [DecidableEq κ]
end
end L2
end
section
set_option Elab.async false
set_option linter.all false
set_option maxRecDepth 100000
set_option maxHeartbeats 4000000
namespace L2
open PySem PySem.Spec PyProof.Rows

noncomputable def clOf (env : Env) : List (Str × NameKind) → List (Str × Addr) → List (Str × Addr)
  | [], acc => acc
  | (n, k) :: r, acc => clOf env r (if k == .free then (match env.cells.lookup n with | some c => (n, c) :: acc | none => acc) else acc)
theorem clOf_sub {env : Env} {x : Str} {c : Addr} : ∀ (ns : List (Str × NameKind)) (acc : List (Str × Addr)), (∀ x c, acc.lookup x = some c → env.cells.lookup x = some c) → (clOf env ns acc).lookup x = some c → env.cells.lookup x = some c
  | [], acc, h, e => h x c e
  | (n, k) :: r, acc, h, e => by
    refine clOf_sub r _ (fun y d => ?_) e
    split
    · cases q : env.cells.lookup n with
      | none => exact h y d
      | some d' =>
        intro z
        rw [List.lookup_cons] at z
        cases b : y == n with
        | true =>
          rw [b] at z
          have b' : y = n := eq_of_beq b
          rw [b', q]; exact z
        | false => rw [b] at z; exact h y d z
    · exact h y d
theorem clOf_mono {env : Env} {x : Str} : ∀ (ns : List (Str × NameKind)) (acc : List (Str × Addr)), (∃ c, acc.lookup x = some c) → ∃ c, (clOf env ns acc).lookup x = some c
  | [], acc, h => h
  | (n, k) :: r, acc, h => by
    refine clOf_mono r _ ?_
    obtain ⟨c, h⟩ := h
    split
    · cases q : env.cells.lookup n with
      | none => exact ⟨c, h⟩
      | some d' =>
        show ∃ c, List.lookup x ((n, d') :: acc) = some c
        rw [List.lookup_cons]
        cases b : x == n with
        | true => exact ⟨d', rfl⟩
        | false => exact ⟨c, h⟩
    · exact ⟨c, h⟩
theorem clOf_has {env : Env} {x : Str} {c : Addr} (hc : env.cells.lookup x = some c) : ∀ (ns : List (Str × NameKind)) (acc : List (Str × Addr)), (x, NameKind.free) ∈ ns → ∃ c, (clOf env ns acc).lookup x = some c
  | [], acc, h => by cases h
  | (n, k) :: r, acc, h => by
    rcases List.mem_cons.mp h with h | h
    · cases h
      refine clOf_mono r _ ?_
      rw [if_pos (by rfl), hc]
      exact ⟨c, by simp⟩
    · exact clOf_has hc r _ h
theorem lookup_relabel {env : Env} {x : Str} : ∀ (names : List (Str × NameKind)),
    (names.map fun (n, k) => if (k == NameKind.free && env.scope.kind == .function && env.kindOf n == some .cell) then (n, NameKind.cell) else (n, k)).lookup x
      = (names.lookup x).map fun k => if (k == NameKind.free && env.scope.kind == .function && env.kindOf x == some .cell) then NameKind.cell else k
  | [] => rfl
  | (n, k) :: r => by
    have ih := lookup_relabel (env := env) (x := x) r
    show List.lookup x ((if (k == NameKind.free && env.scope.kind == .function && env.kindOf n == some .cell) = true then (n, NameKind.cell) else (n, k)) :: _) = _
    rw [List.lookup_cons (k := n)]
    cases hx : x == n with
    | true =>
      have e : x = n := eq_of_beq hx
      subst e
      split <;> simp_all [List.lookup_cons]
    | false =>
      split <;> simp only [List.lookup_cons, hx] <;> exact ih

noncomputable def blk (X : Cx) (N' : List Str) (scope : Scope) (C : Addr) (s : Shared) (H : Hp) (fp : List Addr) : Cx where
  prog := X.prog
  w := X.w
  K := X.K
  mg := X.mg
  base := X.base
  A := X.A
  N := N'
  s₀ := s
  H₀ := H
  env := compEnvC scope (clOf X.env scope.names []) C X.env
  outer := X.stack
  stack := X.stack
  ex := fp
  calm := X.calm
  fn := fun _ => false
  pn := []
  xe := fun _ _ => False

noncomputable def PTs (X : Cx) (ifs : List Expr) (t : TT) : Prop :=
  ∀ (pins : List (Addr × Obj)) (s : Shared) (σ : St) (H : Hp) (Q : Bool → Hp → Prop), Inv X pins σ H s → t σ H Q →
    wpAny (model X.prog X.w) X.A (forIn ifs true fun c r => if r = true then do let ok ← isTrue c X.env (eval c X.env); pure (ForInStep.yield ok) else pure (ForInStep.yield r)) (TP X pins σ Q) X.xe s
noncomputable def tTrue : TT := fun _ H Q => Q true H
theorem pts_nil {X : Cx} : PTs X [] tTrue := fun _ _ _ H _ I h => wpAny_tests_nil ⟨H, I, h⟩
theorem pts_one {X : Cx} {c : Expr} {t : TT} (h : PT X c t) : PTs X [c] t := fun pins s σ H Q I hw => wpAny_tests_one (h pins s σ H Q I hw)

noncomputable def subSt (σ : St) (ix : List (Option Nat)) : St := ix.map fun o => o.bind fun j => (σ[j]?).join
noncomputable def CompW (J : It) (g : TG) (tc : TT) (te : TE) (τ0 : St) (H1 : Hp) (acc : Addr) (Q : VK) : Prop :=
  ∃ W : Nat → Nat → St → List V → Hp → Prop, (∃ m, W 0 m τ0 [] (upd H1 acc (.lst []))) ∧ ∀ i m τ ys H, W i m τ ys H → H acc = some (.lst ys) ∧
    ((J.stop i H ∧ Q (.ref acc) H) ∨ (J.go i H ∧ ys.length < sizeLine ∧ ∀ x H', J.yld i H x H' → g x τ H' fun τ2 H2 => tc τ2 H2 fun b H3 =>
      if b = true then te τ2 H3 fun y H4 => H4 acc = some (.lst ys) ∧ ∃ m', m' < m ∧ W (i + 1) m' τ2 (ys ++ [y]) (upd H4 acc (.lst (ys ++ [y]))) else ∃ m', m' < m ∧ W (i + 1) m' τ2 ys H3))
noncomputable def tComp (wi : TI) (g : TG) (tc : TT) (te : TE) (ix : List (Option Nat)) : TE := fun σ H Q => wi σ H fun J H1 => ∀ acc, H1 acc = none → CompW J g tc te (subSt σ ix) H1 acc Q

theorem comp_loop {prog : Program} {w : World} {A : Around} {R : Result → Shared → Prop} {s : Shared} {elt target iter : Expr} {ifs : List Expr} {scope : Scope} {pos : Pos} {it acc : Value} {env : Env} (I : Nat → Shared → Prop)
    (turn : ∀ n s, I n s → wpAny (model prog w) A (pyNext it) (fun r s₁ => match r with
      | none => R (.ok .next) s₁
      | some v => wpAny (model prog w) A (letOwnedTupleGo target it v) (fun _ s₀ => wpAny (model prog w) A (assign target env v) (fun _ s₂ =>
          wpAny (model prog w) A (forIn ifs true fun c r => if r = true then do let ok ← isTrue c env (eval c env); pure (ForInStep.yield ok) else pure (ForInStep.yield r)) (fun ok s₃ =>
            if ok = true then wpAny (model prog w) A (eval elt env) (fun x s₄ =>
              wpAny (model prog w) A (call (.builtin "list.append") [acc, x]) (fun _ s₅ => ∃ m, m < n ∧ I m s₅) (fun _ _ => False) s₄) (fun _ _ => False) s₃
            else ∃ m, m < n ∧ I m s₃) (fun _ _ => False) s₂) (fun _ _ => False) s₀) (fun _ _ => False) s₁) (fun _ _ => False) s)
    (n : Nat) (h : I n s) :
    codeAny (model prog w) A (.compLoop (.ListComp elt [⟨target, iter, ifs, 0⟩] scope pos) 0 it acc env) R s := by
  refine codeAny_loop rfl I (fun n s hI => ?_) n h
  show wpAny _ A ((compTurn (.ListComp elt [⟨target, iter, ifs, 0⟩] scope pos) 0 it acc env).onRaise (fun x => do noteFrame x env; theTreesLotGoes x)) _ _ s
  refine wpAny_noted ?_
  rw [compTurn_list]
  refine wpAny_bind (wpAny_standAt (wpAny_bind (wpAny_mono (turn n s hI) (fun r s₁ h₁ => ?_) fun _ _ z => z.elim)))
  cases r with
  | none => exact wpAny_pure h₁
  | some v =>
    refine wpAny_bind (wpAny_mono h₁ (fun _ s₀ h₀' => ?_) fun _ _ z => z.elim)
    refine wpAny_bind (wpAny_mono h₀' (fun _ s₂ h₂ => wpAny_bind (wpAny_mono h₂ (fun ok s₃ h₃ => ?_) fun _ _ z => z.elim)) fun _ _ z => z.elim)
    cases ok with
    | false => exact wpAny_pure ⟨rfl, h₃⟩
    | true =>
      exact wpAny_bind (wpAny_bind (wpAny_mono h₃ (fun x s₄ h₄ => wpAny_bind (wpAny_mono h₄ (fun _ s₅ h₅ => wpAny_pure (wpAny_pure ⟨rfl, h₅⟩)) fun _ _ z => z.elim)) fun _ _ z => z.elim))

section
variable {X : Cx} {elt tg iter : Expr} {ifs : List Expr} {scope : Scope} {pos : Pos} {wi : TI} {g : TG} {tc : TT} {te : TE} {N' : List Str} {ix : List (Option Nat)}

theorem blk_start {pins : List (Addr × Obj)} {σ : St} {H : Hp} {s : Shared} {h₁ : Heap} {t' : Nat} {fp : List Addr} {m : Str → Option Value}
    (hkind : scope.kind = .function) (hcell : ∀ y ∈ scope.names, y.2 ≠ .cell)
    (hfr : ∀ y ∈ scope.names, y.2 = .free → X.env.kindOf y.1 = some .cell ∨ X.env.kindOf y.1 = some .free)
    (hlen : ix.length = N'.length)
    (hix : ∀ (i j : Nat) (x : Str), ix[i]? = some (some j) → N'[i]? = some x → X.N[j]? = some x ∧ scope.names.lookup x = some .free)
    (I : Inv X pins σ H s) (hf : ∀ b ∈ fp, FpOk X pins H b) (hob : ∀ b ∈ fp, ∃ o, s.heap.get? b = some o)
    (hn : h₁.Ns s.heap.objs.size m) (hk : ∀ b o, s.heap.get? b = some o → h₁.get? b = some o) :
    Inv (blk X N' scope s.heap.objs.size s H fp) [] (subSt σ ix) H { s with heap := h₁, toks := t' } := by
  have kinds : ∀ x, scope.names.lookup x = some .free → (relabel scope X.env).names.lookup x = some .cell ∨ (relabel scope X.env).names.lookup x = some .free := fun x e => by
    have q := lookup_relabel (env := X.env) (x := x) scope.names
    rw [e] at q
    show List.lookup x (scope.names.map _) = _ ∨ List.lookup x (scope.names.map _) = _
    rw [q]
    simp only [Option.map_some]
    split
    · exact .inl rfl
    · exact .inr rfl
  have kinds' : ∀ x, ((relabel scope X.env).names.lookup x = some .cell ∨ (relabel scope X.env).names.lookup x = some .free) → scope.names.lookup x = some .free := fun x e => by
    have q := lookup_relabel (env := X.env) (x := x) scope.names
    have e' : List.lookup x (scope.names.map fun (n, k) => if (k == NameKind.free && X.env.scope.kind == .function && X.env.kindOf n == some .cell) then (n, NameKind.cell) else (n, k)) = some .cell ∨
      List.lookup x (scope.names.map fun (n, k) => if (k == NameKind.free && X.env.scope.kind == .function && X.env.kindOf n == some .cell) then (n, NameKind.cell) else (n, k)) = some .free := e
    rw [q] at e'
    cases z : scope.names.lookup x with
    | none => rw [z] at e'; rcases e' with e' | e' <;> simp at e'
    | some k =>
      rw [z] at e'
      simp only [Option.map_some, Option.some.injEq] at e'
      cases k with
      | free => rfl
      | cell => exact absurd rfl (hcell _ (PySem.mem_of_lookup z))
      | _ =>
        rcases e' with e' | e'
        · simp at e'
        · simp at e'
  have sub : ∀ x c, (clOf X.env scope.names []).lookup x = some c → X.env.cells.lookup x = some c := fun x c e => clOf_sub scope.names [] (fun _ _ z => by simp at z) e
  have has : ∀ x, scope.names.lookup x = some .free → ∃ c, (clOf X.env scope.names []).lookup x = some c := fun x e => by
    obtain ⟨c, hc⟩ := I.ok.has x (hfr (x, .free) (PySem.mem_of_lookup e) rfl)
    exact clOf_has hc scope.names [] (PySem.mem_of_lookup e)
  have cellK : ∀ c v, s.heap.IsCell c v → h₁.IsCell c v := fun c v ⟨o, ho, hd⟩ => ⟨o, hk c o ho, hd⟩
  refine ⟨⟨I.ok.mod, hkind, I.ok.glob, I.ok.blt, Nat.le_refl _, fun x y c h1 h2 => I.ok.inj x y c (sub x c h1) (sub y c h2), fun x hx => has x (kinds' x hx), fun x c z _ => Bool.noConfusion z, I.ok.hd, I.ok.frames, .inl rfl, fun b hb => ?_, fun b o e => ⟨(I.bs b o e).1, (I.bs b o e).2⟩,
    Nat.le_trans I.ok.bsz I.sz, fun b o e hb => ?_, fun b hb hz => ?_, I.stack, I.stkFree⟩, rfl, I.bare, Un.kept hk, ⟨m, hn, fun i x v h1 h2 h3 => ?_⟩, fun x c e => ?_, ?_, fun x c e => I.freeC x c (sub x c e), fun p hp => absurd (show p ∈ ([] : List (Addr × Obj)) from hp) (by simp), I.hok.kept hk, ?_⟩
  · obtain ⟨o, ho⟩ := hob b hb
    exact ⟨Nat.ne_of_lt (Heap.lt_size ho), fun x c e => (hf b hb).2.2.2.2.1 x c (sub x c e)⟩
  · obtain ⟨_, _, _, f3, _⟩ := hf b hb
    rcases f3 with z | z
    · exact I.ok.noex b o e z
    · exact absurd (Nat.lt_of_lt_of_le (Heap.lt_size (I.ok.bs b o e).1) z) (Nat.lt_irrefl _)
  · obtain ⟨_, f1, f2, _⟩ := hf b hb
    rcases List.mem_cons.mp (I.stkSub b hz) with z | z
    · exact f1 z
    · exact f2 z
  · -- a name of the block: a free one
    have h2' : (ix[i]?.map fun o : Option Nat => o.bind fun j => (σ[j]?).join) = some (some v) := by rw [← List.getElem?_map]; exact h2
    cases q : ix[i]? with
    | none => rw [q] at h2'; cases h2'
    | some o =>
      rw [q] at h2'
      cases o with
      | none => cases h2'
      | some j =>
        have h2'' : (σ[j]?).join = some v := by simpa using h2'
        have hj : σ[j]? = some (some v) := by
          cases z : σ[j]? with
          | none => rw [z] at h2''; cases h2''
          | some y => rw [z] at h2''; simp at h2''; rw [h2'']
        obtain ⟨e1, e2⟩ := hix i j x q h1
        obtain ⟨m', hn', hl⟩ := I.loc
        have kk := hfr (x, .free) (PySem.mem_of_lookup e2) rfl
        have vis : Vis X.env.scope x := by
          rcases kk with z | z
          · exact .inr (.inl z)
          · exact .inr (.inr z)
        obtain ⟨u, r, lk⟩ := hl j x v e1 hj vis
        refine ⟨u, r, .inr ⟨kinds x e2, ?_⟩⟩
        rcases lk with ⟨z, _⟩ | ⟨_, c, hc, hv⟩
        · rcases kk with z' | z' <;> (rw [z] at z'; cases z')
        · obtain ⟨c', hc'⟩ := has x e2
          have : c' = c := by
            have := sub x c' hc'
            rw [hc] at this
            exact (Option.some.inj this).symm
          subst this
          exact ⟨c', hc', cellK _ _ hv⟩
  · obtain ⟨v, z⟩ := I.cell x c (sub x c e)
    exact ⟨v, cellK c v z⟩
  · exact I.hok.fresh (Nat.le_refl _)
  · show (ix.map _).length = N'.length
    rw [List.length_map, hlen]

theorem Inv.letgo {pins : List (Addr × Obj)} {σ : St} {H : Hp} {s : Shared} {C : Addr} {h' : Heap} (I : Inv X pins σ H s) (f : FpOk X pins H C) (sb : Heap.SameBut C s.heap h') : Inv X pins σ H { s with heap := h' } := by
  have ne : ∀ b, b ∉ [C] → b ≠ C := fun b hb z => hb (by rw [z]; exact List.mem_singleton.mpr rfl)
  have U : Un (frs X.stack) [C] H H s.heap h' := ⟨fun b o e _ _ hx => (sb.2 b (ne b hx)).trans e, fun b o e _ _ hx => ⟨o.slots, (sb.2 b (ne b hx)).trans e⟩, fun _ _ _ n _ => n, fun b o e hx => ⟨o, (sb.2 b (ne b hx)).trans e⟩, fun _ _ z => z, fun _ _ _ z => z, fun _ ps z => ⟨#[], by rw [Array.append_empty]; exact z⟩⟩
  have hok : HOk X.prog X.w H h' := fun b ob e => by
    refine (I.hok b ob e).stay (fun c w' hc z => (sb.2 c ?_).trans z) (fun _ z => z) fun _ _ z => z
    rintro rfl
    rcases hc with rfl | hc
    · rw [f.1] at e; cases e
    · rw [f.1] at hc; cases hc
  exact I.call' (s' := { s with heap := h' }) (ch := [C]) rfl U hok I.bare (fun b hb => by
    obtain rfl := List.mem_singleton.mp hb
    exact ⟨f.2.2.2.1, f.2.1, f.2.2.2.2.1, f.2.2.2.2.2⟩)

theorem comp_core {ipos : Pos} {use : Option (Value → Sem Unit)} {QQ : Value → Shared → Prop} {pins : List (Addr × Obj)} {s : Shared} {σ : St} {H : Hp} {Q : VK} (hc : X.calm = true) (hkind : scope.kind = .function) (hcell : ∀ y ∈ scope.names, y.2 ≠ .cell) (hnames : ∀ y ∈ scope.names, y.2 = .local → scope.names.lookup y.1 = some .local)
    (hfr : ∀ y ∈ scope.names, y.2 = .free → X.env.kindOf y.1 = some .cell ∨ X.env.kindOf y.1 = some .free)
    (hclos : closureFor scope X.env = pure (clOf X.env scope.names []))
    (hlen : ix.length = N'.length)
    (hix : ∀ (i j : Nat) (x : Str), ix[i]? = some (some j) → N'[i]? = some x → X.N[j]? = some x ∧ scope.names.lookup x = some .free)
    (hi : PI X tg iter wi) (hg : ∀ C s H fp, PG (blk X N' scope C s H fp) tg g) (ht : ∀ C s H fp, PTs (blk X N' scope C s H fp) ifs tc) (he : ∀ C s H fp, PE (blk X N' scope C s H fp) elt te)
    (hs : ∀ x, foldedSetIterable iter X.env x = pure x) (I : Inv X pins σ H s) (h : tComp wi g tc te ix σ H Q)
    (post : ∀ (a C : Addr) (H' : Hp) (s6 : Shared) (m' : Str → Option Value), Inv X pins σ H' s6 → FpOk X pins H' C → s6.heap.Ns C m' → Q (.ref a) H' → compPost (model X.prog X.w) X.A X.xe use QQ (.ref a) C (.ok .next) s6) :
    wpAny (model X.prog X.w) X.A (comprehension (.ListComp elt [⟨tg, iter, ifs, 0⟩] scope pos) scope X.env ipos (newList []) false (eval iter X.env) use) QQ X.xe s := by
  refine wpAny_comprehension_free (use := use) rfl hs hclos hkind hnames ?_
  refine thn (hi pins s σ H _ I h) fun v s1 h1 => thn h1 fun itv s2 h2 => ?_
  obtain ⟨it, fp, tn, J, H2, e, I2, T, st2, f2, q2⟩ := h2
  subst e
  have hfresh : H2 s2.heap.objs.size = none := I2.hok.fresh (Nat.le_refl _)
  obtain ⟨W, ⟨m0, w0⟩, turn⟩ := q2 s2.heap.objs.size hfresh
  refine wpAny_newObj_type (wpAny_newFunctionEnv hcell (by intro y hy; simp at hy) (fun h₁ hns₁ hsb₁ => ?_) hkind)
  dsimp only at hns₁ hsb₁ ⊢
  generalize hP : s2.heap.push { cls := .type "list", dict := none, data := .seq ([] : List Value).toArray } = P3 at hns₁ hsb₁ ⊢
  have hPs : P3.objs.size = s2.heap.objs.size + 1 := by rw [← hP, Heap.size_push]
  have up3 : ∀ b o, s2.heap.get? b = some o → P3.get? b = some o := fun b o e => by rw [← hP]; exact Heap.get?_push_of_some _ e
  have I3 : Inv X pins σ (upd H2 s2.heap.objs.size (.lst [])) { s2 with heap := P3 } := by
    refine I2.laid (t' := s2.toks) up3 (Nat.le_refl _) ?_
    refine ⟨by show 0 ≤ sizeLine; exact Nat.zero_le _, [], 0, .nil, ?_⟩
    rw [← hP]
    exact Heap.get?_push_size _ rfl
  have old : ∀ b o, P3.get? b = some o → h₁.get? b = some o := fun b o e => hsb₁.extBut b o (Nat.ne_of_lt (Heap.lt_size e)) (Heap.get?_push_of_some _ e)
  have hob : ∀ b ∈ fp, ∃ o, P3.get? b = some o := fun b hb => by
    obtain ⟨o, ho, _⟩ := T.obj _ _ st2 b hb
    exact ⟨o, up3 b o ho⟩
  have f3 : ∀ b ∈ fp, FpOk X pins (upd H2 s2.heap.objs.size (.lst [])) b := fun b hb => by
    obtain ⟨o, ho, _⟩ := T.obj _ _ st2 b hb
    refine ⟨?_, (f2 b hb).2⟩
    rw [upd_ne (Nat.ne_of_lt (Heap.lt_size ho))]
    exact (f2 b hb).1
  have I4 := blk_start (t' := s2.toks + ([] : List (Str × Value)).length) (ix := ix) (N' := N') hkind hcell hfr hlen hix I3 f3 hob hns₁ old
  have st4 : tn 0 h₁ := T.keep _ _ _ st2 fun b hb o e => old b o (up3 b o e)
  -- the loop
  have fpok : ∀ {H' : Hp}, (∀ b ∈ fp, H' b = none) → ∀ b ∈ fp, FpOk (blk X N' scope P3.objs.size { s2 with heap := P3 } (upd H2 s2.heap.objs.size (.lst [])) fp) [] H' b := fun hn b hb => by
    obtain ⟨o, ho⟩ := hob b hb
    obtain ⟨_, f1, f2', f3', f4, f5⟩ := f3 b hb
    refine ⟨hn b hb, Nat.ne_of_lt (Heap.lt_size ho), fun hz => ?_, .inl hb, fun x c e => f4 x c (clOf_sub scope.names [] (fun _ _ z => by simp at z) e), fun p hp => absurd (show p ∈ ([] : List (Addr × Obj)) from hp) (by simp)⟩
    rcases List.mem_cons.mp (I3.stkSub b hz) with z | z
    · exact f1 z
    · exact f2' z
  have fin : ∀ {τ : St} {H' : Hp} {s6 : Shared}, Inv (blk X N' scope P3.objs.size { s2 with heap := P3 } (upd H2 s2.heap.objs.size (.lst [])) fp) [] τ H' s6 → Q (.ref s2.heap.objs.size) H' →
      compPost (model X.prog X.w) X.A X.xe use QQ (.ref s2.heap.objs.size) P3.objs.size (.ok .next) s6 := fun {τ H' s6} J q => by
    obtain ⟨m', hn', _⟩ := id J.loc
    have U0 : Un (frs X.stack) fp H2 (upd H2 s2.heap.objs.size (.lst [])) s2.heap P3 := Un.laid up3 (Nat.le_refl _) hfresh
    have U1 : Un (frs X.stack) fp H2 H' s2.heap s6.heap := U0.trans J.base
    exact post _ _ H' s6 m' (I2.call' (s' := s6) (ch := fp) J.os U1 J.hok J.bare (fun b hb => ⟨(f2 b hb).2.2.2.1, (f2 b hb).2.1, (f2 b hb).2.2.2.2.1, (f2 b hb).2.2.2.2.2⟩)) (I2.fpOk (by rw [hPs]; exact Nat.le_succ _) J.free) hn' q
  have loop : codeAny (model X.prog X.w) X.A (.compLoop (.ListComp elt [⟨tg, iter, ifs, 0⟩] scope pos) 0 (.ref it) (.ref s2.heap.objs.size) (compEnvC scope (clOf X.env scope.names []) P3.objs.size X.env))
      (compPost (model X.prog X.w) X.A X.xe use QQ (.ref s2.heap.objs.size) P3.objs.size) { s2 with heap := h₁, toks := s2.toks + ([] : List (Str × Value)).length } := by
    refine comp_loop (fun n s' => ∃ i τ ys H', Inv (blk X N' scope P3.objs.size { s2 with heap := P3 } (upd H2 s2.heap.objs.size (.lst [])) fp) [] τ H' s' ∧ tn i s'.heap ∧ (∀ b ∈ fp, H' b = none) ∧ W i n τ ys H') ?_ m0
      ⟨0, _, [], _, I4, st4, fun b hb => (f3 b hb).1, w0⟩
    rintro n s5 ⟨i, τ, ys, H5, I5, st5, fr5, w5⟩
    obtain ⟨hacc, alt⟩ := turn i n τ ys H5 w5
    rcases alt with ⟨stop, qn⟩ | ⟨go, hsz, step⟩
    · refine thn (T.done (blk X N' scope P3.objs.size { s2 with heap := P3 } (upd H2 s2.heap.objs.size (.lst [])) fp) rfl rfl rfl hc i [] s5 τ H5 (fun _ _ => False) I5 (fpok fr5) st5 stop) fun r s6 ⟨hr, I6⟩ => ?_
      subst hr
      exact fin I6 qn
    · refine thn (T.item (blk X N' scope P3.objs.size { s2 with heap := P3 } (upd H2 s2.heap.objs.size (.lst [])) fp) rfl rfl rfl hc i [] s5 τ H5 (fun _ _ => False) I5 (fpok fr5) st5 go) fun r s6 ⟨u, hr, h6⟩ => ?_
      subst hr
      refine thn h6 fun _ s7 ⟨x, H7, I7, r7, y7, st7, fr7⟩ => ?_
      have I7' := I7.pinned (fpok fr7) (T.obj _ _ st7)
      have again : ∀ {τ9 : St} {H9 : Hp} {s9 : Shared} {ys9 : List V} {m9 : Nat}, Inv (blk X N' scope P3.objs.size { s2 with heap := P3 } (upd H2 s2.heap.objs.size (.lst [])) fp) ([] ++ pinsAt fp s7.heap) τ9 H9 s9 → m9 < n → W (i + 1) m9 τ9 ys9 H9 →
          ∃ m, m < n ∧ ∃ i τ ys H', Inv (blk X N' scope P3.objs.size { s2 with heap := P3 } (upd H2 s2.heap.objs.size (.lst [])) fp) [] τ H' s9 ∧ tn i s9.heap ∧ (∀ b ∈ fp, H' b = none) ∧ W i m τ ys H' := fun {τ9 H9 s9 ys9 m9} I9 hm w9 => by
        refine ⟨m9, hm, i + 1, τ9, ys9, H9, I9.unpinned, T.keep _ _ _ st7 fun b hb o e => (I9.pin (b, o) (List.mem_append_right _ (List.mem_append_right _ (mem_pinsAt hb e)))).1, fun b hb => ?_, w9⟩
        obtain ⟨o, e, d⟩ := T.obj _ _ st7 b hb
        exact (I9.pin (b, o) (List.mem_append_right _ (List.mem_append_right _ (mem_pinsAt hb e)))).2.1
      refine thn (hg P3.objs.size _ _ fp _ s7 τ H7 x u _ I7' r7 (step x H7 y7)) fun _ s8 ⟨τ8, H8, I8, q8⟩ => ?_
      refine thn (ht P3.objs.size _ _ fp _ s8 τ8 H8 _ I8 q8) fun b s9 ⟨H9, I9, q9⟩ => ?_
      cases b with
      | false =>
        simp only [Bool.false_eq_true, if_false] at q9 ⊢
        obtain ⟨m9, hm, w9⟩ := q9
        exact again I9 hm w9
      | true =>
        simp only [if_true] at q9 ⊢
        refine thn (he P3.objs.size _ _ fp _ s9 τ8 H9 _ I9 q9) fun y s10 ⟨yv, H10, I10, r10, ha10, m10, hm, w10⟩ => ?_
        refine thn (mt_append (X := blk X N' scope P3.objs.size { s2 with heap := P3 } (upd H2 s2.heap.objs.size (.lst [])) fp) _ s10 τ8 H10 (.ref s2.heap.objs.size) [yv] (.ref s2.heap.objs.size) [y] (fun _ H11 => H11 = upd H10 s2.heap.objs.size (.lst (ys ++ [yv]))) I10 rfl (.cons r10 .nil)
          ⟨s2.heap.objs.size, ys, yv, rfl, rfl, ha10, hsz, rfl⟩) fun _ s11 ⟨_, H11, I11, _, e11⟩ => ?_
        subst e11
        exact again I11 hm w10
  exact codeAny_compStart_list loop (T.self _ 0 _ _ _ st4 loop)

theorem pe_comp (hc : X.calm = true) (hkind : scope.kind = .function) (hcell : ∀ y ∈ scope.names, y.2 ≠ .cell) (hnames : ∀ y ∈ scope.names, y.2 = .local → scope.names.lookup y.1 = some .local)
    (hfr : ∀ y ∈ scope.names, y.2 = .free → X.env.kindOf y.1 = some .cell ∨ X.env.kindOf y.1 = some .free)
    (hclos : closureFor scope X.env = pure (clOf X.env scope.names []))
    (hlen : ix.length = N'.length)
    (hix : ∀ (i j : Nat) (x : Str), ix[i]? = some (some j) → N'[i]? = some x → X.N[j]? = some x ∧ scope.names.lookup x = some .free)
    (hi : PI X tg iter wi) (hg : ∀ C s H fp, PG (blk X N' scope C s H fp) tg g) (ht : ∀ C s H fp, PTs (blk X N' scope C s H fp) ifs tc) (he : ∀ C s H fp, PE (blk X N' scope C s H fp) elt te)
    (hs : ∀ x, foldedSetIterable iter X.env x = pure x := by intro _; rfl) : PE X (.ListComp elt [⟨tg, iter, ifs, 0⟩] scope pos) (tComp wi g tc te ix) := by
  intro pins s σ H Q I h
  rw [eval_ListComp]
  show wpAny _ X.A (comprehension (.ListComp elt [⟨tg, iter, ifs, 0⟩] scope pos) scope X.env (firstIterPos [⟨tg, iter, ifs, 0⟩] pos) (newList []) false (eval iter X.env) none) _ _ s
  exact comp_core (ipos := firstIterPos [⟨tg, iter, ifs, 0⟩] pos) (use := none) (QQ := EP X pins σ Q) hc hkind hcell hnames hfr hclos hlen hix hi hg ht he hs I h fun a C H' s6 m' I6 f hn q => ⟨m', hn, fun h' sb => ⟨.ref a, H', I6.letgo f sb, rfl, q⟩⟩
end
end L2
end
section
set_option Elab.async false
set_option linter.all false
set_option maxRecDepth 100000
set_option maxHeartbeats 4000000
namespace L2
open PySem PySem.Spec PyProof.Rows

noncomputable def ItAt (k : Bool) (h : Heap) (it a : Addr) (i : Nat) : Prop := match k with
  | true => h.IsListIter it a i
  | false => h.IsTupleIter it a i
noncomputable def SeAt (k : Bool) (h : Heap) (a : Addr) (its : Array Value) : Prop := match k with
  | true => h.IsList a its
  | false => h.IsTuple a its
section
variable {prog : Program} {w : World} {A : Around} {E : Value → Shared → Prop} {s : Shared}
end
noncomputable abbrev zH1 (h : Heap) (a : Addr) : Heap := h.push { cls := .type "tuple_iterator", data := .fields #[.ref a, .int 0 0] }
noncomputable abbrev zH2 (h : Heap) (a b : Addr) : Heap := (zH1 h a).push { cls := .type "tuple_iterator", data := .fields #[.ref b, .int 0 0] }
noncomputable abbrev zH3 (h : Heap) (a b : Addr) : Heap := (zH2 h a b).push { cls := .type "tuple", data := .seq #[.ref h.objs.size, .ref (zH1 h a).objs.size] }
noncomputable abbrev zH4 (h : Heap) (a b : Addr) : Heap := (zH3 h a b).push { cls := .type "tuple", data := .seq #[.none, .none] }
noncomputable abbrev zH5 (h : Heap) (a b : Addr) : Heap := (zH4 h a b).push { cls := .type "zip", data := .fields #[.none, .bool false, .bool false, .ref (zH2 h a b).objs.size, .ref (zH3 h a b).objs.size] }
noncomputable def Sq (k : Bool) (K : PySem.W.Frag) (H : Hp) (a : Addr) (xs : List V) : Prop := match k with
  | true => SqL K H a xs
  | false => SqT K H a xs
noncomputable def Itz (K : PySem.W.Frag) (k1 k2 : Bool) (a b : Addr) : It :=
  ⟨fun i H => ∃ xs ys x y, Sq k1 K H a xs ∧ Sq k2 K H b ys ∧ xs[i]? = some x ∧ ys[i]? = some y,
   fun i H v H' => ∃ p, H p = none ∧ v = .ref p ∧ ∀ xs ys, Sq k1 K H a xs → Sq k2 K H b ys → ∃ x y, xs[i]? = some x ∧ ys[i]? = some y ∧ H' = upd H p (.tup [x, y]),
   fun i H => ∃ xs ys, Sq k1 K H a xs ∧ Sq k2 K H b ys ∧ (xs.length ≤ i ∨ ys.length ≤ i)⟩
theorem Inv.turnedT {X : Cx} {pins : List (Addr × Obj)} {σ : St} {H : Hp} {s : Shared} {h' : Heap} {t' : Nat} {ch : List Addr} {T : Addr} {xs : List V} (I : Inv X pins σ H s) (hf : ∀ b ∈ ch, FpOk X pins H b)
    (hk : ∀ c o, c ∉ ch → s.heap.get? c = some o → h'.get? c = some o) (hth : ∀ c o, s.heap.get? c = some o → ∃ o', h'.get? c = some o') (hT : s.heap.objs.size ≤ T) (new : ObjOk X.prog X.w (upd H T (.tup xs)) h' T (.tup xs)) :
    Inv X pins σ (upd H T (.tup xs)) { s with heap := h', toks := t' } := by
  have hn : H T = none := I.hok.fresh hT
  have nT : ∀ b o, s.heap.get? b = some o → b ≠ T := fun b o e => Nat.ne_of_lt (Nat.lt_of_lt_of_le (Heap.lt_size e) hT)
  refine I.call' (s' := { s with heap := h', toks := t' }) (ch := ch) rfl ⟨fun b o e n _ hx => hk b o hx e, fun b o e n _ hx => ⟨o.slots, hk b o hx e⟩, fun b o e n _ => by rw [upd_ne (nT b o e)]; exact n, fun b o e hx => ⟨o, hk b o hx e⟩, fun b ys e => by rw [upd_ne (ne_of_none e hn)]; exact e,
    fun b o u e => by rw [upd_ne (ne_of_none e hn)]; exact e, fun b ps e => ⟨#[], by rw [upd_ne (ne_of_none e hn), e]; simp⟩⟩ (fun b o e => ?_) I.bare fun b hb => ⟨(hf b hb).2.2.2.1, (hf b hb).2.1, (hf b hb).2.2.2.2.1, (hf b hb).2.2.2.2.2⟩
  by_cases hb : b = T
  · subst hb; rw [upd_same] at e; cases e; exact new
  · rw [upd_ne hb] at e
    have nch : ∀ c u, H c = some u → c ∉ ch := fun c u q z => by rw [(hf c z).1] at q; cases q
    refine (I.hok b o e).stay (fun c v hc q => hk c v ?_ q) (fun c q => by rw [upd_ne (ne_of_none q hn)]; exact q) fun c zs q => by rw [upd_ne (ne_of_none q hn)]; exact q
    rcases hc with rfl | hc
    · exact nch _ _ e
    · exact nch _ _ hc
end L2
end
section
set_option Elab.async false
set_option linter.all false
set_option maxRecDepth 100000
set_option maxHeartbeats 4000000
namespace L2
open PySem PySem.Spec PyProof.Rows

section
variable {X : Cx}
noncomputable def iZip (K : PySem.W.Frag) (ta : TA) : TI := fun σ H R => ta σ H fun vs H1 => ∃ k a b xs ys, vs = [.ref a, .ref b] ∧ Sq k K H1 a xs ∧ Sq k K H1 b ys ∧ R (Itz K k k a b) H1
noncomputable def rIsi (K : PySem.W.Frag) : List V → Hp → VK → Prop := fun xs H Q => ∃ x T t b, xs = [x, .ty T] ∧ TyOf K H x t ∧ PySem.W.kitOne K t (.type T) = some b ∧ Q (.bl b) H
theorem call_isi : CallR X (.builtin "isinstance") (rIsi X.K) := by
  intro pins s σ H xs us Q I r h
  obtain ⟨x, T, t, b, rfl, ty, e, q⟩ := h
  obtain ⟨u, w', rfl, rx, rT⟩ := vals2 r
  cases rT
  exact isinst_ok I rx ty e fun tk => ⟨.bl b, H, I.tok tk, rfl, q⟩
noncomputable def rIsiT (K : PySem.W.Frag) : List V → Hp → VK → Prop := fun xs H Q => ∃ (x : V) (p : Addr) (Ts : List String) (t : Value) (b : Bool), xs = [x, .ref p] ∧ SqT K H p (Ts.map V.ty) ∧ TyOf K H x t ∧ PySem.W.kitAny K t (Ts.map Value.type) = some b ∧ Q (.bl b) H
theorem max_of_list (hc : X.calm = true) : CallR X (.builtin "max") (fun xs H Q => ∃ (p : Addr) (ns : List Int), xs = [.ref p] ∧ SqL X.K H p (ns.map V.int) ∧ 0 < ns.length ∧ ∀ M, M ∈ ns → (∀ a, a ∈ ns → a ≤ M) → Q (.int M) H) := by
  intro pins s σ H xs us Q I r h
  obtain ⟨p, ns, rfl, hq, hne, q⟩ := h
  obtain ⟨u, rfl, ru⟩ := vals1 r
  cases ru
  obtain ⟨its, rv, pl, _⟩ := I.list hq
  have hi := intsAre_of rv
  obtain ⟨ys, e⟩ := hi.allInts.items
  have hl := pl.isList
  rw [e] at hl
  have hns : ns = ys.toList.map (·.1) := by rw [← hi.numsOf, ← nums_intItems, ← e]
  have hsz : 0 < ys.size := by rw [hns, List.length_map, Array.length_toList] at hne; exact hne
  refine max_intList (I.ok.hd hc) hl hsz fun v h' tk hv hk => ?_
  obtain ⟨t, rfl⟩ := intItems_at hv
  obtain ⟨h1, h2⟩ := argBest_gt (numAt ys) (ys.size - 1)
  refine ⟨.int _, H, I.kept hk, ⟨t, rfl⟩, q _ ?_ fun a ha => ?_⟩
  · rw [hns, numAt_eq]; exact getD_mem (by rw [List.length_map, Array.length_toList]; (first | lia | omega))
  · rw [hns] at ha
    obtain ⟨j, hj, rfl⟩ := mem_getD ha
    rw [List.length_map, Array.length_toList] at hj
    rw [← numAt_eq]; exact h2 j (by (first | lia | omega))
theorem min_of_list (hc : X.calm = true) : CallR X (.builtin "min") (fun xs H Q => ∃ (p : Addr) (ns : List Int), xs = [.ref p] ∧ SqL X.K H p (ns.map V.int) ∧ 0 < ns.length ∧ ∀ M, M ∈ ns → (∀ a, a ∈ ns → M ≤ a) → Q (.int M) H) := by
  intro pins s σ H xs us Q I r h
  obtain ⟨p, ns, rfl, hq, hne, q⟩ := h
  obtain ⟨u, rfl, ru⟩ := vals1 r
  cases ru
  obtain ⟨its, rv, pl, _⟩ := I.list hq
  have hi := intsAre_of rv
  obtain ⟨ys, e⟩ := hi.allInts.items
  have hl := pl.isList
  rw [e] at hl
  have hns : ns = ys.toList.map (·.1) := by rw [← hi.numsOf, ← nums_intItems, ← e]
  have hsz : 0 < ys.size := by rw [hns, List.length_map, Array.length_toList] at hne; exact hne
  refine min_intList (I.ok.hd hc) hl hsz fun v h' tk hv hk => ?_
  obtain ⟨t, rfl⟩ := intItems_at hv
  obtain ⟨h1, h2⟩ := argBest_lt (numAt ys) (ys.size - 1)
  refine ⟨.int _, H, I.kept hk, ⟨t, rfl⟩, q _ ?_ fun a ha => ?_⟩
  · rw [hns, numAt_eq]; exact getD_mem (by rw [List.length_map, Array.length_toList]; (first | lia | omega))
  · rw [hns] at ha
    obtain ⟨j, hj, rfl⟩ := mem_getD ha
    rw [List.length_map, Array.length_toList] at hj
    rw [← numAt_eq]; exact h2 j (by (first | lia | omega))
inductive EqD (K : PySem.W.Frag) (H : Hp) : Nat → V → V → Bool → Prop
  | flat {x y : V} (fx : flatV x = true) (fy : flatV y = true) : EqD K H 0 x y (eqV x y)
  | tup {n : Nat} {a b : Addr} {xs ys : List V} {e : Nat → Bool} (ha : SqT K H a xs) (hb : SqT K H b ys) (h : ∀ (j : Nat) x y, xs[j]? = some x → ys[j]? = some y → EqD K H n x y (e j)) :
      EqD K H (n + 1) (.ref a) (.ref b) ((List.range (min xs.length ys.length)).all e && xs.length == ys.length)
  | lst {n : Nat} {a b : Addr} {xs ys : List V} {e : Nat → Bool} (ha : SqL K H a xs) (hb : SqL K H b ys) (hl : xs.length = ys.length) (h : ∀ (j : Nat) x y, xs[j]? = some x → ys[j]? = some y → EqD K H n x y (e j)) :
      EqD K H (n + 1) (.ref a) (.ref b) ((List.range xs.length).all e)
  | len {n : Nat} {a b : Addr} {xs ys : List V} (ha : SqL K H a xs) (hb : SqL K H b ys) (hl : xs.length ≠ ys.length) : EqD K H (n + 1) (.ref a) (.ref b) false
theorem all_range {n : Nat} {e : Nat → Bool} (h : ∀ j, j < n → e j = true) : (List.range n).all e = true := List.all_eq_true.mpr fun j hj => h j (List.mem_range.mp hj)
theorem EqD.same {pins : List (Addr × Obj)} {σ : St} {H : Hp} {s : Shared} (I : Inv X pins σ H s) {n : Nat} {x y : V} {b : Bool} (h : EqD X.K H n x y b) : x = y → b = true := by
  induction h with
  | @flat x y fx fy =>
    rintro rfl
    cases x <;> first | rfl | exact beq_self_eq_true _ | exact absurd (show false = true from fx) Bool.false_ne_true
  | @tup n a b xs ys e ha hb h ih =>
    intro z
    cases z
    have q := I.tuple_inj ha hb
    subst q
    rw [Bool.and_eq_true]
    refine ⟨all_range fun j hj => ?_, beq_self_eq_true _⟩
    have hj' : j < xs.length := by (first | lia | omega)
    exact ih j xs[j] xs[j] (List.getElem?_eq_getElem hj') (List.getElem?_eq_getElem hj') rfl
  | @lst n a b xs ys e ha hb hl h ih =>
    intro z
    cases z
    have q := I.list_inj ha hb
    subst q
    refine all_range fun j hj => ?_
    exact ih j xs[j] xs[j] (List.getElem?_eq_getElem hj) (List.getElem?_eq_getElem hj) rfl
  | @len n a b xs ys ha hb hl =>
    intro z
    cases z
    exact absurd (congrArg List.length (I.list_inj ha hb)) hl
theorem Vals.at {xs : List V} {us : List Value} (r : Vals xs us) {j : Nat} (h : j < us.length) : ∃ x, xs[j]? = some x ∧ RelV x us[j] := by
  have h' : j < xs.length := by rw [r.length]; exact h
  obtain ⟨u, e, q⟩ := r.get (List.getElem?_eq_getElem h')
  rw [List.getElem?_eq_getElem h] at e
  cases e
  exact ⟨_, List.getElem?_eq_getElem h', q⟩
theorem EqD.at {pins : List (Addr × Obj)} {σ : St} {H : Hp} {s : Shared} (I : Inv X pins σ H s) {n : Nat} {x y : V} {b : Bool} (h : EqD X.K H n x y b) :
    ∀ {A : Around} {u v : Value}, RelV x u → RelV y v → A.units + n < cLine → SeqAt.EqAt A s u v b := by
  induction h with
  | @flat x y fx fy => intro A u v rx ry _; exact eqAt_V rx ry fx fy
  | @tup n a b xs ys e ha hb h ih =>
    intro A u v rx ry hu
    cases rx
    cases ry
    by_cases hab : a = b
    · have z := (EqD.tup (n := n) ha hb h).same I (by rw [hab])
      rw [z, hab]
      exact SeqAt.EqAt.same _
    · obtain ⟨ia, ra, pa, _⟩ := I.tuple ha
      obtain ⟨ib, rb, pb, _⟩ := I.tuple hb
      have q := SeqAt.RcAt.tuples (A := A) (e := e) (show s.heap.IsTuple a ia.toArray from pa) (show s.heap.IsTuple b ib.toArray from pb) (by (first | lia | omega)) fun j h1 h2 => by
        have h1' : j < ia.length := by simpa using h1
        have h2' : j < ib.length := by simpa using h2
        obtain ⟨x, ex, rx⟩ := ra.at h1'
        obtain ⟨y, ey, ry⟩ := rb.at h2'
        have := ih j x y ex ey (A := A.in1) (u := ia[j]) (v := ib[j]) rx ry (by show A.units + 1 + n < cLine; (first | lia | omega))
        simpa using this
      have la := ra.length
      have lb := rb.length
      have q' := SeqAt.EqAt.of_refs hab q
      simpa [la, lb] using q'
  | @lst n a b xs ys e ha hb hl h ih =>
    intro A u v rx ry hu
    cases rx
    cases ry
    by_cases hab : a = b
    · have z := (EqD.lst (n := n) ha hb hl h).same I (by rw [hab])
      rw [z, hab]
      exact SeqAt.EqAt.same _
    · obtain ⟨ia, ra, pa, _⟩ := I.list ha
      obtain ⟨ib, rb, pb, _⟩ := I.list hb
      have la := ra.length
      have lb := rb.length
      have q := SeqAt.RcAt.lists (A := A) (e := e) pa.isList pb.isList (by simp; (first | lia | omega)) (by (first | lia | omega)) fun j h1 h2 => by
        have h1' : j < ia.length := by simpa using h1
        have h2' : j < ib.length := by simpa using h2
        obtain ⟨x, ex, rx⟩ := ra.at h1'
        obtain ⟨y, ey, ry⟩ := rb.at h2'
        have := ih j x y ex ey (A := A.in1) (u := ia[j]) (v := ib[j]) rx ry (by show A.units + 1 + n < cLine; (first | lia | omega))
        simpa using this
      have q' := SeqAt.EqAt.of_refs hab q
      simpa [la, lb] using q'
  | @len n a b xs ys ha hb hl =>
    intro A u v rx ry hu
    cases rx
    cases ry
    have hab : a ≠ b := fun z => by subst z; exact hl (congrArg List.length (I.list_inj ha hb))
    obtain ⟨ia, ra, pa, _⟩ := I.list ha
    obtain ⟨ib, rb, pb, _⟩ := I.list hb
    have la := ra.length
    have lb := rb.length
    exact SeqAt.EqAt.of_refs hab (SeqAt.RcAt.lists_lengths pa.isList pb.isList (by simp; (first | lia | omega)) (by (first | lia | omega)))
noncomputable def rEqD (K : PySem.W.Frag) (neg : Bool) : R2 := fun x y H Q => ∃ n b, EqD K H (n + 1) x y b ∧ n ≤ 50 ∧ Q (.bl (if neg then !b else b)) H
theorem op_eqD {k : Nat} (hr : Room k X.A) : OpR X (compareOp .Eq) (rEqD X.K false) := by
  intro pins s σ H x y v u Q I rx ry h
  obtain ⟨n, b, h, hn, q⟩ := h
  have hu := hr.units
  have fin : ∀ {b : Bool} {u v : Value}, SeqAt.RcAt X.A s u v b → Q (.bl b) H → wpAny (model X.prog X.w) X.A (compareOp .Eq u v) (EP X pins σ Q) X.xe s := fun {b _ _} z q => z _ _ _ _ ⟨.bl b, H, I, rfl, q⟩
  cases h with
  | @tup n a b xs ys e ha hb h =>
    cases rx
    cases ry
    obtain ⟨ia, ra, pa, _⟩ := I.tuple ha
    obtain ⟨ib, rb, pb, _⟩ := I.tuple hb
    have la := ra.length
    have lb := rb.length
    refine fin (SeqAt.RcAt.tuples (A := X.A) (e := e) (show s.heap.IsTuple a ia.toArray from pa) (show s.heap.IsTuple b ib.toArray from pb) (by (first | lia | omega)) fun j h1 h2 => ?_) (by simpa [la, lb] using q)
    have h1' : j < ia.length := by simpa using h1
    have h2' : j < ib.length := by simpa using h2
    obtain ⟨x, ex, rx⟩ := ra.at h1'
    obtain ⟨y, ey, ry⟩ := rb.at h2'
    have := (h j x y ex ey).at I (A := X.A.in1) (u := ia[j]) (v := ib[j]) rx ry (by show X.A.units + 1 + n < cLine; (first | lia | omega))
    simpa using this
  | @lst n a b xs ys e ha hb hl h =>
    cases rx
    cases ry
    obtain ⟨ia, ra, pa, _⟩ := I.list ha
    obtain ⟨ib, rb, pb, _⟩ := I.list hb
    have la := ra.length
    have lb := rb.length
    refine fin (SeqAt.RcAt.lists (A := X.A) (e := e) pa.isList pb.isList (by simp; (first | lia | omega)) (by (first | lia | omega)) fun j h1 h2 => ?_) (by simpa [la, lb] using q)
    have h1' : j < ia.length := by simpa using h1
    have h2' : j < ib.length := by simpa using h2
    obtain ⟨x, ex, rx⟩ := ra.at h1'
    obtain ⟨y, ey, ry⟩ := rb.at h2'
    have := (h j x y ex ey).at I (A := X.A.in1) (u := ia[j]) (v := ib[j]) rx ry (by show X.A.units + 1 + n < cLine; (first | lia | omega))
    simpa using this
  | @len n a b xs ys ha hb hl =>
    cases rx
    cases ry
    obtain ⟨ia, ra, pa, _⟩ := I.list ha
    obtain ⟨ib, rb, pb, _⟩ := I.list hb
    have la := ra.length
    have lb := rb.length
    exact fin (SeqAt.RcAt.lists_lengths pa.isList pb.isList (by simp; (first | lia | omega)) (by (first | lia | omega))) (by simpa using q)
end
theorem EqD.ints {K : PySem.W.Frag} {H : Hp} {a b : Addr} {ns ms : List Int} (ha : SqL K H a (ns.map V.int)) (hb : SqL K H b (ms.map V.int)) : EqD K H 1 (.ref a) (.ref b) (decide (ns = ms)) := by
  by_cases hl : ns.length = ms.length
  · have q := EqD.lst (n := 0) (e := fun j => ns.getD j 0 == ms.getD j 0) ha hb (by simpa using hl) fun j x y ex ey => by
      rw [List.getElem?_map] at ex ey
      cases e1 : ns[j]? with
      | none => rw [e1] at ex; cases ex
      | some i =>
        cases e2 : ms[j]? with
        | none => rw [e2] at ey; cases ey
        | some i' =>
          rw [e1] at ex; rw [e2] at ey
          cases ex; cases ey
          have z := EqD.flat (K := K) (H := H) (x := V.int i) (y := V.int i') rfl rfl
          have z2 : (ns.getD j 0 == ms.getD j 0) = eqV (V.int i) (V.int i') := by rw [List.getD_eq_getElem?_getD, List.getD_eq_getElem?_getD, e1, e2]; rfl
          rw [z2]
          exact z
    have e : (List.range (ns.map V.int).length).all (fun j => ns.getD j 0 == ms.getD j 0) = decide (ns = ms) := by
      rw [List.length_map, Bool.eq_iff_iff, decide_eq_true_iff, List.all_eq_true]
      constructor
      · intro h
        refine List.ext_getElem hl fun j h1 h2 => ?_
        have := h j (List.mem_range.mpr h1)
        rw [List.getD_eq_getElem?_getD, List.getD_eq_getElem?_getD, List.getElem?_eq_getElem h1, List.getElem?_eq_getElem h2] at this
        simpa using this
      · rintro rfl j _
        exact beq_self_eq_true _
    rw [← e]
    exact q
  · have q := EqD.len (n := 0) ha hb (by simpa using hl)
    rw [decide_eq_false (fun z => hl (congrArg List.length z))]
    exact q
section
variable {X : Cx} {a b c d : Expr} {ta tb tc td : TE} {pos : Pos}
noncomputable def tChain3 (r r' r'' : R2) (ta tb tc td : TE) : TE := fun σ H Q => ta σ H fun x H1 => tb σ H1 fun y H2 => r x y H2 fun z H3 => ∃ k, z = .bl k ∧
  (if k = true then tc σ H3 fun w' H4 => r' y w' H4 fun z' H5 => ∃ k', z' = .bl k' ∧ (if k' = true then td σ H5 fun w'' H6 => r'' w' w'' H6 Q else Q (.bl false) H5) else Q (.bl false) H3)
end
end L2
end
section
set_option Elab.async false
set_option linter.all false
set_option maxRecDepth 100000
set_option maxHeartbeats 4000000
namespace L2
open PySem PySem.Spec PyProof.Rows

structure Def (P : Program) (w : World) (K : PySem.W.Frag) (mg : Str → Option Value) (base : Heap) (k : Nat) (x : Str) (ps : List Str) (sp : Sp) : Prop where
  ex : ∃ (f : Addr) (fd : FuncData), FnOk P w K mg base CX0 k f fd ps sp ∧ Binds K fd ps [] ∧ PySem.W.keepIn K (.ref f) = true ∧ mg x = some (.ref f)
theorem Def.mono {P : Program} {w : World} {K : PySem.W.Frag} {mg : Str → Option Value} {base : Heap} {j k : Nat} {x : Str} {ps : List Str} {sp : Sp} (D : Def P w K mg base j x ps sp) (h : j ≤ k) : Def P w K mg base k x ps sp := by
  obtain ⟨f, fd, F, b, kp, m⟩ := D.ex
  exact ⟨f, fd, F.mono h, b, kp, m⟩
theorem pe_def {X : Cx} {k : Nat} {x : Str} {ps : List Str} {sp : Sp} {p pos : Pos} {e : Expr} {es : List Expr} {t : TA} (D : Def X.prog X.w X.K X.mg X.base k x ps sp) (hr : Room k X.A) (hg : Gl X x) (ha : PA X (e :: es) t)
    (hdb : (x == ("__debug__" : Str)) = false := by decide) (he : starEach (e :: es) X.env = (false, eval e X.env) :: starEach es X.env := by rfl) (hpl : (backTo pos (starEach es X.env)).any (·.1) = false := by rfl) : PE X (.Call (.Name x p) (e :: es) [] pos) (tCall sp [] E0 t) := by
  obtain ⟨f, fd, F, b, kp, m⟩ := D.ex
  exact pe_call F hr hg m kp b .nil pass0 ha hdb he hpl
structure Blt (mg : Str → Option Value) : Prop where
  len_ : mg "len" = none
  range_ : mg "range" = none
  isinstance_ : mg "isinstance" = none
  int_ : mg "int" = none
  bool_ : mg "bool" = none
  tuple_ : mg "tuple" = none
  list_ : mg "list" = none
  sum_ : mg "sum" = none
  abs_ : mg "abs" = none
  min_ : mg "min" = none
  max_ : mg "max" = none
  zip_ : mg "zip" = none
  enumerate_ : mg "enumerate" = none
  all_ : mg "all" = none
  str_ : mg "str" = none

noncomputable def okCell (ns : List (Str × NameKind)) : Bool := ns.all fun y => (y.2 != .cell) && (y.2 != .local || ns.lookup y.1 == some .local)
noncomputable def okFree (fs ns : List (Str × NameKind)) : Bool := ns.all fun y => y.2 != .free || (fs.lookup y.1 == some .cell || fs.lookup y.1 == some .free)
noncomputable def okIx (N XN : List Str) (ns : List (Str × NameKind)) (ix : List (Option Nat)) : Bool := (List.range ix.length).all fun i => match ix[i]?, N[i]? with
  | some (some j), some x => XN[j]? == some x && ns.lookup x == some .free
  | _, _ => true
theorem okIx_of {N XN : List Str} {ns : List (Str × NameKind)} {ix : List (Option Nat)} (h : okIx N XN ns ix = true) (i j : Nat) (x : Str) (h1 : ix[i]? = some (some j)) (h2 : N[i]? = some x) : XN[j]? = some x ∧ ns.lookup x = some .free := by
  have hi : i < ix.length := by
    obtain ⟨q, _⟩ := List.getElem?_eq_some_iff.mp h1
    exact q
  have q := List.all_eq_true.mp h i (List.mem_range.mpr hi)
  rw [h1, h2] at q
  simp only [Bool.and_eq_true, beq_iff_eq] at q
  exact q
section
variable {X : Cx} {elt tg iter : Expr} {ifs : List Expr} {scope : Scope} {pos : Pos} {wi : TI} {g : TG} {tc : TT} {te : TE} {N' : List Str} {ix : List (Option Nat)}
theorem pe_lc (hc : X.calm = true) (hkind : scope.kind = .function) (h1 : okCell scope.names = true) (h2 : okFree X.env.scope.names scope.names = true)
    (hclos : closureFor scope X.env = pure (clOf X.env scope.names [])) (hlen : ix.length = N'.length) (h3 : okIx N' X.N scope.names ix = true)
    (hi : PI X tg iter wi) (hg : ∀ C s H fp, PG (blk X N' scope C s H fp) tg g) (ht : ∀ C s H fp, PTs (blk X N' scope C s H fp) ifs tc) (he : ∀ C s H fp, PE (blk X N' scope C s H fp) elt te)
    (hs : ∀ x, foldedSetIterable iter X.env x = pure x := by intro _; rfl) : PE X (.ListComp elt [⟨tg, iter, ifs, 0⟩] scope pos) (tComp wi g tc te ix) := by
  refine pe_comp hc hkind (fun y hy => ?_) (fun y hy hl => ?_) (fun y hy hf => ?_) hclos hlen (okIx_of h3) hi hg ht he hs
  · have q := List.all_eq_true.mp h1 y hy
    simp only [Bool.and_eq_true, bne_iff_ne, ne_eq] at q
    exact q.1
  · have q := List.all_eq_true.mp h1 y hy
    rw [hl] at q
    simp only [Bool.and_eq_true, Bool.or_eq_true, bne_self_eq_false, Bool.false_eq_true, false_or, beq_iff_eq] at q
    exact q.2
  · have q := List.all_eq_true.mp h2 y hy
    rw [hf] at q
    simp only [Bool.or_eq_true, bne_self_eq_false, Bool.false_eq_true, false_or, beq_iff_eq] at q
    exact q
end

theorem ifD {c A B : Prop} {_ : Decidable c} (h1 : c → A) (h2 : ¬ c → B) : if decide c = true then A else B := by
  by_cases h : c
  · rw [if_pos (decide_eq_true h)]; exact h1 h
  · rw [if_neg (by rw [decide_eq_true_iff]; exact h)]; exact h2 h
theorem ifN {c A B : Prop} {_ : Decidable c} (h1 : ¬ c → A) (h2 : c → B) : if (!decide c) = true then A else B := by
  by_cases h : c
  · rw [decide_eq_true h]; exact iteF (h2 h)
  · rw [decide_eq_false h]; exact iteT (h1 h)
theorem dec_ints {i j : Int} : decide (V.int i = V.int j) = decide (i = j) := by
  by_cases h : i = j
  · subst h; simp
  · rw [decide_eq_false h, decide_eq_false (fun z => h (V.int.inj z))]
theorem ifI {i j : Int} {A B : Prop} (h1 : i = j → A) (h2 : i ≠ j → B) : if decide (V.int i = V.int j) = true then A else B := by
  rw [dec_ints]; exact ifD h1 h2
theorem ifIN {i j : Int} {A B : Prop} (h1 : i ≠ j → A) (h2 : i = j → B) : if (!decide (V.int i = V.int j)) = true then A else B := by
  rw [dec_ints]; exact ifN h1 h2
theorem Same.new {H : Hp} {p : Addr} (h : H p = none) (o : HO) : Same H (upd H p o) := fun b u q => by rw [upd_ne (ne_of_none q h)]; exact q
theorem Same.upd {H H' : Hp} {p : Addr} {o : HO} (e : Same H H') (h : H p = none) : Same H (upd H' p o) := fun b u q => by rw [upd_ne (ne_of_none q h)]; exact e b u q
theorem atI_ok {ns : List Int} {k : Int} (h0 : 0 ≤ k) (h : k < (ns.length : Int)) : atI (ns.map V.int) k = some (.int (ns.getD k.toNat 0)) := by
  have hk : k.toNat < ns.length := by (first | lia | omega)
  have ek : k = ((k.toNat : Nat) : Int) := by (first | lia | omega)
  have q : atI (ns.map V.int) ((k.toNat : Nat) : Int) = some (.int (ns.getD k.toNat 0)) := atI_nat (by rw [List.getElem?_map, List.getElem?_eq_getElem hk, List.getD_eq_getElem?_getD, List.getElem?_eq_getElem hk] <;> rfl)
  rw [← ek] at q
  exact q
theorem cPow {i j : Int} (h : (decide (0 ≤ j) && (decide (j ≤ 1000000) && decide (i.natAbs < 2 ^ 64))) = true) : CPow i j := by
  simp only [Bool.and_eq_true, decide_eq_true_eq] at h
  exact h
theorem cDiv {i j : Int} (h : (decide (0 < j) && decide (j < 1073741824)) = true) : CDiv i j := by
  simp only [Bool.and_eq_true, decide_eq_true_eq] at h
  exact h
theorem cMulR {i j : Int} (h : (decide (-(2 ^ 64) < j) && decide (j < 2 ^ 64)) = true) : CMul i j := by
  simp only [Bool.and_eq_true, decide_eq_true_eq] at h
  exact .inr h
theorem cMulL' {i j : Int} (h : -1000000000000 < i) (h' : i < 1000000000000) : CMul i j := .inl ⟨by (first | lia | omega), by (first | lia | omega)⟩
theorem cPos {j : Int} (h : decide (0 < j) = true) : 0 < j := of_decide_eq_true h
theorem seqU {t u : TS} {D : Ends} {σ : St} {H : Hp} (I : St → Hp → Prop) (tail : ∀ σ' H', I σ' H' → u D σ' H') (h : ∀ R : St → Hp → Prop, (∀ σ' H', I σ' H' → R σ' H') → t { D with nx := R } σ H) : tSeq t u D σ H := h (u D) tail
theorem ifJ {c : Prop} {_ : Decidable c} {t : TS} {D : Ends} {σ : St} {H : Hp} (I : St → Hp → Prop) (tail : ∀ σ' H', I σ' H' → D.nx σ' H') (h0 : ¬ c → I σ H) (hA : ∀ R : St → Hp → Prop, (∀ σ' H', I σ' H' → R σ' H') → c → t { D with nx := R } σ H) :
    if decide c = true then t D σ H else tNext D σ H := by
  by_cases h : c
  · rw [if_pos (decide_eq_true h)]; exact hA D.nx tail h
  · rw [if_neg (by rw [decide_eq_true_iff]; exact h)]; exact tail _ _ (h0 h)
theorem pick {ns : List Int} {k : Int} (h0 : 0 ≤ k) (h : k < (ns.length : Int)) : ∃ d, d ∈ ns ∧ atI (ns.map V.int) k = some (.int d) := by
  refine ⟨_, ?_, atI_ok h0 h⟩
  have hk : k.toNat < ns.length := by (first | lia | omega)
  rw [List.getD_eq_getElem?_getD, List.getElem?_eq_getElem hk]
  exact List.getElem_mem hk
theorem mod_lt {a b : Int} (h : 0 < b) : 0 ≤ a % b ∧ a % b < b := ⟨Int.emod_nonneg a (by (first | lia | omega)), Int.emod_lt_of_pos a h⟩
theorem small {n : Nat} (h : n ≤ 100000) : n < sizeLine := Nat.lt_of_le_of_lt h (by decide)
section
variable {X : Cx} {N' : List Str} {scope : Scope} {C : Addr} {s : Shared} {H : Hp} {fp : List Addr} {pos : Pos}
theorem pg_tupB {es : List Expr} {k : Nat} {t : TGs} {n : Nat} (hc : X.calm = true) (h : PGs (blk X N' scope C s H fp) es t)
    (hn : (assignEach es (blk X N' scope C s H fp).env).length = n := by rfl) (hst : (assignEach es (blk X N' scope C s H fp).env).findIdx? (·.1) = none := by rfl) : PG (blk X N' scope C s H fp) (.Tuple es k pos) (gTup X.K n t) := pg_tup hc h hn hst
theorem ix_listB : IxR (blk X N' scope C s H fp) (rIxL X.K) := ix_list
theorem ix_tupB : IxR (blk X N' scope C s H fp) (rIxT X.K) := ix_tup
theorem sl_listB : SlR (blk X N' scope C s H fp) (rSlL X.K) := sl_list
end
section
variable {K : PySem.W.Frag}
theorem kit_ii : PySem.W.kitOne K (.type "int") (.type "int") = some true := by kernel_rfl
theorem kit_ib : PySem.W.kitOne K (.type "int") (.type "bool") = some false := by kernel_rfl
theorem kit_ll : PySem.W.kitOne K (.type "list") (.type "list") = some true := by kernel_rfl
end
noncomputable def Nx (n i : Nat) (P : Prop) : Prop := ∃ m', m' < n - i ∧ m' = n - (i + 1) ∧ i + 1 ≤ n ∧ P
theorem Nx.mk {n i : Nat} {P : Prop} (h : i < n) (p : P) : Nx n i P := ⟨n - (i + 1), by (first | lia | omega), rfl, h, p⟩
theorem comp_by {J : It} {n : Nat} {g : TG} {tc : TT} {te : TE} {τ0 : St} {H1 : Hp} {Q : VK} {acc : Addr} (Pv : Nat → St → List V → Hp → Prop) (h0 : Pv 0 τ0 [] (upd H1 acc (.lst []))) (hn : n ≤ 100000)
    (hacc : ∀ i τ zs H, Pv i τ zs H → H acc = some (.lst zs) ∧ zs.length ≤ i) (hgo : ∀ i τ zs H, i < n → Pv i τ zs H → J.go i H) (hstop : ∀ τ zs H, Pv n τ zs H → J.stop n H ∧ Q (.ref acc) H)
    (hs : ∀ i τ zs H x H', i < n → Pv i τ zs H → J.yld i H x H' → g x τ H' fun τ2 H2 => tc τ2 H2 fun b H3 => if b = true then te τ2 H3 fun y H4 => H4 acc = some (.lst zs) ∧ Nx n i (Pv (i + 1) τ2 (zs ++ [y]) (upd H4 acc (.lst (zs ++ [y])))) else Nx n i (Pv (i + 1) τ2 zs H3)) :
    CompW J g tc te τ0 H1 acc Q := by
  refine ⟨fun i m τ ys H => m = n - i ∧ i ≤ n ∧ Pv i τ ys H, ⟨n, by simp, Nat.zero_le _, h0⟩, ?_⟩
  rintro i m τ ys H ⟨rfl, hi, p⟩
  obtain ⟨ha, hl⟩ := hacc i τ ys H p
  refine ⟨ha, ?_⟩
  by_cases hlt : i < n
  · exact .inr ⟨hgo i τ ys H hlt p, small (by (first | lia | omega)), fun x H' y => hs i τ ys H x H' hlt p y⟩
  · have e : i = n := by (first | lia | omega)
    subst e
    exact .inl (hstop τ ys H p)
end L2
end
section
set_option Elab.async false
set_option linter.all false
set_option maxRecDepth 100000
set_option maxHeartbeats 4000000
namespace L2
open PySem PySem.Spec PyProof.Rows
noncomputable def Ite (K : PySem.W.Frag) (a : Addr) : It :=
  ⟨fun i H => ∃ xs x, SqL K H a xs ∧ xs[i]? = some x,
   fun i H v H' => ∃ p, H p = none ∧ v = .ref p ∧ ∀ xs, SqL K H a xs → ∃ x, xs[i]? = some x ∧ H' = upd H p (.tup [.int i, x]),
   fun i H => ∃ xs, SqL K H a xs ∧ xs.length ≤ i⟩
theorem turn_enum {P : Program} {w : World} {K : PySem.W.Frag} {elts : List Expr} {x1 : Nat} {pos : Pos} (a e it : Addr) (hne : e ≠ it) :
    Turn P w K (.Tuple elts x1 pos) (Ite K a) [e, it] e (fun i h => (∃ old, IsEnum h e it i old) ∧ h.IsListIter it a i) where
  mem := by simp
  obj := fun i h st c hc => by
    obtain ⟨⟨old, he⟩, hi⟩ := st
    simp only [List.mem_cons, List.not_mem_nil, or_false] at hc
    rcases hc with rfl | rfl
    · exact ⟨_, he, fun v q => by cases (show Data.fields _ = Data.cell v from q)⟩
    · obtain ⟨o, e1, _, d⟩ := hi
      exact ⟨o, e1, fun v q => by rw [d] at q; cases q⟩
  keep := fun i h h' st k => by
    obtain ⟨⟨old, he⟩, hi⟩ := st
    exact ⟨⟨old, k e (by simp) _ he⟩, hi.at fun o q => k it (by simp) o q⟩
  item := by
    intro X hP hw hK hc i pins s σ H E I hf st hg
    subst hP hw hK
    obtain ⟨⟨old, he⟩, hi⟩ := st
    obtain ⟨xs, x, hq, hx⟩ := hg
    obtain ⟨its, rv, p, _⟩ := I.list hq
    obtain ⟨u, hu, ru⟩ := rv.get hx
    refine wpAny_pyNext_enum_item he hi p.isList (x := u) (by simpa using hu) hne fun h' a1 a2 a3 a4 hk => ⟨_, rfl, ?_⟩
    refine wpAny_letOwnedTupleGo_enum a1 fun h2 a5 sb => ?_
    have hT : s.heap.objs.size ≠ e := Nat.ne_of_gt (Heap.lt_size he)
    have kk : ∀ c o, c ∉ [e, it] → s.heap.get? c = some o → h2.get? c = some o := fun c o hc' q => by
      simp only [List.mem_cons, List.not_mem_nil, or_false, not_or] at hc'
      exact sb.extBut _ _ hc'.1 (hk c o hc'.1 hc'.2 q)
    have th : ∀ c o, s.heap.get? c = some o → ∃ o', h2.get? c = some o' := fun c o q => by
      by_cases z : c ∈ [e, it]
      · simp only [List.mem_cons, List.not_mem_nil, or_false] at z
        rcases z with rfl | rfl
        · exact ⟨_, a5⟩
        · obtain ⟨o', e', _⟩ := a2
          exact ⟨o', sb.extBut _ _ hne.symm e'⟩
      · exact ⟨o, kk c o z q⟩
    have new : ObjOk X.prog X.w (upd H s.heap.objs.size (.tup [.int i, x])) h2 s.heap.objs.size (.tup [.int i, x]) := ⟨by show 2 ≤ sizeLine; decide, [.int i s.toks, u], .cons ⟨_, rfl⟩ (.cons ru .nil), ⟨_, sb.extBut _ _ hT a3, rfl, _, rfl⟩⟩
    have I1 := I.turnedT (t' := s.toks + 1) hf kk th (Nat.le_refl _) new
    refine ⟨.ref s.heap.objs.size, _, I1, rfl, ⟨s.heap.objs.size, I.hok.fresh (Nat.le_refl _), rfl, fun ys q => ?_⟩, ⟨⟨_, by simpa using a5⟩, a2.at fun o q => sb.extBut _ _ hne.symm q⟩, fun c hc' => ?_⟩
    · rw [I.list_inj q hq]
      exact ⟨x, hx, rfl⟩
    · obtain ⟨o, q⟩ : ∃ o, s.heap.get? c = some o := by
        simp only [List.mem_cons, List.not_mem_nil, or_false] at hc'
        rcases hc' with rfl | rfl
        · exact ⟨_, he⟩
        · obtain ⟨o, e1, _⟩ := hi
          exact ⟨o, e1⟩
      rw [upd_ne (Nat.ne_of_lt (Heap.lt_size q))]
      exact (hf c hc').1
  done := by
    intro X hP hw hK hc i pins s σ H E I hf st hg
    subst hP hw hK
    obtain ⟨⟨old, he⟩, hi⟩ := st
    obtain ⟨xs, hq, hle⟩ := hg
    obtain ⟨its, rv, p, _⟩ := I.list hq
    have hl := rv.length
    obtain ⟨f0, f1, f2, f3, f4, f5⟩ := hf it (by simp)
    exact wpAny_pyNext_enum_end (I.ok.hd hc) he hi p.isList (by simp; (first | lia | omega)) fun h' eb => ⟨rfl, I.turned (t' := s.toks) (fun b o hb q => eb b o hb q) f0 f1 f3 f4 f5⟩
  self := fun _ _ _ _ _ st h => by
    obtain ⟨⟨old, he⟩, _⟩ := st
    exact wpAny_pyIter_enum he h
section
variable {X : Cx}
noncomputable def iEnum (K : PySem.W.Frag) (ta : TA) : TI := fun σ H R => ta σ H fun vs H1 => ∃ a xs, vs = [.ref a] ∧ SqL K H1 a xs ∧ R (Ite K a) H1
theorem pi_enumerate {a : Expr} {ta : TA} {p pos : Pos} {elts : List Expr} {x1 : Nat} {tp : Pos} (hg : Gl X "enumerate") (hm : X.mg "enumerate" = none) (ha : PA X [a] ta) (hs : starEach [a] X.env = [(false, eval a X.env)] := by rfl) :
    PI X (.Tuple elts x1 tp) (.Call (.Name "enumerate" p) [a] [] pos) (iEnum X.K ta) := by
  intro pins s σ H R I h
  refine Call_ (ld_blt I hg hm boot_enumerate (PyProof.Rows.callWith_type1 (thn (ha pos pins s σ H _ I h) fun us s1 ⟨vs, H1, I1, r1, q1⟩ => ?_) hs rfl))
  obtain ⟨a, xs, e, qa, q⟩ := q1
  subst e
  cases r1 with
  | cons r rr =>
    cases rr
    cases r
    obtain ⟨ia, ra, pa, _⟩ := I1.list qa
    refine call_enumerate_list pa.isList fun h' z1 z2 z3 z4 => ?_
    refine wpAny_pyIter_enum z1 ?_
    refine ⟨_, _, _, _, H1, rfl, I1.kept (t' := s1.toks) z4, turn_enum a (s1.heap.objs.size + 1) s1.heap.objs.size (Nat.succ_ne_self _), ⟨⟨_, z1⟩, z2⟩, fun c hc => ?_, q⟩
    have hc' : s1.heap.objs.size ≤ c := by
      simp only [List.mem_cons, List.not_mem_nil, or_false] at hc
      rcases hc with rfl | rfl
      · exact Nat.le_succ _
      · exact Nat.le_refl _
    exact I1.fpOk hc' (I1.hok.fresh hc')
theorem for_enum {K : PySem.W.Frag} {a : Addr} {xs : List V} {g : TG} {tb : TS} {D : Ends} {σ : St} {H : Hp} (Pv : Nat → St → Hp → Prop) (h0 : Pv 0 σ H) (hl : ∀ i σ H, i ≤ xs.length → Pv i σ H → SqL K H a xs)
    (hs : ∀ i x σ H p, xs[i]? = some x → Pv i σ H → H p = none → g (.ref p) σ (upd H p (.tup [.int i, x])) fun σ2 H2 => tb { D with nx := Pv (i + 1), ct := Pv (i + 1), bk := D.nx } σ2 H2) (hd : ∀ σ H, Pv xs.length σ H → D.nx σ H) :
    ∃ W : Nat → Nat → St → Hp → Prop, (∃ m, W 0 m σ H) ∧ ∀ i m σ H, W i m σ H →
      ((Ite K a).stop i H ∧ D.nx σ H) ∨ ((Ite K a).go i H ∧ ∃ N : St → Hp → Prop, (∀ σ' H', N σ' H' → ∃ m', m' < m ∧ W (i + 1) m' σ' H') ∧ ∀ x H', (Ite K a).yld i H x H' → g x σ H' fun σ2 H2 => tb { D with nx := N, ct := N, bk := D.nx } σ2 H2) := by
  refine ⟨fun i m σ H => m = xs.length - i ∧ i ≤ xs.length ∧ Pv i σ H, ⟨xs.length, by simp, Nat.zero_le _, h0⟩, ?_⟩
  rintro i m σ H ⟨rfl, hi, p⟩
  have q := hl i σ H hi p
  by_cases hlt : i < xs.length
  · refine .inr ⟨⟨xs, xs[i], q, by simp [hlt]⟩, Pv (i + 1), fun σ' H' p' => ⟨xs.length - (i + 1), by (first | lia | omega), rfl, hlt, p'⟩, fun x H' y => ?_⟩
    obtain ⟨a', ha', rfl, y⟩ := y
    obtain ⟨x, hx, rfl⟩ := y xs q
    exact hs i x σ H a' hx p ha'
  · have e : i = xs.length := by (first | lia | omega)
    subst e
    exact .inl ⟨⟨xs, q, Nat.le_refl _⟩, hd σ H p⟩
end
end L2
end
section
set_option Elab.async false
set_option linter.all false
set_option maxRecDepth 100000
set_option maxHeartbeats 4000000
namespace L2
open PySem PySem.Spec PyProof.Rows
section
variable {X : Cx}
noncomputable def rCount (K : PySem.W.Frag) : V → List V → Hp → VK → Prop := fun x vs H Q => ∃ (p : Addr) (ns : List Int) (k : Int), x = .ref p ∧ vs = [.int k] ∧ SqL K H p (ns.map V.int) ∧ Q (.int (ns.count k : Nat)) H
theorem boolsAre_of : ∀ {bs : List Bool} {us : List Value}, Vals (bs.map V.bl) us → PyProof.Rows.LSm.BoolsAre us bs
  | [], _, .nil => .nil
  | b :: bs, _, .cons r t => by
    cases (show _ = Value.bool b from r)
    exact .cons b (boolsAre_of t)
theorem call_all (hc : X.calm = true) : CallR X (.builtin "all") (fun xs H Q => ∃ (p : Addr) (bs : List Bool), xs = [.ref p] ∧ SqL X.K H p (bs.map V.bl) ∧ Q (.bl (bs.all id)) H) := by
  intro pins s σ H xs us Q I r h
  obtain ⟨p, bs, rfl, hq, q⟩ := h
  obtain ⟨u, rfl, ru⟩ := vals1 r
  cases ru
  obtain ⟨vs, rv, pl, _⟩ := I.list hq
  have hb := boolsAre_of rv
  have hl := pl.isList
  have hlt : p < s.heap.objs.size := by obtain ⟨_, e, _⟩ := hl; exact Heap.lt_size e
  refine call_all_walk (wpAny_pyIter_list hl ?_)
  refine ⟨s.heap.objs.size, [s.heap.objs.size, p], [s.heap.objs.size], vs.toArray.size, _, _, fun i => (bs[i]?).getD true, rfl, Walks.list (A := X.A.in1) (I.ok.hd hc) _ p (Nat.ne_of_lt hlt) vs.toArray,
    ⟨⟨_, Heap.get?_push_size _ rfl, rfl, rfl⟩, hl.push _⟩, fun i v s' Q' E' hP hQ => ?_, fun h' tk hk => ?_⟩
  · obtain ⟨b, e, rfl⟩ := hb.get i v (by simpa using hP)
    simp only [e, Option.getD_some] at hQ
    exact wpAny_truthy_bool hQ
  · have e : ((List.range vs.toArray.size).all fun i => (bs[i]?).getD true) = bs.all id := by
      rw [List.size_toArray, hb.length]; exact PyProof.Rows.LSm.range_all bs
    rw [e]
    exact ⟨.bl _, H, I.kept (PyProof.Rows.LSm.kept_iter hk), rfl, q⟩
end
end L2
end
section
set_option Elab.async false
set_option linter.all false
set_option maxRecDepth 100000
set_option maxHeartbeats 4000000
namespace L2
open PySem PySem.Spec PyProof.Rows
section
variable {X : Cx}
theorem op_notB : OpR X (compareOp .IsNot) (fun x y H Q => ∃ c d, x = .bl c ∧ y = .bl d ∧ Q (.bl (!(c == d))) H) := by
  intro pins s σ H x y v u Q I rx ry h
  obtain ⟨c, d, rfl, rfl, q⟩ := h
  cases (show _ = Value.bool c from rx)
  cases (show _ = Value.bool d from ry)
  exact isnot_bool ⟨.bl _, H, I, rfl, q⟩
end
noncomputable def Itd (hi : Int) (n : Nat) : It := ⟨fun i _ => i < n, fun i H x H' => H' = H ∧ x = .int (hi - i), fun i _ => n ≤ i⟩
theorem turn_down {P : Program} {w : World} {K : PySem.W.Frag} {tg : Expr} (it : Addr) (hi : Int) (n : Nat) : Turn P w K tg (Itd hi n) [it] it (fun i h => IsRangeIter h it (hi + (i : Nat) * (-1)) ((n : Int) - (i : Nat)) (-1)) where
  mem := by simp
  obj := fun i h st b hb => by
    have e : b = it := by simpa using hb
    subst e
    exact ⟨_, st, fun v z => by
      have z' : Data.fields _ = Data.cell v := z
      cases z'⟩
  keep := fun i h h' st k => k it (by simp) _ st
  item := by
    intro X hP hw hK hc i pins s σ H E I hf st hg
    subst hP hw hK
    obtain ⟨f0, f1, f2, f3, f4, f5⟩ := hf it (by simp)
    have W := Walks.range (prog := X.prog) (w := X.w) (I.ok.hd hc) it hi (-1) n
    refine W.item i s _ _ hg st fun v h' tk hv st' kk => ?_
    obtain ⟨t, rfl⟩ := hv
    have I1 : Inv X pins σ H { s with heap := h', toks := tk } := I.turned (fun b o hb e => kk b o (by simpa using hb) e) f0 f1 f3 f4 f5
    refine ⟨_, rfl, go_of (s := { s with heap := h', toks := tk }) (n := "range_iterator") st' rfl rfl (by decide) ⟨.int (hi - i), H, I1, ⟨t, ?_⟩, ⟨rfl, rfl⟩, st', fun b hb => (hf b hb).1⟩⟩
    congr 1
    (first | lia | omega)
  done := by
    intro X hP hw hK hc i pins s σ H E I hf st hg
    subst hP hw hK
    obtain ⟨f0, f1, f2, f3, f4, f5⟩ := hf it (by simp)
    exact wpAny_pyNext_range_end (I.ok.hd hc) st (by have : n ≤ i := hg; (first | lia | omega)) fun h' eb => ⟨rfl, I.turned (t' := s.toks) (fun b o hb e => eb b o hb e) f0 f1 f3 f4 f5⟩
  self := fun _ _ _ _ _ st h => wpAny_pyIter_rangeiter st h
theorem size_down (a b : Int) : Builtin.Range.rangeSize a b (-1) = ((a - b).toNat : Int) := by
  unfold Builtin.Range.rangeSize
  rw [if_neg (by decide)]
  split <;> simp <;> (first | lia | omega)
theorem small_down {a b : Int} (ha : -(2 ^ 62) ≤ a) (ha' : a < 2 ^ 62) (hb : -(2 ^ 62) ≤ b) (hb' : b < 2 ^ 62) : Builtin.Range.small a b (-1) = true := by
  unfold Builtin.Range.small
  rw [size_down]
  simp only [Builtin.Range.rangeFitsLong, Bool.and_eq_true, Bool.or_eq_true, decide_eq_true_eq, beq_iff_eq, show ¬ (-1 : Int) > 0 by decide, if_false]
  (first | lia | omega)
section
variable {X : Cx} {tg : Expr}
theorem range_itd {pins : List (Addr × Obj)} {σ : St} {H : Hp} {s : Shared} {R : It → Hp → Prop} {E : Value → Shared → Prop} {lo hi : Int} {t u v : Tok} {tk : Nat} (I : Inv X pins σ H s) (h1 : -(2 ^ 62) ≤ lo) (h2 : lo < 2 ^ 62) (h3 : -(2 ^ 62) ≤ hi) (h4 : hi < 2 ^ 62)
    (q : R (Itd hi (hi - lo).toNat) H) : wpAny (model X.prog X.w) X.A (pyIter (.ref s.heap.objs.size)) (PIE X pins σ tg R) E { s with heap := s.heap.push { cls := .type "range", data := .fields #[.int hi t, .int lo u, .int (-1) v] }, toks := tk } := by
  refine wpAny_pyIter_range (IsRange.new ..) (small_down h3 h4 h1 h2) ?_
  have I1 : Inv X pins σ H { s with heap := s.heap.push { cls := .type "range", data := .fields #[.int hi t, .int lo u, .int (-1) v] }, toks := tk } := I.kept fun b o e => Heap.get?_push_of_some _ e
  refine ⟨(s.heap.push { cls := .type "range", data := .fields #[.int hi t, .int lo u, .int (-1) v] }).objs.size, [(s.heap.push { cls := .type "range", data := .fields #[.int hi t, .int lo u, .int (-1) v] }).objs.size], _, _, H, rfl,
    I1.kept (t' := tk) fun b o e => Heap.get?_push_of_some _ e, turn_down _ hi (hi - lo).toNat, ?_, fun b hb => ?_, q⟩
  · have e1 : hi + ((0 : Nat) : Int) * (-1) = hi := by simp
    have e2 : (((hi - lo).toNat : Nat) : Int) - ((0 : Nat) : Int) = Builtin.Range.rangeSize hi lo (-1) := by rw [size_down]; simp
    show IsRangeIter _ _ (hi + ((0 : Nat) : Int) * (-1)) ((((hi - lo).toNat : Nat) : Int) - ((0 : Nat) : Int)) (-1)
    rw [e1, e2]
    exact Heap.get?_push_size _ rfl
  · have e : b = (s.heap.push { cls := .type "range", data := .fields #[.int hi t, .int lo u, .int (-1) v] }).objs.size := by simpa using hb
    subst e
    exact I1.fpOk (Nat.le_refl _) (I1.hok.fresh (Nat.le_refl _))
noncomputable def iRng3 (ta : TA) : TI := fun σ H R => ta σ H fun vs H1 => ∃ i j : Int, vs = [.int i, .int j, .int (-1)] ∧ (-(2 ^ 62) ≤ i ∧ i < 2 ^ 62 ∧ -(2 ^ 62) ≤ j ∧ j < 2 ^ 62) ∧ R (Itd i (i - j).toNat) H1
theorem pi_range3 {a b c : Expr} {ta : TA} {p pos : Pos} (hg : Gl X "range") (hm : X.mg "range" = none) (ha : PA X [a, b, c] ta) (hs : starEach [a, b, c] X.env = [(false, eval a X.env), (false, eval b X.env), (false, eval c X.env)] := by rfl) (hs2 : starEach [b, c] X.env = [(false, eval b X.env), (false, eval c X.env)] := by rfl) :
    PI X tg (.Call (.Name "range" p) [a, b, c] [] pos) (iRng3 ta) := by
  intro pins s σ H R I h
  refine Call_ (ld_blt I hg hm boot_range (PyProof.Rows.callWith_type1 (thn (ha pos pins s σ H _ I h) fun us s1 ⟨vs, H1, I1, r1, q1⟩ => ?_) (by rw [hs, hs2]) (by rw [hs2]; rfl)))
  obtain ⟨i, j, e, ⟨q1, q2, q3, q4⟩, q⟩ := q1
  subst e
  cases r1 with
  | cons r rr =>
    cases rr with
    | cons r' rr =>
      cases rr with
      | cons r'' rr =>
        cases rr
        obtain ⟨t, rfl⟩ := r
        obtain ⟨t', rfl⟩ := r'
        obtain ⟨t'', rfl⟩ := r''
        exact call_range_3 (by decide) (range_itd I1 q3 q4 q1 q2 q) (Or.inl (PyProof.noPylong_small (by (first | lia | omega))))
end
theorem for_down {hi : Int} {n : Nat} {g : TG} {tb : TS} {D : Ends} {σ : St} {H : Hp} (Pv : Nat → St → Hp → Prop) (h0 : Pv 0 σ H)
    (hs : ∀ i σ H, i < n → Pv i σ H → g (.int (hi - i)) σ H fun σ2 H2 => tb { D with nx := Pv (i + 1), ct := Pv (i + 1), bk := D.nx } σ2 H2) (hd : ∀ σ H, Pv n σ H → D.nx σ H) :
    ∃ W : Nat → Nat → St → Hp → Prop, (∃ m, W 0 m σ H) ∧ ∀ i m σ H, W i m σ H →
      ((Itd hi n).stop i H ∧ D.nx σ H) ∨ ((Itd hi n).go i H ∧ ∃ N : St → Hp → Prop, (∀ σ' H', N σ' H' → ∃ m', m' < m ∧ W (i + 1) m' σ' H') ∧ ∀ x H', (Itd hi n).yld i H x H' → g x σ H' fun σ2 H2 => tb { D with nx := N, ct := N, bk := D.nx } σ2 H2) := by
  refine ⟨fun i m σ H => m = n - i ∧ i ≤ n ∧ Pv i σ H, ⟨n, by simp, Nat.zero_le _, h0⟩, ?_⟩
  rintro i m σ H ⟨rfl, hi', p⟩
  by_cases hlt : i < n
  · refine .inr ⟨hlt, Pv (i + 1), fun σ' H' p' => ⟨n - (i + 1), by (first | lia | omega), rfl, hlt, p'⟩, ?_⟩
    rintro x H' ⟨rfl, rfl⟩
    exact hs i σ H' hlt p
  · have e : i = n := by (first | lia | omega)
    subst e
    exact .inl ⟨Nat.le_refl _, hd σ H p⟩
end L2
end
section
set_option Elab.async false
set_option linter.all false
set_option maxRecDepth 100000
set_option maxHeartbeats 4000000
namespace L2
open PySem PySem.Spec PyProof.Rows PySem.W
section
variable {X : Cx} {e st : Expr} {te ts : TE} {pos p2 : Pos}
noncomputable def tRev (K : PySem.W.Frag) (te ts : TE) : TE := fun σ H Q => te σ H fun x H1 => ts σ H1 fun y H2 => ∃ a xs, x = .ref a ∧ y = .int (-1) ∧ SqL K H2 a xs ∧ ∀ p, H2 p = none → Q (.ref p) (upd H2 p (.lst xs.reverse))
theorem pe_rev (he : PE X e te) (hst : PE X st ts) : PE X (.Subscript e (.Slice none none (some st) p2) pos) (tRev X.K te ts) := by
  intro pins s σ H Q I h
  refine Subscript_ (thn (he pins s σ H _ I h) fun v s1 ⟨x, H1, I1, r1, q1⟩ => ?_)
  refine wpAny_Slice ?_
  rw [evalPart_none]
  refine wpAny_pure ?_
  refine wpAny_pure ?_
  rw [evalPart_some]
  refine thn (hst pins s1 σ H1 _ I1 q1) fun vs s3 ⟨y, H3, I3, r3, q3⟩ => ?_
  obtain ⟨a, xs, rfl, rfl, hx, q⟩ := q3
  obtain ⟨t, rfl⟩ := r3
  cases r1
  have I4 : Inv X pins σ H3 { s3 with heap := s3.heap.push { cls := .type "slice", data := .fields #[.none, .none, .int (-1) t] } } := I3.kept (t' := s3.toks) fun b ob q => Heap.get?_push_of_some _ q
  show wpAny (model X.prog X.w) X.A (subscriptTail e (.Slice none none (some st) p2) (.ref a) (.ref s3.heap.objs.size)) (EP X pins σ Q) X.xe { s3 with heap := s3.heap.push { cls := .type "slice", data := .fields #[.none, .none, .int (-1) t] } }
  obtain ⟨its, r, ht, hz⟩ := I4.list hx
  have hlen := r.length
  refine tail_any (ops := [.ref a, .ref s3.heap.objs.size]) ht.isList.typeIs slot_list_getitem.lookup ?_ (by with_unfolding_all rfl)
  refine wpAny_getItem_list_slice ht.isList (Heap.IsSliceOf.new ..) .none .none (.int (-1) t) (by simp) ?_ (by rw [List.size_toArray] <;> (first | lia | omega))
  rw [krv_pick]
  refine ⟨.ref _, _, I4.laid (t' := s3.toks) (o := .lst xs.reverse) (fun b ob q => Heap.get?_push_of_some _ q) (Nat.le_refl _) ?_, rfl, q _ (I4.hok.fresh (Nat.le_refl _))⟩
  exact ⟨by rw [List.length_reverse]; exact hz, _, 0, r.reverse, Heap.get?_push_size _ rfl⟩
end
section
variable {X : Cx}
noncomputable def rInsert : V → List V → Hp → VK → Prop := fun x vs H Q => ∃ l xs i y, x = .ref l ∧ vs = [.int i, y] ∧ H l = some (.lst xs) ∧ 0 ≤ i ∧ i ≤ (xs.length : Int) ∧ xs.length < 100000 ∧ Q .non (upd H l (.lst (xs.take i.toNat ++ [y] ++ xs.drop i.toNat)))
end
end L2
end
section
set_option Elab.async false
set_option linter.all false
set_option maxRecDepth 100000
set_option maxHeartbeats 4000000
namespace L2
open PySem PySem.Spec PyProof.Rows PySem.W PySem.SeqAt
section
variable {X : Cx}
noncomputable def rIndex (K : PySem.W.Frag) : V → List V → Hp → VK → Prop := fun x vs H Q => ∃ (p : Addr) (ns : List Int) (k : Int), x = .ref p ∧ vs = [.int k] ∧ SqL K H p (ns.map V.int) ∧ k ∈ ns ∧ ns.length ≤ 100000 ∧ Q (.int (ns.idxOf k : Nat)) H
end
section
variable {prog : Program} {w : World} {A : Around} {E : Value → Shared → Prop} {s : Shared}
end
section
variable {X : Cx}
end
end L2
end
section
set_option Elab.async false
set_option linter.all false
set_option maxRecDepth 100000
set_option maxHeartbeats 4000000
namespace L2
open PySem PySem.Spec PyProof.Rows PySem.W PySem.SeqAt

structure Aloft (P : Program) (w : World) (outer : List Env) (H : Hp) (s : Shared) (C : Value) (a : Addr) (a0 : Value) (B : Heap) (H' : Hp) (s' : Shared) : Prop where
  fl : Heap.FlyingW B outer a C a0 s'.heap
  os : s'.os = s.os
  bare : AllBare s'.gens
  hok : HOk P w H' B
  un : Un (frs outer) [] H H' s.heap s'.heap
  old : ∀ b o, s.heap.get? b = some o → H b = none → b ∉ frs outer → B.get? b = some o
  has : ∀ b o, s.heap.get? b = some o → b ∉ frs outer → ∃ o', B.get? b = some o'
  fresh : H' a = none ∧ a ∉ frs outer ∧ s.heap.get? a = none
noncomputable def CXE (P : Program) (w : World) : CXT := fun outer H s E e s' => ∃ C a a0 B H', e = .ref a ∧ Aloft P w outer H s C a a0 B H' s' ∧ E C none H'

section
variable {P : Program} {w : World} {outer : List Env} {H H' : Hp} {s s' : Shared} {C a0 : Value} {a : Addr} {B : Heap}
end

section
variable {P : Program} {w : World} {K : PySem.W.Frag} {mg : Str → Option Value} {base : Heap} {N : List Str} {qual : Str} {scope : Scope} {f : Addr} {cd : Value} {A : Around} {outer : List Env} {s : Shared} {H : Hp} {E : XK}

end
end L2
end
section
set_option Elab.async false
set_option linter.all false
set_option maxRecDepth 100000
set_option maxHeartbeats 4000000
namespace L2
open PySem PySem.Spec PyProof.Rows PySem.W PySem.SeqAt PySem.Calls PySem.Builtin PySem.Builtin.ObjectAttr PySem.Builtin.Getset_descriptor

noncomputable def Thr (X : Cx) (E : XK) : Prop := ∀ (pins : List (Addr × Obj)) (σ : St) (H1 : Hp) (s1 : Shared) (C : Value) (e : Addr) (vs : List Value) (h' : Heap), Inv X pins σ H1 s1 → Heap.MadeExcOf s1.heap h' e C vs → E C none H1 → X.xe (.ref e) { s1 with heap := h' }
noncomputable def tRaise (C : Value) (E : XK) (t : TA) : TS := fun _ σ H => t σ H fun vs H1 => vs.length ≤ sizeLine ∧ E C none H1
structure ExK (K : PySem.W.Frag) (D : Addr) : Prop where
  get : findIn K (.ref D) "__getattribute__" = some (some (.builtin "BaseException.__getattribute__"))
  hok : findIn K (.ref D) "__getattr__" = some none
  bex : mroIn K D (.type "BaseException") = some true
  cls : (clsIn K D).isSome = true
  att : findIn K (.ref D) "__class__" = some (some (.builtin "object.__class__"))
  dsc : specialIn K (.builtin "object.__class__") "__get__" = some (some (.builtin "getset_descriptor.__get__"))
  tak : takesIn K (.builtin "object.__class__") = some true
  obj : mroIn K D (.type "object") = some true
noncomputable def OfCls (x D : Addr) (h : Heap) : Prop := ∃ o, h.get? x = some o ∧ o.cls = .ref D
section
variable {prog : Program} {w : World} {A : Around} {E : Value → Shared → Prop} {s : Shared} {K : PySem.W.Frag} {x D : Addr}
end
noncomputable def rIsE (K : PySem.W.Frag) (a : Addr) (t : Value) : List V → Hp → VK → Prop := fun xs H Q => ∃ (D : Addr) (c : V) (cv : Value) (b : Bool), t = .ref D ∧ ExK K D ∧ xs = [.ref a, c] ∧ ((∃ C, c = .ref C ∧ cv = .ref C) ∨ ∃ T, c = .ty T ∧ cv = .type T) ∧ PySem.W.kitOne K t cv = some b ∧ Q (.bl b) H
end L2
end
section
set_option Elab.async false
set_option linter.all false
set_option maxRecDepth 100000
set_option maxHeartbeats 4000000
namespace L2
open PySem PySem.Spec PyProof.Rows PySem.W PySem.SeqAt PySem.Calls

noncomputable abbrev Cx.suite (X : Cx) (a : Addr) (o : Obj) (pins : List (Addr × Obj)) : Cx := { X with A := X.A.mark (some (.ref a)), calm := false, pn := (a, o) :: (X.pn ++ pins), xe := fun _ _ => False }
noncomputable abbrev Cx.tried (X : Cx) (pins : List (Addr × Obj)) (E : Value → Shared → Prop) : Cx := { X with pn := X.pn ++ pins, xe := E }
section
variable {X : Cx} {pins : List (Addr × Obj)} {σ : St} {H : Hp} {s : Shared}
end

noncomputable def goneD (i : Nat) (D : Ends) : Ends := { nx := fun σ H => D.nx (σ.set i none) H, rt := D.rt, bk := fun σ H => D.bk (σ.set i none) H, ct := fun σ H => D.ct (σ.set i none) H }
noncomputable def tTry (K : PySem.W.Frag) (T : Value) (len i : Nat) (tb : XK → TS) (th : Addr → Value → TS) : TS := fun D σ H =>
  tb (fun C _ H' => PySem.W.exmOne K C T = some true ∧ ∀ (a : Addr) (σ' : St), H' a = none → σ'.length = len → th a C (goneD i D) (σ'.set i (some (.ref a))) H') D σ H
end L2
end
section
set_option Elab.async false
set_option linter.all false
set_option maxRecDepth 100000
set_option maxHeartbeats 4000000
namespace L2
open PySem PySem.Spec PyProof.Rows PySem.W PySem.SeqAt PySem.Calls

structure DefE (P : Program) (w : World) (K : PySem.W.Frag) (mg : Str → Option Value) (base : Heap) (k : Nat) (x : Str) (ps : List Str) (sp : Sp) : Prop where
  ex : ∃ (f : Addr) (fd : FuncData), FnOk P w K mg base (CXE P w) k f fd ps sp ∧ Binds K fd ps [] ∧ PySem.W.keepIn K (.ref f) = true ∧ mg x = some (.ref f)
section
variable {P : Program} {w : World} {K : PySem.W.Frag} {mg : Str → Option Value} {base : Heap} {k : Nat} {f : Addr} {fd : FuncData} {ps : List Str}
end

noncomputable def bmV : List Value := [.type "ValueError", .type "Exception", .type "BaseException", .type "object"]
structure Errs (mg : Str → Option Value) (T c1 c2 c3 c4 c5 c6 c7 c8 : Addr) : Prop where
  top : mg "TopError" = some (.ref T)
  n1 : mg "NoStretch" = some (.ref c1)
  n2 : mg "NoLength" = some (.ref c2)
  n3 : mg "NoCount" = some (.ref c3)
  n4 : mg "NoPlace" = some (.ref c4)
  n5 : mg "NoText" = some (.ref c5)
  n6 : mg "NoShape" = some (.ref c6)
  n7 : mg "NoneYet" = some (.ref c7)
  n8 : mg "NoRound" = some (.ref c8)
  val : mg "ValueError" = none
structure Fault (K : PySem.W.Frag) (T c1 c2 c3 c4 c5 c6 c7 c8 C : Addr) (b1 b2 b3 b4 b5 b6 b7 b8 : Bool) : Prop where
  exm : PySem.W.exmOne K (.ref C) (.ref T) = some true
  k1 : PySem.W.kitOne K (.ref C) (.ref c1) = some b1
  k2 : PySem.W.kitOne K (.ref C) (.ref c2) = some b2
  k3 : PySem.W.kitOne K (.ref C) (.ref c3) = some b3
  k4 : PySem.W.kitOne K (.ref C) (.ref c4) = some b4
  k5 : PySem.W.kitOne K (.ref C) (.ref c5) = some b5
  k6 : PySem.W.kitOne K (.ref C) (.ref c6) = some b6
  k7 : PySem.W.kitOne K (.ref C) (.ref c7) = some b7
  k8 : PySem.W.kitOne K (.ref C) (.ref c8) = some b8
  kv : PySem.W.kitOne K (.ref C) (.type "ValueError") = some true
  exk : ExK K C
theorem pe_bmK {X : Cx} {K : PySem.W.Frag} {o e : Expr} {es : List Expr} {to : TE} {t : TA} {name : Str} {apos cpos : Pos} {T id : String} {r : V → List V → Hp → VK → Prop} (hK : X.K = K) (pa : PlainAttrs T) (slot : Slot T name id) (hty : typeOf (.builtin id) = pure (.type "method_descriptor")) (hm : MtR X id r) (ho : PE X o to) (ha : PA X (e :: es) t)
    (hbase : attributeBase o name X.env (eval o X.env) = eval o X.env := by rfl)
    (hfew : ((backTo cpos (starEach (e :: es) X.env)).all (fun x => !x.1) && (backToKw cpos (keywordEach [] X.env)).all (fun x => x.1.isSome) && decide ((e :: es).length + ([] : List Keyword).length + (if ([] : List Keyword).isEmpty then 0 else 1) < 30)) = true := by rfl)
    (hline : (apos.endLine == cpos.line) = true := by rfl) (hs : starEach (e :: es) X.env = (false, eval e X.env) :: starEach es X.env := by rfl) (hplain : (backTo cpos (starEach es X.env)).any (·.1) = false := by rfl) :
    PE X (.Call (.Attribute o name apos) (e :: es) [] cpos) (tBM K T r to t) := hK ▸ pe_bm pa slot hty hm ho ha hbase hfew hline hs hplain
end L2
end
section
set_option Elab.async false
set_option linter.all false
set_option maxRecDepth 100000
set_option maxHeartbeats 4000000
namespace L2
open PySem PySem.Spec PyProof.Rows PySem.W PySem.SeqAt PySem.Calls
section
variable {X : Cx}
noncomputable def rNeL (K : PySem.W.Frag) : R2 := fun x y H Q => ∃ (a b : Addr) (xs ys : List V), x = .ref a ∧ y = .ref b ∧ SqL K H a xs ∧ SqL K H b ys ∧ xs.length = ys.length ∧
  (∀ (j : Nat) (x y : V), xs[j]? = some x → ys[j]? = some y → ∃ n, n ≤ 50 ∧ EqD K H n x y true) ∧ Q (.bl false) H
end
end L2
end
section
set_option Elab.async false
set_option linter.all false
set_option maxRecDepth 100000
set_option maxHeartbeats 4000000
namespace L2
open PySem PySem.Spec PyProof.Rows PySem.W PySem.SeqAt

section
variable {X : Cx} {k : Nat} {f : Addr} {fd : FuncData} {ps : List Str} {sp : Sp} {pins : List (Addr × Obj)} {σ : St}
noncomputable def tMinK (K : PySem.W.Frag) (sp : Sp) (t : TA) : TE := fun σ H Q => t σ H fun vs H1 => ∃ x y, vs = [x, y] ∧ sp [x] H1 (fun v1 H2 => sp [y] H2 (fun v2 H3 => ∃ a b ns ms, v1 = .ref a ∧ v2 = .ref b ∧ SqT K H3 a (ns.map V.int) ∧ SqT K H3 b (ms.map V.int) ∧ Q (if HT.lexLt ms ns = true then y else x) H3) E0) E0
end
end L2
end
section
set_option Elab.async false
set_option linter.all false
set_option maxRecDepth 100000
set_option maxHeartbeats 4000000
namespace L2
open PySem PySem.Spec PyProof.Rows PySem.W PySem.SeqAt PySem.Calls

noncomputable def okV : V → Bool
  | .non => true
  | .bl _ => true
  | .int _ => true
  | .str _ => true
  | .ref _ => true
  | _ => false
inductive Like (K : PySem.W.Frag) (H : Hp) : Nat → V → V → Prop
  | same {n : Nat} {x : V} (ok : okV x = true) : Like K H n x x
  | tup {n : Nat} {a b : Addr} {xs ys : List V} (ha : SqT K H a xs) (hb : SqT K H b ys) (hl : xs.length = ys.length) (h : ∀ (j : Nat) x y, xs[j]? = some x → ys[j]? = some y → Like K H n x y) : Like K H (n + 1) (.ref a) (.ref b)
  | lst {n : Nat} {a b : Addr} {xs ys : List V} (ha : SqL K H a xs) (hb : SqL K H b ys) (hl : xs.length = ys.length) (h : ∀ (j : Nat) x y, xs[j]? = some x → ys[j]? = some y → Like K H n x y) : Like K H (n + 1) (.ref a) (.ref b)
section
variable {X : Cx}
theorem Like.at {pins : List (Addr × Obj)} {σ : St} {H : Hp} {s : Shared} (I : Inv X pins σ H s) {n : Nat} {x y : V} (h : Like X.K H n x y) :
    ∀ {A : Around} {u v : Value}, RelV x u → RelV y v → A.units + n < cLine → SeqAt.EqAt A s u v true := by
  induction h with
  | @same n x ho =>
    intro A u v rx ry _
    have fl : flatV x = true → SeqAt.EqAt A s u v true := fun f => by
      have q := eqAt_V (A := A) (s := s) rx ry f f
      have e : eqV x x = true := by cases x <;> first | rfl | exact beq_self_eq_true _ | exact absurd (show false = true from f) Bool.false_ne_true
      rw [e] at q
      exact q
    cases x with
    | ref a =>
      obtain rfl : u = .ref a := rx
      obtain rfl : v = .ref a := ry
      exact SeqAt.EqAt.same _
    | non => exact fl rfl
    | bl => exact fl rfl
    | int => exact fl rfl
    | str => exact fl rfl
    | byt => exact absurd (show false = true from ho) Bool.false_ne_true
    | flt => exact absurd (show false = true from ho) Bool.false_ne_true
    | ty => exact absurd (show false = true from ho) Bool.false_ne_true
  | @tup n a b xs ys ha hb hl h ih =>
    intro A u v rx ry hu
    cases rx
    cases ry
    by_cases hab : a = b
    · rw [hab]; exact SeqAt.EqAt.same _
    · obtain ⟨ia, ra, pa, _⟩ := I.tuple ha
      obtain ⟨ib, rb, pb, _⟩ := I.tuple hb
      have la := ra.length
      have lb := rb.length
      have q := SeqAt.RcAt.tuples (A := A) (e := fun _ => true) (show s.heap.IsTuple a ia.toArray from pa) (show s.heap.IsTuple b ib.toArray from pb) (by (first | lia | omega)) fun j h1 h2 => by
        have h1' : j < ia.length := by simpa using h1
        have h2' : j < ib.length := by simpa using h2
        obtain ⟨x, ex, rx⟩ := ra.at h1'
        obtain ⟨y, ey, ry⟩ := rb.at h2'
        have := ih j x y ex ey (A := A.in1) (u := ia[j]) (v := ib[j]) rx ry (by show A.units + 1 + n < cLine; (first | lia | omega))
        simpa using this
      have e : ((List.range (min ia.toArray.size ib.toArray.size)).all (fun _ => true) && ia.toArray.size == ib.toArray.size) = true := by
        rw [Bool.and_eq_true]
        exact ⟨all_range fun _ _ => rfl, by simp; (first | lia | omega)⟩
      rw [e] at q
      exact SeqAt.EqAt.of_refs hab q
  | @lst n a b xs ys ha hb hl h ih =>
    intro A u v rx ry hu
    cases rx
    cases ry
    by_cases hab : a = b
    · rw [hab]; exact SeqAt.EqAt.same _
    · obtain ⟨ia, ra, pa, _⟩ := I.list ha
      obtain ⟨ib, rb, pb, _⟩ := I.list hb
      have la := ra.length
      have lb := rb.length
      have q := SeqAt.RcAt.lists (A := A) (e := fun _ => true) pa.isList pb.isList (by simp; (first | lia | omega)) (by (first | lia | omega)) fun j h1 h2 => by
        have h1' : j < ia.length := by simpa using h1
        have h2' : j < ib.length := by simpa using h2
        obtain ⟨x, ex, rx⟩ := ra.at h1'
        obtain ⟨y, ey, ry⟩ := rb.at h2'
        have := ih j x y ex ey (A := A.in1) (u := ia[j]) (v := ib[j]) rx ry (by show A.units + 1 + n < cLine; (first | lia | omega))
        simpa using this
      have e : (List.range ia.toArray.size).all (fun _ => true) = true := all_range fun _ _ => rfl
      rw [e] at q
      exact SeqAt.EqAt.of_refs hab q
noncomputable def rLike (K : PySem.W.Frag) (neg : Bool) : R2 := fun x y H Q => ∃ n a b xs ys, x = .ref a ∧ y = .ref b ∧ ((SqT K H a xs ∧ SqT K H b ys) ∨ (SqL K H a xs ∧ SqL K H b ys)) ∧ xs.length = ys.length ∧
  (∀ (j : Nat) x y, xs[j]? = some x → ys[j]? = some y → Like K H n x y) ∧ n ≤ 50 ∧ Q (.bl (!neg)) H
theorem op_eqK {k : Nat} (hr : Room k X.A) : OpR X (compareOp .Eq) (rLike X.K false) := by
  intro pins s σ H x y v u Q I rx ry h
  obtain ⟨n, a, b, xs, ys, rfl, rfl, hs, hl, h, hn, q⟩ := h
  have hu := hr.units
  have fin : ∀ {b : Bool} {u v : Value}, SeqAt.RcAt X.A s u v b → b = true → wpAny (model X.prog X.w) X.A (compareOp .Eq u v) (EP X pins σ Q) X.xe s := fun {b _ _} z e => by subst e; exact z _ _ _ _ ⟨.bl true, H, I, rfl, q⟩
  cases rx
  cases ry
  have key : ∀ {ia ib : List Value}, Vals xs ia → Vals ys ib → ∀ j (h1 : j < ia.toArray.size) (h2 : j < ib.toArray.size), SeqAt.EqAt X.A.in1 s ia.toArray[j] ib.toArray[j] true := fun {ia ib} ra rb j h1 h2 => by
    have h1' : j < ia.length := by simpa using h1
    have h2' : j < ib.length := by simpa using h2
    obtain ⟨x, ex, rx⟩ := ra.at h1'
    obtain ⟨y, ey, ry⟩ := rb.at h2'
    have := (h j x y ex ey).at I (A := X.A.in1) (u := ia[j]) (v := ib[j]) rx ry (by show X.A.units + 1 + n < cLine; (first | lia | omega))
    simpa using this
  rcases hs with ⟨ha, hb⟩ | ⟨ha, hb⟩
  · obtain ⟨ia, ra, pa, _⟩ := I.tuple ha
    obtain ⟨ib, rb, pb, _⟩ := I.tuple hb
    have la := ra.length
    have lb := rb.length
    refine fin (SeqAt.RcAt.tuples (A := X.A) (e := fun _ => true) (show s.heap.IsTuple a ia.toArray from pa) (show s.heap.IsTuple b ib.toArray from pb) (by (first | lia | omega)) (key ra rb)) ?_
    rw [Bool.and_eq_true]
    exact ⟨all_range fun _ _ => rfl, by simp; (first | lia | omega)⟩
  · obtain ⟨ia, ra, pa, _⟩ := I.list ha
    obtain ⟨ib, rb, pb, _⟩ := I.list hb
    have la := ra.length
    have lb := rb.length
    exact fin (SeqAt.RcAt.lists (A := X.A) (e := fun _ => true) pa.isList pb.isList (by simp; (first | lia | omega)) (by (first | lia | omega)) (key ra rb)) (all_range fun _ _ => rfl)
theorem op_neK {k : Nat} (hr : Room k X.A) : OpR X (compareOp .NotEq) (rLike X.K true) := by
  intro pins s σ H x y v u Q I rx ry h
  obtain ⟨n, a, b, xs, ys, rfl, rfl, hs, hl, h, hn, q⟩ := h
  have hu := hr.units
  have fin : ∀ {b : Bool} {u v : Value}, SeqAt.RcNeAt X.A s u v b → b = false → wpAny (model X.prog X.w) X.A (compareOp .NotEq u v) (EP X pins σ Q) X.xe s := fun {b _ _} z e => by subst e; exact z _ _ _ _ ⟨.bl false, H, I, rfl, q⟩
  cases rx
  cases ry
  have key : ∀ {ia ib : List Value}, Vals xs ia → Vals ys ib → ∀ j (h1 : j < ia.toArray.size) (h2 : j < ib.toArray.size), SeqAt.EqAt X.A.in1 s ia.toArray[j] ib.toArray[j] true := fun {ia ib} ra rb j h1 h2 => by
    have h1' : j < ia.length := by simpa using h1
    have h2' : j < ib.length := by simpa using h2
    obtain ⟨x, ex, rx⟩ := ra.at h1'
    obtain ⟨y, ey, ry⟩ := rb.at h2'
    have := (h j x y ex ey).at I (A := X.A.in1) (u := ia[j]) (v := ib[j]) rx ry (by show X.A.units + 1 + n < cLine; (first | lia | omega))
    simpa using this
  have all : ∀ m : Nat, (List.range m).all (fun _ => true) = true := fun m => all_range fun _ _ => rfl
  rcases hs with ⟨ha, hb⟩ | ⟨ha, hb⟩
  · obtain ⟨ia, ra, pa, _⟩ := I.tuple ha
    obtain ⟨ib, rb, pb, _⟩ := I.tuple hb
    have la := ra.length
    have lb := rb.length
    refine fin (SeqAt.RcNeAt.tuples (A := X.A) (e := fun _ => true) (show s.heap.IsTuple a ia.toArray from pa) (show s.heap.IsTuple b ib.toArray from pb) (by (first | lia | omega)) (key ra rb)) ?_
    have e : ia.toArray.size = ib.toArray.size := by simp; (first | lia | omega)
    simp [e]
  · obtain ⟨ia, ra, pa, _⟩ := I.list ha
    obtain ⟨ib, rb, pb, _⟩ := I.list hb
    have la := ra.length
    have lb := rb.length
    refine fin (SeqAt.RcNeAt.lists (A := X.A) (e := fun _ => true) pa.isList pb.isList (by simp; (first | lia | omega)) (by (first | lia | omega)) (key ra rb)) ?_
    simp
end
section
variable {X : Cx} {N' : List Str} {scope : Scope} {C : Addr} {s : Shared} {H : Hp} {fp : List Addr}
end
section
variable {K : PySem.W.Frag}
end
end L2
end
section
set_option Elab.async false
set_option linter.all false
set_option maxRecDepth 100000
set_option maxHeartbeats 4000000
namespace L2
open PySem PySem.Spec PyProof.Rows PySem.W PySem.SeqAt PySem.Calls

section
variable {X : Cx}
theorem vals_items {lo c : Int} {n : Nat} {acc : Array Value} (h : ItemsOf (fun i v => ∃ t, v = Value.int (lo + i * c) t) acc n) : Vals ((List.range n).map fun (i : Nat) => V.int (lo + i * c)) acc.toList := by
  obtain ⟨hz, hi⟩ := h
  have key : ∀ (l : List Value) (k : Nat), (∀ j v, l[j]? = some v → ∃ t, v = Value.int (lo + ((k + j : Nat) : Int) * c) t) → Vals ((List.range' k l.length).map fun (i : Nat) => V.int (lo + i * c)) l := by
    intro l
    induction l with
    | nil => intro k _; exact .nil
    | cons v l ih =>
      intro k hv
      rw [List.length_cons, List.range'_succ, List.map_cons]
      refine .cons ?_ (ih (k + 1) fun j w e => ?_)
      · obtain ⟨t, e⟩ := hv 0 v rfl
        exact ⟨t, by rw [e]; rfl⟩
      · obtain ⟨t, e'⟩ := hv (j + 1) w (by simpa using e)
        refine ⟨t, ?_⟩
        rw [e', show k + (j + 1) = k + 1 + j by (first | lia | omega)]
  have e := key acc.toList 0 fun j v e => by
    obtain ⟨t, e'⟩ := hi j v (by simpa using e)
    exact ⟨t, by rw [e', Nat.zero_add]⟩
  rw [Array.length_toList, hz, ← List.range_eq_range'] at e
  exact e
theorem range_list {pins : List (Addr × Obj)} {σ : St} {H : Hp} {s : Shared} {Q : VK} {E : Value → Shared → Prop} {a b c : Int} {t u v : Tok} {tk : Nat} {n : Nat} (hc : X.calm = true) (I : Inv X pins σ H s) (hsmall : Builtin.Range.small a b c = true) (hn : Builtin.Range.rangeSize a b c = n) (hlen : n ≤ 100000)
    (q : ∀ l, H l = none → Q (.ref l) (upd H l (.lst ((List.range n).map fun (i : Nat) => V.int (a + i * c))))) :
    wpAny (model X.prog X.w) X.A (call (.type "list") [.ref s.heap.objs.size]) (EP X pins σ Q) E { s with heap := s.heap.push { cls := .type "range", data := .fields #[.int a t, .int b u, .int c v] }, toks := tk } := by
  have I1 : Inv X pins σ H { s with heap := s.heap.push { cls := .type "range", data := .fields #[.int a t, .int b u, .int c v] }, toks := tk } := I.kept fun b o e => Heap.get?_push_of_some _ e
  refine call_list_range (I.ok.hd hc) (IsRange.new ..) hsmall hn (by (first | lia | omega)) fun h' tk' acc c' kp e it => ?_
  have sl : n ≤ sizeLine := Nat.le_of_lt (small hlen)
  refine ⟨.ref _, _, I1.laid (t' := tk') kp (Nat.le_refl _) (show ObjOk X.prog X.w _ h' _ (.lst ((List.range n).map fun (i : Nat) => V.int (a + i * c))) from ⟨by rw [List.length_map, List.length_range]; exact sl, acc.toList, c', vals_items it, by simpa using e⟩), rfl, q _ (I1.hok.fresh (Nat.le_refl _))⟩
noncomputable def tLR1 (ta : TA) : TE := fun σ H Q => ta σ H fun vs H1 => ∃ j : Int, vs = [.int j] ∧ 0 ≤ j ∧ j ≤ 100000 ∧ ∀ l, H1 l = none → Q (.ref l) (upd H1 l (.lst ((List.range j.toNat).map fun (i : Nat) => V.int (i : Int))))
theorem pe_listRange {a : Expr} {ta : TA} {p p2 pos pos2 : Pos} (hg : Gl X "list") (hg2 : Gl X "range") (hm : X.mg "list" = none) (hm2 : X.mg "range" = none) (ha : PA X [a] ta) (hc : X.calm = true := by rfl)
    (hs : starEach [a] X.env = [(false, eval a X.env)] := by rfl) (hs2 : starEach [.Call (.Name "range" p2) [a] [] pos2] X.env = [(false, eval (.Call (.Name "range" p2) [a] [] pos2) X.env)] := by rfl) :
    PE X (.Call (.Name "list" p) [.Call (.Name "range" p2) [a] [] pos2] [] pos) (tLR1 ta) := by
  intro pins s σ H Q I h
  refine Call_ (ld_blt I hg hm boot_list (PyProof.Rows.callWith_type1 ?_ hs2 rfl))
  rw [hs2]
  refine Calls.spliced_cons ?_
  refine Call_ (ld_blt I hg2 hm2 boot_range (PyProof.Rows.callWith_type1 (thn (ha pos2 pins s σ H _ I h) fun us s1 ⟨vs, H1, I1, r1, q1⟩ => ?_) hs rfl))
  obtain ⟨j, e, q1, q2, q⟩ := q1
  subst e
  obtain ⟨u, rfl, t, rfl⟩ := vals1 r1
  refine call_range_1 (Calls.spliced_nil ?_)
  refine range_list (n := j.toNat) hc I1 (small_one (by (first | lia | omega)) (by (first | lia | omega)) (by (first | lia | omega)) (by (first | lia | omega))) (by rw [rangeSize_one]; split <;> (first | lia | omega)) (by (first | lia | omega)) fun l hl => ?_
  have e : (List.range j.toNat).map (fun (i : Nat) => V.int (0 + i * 1)) = (List.range j.toNat).map fun (i : Nat) => V.int (i : Int) := List.map_congr_left fun i _ => by congr 1; (first | lia | omega)
  rw [e]
  exact q l hl
end
end L2
end
section
set_option Elab.async false
set_option linter.all false
set_option maxRecDepth 100000
set_option maxHeartbeats 4000000
namespace L2
open PySem PySem.Spec PyProof.Rows PySem.W PySem.SeqAt PySem.Calls

noncomputable def FnV (X : Cx) (k : Nat) (Fs : Addr → Sp → Prop) : Prop := ∀ f sp, Fs f sp → ∃ fd ps, FnOk X.prog X.w X.K X.mg X.base (CXE X.prog X.w) k f fd ps sp ∧ Binds X.K fd ps [] ∧ PySem.W.keepIn X.K (.ref f) = true
noncomputable def tCallV (Fs : Addr → Sp → Prop) (i : Nat) (E : XK) (t : TA) : TE := fun σ H Q => ∃ f sp, σ[i]? = some (some (.ref f)) ∧ Fs f sp ∧ t σ H fun vs H1 => sp vs H1 Q E
end L2
end
section
set_option Elab.async false
set_option linter.all false
set_option maxRecDepth 100000
set_option maxHeartbeats 4000000
namespace L2
open PySem PySem.Spec PyProof.Rows PySem.W PySem.SeqAt PySem.Calls

section
variable {X : Cx}
end
end L2
end
section
set_option Elab.async false
set_option linter.all false
set_option maxRecDepth 100000
set_option maxHeartbeats 4000000
namespace L2
open PySem PySem.Spec PyProof.Rows PySem.W PySem.SeqAt PySem.Calls

section
variable {X : Cx}
end
section
variable {X : Cx} {N' : List Str} {scope : Scope} {C : Addr} {s : Shared} {H : Hp} {fp : List Addr}
end
end L2
end
section
set_option Elab.async false
set_option linter.all false
set_option maxRecDepth 100000
set_option maxHeartbeats 4000000
namespace L2
open PySem PySem.Spec PyProof.Rows PySem.W PySem.SeqAt PySem.Calls

section
variable {X : Cx}
noncomputable def tLR2 (ta : TA) : TE := fun σ H Q => ta σ H fun vs H1 => ∃ i j : Int, vs = [.int i, .int j] ∧ 0 ≤ i ∧ i ≤ j ∧ j ≤ 100000 ∧ ∀ l, H1 l = none → Q (.ref l) (upd H1 l (.lst ((List.range (j - i).toNat).map fun (m : Nat) => V.int (i + (m : Int)))))
end
end L2
end
section
set_option Elab.async false
set_option linter.all false
set_option maxRecDepth 100000
set_option maxHeartbeats 4000000
namespace L2
open PySem PySem.Spec PyProof.Rows PySem.W PySem.SeqAt PySem.Calls

section
variable {prog : Program} {w : World} {A : Around} {E : Value → Shared → Prop}
end
section
variable {X : Cx}
noncomputable def gLstU (K : PySem.W.Frag) (n : Nat) (t : TGs) : TG := fun v σ H Q => ∃ a xs, v = .ref a ∧ SqL K H a xs ∧ xs.length = n ∧ t xs σ H Q
end
end L2
end
section
set_option Elab.async false
set_option linter.all false
set_option maxRecDepth 100000
set_option maxHeartbeats 4000000
namespace L2
open PySem PySem.Spec PyProof.Rows PySem.W PySem.SeqAt PySem.Calls

section
variable {X : Cx} {a b : Expr} {pos : Pos}
noncomputable def tNotR (te : TE) (ta : TA) : TE := fun σ H Q => te σ H fun x H1 => ta σ H1 fun vs H2 => ∃ i j : Int, x = .int i ∧ vs = [.int j] ∧ Q (.bl (!decide (0 ≤ i ∧ i < j))) H2
end
end L2
end
section
set_option Elab.async false
set_option linter.all false
set_option maxRecDepth 100000
set_option maxHeartbeats 4000000
namespace L2
open PySem PySem.Spec PyProof.Rows PySem.W PySem.SeqAt PySem.Calls

section
variable {X : Cx}
noncomputable def rSplit : V → List V → Hp → VK → Prop := fun x xs H Q => ∃ z y, x = .str z ∧ xs = [.str y] ∧ (y.length == 0) = false ∧ z.length ≤ sizeLine ∧ (Txt.split z y).length ≤ sizeLine ∧ ∀ l, H l = none → Q (.ref l) (upd H l (.lst ((Txt.split z y).map V.str)))
noncomputable def rJoin (K : PySem.W.Frag) : V → List V → Hp → VK → Prop := fun x xs H Q => ∃ z a ts, x = .str z ∧ xs = [.ref a] ∧ SqL K H a (ts.map V.str) ∧ JoinOk z ts = true ∧ Q (.str (Txt.join z ts)) H
noncomputable def rStarts : V → List V → Hp → VK → Prop := fun x xs H Q => ∃ z y, x = .str z ∧ xs = [.str y] ∧ Q (.bl (0 + y.length ≤ z.length && Builtin.Str.subAt z y 0)) H
noncomputable def Its (x : Str) : It := ⟨fun i _ => i < x.cps.size, fun i H v H' => H' = H ∧ ∃ c, x.cps[i]? = some c ∧ v = .str ⟨#[c]⟩, fun i _ => x.cps.size ≤ i⟩
noncomputable def iStr (tl : TE) : TI := fun σ H R => tl σ H fun x H1 => ∃ z, x = .str z ∧ R (Its z) H1
noncomputable def rSlS : V → Option Int → Option Int → Hp → VK → Prop := fun x lo hi H Q => ∃ z, x = .str z ∧ z.length ≤ sizeLine ∧ Q (.str (Txt.slice z lo hi)) H
end
section
variable {X : Cx} {N' : List Str} {scope : Scope} {C : Addr} {s : Shared} {H : Hp} {fp : List Addr}
end
end L2
end
section
set_option Elab.async false
set_option linter.all false
set_option maxRecDepth 100000
set_option maxHeartbeats 4000000
namespace L2
open PySem PySem.Spec PyProof.Rows PySem.W PySem.SeqAt PySem.Calls
section
variable {X : Cx} {e st : Expr} {te ts : TE} {pos p2 : Pos}
noncomputable def rRepS : R2 := fun x y H Q => ∃ i j, x = .str i ∧ y = .int j ∧ 1 ≤ j ∧ j ≤ 100000 ∧ i.length * j.toNat ≤ 100000 ∧ ∀ z : Str, z.length ≤ i.length * j.toNat → Q (.str z) H
noncomputable def tRevS (te ts : TE) : TE := fun σ H Q => te σ H fun x H1 => ts σ H1 fun y H2 => ∃ z, x = .str z ∧ y = .int (-1) ∧ z.length ≤ 100000 ∧ ∀ z' : Str, z'.length ≤ z.length → Q (.str z') H2
end
end L2
end
section
set_option Elab.async false
set_option linter.all false
set_option maxRecDepth 100000
set_option maxHeartbeats 4000000
namespace L2
open PySem PySem.Spec PyProof.Rows PySem.W PySem.SeqAt PySem.Calls
section
variable {X : Cx} {pos p2 : Pos}
noncomputable def gSlice (to : TE) (tl th : TO) : TG := fun v σ H Q => to σ H fun o H1 => tl σ H1 fun a H2 => th σ H2 fun b H3 => ∃ p q xs ys i j, o = .ref p ∧ v = .ref q ∧ a = some i ∧ b = some j ∧ p ≠ q ∧ H3 p = some (.lst xs) ∧ H3 q = some (.lst ys) ∧ 0 ≤ i ∧ i ≤ j ∧ j ≤ (xs.length : Int) ∧ xs.length + ys.length ≤ sizeLine ∧ Q σ (upd H3 p (.lst (xs.take i.toNat ++ ys ++ xs.drop j.toNat)))
end
end L2
end
section
set_option Elab.async false
set_option linter.all false
set_option maxRecDepth 100000
set_option maxHeartbeats 4000000
namespace L2
open PySem PySem.Spec PyProof.Rows PySem.W PySem.SeqAt PySem.Calls
section
variable {X : Cx}
noncomputable def tLR3 (ta : TA) : TE := fun σ H Q => ta σ H fun vs H1 => ∃ i j : Int, vs = [.int i, .int j, .int (-1)] ∧ 0 ≤ j ∧ j ≤ i ∧ i ≤ 100000 ∧ ∀ l, H1 l = none → Q (.ref l) (upd H1 l (.lst ((List.range (i - j).toNat).map fun (m : Nat) => V.int (i - (m : Int)))))
end
end L2
end
section
set_option Elab.async false
set_option linter.all false
set_option maxRecDepth 100000
set_option maxHeartbeats 4000000
namespace L2
open PySem PySem.Spec PyProof.Rows PySem.W PySem.SeqAt
open PySem.AutoSeq1 (wpAny_loadPart')
open PySem.MeetsSeq PySem.MeetsSeq2 PySem.MeetsSeq3
section
variable {prog : Program} {w : World} {A : Around} {E : Value → Shared → Prop} {s : Shared}
end
section
variable {X : Cx} {pins : List (Addr × Obj)} {σ : St}
noncomputable def rMin2 (K : PySem.W.Frag) : List V → Hp → VK → Prop := fun vs H Q => ∃ (l p q : Addr) (ns ms : List Int) (x y : V), vs = [.ref l] ∧ SqL K H l [.ref p, .ref q] ∧ SqT K H p (ns.map V.int ++ [x]) ∧ SqT K H q (ms.map V.int ++ [y]) ∧ ns.length = ms.length ∧ ns ≠ ms ∧
  Q (if HT.lexLt ms ns = true then .ref q else .ref p) H
end
end L2
end
section
set_option Elab.async false
set_option linter.all false
set_option maxRecDepth 100000
set_option maxHeartbeats 4000000
namespace L2
open PySem PySem.Spec PyProof.Rows PySem.W PySem.SeqAt PySem.Calls
section
variable {X : Cx}
structure CDivL (i j : Int) : Prop where
  pos : 0 < j
  lt : j < 2 ^ 200
theorem op_fdivL : OpR X (binaryOp .FloorDiv) (rI CDivL fun i j => .int (i / j)) := opI fun i j _ _ _ _ _ hc q => by
  obtain ⟨h0, h1⟩ := hc
  refine floordiv_int (by (first | lia | omega)) (by rw [Int.fdiv_eq_ediv_of_nonneg i (by (first | lia | omega))]; exact q) (.inl (PyProof.noPylong_of_log2 ?_))
  have h2 : j.natAbs ≠ 0 := by (first | lia | omega)
  have h3 : j.natAbs.log2 < 200 := (Nat.log2_lt h2).mpr (by (first | lia | omega))
  (first | lia | omega)
end
end L2
end
section
set_option Elab.async false
set_option linter.all false
set_option maxRecDepth 100000
set_option maxHeartbeats 4000000
namespace L2
open PySem PySem.Spec PyProof.Rows PySem.W PySem.SeqAt
section
variable {X : Cx}
noncomputable def rIndexF (K : PySem.W.Frag) : V → List V → Hp → VK → Prop := fun o vs H Q => ∃ (p : Addr) (xs : List V) (x y : V) (i : Nat), o = .ref p ∧ vs = [x] ∧ SqL K H p xs ∧ flatV x = true ∧ xs.all flatV = true ∧ xs[i]? = some y ∧ eqV y x = true ∧ (∀ j z, j < i → xs[j]? = some z → eqV z x = false) ∧ xs.length ≤ 100000 ∧ Q (.int (i : Nat)) H
end
end L2
end
section
set_option Elab.async false
set_option linter.all false
set_option maxRecDepth 100000
set_option maxHeartbeats 4000000
namespace L2
open PySem PySem.Spec PyProof.Rows PySem.W PySem.SeqAt
section
variable {X : Cx} {N' : List Str} {scope : Scope} {C : Addr} {s : Shared} {H : Hp} {fp : List Addr} {e st o i : Expr} {te ts td ty : TE} {pos p2 : Pos}
theorem pe_revB (he : PE (blk X N' scope C s H fp) e te) (hst : PE (blk X N' scope C s H fp) st ts) : PE (blk X N' scope C s H fp) (.Subscript e (.Slice none none (some st) p2) pos) (tRev X.K te ts) := pe_rev he hst
theorem pe_dgetB (hu : X.A.units + 1 < cLine) (ho : PE (blk X N' scope C s H fp) o td) (hi : PE (blk X N' scope C s H fp) i ty) (hs : NoSl i) : PE (blk X N' scope C s H fp) (.Subscript o i pos) (tDGet td ty) := pe_dget hu ho hi hs
end
end L2
end
section
set_option Elab.async false
set_option linter.all false
set_option maxRecDepth 100000
set_option maxHeartbeats 4000000
namespace L2
open PySem PySem.Spec PyProof.Rows
section
variable {X : Cx} {a b c d : Expr} {ta tb tc td : TE} {pos : Pos}
end
end L2
end
section
set_option Elab.async false
set_option linter.all false
set_option maxRecDepth 100000
set_option maxHeartbeats 4000000
namespace L2
open PySem PySem.Spec PyProof.Rows
section
variable {X : Cx}
end
end L2
end
section
set_option Elab.async false
set_option linter.all false
set_option maxRecDepth 100000
set_option maxHeartbeats 4000000
namespace L2
open PySem PySem.Spec PyProof.Rows
section
variable {X : Cx} {a b : Expr} {rest : List Expr} {ta tb : TE} {pos : Pos}
noncomputable def tOrW (K : PySem.W.Frag) (ta tb : TE) : TE := fun σ H Q => ta σ H fun x H1 => ∃ c, TruV K x H1 c ∧ if c = true then Q x H1 else tb σ H1 Q
end
end L2
end
section
set_option Elab.async false
set_option linter.all false
set_option maxRecDepth 100000
set_option maxHeartbeats 4000000
namespace L2
open PySem PySem.Spec PyProof.Rows
section
variable {X : Cx} {N' : List Str} {scope : Scope} {C : Addr} {s : Shared} {H : Hp} {fp : List Addr} {M' : List Str} {scope2 : Scope} {C2 : Addr} {s2 : Shared} {H2 : Hp} {fp2 : List Addr} {tg : Expr}
end
end L2
end
section
set_option Elab.async false
set_option linter.all false
set_option maxRecDepth 100000
set_option maxHeartbeats 4000000
namespace L2
open PySem PySem.Spec PyProof.Rows PySem.W PySem.SeqAt PySem.Calls

noncomputable def exV (a : Addr) (C : Value) : HO := .ext (fun h => ∃ o, h.get? a = some o ∧ o.cls = C)
section
variable {X : Cx} {pins : List (Addr × Obj)} {σ : St} {H : Hp} {s : Shared}
end
noncomputable def goneK (i : Nat) (a : Addr) (C : Value) (D : Ends) : Ends := { nx := fun σ H => D.nx (σ.set i none) (upd H a (exV a C)), rt := fun v H => D.rt v (upd H a (exV a C)), bk := fun σ H => D.bk (σ.set i none) (upd H a (exV a C)), ct := fun σ H => D.ct (σ.set i none) (upd H a (exV a C)) }
noncomputable def tTryK (K : PySem.W.Frag) (T : Value) (len i : Nat) (tb : XK → TS) (th : Addr → Value → TS) : TS := fun D σ H =>
  tb (fun C _ H' => PySem.W.exmOne K C T = some true ∧ ∀ (a : Addr) (σ' : St), H' a = none → σ'.length = len → th a C (goneK i a C D) (σ'.set i (some (.ref a))) H') D σ H
noncomputable def rIsX (K : PySem.W.Frag) : List V → Hp → VK → Prop := fun xs H Q => ∃ (a D : Addr) (c : V) (cv : Value) (b : Bool), xs = [.ref a, c] ∧ H a = some (exV a (.ref D)) ∧ ExK K D ∧ ((∃ C, c = .ref C ∧ cv = .ref C) ∨ ∃ T, c = .ty T ∧ cv = .type T) ∧ PySem.W.kitOne K (.ref D) cv = some b ∧ Q (.bl b) H
noncomputable def rIsXT (K : PySem.W.Frag) : List V → Hp → VK → Prop := fun xs H Q => ∃ (a D p : Addr) (Cs : List Addr) (b : Bool), xs = [.ref a, .ref p] ∧ SqT K H p (Cs.map V.ref) ∧ H a = some (exV a (.ref D)) ∧ ExK K D ∧ PySem.W.kitAny K (.ref D) (Cs.map Value.ref) = some b ∧ Q (.bl b) H
theorem wk1 {α : Sort _} {p q : α → Prop} (v : α) (h : p v) (k : q v) : ∃ x, p x ∧ q x := ⟨v, h, k⟩
theorem wk2 {α β : Sort _} {p : α → Prop} {q : β → Prop} {r : α → β → Prop} (v : α) (u : β) (h : p v) (g : q u) (k : r v u) : ∃ x y, p x ∧ q y ∧ r x y := ⟨v, u, h, g, k⟩
end L2
end
section
set_option Elab.async false
set_option linter.all false
set_option maxRecDepth 100000
set_option maxHeartbeats 4000000
namespace L2
open PySem PySem.Spec PyProof.Rows PySem.W PySem.SeqAt PySem.Calls
section
variable {X : Cx} {K : PySem.W.Frag}
theorem ix_listK (hK : X.K = K) : IxR X (rIxL K) := hK ▸ ix_list
theorem ix_tupK (hK : X.K = K) : IxR X (rIxT K) := hK ▸ ix_tup
theorem sl_listK (hK : X.K = K) : SlR X (rSlL K) := hK ▸ sl_list
noncomputable def rLen (K : PySem.W.Frag) : List V → Hp → VK → Prop := fun xs H Q => ∃ (p : Addr) (ys : List V), xs = [.ref p] ∧ (SqL K H p ys ∨ SqT K H p ys) ∧ Q (.int ys.length) H
theorem call_len_seqK (hK : X.K = K) : CallR X (.builtin "len") (rLen K) := by subst hK; exact call_len_seq
noncomputable def rListOf (K : PySem.W.Frag) : List V → Hp → VK → Prop := fun xs H Q => ∃ (p : Addr) (ys : List V), xs = [.ref p] ∧ (SqL K H p ys ∨ SqT K H p ys) ∧ ∀ l : Addr, H l = none → Q (.ref l) (upd H l (.lst ys))
theorem call_list_ofK (hK : X.K = K) : CallR X (.type "list") (rListOf K) := by subst hK; exact call_list_of
noncomputable def rSum (K : PySem.W.Frag) : List V → Hp → VK → Prop := fun xs H Q => ∃ (p : Addr) (ns : List Int), xs = [.ref p] ∧ SqL K H p (ns.map V.int) ∧ Q (.int ns.sum) H
theorem op_eqDK {k : Nat} (hr : Room k X.A) (hK : X.K = K) : OpR X (compareOp .Eq) (rEqD K false) := hK ▸ op_eqD hr
theorem op_eqKK {k : Nat} (hr : Room k X.A) (hK : X.K = K) : OpR X (compareOp .Eq) (rLike K false) := hK ▸ op_eqK hr
theorem op_neKK {k : Nat} (hr : Room k X.A) (hK : X.K = K) : OpR X (compareOp .NotEq) (rLike K true) := hK ▸ op_neK hr
noncomputable def rMax (K : PySem.W.Frag) : List V → Hp → VK → Prop := fun xs H Q => ∃ (p : Addr) (ns : List Int), xs = [.ref p] ∧ SqL K H p (ns.map V.int) ∧ 0 < ns.length ∧ ∀ M, M ∈ ns → (∀ a, a ∈ ns → a ≤ M) → Q (.int M) H
theorem max_of_listK (hc : X.calm = true) (hK : X.K = K) : CallR X (.builtin "max") (rMax K) := by subst hK; exact max_of_list hc
theorem pg_tupK {pos : Pos} {es : List Expr} {k : Nat} {t : TGs} {n : Nat} (hK : X.K = K) (hc : X.calm = true) (h : PGs X es t) (hl : (assignEach es X.env).length = n := by rfl) (hf : List.findIdx? (fun x => x.fst) (assignEach es X.env) = none := by rfl) : PG X (.Tuple es k pos) (gTup K n t) := hK ▸ pg_tup hc h hl hf
theorem pe_bm0K {o : Expr} {to : TE} {name : Str} {apos cpos : Pos} {T id : String} {r : V → List V → Hp → VK → Prop} (hK : X.K = K) (pa : PlainAttrs T) (slot : Slot T name id) (hty : typeOf (.builtin id) = pure (.type "method_descriptor")) (hm : MtR X id r) (ho : PE X o to)
    (hbase : attributeBase o name X.env (eval o X.env) = eval o X.env := by rfl) (hline : (apos.endLine == cpos.line) = true := by rfl) : PE X (.Call (.Attribute o name apos) [] [] cpos) (tBM0 K T r to) := hK ▸ pe_bm0 pa slot hty hm ho hbase hline
theorem pi_listK {tg l : Expr} {tl : TE} (hK : X.K = K) (h : PE X l tl) : PI X tg l (iList K tl) := hK ▸ pi_list h
end
end L2
end
section
set_option Elab.async false
set_option linter.all false
set_option maxRecDepth 100000
set_option maxHeartbeats 4000000
namespace L2
open PySem PySem.W PySem.Spec PyProof.Rows PySem.Calls
noncomputable def topRunT (tb : String → Option Builtin) (p : Program) (w : World) (n₀ : Nat) (ann : Option Value) : Nat → SharedT → Thread → Option SharedT
  | 0, _, _ => none
  | n + 1, s, t => match through t with
    | true => some s
    | false => match stepOk n₀ ann t with
      | false => none
      | true => match stepT (denote tb) p w s t with
        | some (s', t') => topRunT tb p w n₀ ann n s' t'
        | none => none
theorem topRun_ofT {tb : String → Option Builtin} {p : Program} {w : World} {n₀ : Nat} {ann : Option Value} : ∀ {n : Nat} {s s' : SharedT} {t : Thread}, topRunT tb p w n₀ ann n s t = some s' → topRun tb p w n₀ ann n s.abs t = some s'.abs
  | 0, _, _, _, h => by cases h
  | n + 1, s, s', t, h => by
    unfold topRunT at h
    unfold topRun
    cases ht : through t with
    | true => rw [ht] at h; cases h; rfl
    | false =>
      rw [ht] at h
      cases hk : stepOk n₀ ann t with
      | false => rw [hk] at h; cases h
      | true =>
        rw [hk] at h
        cases hs : stepT (denote tb) p w s t with
        | none => rw [hs] at h; cases h
        | some r => obtain ⟨s₂, t₂⟩ := r; rw [hs] at h; rw [stepT_spec hs]; exact topRun_ofT h
noncomputable def mkT : Nat → List Obj → Nat → Nat → BT
  | 0, _, _, _ => .nil
  | k + 1, os, a, b => match os[b]? with
    | some o => .node o (mkT k os (2 * a) (a + b)) (mkT k os (2 * a) (2 * a + b))
    | none => .nil
noncomputable def bootT (P : Params) : BT := mkT 12 (boot_heap P).objs.toList 1 0
theorem boot_tree (P : Params) : absHeap (bootT P) 11 (boot_heap P).life = boot_heap P := by kernel_rfl
theorem boot_size (P : Params) : ((boot_heap P).isNs mainGlobals && (#[] : Array GenState).size == 0, (boot_heap P).objs.size, (boot_heap P).nsMap mainGlobals "__annotations__") = (true, 11, some (.ref 6)) := by kernel_rfl
theorem LeftO.of_tree {p q : Program} {loose : List Str} {Xt : Shared → Bool} {α : Type} {Yf : Shared → α} {Ya : World → α} {N : Nat} {g0 : Bool} (e : opening p = plainProg p.main.scope.names) (hN : Nat.ble 600 N = true) (f : ∀ s, fenceModules? p s = some s)
    (run : ∀ (w : World) (os : OsState), (topRunT treeTable p w 11 (some (.ref 6)) N ⟨bootT w.params, 11, (boot_heap w.params).life, #[], boot_drawn, boot_toks, os⟩ (topStub p)).map (fun s =>
      ((staticsOk (importedModules p.main.body) (boot_heap w.params) s.abs.heap && namesBound p s.abs.heap && gensDone s.abs && laidKept (boot_heap w.params) s.abs.heap), openSeen q loose (importedModules p.main.body) Xt g0 s.abs, Yf s.abs)) = some (true, openGood q loose, Ya w)) :
    PySem.W.LeftO p q loose Xt Yf Ya N g0 := fun w => by
  obtain ⟨⟨h, gs, d, k, os⟩, e1, e'⟩ := Option.map_eq_some_iff.mp (boot_open e hN f w)
  obtain ⟨rfl, rfl, rfl, rfl⟩ : h = boot_heap w.params ∧ gs = #[] ∧ d = boot_drawn ∧ k = boot_toks := by simpa using e'
  obtain ⟨z1, z2, z3⟩ : _ ∧ _ ∧ _ := by simpa only [Prod.mk.injEq] using boot_size w.params
  obtain ⟨sT, r0, l0⟩ := Option.map_eq_some_iff.mp (run w os)
  obtain ⟨l1, l2, l3⟩ : _ ∧ _ ∧ _ := by simpa only [Prod.mk.injEq] using l0
  have r := topRun_ofT r0
  rw [show (SharedT.abs ⟨bootT w.params, 11, (boot_heap w.params).life, #[], boot_drawn, boot_toks, os⟩) = ⟨boot_heap w.params, #[], boot_drawn, boot_toks, os⟩ from congrArg (fun z => (⟨z, #[], boot_drawn, boot_toks, os⟩ : Shared)) (boot_tree w.params)] at r
  have t : topFrom treeTable p w N ⟨boot_heap w.params, #[], boot_drawn, boot_toks, os⟩ = some sT.abs := by
    unfold topFrom
    dsimp only
    rw [z1, z2, z3, r]
    show (match staticsOk (importedModules p.main.body) (boot_heap w.params) sT.abs.heap && namesBound p sT.abs.heap && gensDone sT.abs && laidKept (boot_heap w.params) sT.abs.heap with | true => _ | false => _) = _
    rw [l1]
  unfold openEnds
  rw [e1]
  show (topFrom treeTable p w N _).map _ = _
  rw [t]
  exact congrArg some (Prod.ext l2 l3)
theorem LeftO.of_tree2 {p q : Program} {loose : List Str} {Xt : Shared → Bool} {α : Type} {Yf : Shared → α} {Ya : World → α} {N : Nat} {g0 : Bool} (e : opening p = plainProg p.main.scope.names) (hN : Nat.ble 600 N = true) (f : ∀ s, fenceModules? p s = some s)
    (run : ∀ (w : World) (os : OsState), (topRunT treeTable p w 11 (some (.ref 6)) N ⟨bootT w.params, 11, (boot_heap w.params).life, #[], boot_drawn, boot_toks, os⟩ (topStub p)).map (fun s =>
      (((staticsOk (importedModules p.main.body) (boot_heap w.params) s.abs.heap && namesBound p s.abs.heap && gensDone s.abs && laidKept (boot_heap w.params) s.abs.heap), openSeen q loose (importedModules p.main.body) Xt g0 s.abs), Yf s.abs)) = some ((true, openGood q loose), Ya w)) :
    PySem.W.LeftO p q loose Xt Yf Ya N g0 := LeftO.of_tree e hN f fun w os => by
  obtain ⟨sT, r0, l0⟩ := Option.map_eq_some_iff.mp (run w os)
  rw [r0]
  show some _ = some _
  rw [Prod.ext_iff, Prod.ext_iff] at l0
  exact congrArg some (Prod.ext l0.1.1 (Prod.ext l0.1.2 l0.2))
end L2
end
set_option Elab.async false
set_option linter.all false
set_option maxRecDepth 100000
set_option maxHeartbeats 4000000
local macro_rules | `(tactic| walk_at "rd") => `(tactic| repeat (first | refine L2.wk1 _ rfl ?_ | refine L2.wk2 _ _ rfl rfl ?_ | refine ⟨_, rfl, ?_⟩ | refine ⟨_, _, rfl, rfl, ?_⟩ | refine ⟨rfl, ?_⟩ | refine ⟨L2.cPow rfl, ?_⟩ | refine ⟨L2.cDiv rfl, ?_⟩ | refine ⟨L2.cPos rfl, ?_⟩ | refine ⟨L2.cMulL rfl, ?_⟩ | refine ⟨L2.cMulR rfl, ?_⟩ | refine ⟨L2.cNon rfl, ?_⟩))
namespace My
open PySem L2
noncomputable def top (i : Nat) : Stmt := PySem.Challenge.pw_topstretch_k24_whole_bounds_are_best.main.body.getD i (.Pass ⟨0, 0, 0, 0⟩)
noncomputable abbrev s_is_whole : Stmt := top 5
theorem sc_is_whole : FnScope ["thing"] ["thing"] (defScope s_is_whole) := ⟨rfl, rfl, rfl, by decide +kernel, rfl, by decide +kernel, by decide +kernel⟩
noncomputable abbrev s_best_of : Stmt := top 6
theorem sc_best_of : FnScope ["row", "total", "first", "best", "place"] ["row"] (defScope s_best_of) := ⟨rfl, rfl, rfl, by decide +kernel, rfl, by decide +kernel, by decide +kernel⟩
noncomputable abbrev s_sums_ahead : Stmt := top 7
theorem sc_sums_ahead : FnScope ["row", "total", "ahead", "number"] ["row"] (defScope s_sums_ahead) := ⟨rfl, rfl, rfl, by decide +kernel, rfl, by decide +kernel, by decide +kernel⟩
noncomputable abbrev s_longest_of : Stmt := top 9
theorem sc_longest_of : FnScope ["many", "least", "most"] ["many", "least", "most"] (defScope s_longest_of) := ⟨rfl, rfl, rfl, by decide +kernel, rfl, by decide +kernel, by decide +kernel⟩
noncomputable abbrev s_enter_first : Stmt := top 10
theorem sc_enter_first : FnScope ["firsts", "ahead", "first"] ["firsts", "ahead", "first"] (defScope s_enter_first) := ⟨rfl, rfl, rfl, by decide +kernel, rfl, by decide +kernel, by decide +kernel⟩
noncomputable abbrev s_best_sized : Stmt := top 11
theorem sc_best_sized : FnScope ["row", "least", "most", "longest", "ahead", "firsts", "best", "beyond", "total"] ["row", "least", "most"] (defScope s_best_sized) := ⟨rfl, rfl, rfl, by decide +kernel, rfl, by decide +kernel, by decide +kernel⟩
noncomputable abbrev s_unrolled : Stmt := top 13
theorem sc_unrolled : FnScope ["ring"] ["ring"] (defScope s_unrolled) := ⟨rfl, rfl, rfl, by decide +kernel, rfl, by decide +kernel, by decide +kernel⟩
noncomputable abbrev s_best_ring_sized : Stmt := top 14
theorem sc_best_ring_sized : FnScope ["ring", "least", "most", "longest", "best"] ["ring", "least", "most"] (defScope s_best_ring_sized) := ⟨rfl, rfl, rfl, by decide +kernel, rfl, by decide +kernel, by decide +kernel⟩
noncomputable abbrev s_best_ring : Stmt := top 15
theorem sc_best_ring : FnScope ["ring"] ["ring"] (defScope s_best_ring) := ⟨rfl, rfl, rfl, by decide +kernel, rfl, by decide +kernel, by decide +kernel⟩
noncomputable abbrev s_refuse_counts : Stmt := top 17
theorem sc_refuse_counts : FnScope ["many", "least", "gap"] ["many", "least", "gap"] (defScope s_refuse_counts) := ⟨rfl, rfl, rfl, by decide +kernel, rfl, by decide +kernel, by decide +kernel⟩
noncomputable abbrev s_room_for : Stmt := top 18
theorem sc_room_for : FnScope ["numbers", "gap"] ["numbers", "gap"] (defScope s_room_for) := ⟨rfl, rfl, rfl, by decide +kernel, rfl, by decide +kernel, by decide +kernel⟩
noncomputable abbrev s_greater_of : Stmt := top 19
theorem sc_greater_of : FnScope ["one", "other"] ["one", "other"] (defScope s_greater_of) := ⟨rfl, rfl, rfl, by decide +kernel, rfl, by decide +kernel, by decide +kernel⟩
noncomputable abbrev s_begun_line : Stmt := top 20
theorem sc_begun_line : FnScope ["row", "behind", "line", "place", "rest"] ["row", "behind"] (defScope s_begun_line) := ⟨rfl, rfl, rfl, by decide +kernel, rfl, by decide +kernel, by decide +kernel⟩
noncomputable abbrev s_best_line : Stmt := top 21
theorem sc_best_line : FnScope ["begun", "line", "place"] ["begun"] (defScope s_best_line) := ⟨rfl, rfl, rfl, by decide +kernel, rfl, by decide +kernel, by decide +kernel⟩
noncomputable abbrev s_behind_line : Stmt := top 22
theorem sc_behind_line : FnScope ["best", "gap"] ["best", "gap"] (defScope s_behind_line) := ⟨rfl, rfl, rfl, by decide +kernel, rfl, by decide +kernel, by decide +kernel⟩
noncomputable abbrev s_lines_of : Stmt := top 23
theorem sc_lines_of : FnScope ["row", "many", "gap", "nothing", "lines", "count", "begun", "best"] ["row", "many", "gap"] (defScope s_lines_of) := ⟨rfl, rfl, rfl, by decide +kernel, rfl, by decide +kernel, by decide +kernel⟩
noncomputable abbrev s_first_from : Stmt := top 24
theorem sc_first_from : FnScope ["line", "start", "first"] ["line", "start"] (defScope s_first_from) := ⟨rfl, rfl, rfl, by decide +kernel, rfl, by decide +kernel, by decide +kernel⟩
noncomputable abbrev s_beyond_from : Stmt := top 25
theorem sc_beyond_from : FnScope ["row", "first", "total", "behind", "beyond", "left"] ["row", "first", "total", "behind"] (defScope s_beyond_from) := ⟨rfl, rfl, rfl, by decide +kernel, rfl, by decide +kernel, by decide +kernel⟩
noncomputable abbrev s_stretches_of : Stmt := top 26
theorem sc_stretches_of : FnScope ["row", "lines", "many", "gap", "told", "start", "count", "first", "total", "beyond"] ["row", "lines", "many", "gap"] (defScope s_stretches_of) := ⟨rfl, rfl, rfl, by decide +kernel, rfl, by decide +kernel, by decide +kernel⟩
noncomputable abbrev s_best_apart : Stmt := top 27
theorem sc_best_apart : FnScope ["row", "many", "gap", "lines"] ["row", "many", "gap"] (defScope s_best_apart) := ⟨rfl, rfl, rfl, by decide +kernel, rfl, by decide +kernel, by decide +kernel⟩
noncomputable abbrev s_paper_of : Stmt := top 29
theorem sc_paper_of : FnScope ["row", "paper", "place"] ["row"] (defScope s_paper_of) := ⟨rfl, rfl, rfl, by decide +kernel, rfl, by decide +kernel, by decide +kernel⟩
noncomputable abbrev s_are_whole : Stmt := top 30
theorem sc_are_whole : FnScope ["paper", "many"] ["paper", "many"] (defScope s_are_whole) := ⟨rfl, rfl, rfl, by decide +kernel, rfl, by decide +kernel, by decide +kernel⟩
noncomputable abbrev s_paper_shows : Stmt := top 31
theorem sc_paper_shows : FnScope ["row", "paper", "place"] ["row", "paper"] (defScope s_paper_shows) := ⟨rfl, rfl, rfl, by decide +kernel, rfl, by decide +kernel, by decide +kernel⟩
noncomputable abbrev s_bound_of : Stmt := top 32
theorem sc_bound_of : FnScope ["paper"] ["paper"] (defScope s_bound_of) := ⟨rfl, rfl, rfl, by decide +kernel, rfl, by decide +kernel, by decide +kernel⟩
noncomputable abbrev s_several_paper : Stmt := top 33
theorem sc_several_paper : FnScope ["row", "many", "gap", "lines"] ["row", "many", "gap"] (defScope s_several_paper) := ⟨rfl, rfl, rfl, by decide +kernel, rfl, by decide +kernel, by decide +kernel⟩
noncomputable abbrev s_is_line_of_form : Stmt := top 34
theorem sc_is_line_of_form : FnScope ["line", "numbers", "count", "gap", "many"] ["line", "numbers", "count", "gap"] (defScope s_is_line_of_form) := ⟨rfl, rfl, rfl, by decide +kernel, rfl, by decide +kernel, by decide +kernel⟩
noncomputable abbrev s_is_of_form : Stmt := top 35
theorem sc_is_of_form : FnScope ["paper", "numbers", "many", "gap", "count"] ["paper", "numbers", "many", "gap"] (defScope s_is_of_form) := ⟨rfl, rfl, rfl, by decide +kernel, rfl, by decide +kernel, by decide +kernel⟩
noncomputable abbrev s_never_falls : Stmt := top 36
theorem sc_never_falls : FnScope ["line", "place"] ["line"] (defScope s_never_falls) := ⟨rfl, rfl, rfl, by decide +kernel, rfl, by decide +kernel, by decide +kernel⟩
noncomputable abbrev s_ahead_line : Stmt := top 37
theorem sc_ahead_line : FnScope ["paper", "count", "gap", "fewer"] ["paper", "count", "gap"] (defScope s_ahead_line) := ⟨rfl, rfl, rfl, by decide +kernel, rfl, by decide +kernel, by decide +kernel⟩
noncomputable abbrev s_line_shows : Stmt := top 38
theorem sc_line_shows : FnScope ["line", "sums", "ahead", "beyond", "first"] ["line", "sums", "ahead"] (defScope s_line_shows) := ⟨rfl, rfl, rfl, by decide +kernel, rfl, by decide +kernel, by decide +kernel⟩
noncomputable abbrev s_several_shows : Stmt := top 39
theorem sc_several_shows : FnScope ["row", "many", "gap", "paper", "sums", "count"] ["row", "many", "gap", "paper"] (defScope s_several_shows) := ⟨rfl, rfl, rfl, by decide +kernel, rfl, by decide +kernel, by decide +kernel⟩
noncomputable abbrev s_ring_shows : Stmt := top 40
theorem sc_ring_shows : FnScope ["ring", "paper", "many"] ["ring", "paper"] (defScope s_ring_shows) := ⟨rfl, rfl, rfl, by decide +kernel, rfl, by decide +kernel, by decide +kernel⟩
noncomputable abbrev s_law_cell_at : Stmt := top 42
noncomputable abbrev s_law_reel : Stmt := top 43
theorem sc_law_reel : FnScope ["cell"] ["cell"] (defScope s_law_reel) := ⟨rfl, rfl, rfl, by decide +kernel, rfl, by decide +kernel, by decide +kernel⟩
noncomputable abbrev s_law_take : Stmt := top 44
theorem sc_law_take : FnScope ["reel", "many", "found", "stir"] ["reel", "many"] (defScope s_law_take) := ⟨rfl, rfl, rfl, by decide +kernel, rfl, by decide +kernel, by decide +kernel⟩
noncomputable abbrev s_law_row : Stmt := top 45
theorem sc_law_row : FnScope ["reel", "most", "many", "way", "found", "k", "number"] ["reel", "most"] (defScope s_law_row) := ⟨rfl, rfl, rfl, by decide +kernel, rfl, by decide +kernel, by decide +kernel⟩
noncomputable abbrev s_law_counts : Stmt := top 46
theorem sc_law_counts : FnScope ["reel", "many", "gap", "count"] ["reel", "many"] (defScope s_law_counts) := ⟨rfl, rfl, rfl, by decide +kernel, rfl, by decide +kernel, by decide +kernel⟩
noncomputable abbrev s_law_less : Stmt := top 47
theorem sc_law_less : FnScope ["paper", "place"] ["paper", "place"] (defScope s_law_less) := ⟨rfl, rfl, rfl, by decide +kernel, rfl, by decide +kernel, by decide +kernel⟩
noncomputable abbrev s_law_spots : Stmt := top 48
theorem sc_law_spots : FnScope ["paper", "found", "count", "line"] ["paper"] (defScope s_law_spots) := ⟨rfl, rfl, rfl, by decide +kernel, rfl, by decide +kernel, by decide +kernel⟩
noncomputable abbrev s_law_several_right : Stmt := top 49
theorem sc_law_several_right : FnScope ["reel", "row", "many", "gap", "paper", "spots", "count", "place", "other", "best"] ["reel", "row", "many", "gap"] (defScope s_law_several_right) := ⟨rfl, rfl, rfl, by decide +kernel, rfl, by decide +kernel, by decide +kernel⟩
noncomputable abbrev s_law_ring_right : Stmt := top 50
theorem sc_law_ring_right : FnScope ["reel", "ring", "paper", "places"] ["reel", "ring"] (defScope s_law_ring_right) := ⟨rfl, rfl, rfl, by decide +kernel, rfl, by decide +kernel, by decide +kernel⟩
noncomputable abbrev s_law : Stmt := top 51
theorem sc_law : FnScope ["script", "cell", "reel", "row", "paper", "many", "gap", "place"] ["script"] (defScope s_law) := ⟨rfl, rfl, rfl, by decide +kernel, rfl, by decide +kernel, by decide +kernel⟩
noncomputable def psum (ns : List Int) (i : Nat) : Int := (ns.take i).sum
noncomputable def pl (ns : List Int) (i : Nat) : List Int := (List.range (i + 1)).map (psum ns)
theorem psum_succ {ns : List Int} {i : Nat} (h : i < ns.length) : psum ns (i + 1) = psum ns i + ns[i] := by
  unfold psum
  rw [List.take_succ_eq_append_getElem h, List.sum_append, List.sum_singleton]
theorem pl_succ (ns : List Int) (i : Nat) : pl ns (i + 1) = pl ns i ++ [psum ns (i + 1)] := by
  unfold pl
  rw [List.range_succ, List.map_append]
  rfl
theorem pl_len (ns : List Int) (i : Nat) : (pl ns i).length = i + 1 := by unfold pl; rw [List.length_map, List.length_range]
theorem int_at {ns : List Int} {i : Nat} {x : V} (h : (ns.map V.int)[i]? = some x) : ∃ h' : i < ns.length, x = .int ns[i] := by
  rw [List.getElem?_map] at h
  cases e : ns[i]? with
  | none => rw [e] at h; cases h
  | some n =>
    rw [e] at h
    cases h
    obtain ⟨h', e'⟩ := List.getElem?_eq_some_iff.mp e
    exact ⟨h', by rw [e']⟩
noncomputable def SqO (k : Bool) (H : Hp) (a : Addr) (xs : List V) : Prop := match k with
  | true => H a = some (.lst xs)
  | false => H a = some (.tup xs)
inductive SameD (H : Hp) : Nat → V → V → Prop
  | non {n : Nat} : SameD H (n + 1) .non .non
  | int {n : Nat} (i : Int) : SameD H (n + 1) (.int i) (.int i)
  | seq {n : Nat} (k : Bool) {a b : Addr} {xs ys : List V} (ha : SqO k H a xs) (hb : SqO k H b ys) (hl : xs.length = ys.length) (hz : xs.length ≤ 100000) (h : ∀ (j : Nat) x y, xs[j]? = some x → ys[j]? = some y → SameD H n x y) : SameD H (n + 1) (.ref a) (.ref b)
noncomputable def sp_same (n : Nat) : Sp := fun vs H Q _ => ∃ x y, vs = [x, y] ∧ SameD H n x y ∧ ∀ H', Same H H' → Q (.bl true) H'
theorem cut_front {ns : List Int} {m : Nat} : cutV (ns.map V.int) none (some (m : Int)) = (ns.take m).map V.int := by
  unfold cutV
  rw [HT.sIx_nat, HT.sIx_none, List.length_map, List.drop_zero, Nat.sub_zero, List.map_take]
  rcases Nat.le_total m ns.length with h | h
  · rw [Nat.min_eq_left h]
  · rw [Nat.min_eq_right h, List.take_of_length_le (by rw [List.length_map]; exact Nat.le_refl _), List.take_of_length_le (by rw [List.length_map]; exact h)]
noncomputable def sp_law (K : PySem.W.Frag) : Sp := fun vs H Q _ => ∃ (a : Addr) (ns : List Int), vs = [.ref a] ∧ SqL K H a (ns.map V.int) ∧ ns.length ≤ 63 ∧ ∀ H', Q (.bl true) H'
noncomputable def cutI (ns : List Int) (a b : Int) : List Int := (ns.drop a.toNat).take (b.toNat - a.toNat)
structure BestIn (P : Nat → Int) (S : Nat → Nat → Prop) (s : Int) (f b : Nat) : Prop where
  mem : S f b
  val : s = P b - P f
  top : ∀ f' b', S f' b' → P b' - P f' < s ∨ (P b' - P f' = s ∧ (f < f' ∨ (f = f' ∧ b ≤ b')))
theorem BestIn.congr {P : Nat → Int} {S S' : Nat → Nat → Prop} {s : Int} {f b : Nat} (h : BestIn P S s f b) (e : ∀ f b, S f b ↔ S' f b) : BestIn P S' s f b :=
  ⟨(e f b).mp h.mem, h.val, fun f' b' q => h.top f' b' ((e f' b').mpr q)⟩
noncomputable def Val (n L : Nat) (M : Int) (f b : Nat) : Prop := f + L ≤ b ∧ (b : Int) ≤ f + M ∧ b ≤ n
noncomputable abbrev IsBest (ns : List Int) (L : Nat) (M : Int) (s : Int) (f b : Nat) : Prop := BestIn (psum ns) (Val ns.length L M) s f b
theorem psum_getD {ns : List Int} {i : Nat} (h : i < ns.length) : psum ns (i + 1) = psum ns i + ns.getD i 0 := by
  rw [psum_succ h, List.getD_eq_getElem?_getD, List.getElem?_eq_getElem h]
  rfl
noncomputable def oV : Option Int → V
  | none => .non
  | some i => .int i
noncomputable def gm : Option Int → Option Int → Option Int
  | none, b => b
  | some x, none => some x
  | some x, some y => some (if y > x then y else x)
theorem wasNone {H H' : Hp} {p : Addr} (s : Same H H') (h : H' p = none) : H p = none := by
  cases e : H p with
  | none => rfl
  | some o => rw [s p o e] at h; cases h
theorem gm_comm (a b : Option Int) : gm a b = gm b a := by
  cases a with
  | none => cases b <;> rfl
  | some x =>
    cases b with
    | none => rfl
    | some y =>
      show some (if y > x then y else x) = some (if x > y then x else y)
      congr 1
      split <;> split <;> (first | lia | omega)
noncomputable def sp_great : Sp := fun vs H Q _ => ∃ a b : Option Int, vs = [oV a, oV b] ∧ Q (oV (gm a b)) H
theorem ok_great {P : Program} {w : World} {K : PySem.W.Frag} {mg : Str → Option Value} {base : Heap} {k : Nat} {f : Addr} {fd : FuncData} (F : Fun K "greater_of" "greater_of" s_greater_of f fd) (Z : Blt mg) : FnOk P w K mg base CX0 (k + 1) f fd ["one", "other"] sp_great := by
  refine F.ok sc_greater_of (fun vs H Q E h => ?_) (fun cdv A outer s H vs Q E hr h => ?_)
  · obtain ⟨a, b, rfl, _⟩ := h
    rfl
  obtain ⟨a, b, rfl, q⟩ := h
  apply Exists.intro
  apply And.intro
  case left =>
    apply pss_cons
    case h1 =>
      apply ps_if
      case hc => exact (pt_cmpR op_isN (pv 0) pe_non (nomark _))
      case ha =>
        apply pss_one
        exact (ps_ret (pv 1))
      case hb =>
        exact pss_nil
    apply pss_cons
    case h1 =>
      apply ps_if
      case hc => exact (pt_cmpR op_isN (pv 1) pe_non (nomark _))
      case ha =>
        apply pss_one
        exact (ps_ret (pv 0))
      case hb =>
        exact pss_nil
    apply pss_one
    exact (ps_ret (pe_callB (call_max2 rfl) rfl Z.max_ PyProof.Rows.boot_max (pa_cons (pv 0) (pa_cons (pv 1) pa_nil))))
  cases a with
  | none =>
    cases b with
    | none =>
      walk_at "rd"
      exact q
    | some y =>
      walk_at "rd"
      exact q
  | some x =>
    cases b with
    | none =>
      walk_at "rd"
      exact q
    | some y =>
      walk_at "rd"
      refine ⟨_, _, rfl, ?_⟩
      exact q
noncomputable def sfx {α : Type} (op : α → α → α) (e : α) (n p : Nat) (f : Nat → α) : α := ((List.range' p (n - p)).map f).foldr op e
theorem sfx_end {α : Type} {op : α → α → α} {e : α} {n p : Nat} {f : Nat → α} (h : n ≤ p) : sfx op e n p f = e := by
  unfold sfx
  rw [show n - p = 0 by (first | lia | omega)]
  rfl
theorem sfx_step {α : Type} {op : α → α → α} {e : α} {n p : Nat} {f : Nat → α} (h : p < n) : sfx op e n p f = op (f p) (sfx op e n (p + 1) f) := by
  unfold sfx
  rw [show n - p = (n - (p + 1)) + 1 by (first | lia | omega), List.range'_succ, List.map_cons, List.foldr_cons]
theorem sfx_ind {n : Nat} {C : Nat → Prop} (h0 : ∀ p, n ≤ p → C p) (hs : ∀ p, p < n → C (p + 1) → C p) : ∀ p, C p := by
  intro p
  obtain ⟨d, hd⟩ : ∃ d, d = n - p := ⟨_, rfl⟩
  induction d generalizing p with
  | zero => exact h0 p (by (first | lia | omega))
  | succ d ih => exact hs p (by (first | lia | omega)) (ih (p + 1) (by (first | lia | omega)))
noncomputable abbrev SL := Int × List (Nat × Nat)
noncomputable def cb : Option SL → Option SL → Option SL
  | none, b => b
  | some x, none => some x
  | some x, some y => some (if y.1 > x.1 then y else x)
noncomputable abbrev val (a : Option SL) : Option Int := a.map Prod.fst
theorem val_cb (a b : Option SL) : val (cb a b) = gm (val a) (val b) := by
  cases a with
  | none => rfl
  | some x =>
    cases b with
    | none => rfl
    | some y =>
      show some (if y.1 > x.1 then y else x).1 = some (if y.1 > x.1 then y.1 else x.1)
      split <;> rfl
theorem cb_or (a b : Option SL) : cb a b = a ∨ cb a b = b := by
  cases a with
  | none => exact .inr rfl
  | some x =>
    cases b with
    | none => exact .inl rfl
    | some y =>
      show some (if y.1 > x.1 then y else x) = _ ∨ some (if y.1 > x.1 then y else x) = _
      split
      · exact .inr rfl
      · exact .inl rfl
theorem cb_left {a b : Option SL} {x : SL} (e : cb a b = some x) (h : val a = val (cb a b)) : a = some x := by
  cases a with
  | none =>
    rw [e] at h
    cases h
  | some y =>
    cases b with
    | none => exact e
    | some z =>
      rw [← e]
      have h' : some y.1 = some (if z.1 > y.1 then z else y).1 := h
      show some y = some (if z.1 > y.1 then z else y)
      split at h' <;> rename_i hz
      · have := Option.some.inj h'
        (first | lia | omega)
      · rw [if_neg hz]
theorem cb_right {a b : Option SL} (h : val a ≠ val (cb a b)) : cb a b = b := by
  rcases cb_or a b with e | e
  · exact absurd (by rw [e]) h
  · exact e
theorem cb_none {a b : Option SL} : cb a b = none ↔ a = none ∧ b = none := by
  cases a with
  | none => exact ⟨fun e => ⟨rfl, e⟩, fun e => e.2⟩
  | some x => cases b <;> exact ⟨fun e => (by cases e), fun e => (by cases e.1)⟩
theorem gm_map {a b : Option Int} {k : Int} : (gm a b).map (k + ·) = gm (a.map (k + ·)) (b.map (k + ·)) := by
  cases a with
  | none => rfl
  | some x =>
    cases b with
    | none => rfl
    | some y =>
      show some (k + (if y > x then y else x)) = some (if k + y > k + x then k + y else k + x)
      by_cases h : y > x
      · rw [if_pos h, if_pos (by (first | lia | omega))]
      · rw [if_neg h, if_neg (by (first | lia | omega))]
noncomputable def put1 (ns : List Int) (f b : Nat) (s : SL) : SL := (psum ns b - psum ns f + s.1, (f, b) :: s.2)
noncomputable def fgt (ns : List Int) (S : Nat → Option SL) (f b : Nat) : Option SL := sfx cb none (ns.length + 1) b fun b' => (S b').map (put1 ns f b')
noncomputable def fb (ns : List Int) (g : Nat) : Nat → Nat → Option SL
  | 0, _ => some (0, [])
  | c + 1, p => sfx cb none ns.length p fun f => fgt ns (fun b => fb ns g c (b + g)) f (f + 1)
noncomputable def fg (ns : List Int) (g c f : Nat) : Option SL := fgt ns (fun b => fb ns g c (b + g)) f (f + 1)
theorem fb_zero {ns : List Int} {g p : Nat} : fb ns g 0 p = some (0, []) := by rw [fb]
theorem fb_end {ns : List Int} {g c p : Nat} (h : ns.length ≤ p) : fb ns g (c + 1) p = none := by rw [fb]; exact sfx_end h
theorem fb_step {ns : List Int} {g c p : Nat} (h : p < ns.length) : fb ns g (c + 1) p = cb (fg ns g c p) (fb ns g (c + 1) (p + 1)) := by
  rw [fb, sfx_step h, ← fb]
  rfl
theorem fgt_end {ns : List Int} {S : Nat → Option SL} {f b : Nat} (h : ns.length + 1 ≤ b) : fgt ns S f b = none := sfx_end h
theorem fgt_step {ns : List Int} {S : Nat → Option SL} {f b : Nat} (h : b < ns.length + 1) : fgt ns S f b = cb ((S b).map (put1 ns f b)) (fgt ns S f (b + 1)) := sfx_step h
theorem val_put {ns : List Int} {f b : Nat} {s : Option SL} : val (s.map (put1 ns f b)) = (val s).map ((psum ns b - psum ns f) + ·) := by
  cases s <;> rfl
theorem fgt_first {ns : List Int} {S : Nat → Option SL} {f f' : Nat} : ∀ b, val (fgt ns S f b) = (val (fgt ns S f' b)).map ((psum ns f' - psum ns f) + ·) := by
  refine sfx_ind (n := ns.length + 1) (fun p h => ?_) (fun p h ih => ?_)
  · rw [fgt_end h, fgt_end h]
    rfl
  · have e : ∀ o : Option Int, o.map ((psum ns p - psum ns f) + ·) = (o.map ((psum ns p - psum ns f') + ·)).map ((psum ns f' - psum ns f) + ·) := fun o => by
      cases o with
      | none => rfl
      | some x =>
        show some (psum ns p - psum ns f + x) = some (psum ns f' - psum ns f + (psum ns p - psum ns f' + x))
        rw [show psum ns p - psum ns f + x = psum ns f' - psum ns f + (psum ns p - psum ns f' + x) by (first | lia | omega)]
    rw [fgt_step h, fgt_step h, val_cb, val_cb, gm_map, ih, val_put, val_put, e]
theorem fg_end {ns : List Int} {g c f : Nat} (h : ns.length ≤ f) : fg ns g c f = none := fgt_end (by (first | lia | omega))
theorem fg_val {ns : List Int} {g c f : Nat} (h : f < ns.length) : val (fg ns g c f) = (gm (val (fb ns g c (f + 1 + g))) (val (fg ns g c (f + 1)))).map (ns.getD f 0 + ·) := by
  have e1 := psum_getD (ns := ns) (i := f) h
  unfold fg
  rw [fgt_step (by (first | lia | omega)), val_cb, val_put, fgt_first (f' := f + 1), gm_map]
  rw [show psum ns (f + 1) - psum ns f = ns.getD f 0 by (first | lia | omega)]
theorem fb_val {ns : List Int} {g c p : Nat} (h : p < ns.length) : val (fb ns g (c + 1) p) = gm (val (fg ns g c p)) (val (fb ns g (c + 1) (p + 1))) := by rw [fb_step h, val_cb]
theorem fb_room {ns : List Int} {g : Nat} : ∀ {c p : Nat}, c = 0 ∨ (p ≤ ns.length ∧ c * (1 + g) ≤ ns.length - p + g) → fb ns g c p ≠ none
  | 0, p, _ => by rw [fb_zero]; exact fun z => by cases z
  | c + 1, p, h => by
    rcases h with h | ⟨hp, h⟩
    · (first | lia | omega)
    have hm : (c + 1) * (1 + g) = c * (1 + g) + (1 + g) := by rw [Nat.add_mul, Nat.one_mul]
    rw [fb_step (by (first | lia | omega))]
    intro z
    have z1 := (cb_none.mp z).1
    unfold fg at z1
    rw [fgt_step (by (first | lia | omega))] at z1
    have z2 := (cb_none.mp z1).1
    refine fb_room (ns := ns) (g := g) (c := c) (p := p + 1 + g) ?_ (Option.map_eq_none_iff.mp z2)
    by_cases hc : c = 0
    · exact .inl hc
    · refine .inr ⟨?_, ?_⟩
      · have : 1 * (1 + g) ≤ c * (1 + g) := Nat.mul_le_mul_right _ (by (first | lia | omega))
        (first | lia | omega)
      · have : 1 * (1 + g) ≤ c * (1 + g) := Nat.mul_le_mul_right _ (by (first | lia | omega))
        (first | lia | omega)
theorem fb_noroom {ns : List Int} {g : Nat} : ∀ {c p : Nat}, c ≠ 0 → ns.length + g < c * (1 + g) + p → fb ns g c p = none
  | 0, p, h, _ => absurd rfl h
  | c + 1, p, _, h => by
    have hm : (c + 1) * (1 + g) = c * (1 + g) + (1 + g) := by rw [Nat.add_mul, Nat.one_mul]
    have key : ∀ b f, p ≤ f → f < b → fgt ns (fun b => fb ns g c (b + g)) f b = none := by
      intro b f hf hb
      revert hb
      refine sfx_ind (n := ns.length + 1) (C := fun b => f < b → fgt ns (fun b => fb ns g c (b + g)) f b = none) (fun b hb _ => fgt_end hb) (fun b hb ih hfb => ?_) b
      rw [fgt_step hb, ih (by (first | lia | omega))]
      by_cases hc : c = 0
      · subst hc
        (first | lia | omega)
      · rw [fb_noroom hc (by (first | lia | omega))]
        rfl
    refine sfx_ind (n := ns.length) (C := fun q => p ≤ q → fb ns g (c + 1) q = none) (fun q hq _ => fb_end hq) (fun q hq ih hpq => ?_) p (Nat.le_refl _)
    rw [fb_step hq, ih (by (first | lia | omega))]
    unfold fg
    rw [key _ _ hpq (by (first | lia | omega))]
    rfl
theorem ixN_ok {n : Nat} {k : Int} (h0 : 0 ≤ k) (h : k < (n : Int)) : ixN n k = some k.toNat := by
  unfold ixN
  rw [if_pos h0, if_pos h]
noncomputable def lineOf (n : Nat) (g : Nat → Option Int) : List (Option Int) := (List.range n).map g
theorem line_len {n : Nat} {g : Nat → Option Int} : (lineOf n g).length = n := by
  unfold lineOf
  rw [List.length_map, List.length_range]
theorem line_at {n i : Nat} {g : Nat → Option Int} (h : i < n) : (lineOf n g)[i]? = some (g i) := by
  unfold lineOf
  rw [List.getElem?_map, List.getElem?_range h]
  rfl
theorem line_ext {n : Nat} {g h : Nat → Option Int} (e : ∀ i, i < n → g i = h i) : lineOf n g = lineOf n h := List.map_congr_left fun i hi => e i (List.mem_range.mp hi)
theorem line_set {n q : Nat} {g : Nat → Option Int} {x : Option Int} : (lineOf n g).set q x = lineOf n (fun k => if k = q then x else g k) := by
  refine List.ext_getElem? fun i => ?_
  by_cases hi : i < n
  · rw [line_at hi, List.getElem?_set]
    by_cases hq : q = i
    · rw [if_pos hq, if_pos (by rw [line_len]; (first | lia | omega)), if_pos hq.symm]
    · rw [if_neg hq, line_at hi, if_neg (fun z => hq z.symm)]
  · rw [List.getElem?_eq_none (by rw [List.length_set, line_len]; (first | lia | omega)), List.getElem?_eq_none (by rw [line_len]; (first | lia | omega))]
theorem atO {n i : Nat} {g : Nat → Option Int} (h : i < n) : atI ((lineOf n g).map oV) (i : Int) = some (oV (g i)) := atI_nat (by rw [List.getElem?_map, line_at h]; rfl)
theorem flat_rep {α : Type} {x : α} : ∀ n : Nat, (List.replicate n [x]).flatten = List.replicate n x
  | 0 => rfl
  | n + 1 => by rw [List.replicate_succ, List.flatten_cons, List.replicate_succ, flat_rep n]; rfl
theorem line_rep {n : Nat} {x : Option Int} : (List.replicate n [oV x]).flatten = (lineOf n (fun _ => x)).map oV := by
  rw [flat_rep]
  unfold lineOf
  rw [List.map_map]
  have e : (oV ∘ fun (_ : Nat) => x) = fun _ => oV x := rfl
  rw [e, List.map_const', List.length_range]
theorem line_down {m n i p : Nat} {g e : Nat → Option Int} (hp : p + (i + 1) = n) : lineOf m (fun k => if k = p then g p else if n ≤ k + i then g k else e k) = lineOf m (fun k => if n ≤ k + (i + 1) then g k else e k) := by
  refine line_ext fun k _ => ?_
  by_cases h : k = p
  · subst h
    rw [if_pos rfl, if_pos (by (first | lia | omega))]
  · rw [if_neg h]
    by_cases h2 : n ≤ k + i
    · rw [if_pos h2, if_pos (by (first | lia | omega))]
    · rw [if_neg h2, if_neg (by (first | lia | omega))]
theorem lineV_set {n q : Nat} {g : Nat → Option Int} {x : Option Int} : ((lineOf n g).map oV).set q (oV x) = (lineOf n (fun k => if k = q then x else g k)).map oV := by rw [← List.map_set, line_set]
theorem gm_none {a : Option Int} : gm a none = a := by cases a <;> rfl
theorem line_ne {H : Hp} {l a d : Addr} {xs : List V} {n : Nat} {f : Nat → Option Int} (hl : H l = some (.lst xs)) (h0 : xs[0]? = some (.ref d)) (ha : H a = some (.lst ((lineOf (n + 1) f).map oV))) : a ≠ l := fun z => by
  rw [z, hl] at ha
  have ha' : xs = (lineOf (n + 1) f).map oV := by injection ha with q; injection q
  rw [ha', List.getElem?_map, line_at (by (first | lia | omega))] at h0
  cases e : f 0 with
  | none => rw [e] at h0; cases h0
  | some x => rw [e] at h0; cases h0
noncomputable def bgF (ns : List Int) (bf : Nat → Option Int) (p : Nat) : Option Int := val (fgt ns (fun b => (bf b).map fun x => (x, [])) p (p + 1))
theorem bg_end {ns : List Int} {bf : Nat → Option Int} {p : Nat} (h : ns.length ≤ p) : bgF ns bf p = none := by
  unfold bgF
  rw [fgt_end (by (first | lia | omega))]
  rfl
theorem bg_step {ns : List Int} {bf : Nat → Option Int} {p : Nat} (h : p < ns.length) : bgF ns bf p = (gm (bf (p + 1)) (bgF ns bf (p + 1))).map (ns.getD p 0 + ·) := by
  have e1 := psum_getD (ns := ns) (i := p) h
  have e2 : ∀ o : Option Int, val (o.map fun x => ((x, []) : SL)) = o := fun o => by cases o <;> rfl
  unfold bgF
  rw [fgt_step (by (first | lia | omega)), val_cb, val_put, fgt_first (f' := p + 1), gm_map, e2]
  rw [show psum ns (p + 1) - psum ns p = ns.getD p 0 by (first | lia | omega)]
theorem fgt_val {ns : List Int} {S S' : Nat → Option SL} {f : Nat} (h : ∀ b, b ≤ ns.length → val (S b) = val (S' b)) : ∀ b, val (fgt ns S f b) = val (fgt ns S' f b) := by
  refine sfx_ind (n := ns.length + 1) (fun p hp => ?_) (fun p hp ih => ?_)
  · rw [fgt_end hp, fgt_end hp]
  · rw [fgt_step hp, fgt_step hp, val_cb, val_cb, ih, val_put, val_put, h p (by (first | lia | omega))]
theorem bg_fg {ns : List Int} {g c : Nat} {bf : Nat → Option Int} (h : ∀ b, b ≤ ns.length → bf b = val (fb ns g c (b + g))) (p : Nat) : bgF ns bf p = val (fg ns g c p) := by
  have e2 : ∀ o : Option Int, val (o.map fun x => ((x, []) : SL)) = o := fun o => by cases o <;> rfl
  exact fgt_val (fun b hb => by rw [e2, h b hb]) _
noncomputable def sp_begun : Sp := fun vs H Q _ => ∃ (r b : Addr) (ns : List Int) (bf : Nat → Option Int), vs = [.ref r, .ref b] ∧ H r = some (.lst (ns.map V.int)) ∧ H b = some (.lst ((lineOf (ns.length + 1) bf).map oV)) ∧ ns.length ≤ 90000 ∧
  ∀ (l : Addr) (H' : Hp), Same H H' → H l = none → H' l = some (.lst ((lineOf (ns.length + 1) (bgF ns bf)).map oV)) → Q (.ref l) H'
theorem ok_begun {P : Program} {w : World} {K : PySem.W.Frag} {mg : Str → Option Value} {base : Heap} {k : Nat} {f : Addr} {fd : FuncData} (F : Fun K "begun_line" "begun_line" s_begun_line f fd) (Z : Blt mg)
    (D_greater_of : Def P w K mg base k "greater_of" ["one", "other"] sp_great) : FnOk P w K mg base CX0 (k + 1) f fd ["row", "behind"] sp_begun := by
  refine F.ok sc_begun_line (fun vs H Q E h => ?_) (fun cdv A outer s H vs Q E hr h => ?_)
  · obtain ⟨r, b, ns, bf, rfl, _⟩ := h
    rfl
  obtain ⟨r, b, ns, bf, rfl, hR, hb, hn, q⟩ := h
  apply Exists.intro
  apply And.intro
  case left =>
    apply pss_cons
    case h1 =>
      exact (ps_set (i := 2) sc_begun_line.nd rfl (by first | exact Or.inl rfl | exact Or.inr rfl) (pe_op op_rep (pe_lst (pa_cons pe_non pa_nil)) (pe_op op_add (pe_callB (call_len_seqK (K := K) rfl) rfl Z.len_ PySem.boot_len (pa_cons (pv 0) pa_nil)) pe_int)))
    apply pss_cons
    case h1 =>
      apply ps_for PassesOwn.never rfl
      case hi => exact (pi_range3 rfl Z.range_ (pa_cons (pe_op op_sub (pe_callB (call_len_seqK (K := K) rfl) rfl Z.len_ PySem.boot_len (pa_cons (pv 0) pa_nil)) pe_int) (pa_cons (pe_un un_neg pe_int) (pa_cons (pe_un un_neg pe_int) pa_nil))))
      case hg => exact (pg_name (i := 3) sc_begun_line.nd rfl (by first | exact Or.inl rfl | exact Or.inr rfl))
      case hb =>
        apply pss_cons
        case h1 =>
          exact (ps_set (i := 4) sc_begun_line.nd rfl (by first | exact Or.inl rfl | exact Or.inr rfl) (pe_def D_greater_of hr rfl (pa_cons (pe_ix (ix_listK (K := K) rfl) (pv 1) (pe_op op_add (pv 3) pe_int) (fun _ _ => rfl)) (pa_cons (pe_ix (ix_listK (K := K) rfl) (pv 2) (pe_op op_add (pv 3) pe_int) (fun _ _ => rfl)) pa_nil))))
        apply pss_one
        apply ps_if
        case hc => exact (pt_cmpR op_notN (pv 4) pe_non (nomark _))
        case ha =>
          apply pss_one
          exact (ps_asg (pe_op op_add (pe_ix (ix_listK (K := K) rfl) (pv 0) (pv 3) (fun _ _ => rfl)) (pv 4)) (pg_sub (pv 2) (pv 3) set_list (fun _ => rfl)))
        case hb =>
          exact pss_nil
    apply pss_one
    exact (ps_ret (pv 2))
  have hl : (ns.map V.int).length = ns.length := List.length_map _
  walk_at "rd"
  refine ⟨by show 1 ≤ sizeLine; decide, fun l1 h1 => ?_⟩
  walk_at "rd"
  refine ⟨r, _, rfl, .inl (SqL.of (Same.new h1 _ _ _ hR)), ?_⟩
  walk_at "rd"
  rw [hl]
  refine ⟨l1, (ns.length : Int) + 1, _, rfl, rfl, upd_same, by (first | lia | omega), by (first | lia | omega), ?_, fun st hst => ?_⟩
  · show 1 * ((ns.length : Int) + 1).toNat ≤ sizeLine
    exact Nat.le_of_lt (small (by (first | lia | omega)))
  have en : ((ns.length : Int) + 1).toNat = ns.length + 1 := by (first | lia | omega)
  have hsh : H st = none := wasNone (Same.new h1 _) hst
  have s1 : Same H (upd (upd H l1 (.lst [.non])) st (.lst (List.replicate ((ns.length : Int) + 1).toNat [V.non]).flatten)) := (Same.new h1 _).upd hsh
  walk_at "rd"
  refine ⟨r, _, rfl, .inl (SqL.of (s1 _ _ hR)), ?_⟩
  walk_at "rd"
  refine ⟨_, _, rfl, ⟨by (first | lia | omega), by (first | lia | omega), by (first | lia | omega), by (first | lia | omega)⟩, ?_⟩
  have eN : (((ns.map V.int).length : Int) - 1 - -1).toNat = ns.length := by (first | lia | omega)
  rw [eN]
  refine for_down (fun i σ H' => ∃ o3 o4, Same H H' ∧ H' st = some (.lst ((lineOf (ns.length + 1) (fun p => if ns.length ≤ p + i then bgF ns bf p else none)).map oV)) ∧ σ = [some (.ref r), some (.ref b), some (.ref st), o3, o4]) ⟨none, none, s1, ?_, rfl⟩ ?_ ?_
  · rw [upd_same, en, show V.non = oV none from rfl, line_rep (x := none)]
    refine congrArg (fun z => some (HO.lst (List.map oV z))) (line_ext fun i hi => ?_)
    split
    · rw [bg_end (by (first | lia | omega))]
    · rfl
  · rintro i σ H1 hi ⟨o3, o4, sm, hl1, rfl⟩
    have ei : (((ns.map V.int).length : Int) - 1 - i) = ((ns.length - 1 - i : Nat) : Int) := by (first | lia | omega)
    have hp1 : ns.length - 1 - i + 1 < ns.length + 1 := by (first | lia | omega)
    have hb1 := sm _ _ hb
    rw [ei]
    obtain ⟨p, hp⟩ : ∃ p, p = ns.length - 1 - i := ⟨_, rfl⟩
    rw [← hp]
    walk_at "rd"
    refine ⟨b, _, ((p + 1 : Nat) : Int), _, rfl, by push_cast; rfl, SqL.of hb1, atO (by (first | lia | omega)), ?_⟩
    walk_at "rd"
    refine ⟨st, _, ((p + 1 : Nat) : Int), _, rfl, by push_cast; rfl, SqL.of hl1, atO (by (first | lia | omega)), ?_⟩
    refine ⟨_, _, rfl, ?_⟩
    rw [if_pos (by (first | lia | omega))]
    have e3 := bg_step (ns := ns) (bf := bf) (p := p) (by (first | lia | omega))
    have hR1 := sm _ _ hR
    generalize gm (bf (p + 1)) (bgF ns bf (p + 1)) = o at e3 ⊢
    have hld := line_down (m := ns.length + 1) (n := ns.length) (i := i) (p := p) (g := bgF ns bf) (e := fun _ => none) (by (first | lia | omega))
    cases o with
    | none =>
      walk_at "rd"
      refine ⟨_, _, sm, ?_, rfl⟩
      rw [hl1, ← hld]
      refine congrArg (fun z => some (HO.lst (List.map oV z))) (line_ext fun k hk => ?_)
      by_cases z : k = p
      · subst z
        rw [if_pos rfl, e3, if_neg (by (first | lia | omega))]
        rfl
      · rw [if_neg z]
    | some x =>
      walk_at "rd"
      refine ⟨r, _, _, _, rfl, rfl, SqL.of hR1, atI_ok (by (first | lia | omega)) (by (first | lia | omega)), ?_⟩
      rw [show ((p : Nat) : Int).toNat = p by (first | lia | omega)]
      walk_at "rd"
      refine ⟨st, _, _, _, rfl, rfl, hl1, ixN_ok (by (first | lia | omega)) (by rw [List.length_map, line_len]; (first | lia | omega)), ?_⟩
      walk_at "rd"
      refine ⟨_, _, sm.upd hsh, ?_, rfl⟩
      dsimp only
      rw [upd_same, show ((p : Nat) : Int).toNat = p by (first | lia | omega), show V.int (ns.getD p 0 + x) = oV (bgF ns bf p) by rw [e3]; rfl, lineV_set, hld]
  · rintro σ H1 ⟨o3, o4, sm, hl1, rfl⟩
    walk_at "rd"
    refine q st H1 sm hsh ?_
    rw [hl1]
    refine congrArg (fun z => some (HO.lst (List.map oV z))) (line_ext fun i hi => ?_)
    rw [if_pos (by (first | lia | omega))]
noncomputable def sp_bestl : Sp := fun vs H Q _ => ∃ (a : Addr) (m : Nat) (bf : Nat → Option Int), vs = [.ref a] ∧ H a = some (.lst ((lineOf (m + 1) bf).map oV)) ∧ m ≤ 90000 ∧
  ∀ (l : Addr) (H' : Hp), Same H H' → H l = none → H' l = some (.lst ((lineOf (m + 1) (fun p => sfx gm none (m + 1) p bf)).map oV)) → Q (.ref l) H'
theorem ok_bestl {P : Program} {w : World} {K : PySem.W.Frag} {mg : Str → Option Value} {base : Heap} {k : Nat} {f : Addr} {fd : FuncData} (F : Fun K "best_line" "best_line" s_best_line f fd) (Z : Blt mg)
    (D_greater_of : Def P w K mg base k "greater_of" ["one", "other"] sp_great) : FnOk P w K mg base CX0 (k + 1) f fd ["begun"] sp_bestl := by
  refine F.ok sc_best_line (fun vs H Q E h => ?_) (fun cdv A outer s H vs Q E hr h => ?_)
  · obtain ⟨a, m, bf, rfl, _⟩ := h
    rfl
  obtain ⟨a, m, bf, rfl, hA, hm, q⟩ := h
  apply Exists.intro
  apply And.intro
  case left =>
    apply pss_cons
    case h1 =>
      exact (ps_set (i := 1) sc_best_line.nd rfl (by first | exact Or.inl rfl | exact Or.inr rfl) (pe_callTy (call_list_ofK (K := K) rfl) rfl Z.list_ PyProof.Rows.boot_list (pa_cons (pv 0) pa_nil)))
    apply pss_cons
    case h1 =>
      apply ps_for PassesOwn.never rfl
      case hi => exact (pi_range3 rfl Z.range_ (pa_cons (pe_op op_sub (pe_callB (call_len_seqK (K := K) rfl) rfl Z.len_ PySem.boot_len (pa_cons (pv 0) pa_nil)) pe_int) (pa_cons (pe_un un_neg pe_int) (pa_cons (pe_un un_neg pe_int) pa_nil))))
      case hg => exact (pg_name (i := 2) sc_best_line.nd rfl (by first | exact Or.inl rfl | exact Or.inr rfl))
      case hb =>
        apply pss_one
        exact (ps_asg (pe_def D_greater_of hr rfl (pa_cons (pe_ix (ix_listK (K := K) rfl) (pv 0) (pv 2) (fun _ _ => rfl)) (pa_cons (pe_ix (ix_listK (K := K) rfl) (pv 1) (pe_op op_add (pv 2) pe_int) (fun _ _ => rfl)) pa_nil))) (pg_sub (pv 1) (pv 2) set_list (fun _ => rfl)))
    apply pss_one
    exact (ps_ret (pv 1))
  have hl : ((lineOf (m + 1) bf).map oV).length = m + 1 := by rw [List.length_map, line_len]
  walk_at "rd"
  refine ⟨a, _, rfl, .inl (SqL.of hA), fun st hst => ?_⟩
  have s1 : Same H (upd H st (.lst ((lineOf (m + 1) bf).map oV))) := Same.new hst _
  walk_at "rd"
  refine ⟨a, _, rfl, .inl (SqL.of (s1 _ _ hA)), ?_⟩
  walk_at "rd"
  refine ⟨_, _, rfl, ⟨by (first | lia | omega), by (first | lia | omega), by (first | lia | omega), by (first | lia | omega)⟩, ?_⟩
  have eN : ((((lineOf (m + 1) bf).map oV).length : Int) - 2 - -1).toNat = m := by (first | lia | omega)
  rw [eN]
  refine for_down (fun i σ H' => ∃ o2, Same H H' ∧ H' st = some (.lst ((lineOf (m + 1) (fun p => if m ≤ p + i then sfx gm none (m + 1) p bf else bf p)).map oV)) ∧ σ = [some (.ref a), some (.ref st), o2]) ⟨none, s1, ?_, rfl⟩ ?_ ?_
  · rw [upd_same]
    refine congrArg (fun z => some (HO.lst (List.map oV z))) (line_ext fun i hi => ?_)
    split
    · rw [sfx_step (by (first | lia | omega)), sfx_end (by (first | lia | omega)), gm_none]
    · rfl
  · rintro i σ H1 hi ⟨o2, sm, hl1, rfl⟩
    have ei : ((((lineOf (m + 1) bf).map oV).length : Int) - 2 - i) = ((m - 1 - i : Nat) : Int) := by (first | lia | omega)
    have hA1 := sm _ _ hA
    rw [ei]
    obtain ⟨p, hp⟩ : ∃ p, p = m - 1 - i := ⟨_, rfl⟩
    rw [← hp]
    have hld := line_down (m := m + 1) (n := m) (i := i) (p := p) (g := fun p => sfx gm none (m + 1) p bf) (e := bf) (by (first | lia | omega))
    walk_at "rd"
    refine ⟨a, _, _, _, rfl, rfl, SqL.of hA1, atO (by (first | lia | omega)), ?_⟩
    walk_at "rd"
    refine ⟨st, _, ((p + 1 : Nat) : Int), _, rfl, by push_cast; rfl, SqL.of hl1, atO (by (first | lia | omega)), ?_⟩
    refine ⟨_, _, rfl, ?_⟩
    rw [if_pos (by (first | lia | omega)), ← sfx_step (op := gm) (e := none) (n := m + 1) (p := p) (f := bf) (by (first | lia | omega))]
    walk_at "rd"
    refine ⟨st, _, _, _, rfl, rfl, hl1, ixN_ok (by (first | lia | omega)) (by rw [List.length_map, line_len]; (first | lia | omega)), ?_⟩
    walk_at "rd"
    refine ⟨_, sm.upd hst, ?_, rfl⟩
    rw [upd_same, show ((p : Nat) : Int).toNat = p by (first | lia | omega), lineV_set, hld]
  · rintro σ H1 ⟨o2, sm, hl1, rfl⟩
    walk_at "rd"
    refine q st H1 sm hst ?_
    rw [hl1]
    refine congrArg (fun z => some (HO.lst (List.map oV z))) (line_ext fun i hi => ?_)
    rw [if_pos (by (first | lia | omega))]
noncomputable def sp_behl : Sp := fun vs H Q _ => ∃ (a : Addr) (m g : Nat) (bf : Nat → Option Int), vs = [.ref a, .int g] ∧ H a = some (.lst ((lineOf (m + 1) bf).map oV)) ∧ m ≤ 40000 ∧
  ∀ (l : Addr) (H' : Hp), Same H H' → H l = none → H' l = some (.lst ((lineOf (m + 1) (fun p => if p + g < m + 1 then bf (p + g) else none)).map oV)) → Q (.ref l) H'
theorem line_drop {n g : Nat} {bf : Nat → Option Int} : (lineOf n bf).drop (min g n) ++ List.replicate (min g n) none = lineOf n (fun p => if p + g < n then bf (p + g) else none) := by
  have ll := line_len (n := n) (g := bf)
  refine List.ext_getElem? fun i => ?_
  by_cases hi : i < n
  · rw [line_at hi]
    by_cases h : i + g < n
    · rw [if_pos h, List.getElem?_append_left (by rw [List.length_drop]; (first | lia | omega)), List.getElem?_drop, show min g n + i = i + g by (first | lia | omega), line_at h]
    · rw [if_neg h, List.getElem?_append_right (by rw [List.length_drop]; (first | lia | omega)), List.length_drop, ll, List.getElem?_replicate, if_pos (by (first | lia | omega))]
  · rw [List.getElem?_eq_none (by rw [List.length_append, List.length_drop, List.length_replicate]; (first | lia | omega)), List.getElem?_eq_none (by rw [line_len]; (first | lia | omega))]
theorem ok_behl {P : Program} {w : World} {K : PySem.W.Frag} {mg : Str → Option Value} {base : Heap} {k : Nat} {f : Addr} {fd : FuncData} (F : Fun K "behind_line" "behind_line" s_behind_line f fd) (Z : Blt mg) : FnOk P w K mg base CX0 (k + 1) f fd ["best", "gap"] sp_behl := by
  refine F.ok sc_behind_line (fun vs H Q E h => ?_) (fun cdv A outer s H vs Q E hr h => ?_)
  · obtain ⟨a, m, g, bf, rfl, _⟩ := h
    rfl
  obtain ⟨a, m, g, bf, rfl, hA, hm, q⟩ := h
  apply Exists.intro
  apply And.intro
  case left =>
    apply pss_one
    exact (ps_ret (pe_op op_cat (pe_slice (sl_listK (K := K) rfl) (pv 0) (po_some (pv 1)) po_none) (pe_op op_rep (pe_lst (pa_cons pe_non pa_nil)) (pe_callB (call_min2 rfl) rfl Z.min_ PyProof.Rows.boot_min (pa_cons (pv 1) (pa_cons (pe_callB (call_len_seqK (K := K) rfl) rfl Z.len_ PySem.boot_len (pa_cons (pv 0) pa_nil)) pa_nil))))))
  have hl : ((lineOf (m + 1) bf).map oV).length = m + 1 := by rw [List.length_map, line_len]
  walk_at "rd"
  refine ⟨a, _, rfl, SqL.of hA, fun p1 hp1 => ?_⟩
  have s1 := Same.new hp1 (.lst (cutV ((lineOf (m + 1) bf).map oV) (some (g : Int)) none))
  walk_at "rd"
  refine ⟨by show 1 ≤ sizeLine; decide, fun p2 hp2 => ?_⟩
  have hp2' := wasNone s1 hp2
  have s2 := s1.upd (o := .lst [.non]) hp2'
  walk_at "rd"
  refine ⟨a, _, rfl, .inl (SqL.of (s2 _ _ hA)), ?_⟩
  refine ⟨_, _, rfl, ?_⟩
  have ek : (if ((((lineOf (m + 1) bf).map oV).length : Nat) : Int) < (g : Int) then ((((lineOf (m + 1) bf).map oV).length : Nat) : Int) else (g : Int)) = ((min g (m + 1) : Nat) : Int) := by
    rw [hl]
    split <;> (first | lia | omega)
  rw [ek]
  refine ⟨p2, _, _, rfl, rfl, upd_same, by (first | lia | omega), by (first | lia | omega), ?_, fun p3 hp3 => ?_⟩
  · show 1 * ((min g (m + 1) : Nat) : Int).toNat ≤ sizeLine
    exact Nat.le_of_lt (small (by (first | lia | omega)))
  have hp3' := wasNone s2 hp3
  have s3 := s2.upd (o := .lst (List.replicate ((min g (m + 1) : Nat) : Int).toNat [V.non]).flatten) hp3'
  have e1 : p1 ≠ p2 := fun z => by rw [z, upd_same] at hp2; cases hp2
  have e2 : p1 ≠ p3 := fun z => by rw [← z, upd_ne e1, upd_same] at hp3; cases hp3
  have ec : cutV ((lineOf (m + 1) bf).map oV) (some (g : Int)) none = ((lineOf (m + 1) bf).drop (min g (m + 1))).map oV := by
    unfold cutV
    rw [HT.sIx_nat, HT.sIx_none, hl, List.map_drop, List.take_of_length_le (by rw [List.length_drop, hl]; (first | lia | omega))]
  refine ⟨p1, p3, _, _, rfl, rfl, by rw [upd_ne e2, upd_ne e1, upd_same], upd_same, ?_, fun p4 hp4 => ?_⟩
  · refine Nat.le_of_lt (small ?_)
    have := cutV_length ((lineOf (m + 1) bf).map oV) (some (g : Int)) none
    rw [flat_rep, List.length_replicate]
    (first | lia | omega)
  have hp4' := wasNone s3 hp4
  refine q p4 _ (s3.upd hp4') hp4' ?_
  rw [upd_same, ec, show ((min g (m + 1) : Nat) : Int).toNat = min g (m + 1) from rfl, show V.non = oV none from rfl, line_rep, ← List.map_append]
  have er : lineOf (min g (m + 1)) (fun _ => none) = List.replicate (min g (m + 1)) none := by
    unfold lineOf
    rw [List.map_const', List.length_range]
  rw [er, line_drop]
noncomputable def bgV (ns : List Int) (g : Nat) : Nat → Nat → Option Int
  | 0, _ => some 0
  | c + 1, p => val (fg ns g c p)
noncomputable def LnAt (H : Hp) (ns : List Int) (g c : Nat) (d : Addr) : Prop := ∃ a b e : Addr, H d = some (.dK [(.inr "begun", .ref a), (.inr "best", .ref b), (.inr "behind", .ref e)]) ∧ H a = some (.lst ((lineOf (ns.length + 1) (bgV ns g c)).map oV)) ∧ H b = some (.lst ((lineOf (ns.length + 1) (fun p => val (fb ns g c p))).map oV)) ∧ H e = some (.lst ((lineOf (ns.length + 1) (fun p => val (fb ns g c (p + g)))).map oV))
theorem LnAt.keep {H H' : Hp} {ns : List Int} {g c : Nat} {d : Addr} (h : LnAt H ns g c d) (s : Same H H') : LnAt H' ns g c d := by
  obtain ⟨a, b, e, h1, h2, h3, h4⟩ := h
  exact ⟨a, b, e, s _ _ h1, s _ _ h2, s _ _ h3, s _ _ h4⟩
theorem LnAt.upd {H : Hp} {ns : List Int} {g c : Nat} {l d d0 : Addr} {xs ys : List V} (h : LnAt H ns g c d) (hl : H l = some (.lst xs)) (h0 : xs[0]? = some (.ref d0)) : LnAt (upd H l (.lst ys)) ns g c d := by
  obtain ⟨a, b, e, h1, h2, h3, h4⟩ := h
  exact ⟨a, b, e, by rw [upd_ne (fun z => by rw [z, hl] at h1; cases h1)]; exact h1, by rw [upd_ne (line_ne hl h0 h2)]; exact h2, by rw [upd_ne (line_ne hl h0 h3)]; exact h3, by rw [upd_ne (line_ne hl h0 h4)]; exact h4⟩
noncomputable def Lns (H : Hp) (ns : List Int) (g m : Nat) (xs : List V) : Prop := xs.length = m ∧ ∀ c, c < m → ∃ d, xs[c]? = some (.ref d) ∧ LnAt H ns g c d
noncomputable def sp_lines : Sp := fun vs H Q _ => ∃ (r : Addr) (ns : List Int) (m g : Nat), vs = [.ref r, .int m, .int g] ∧ H r = some (.lst (ns.map V.int)) ∧ ns.length ≤ 20000 ∧ m ≤ 40000 ∧
  ∀ (l : Addr) (xs : List V) (H' : Hp), Same H H' → H l = none → H' l = some (.lst xs) → Lns H' ns g (m + 1) xs → Q (.ref l) H'
theorem ok_lines {P : Program} {w : World} {K : PySem.W.Frag} {mg : Str → Option Value} {base : Heap} {k : Nat} {f : Addr} {fd : FuncData} (F : Fun K "lines_of" "lines_of" s_lines_of f fd) (Z : Blt mg)
    (D_begun_line : Def P w K mg base k "begun_line" ["row", "behind"] sp_begun) (D_best_line : Def P w K mg base k "best_line" ["begun"] sp_bestl) (D_behind_line : Def P w K mg base k "behind_line" ["best", "gap"] sp_behl) : FnOk P w K mg base CX0 (k + 1) f fd ["row", "many", "gap"] sp_lines := by
  refine F.ok sc_lines_of (fun vs H Q E h => ?_) (fun cdv A outer s H vs Q E hr h => ?_)
  · obtain ⟨r, ns, m, g, rfl, _⟩ := h
    rfl
  obtain ⟨r, ns, m, g, rfl, hR, hn, hm, q⟩ := h
  apply Exists.intro
  apply And.intro
  case left =>
    apply pss_cons
    case h1 =>
      exact (ps_set (i := 3) sc_lines_of.nd rfl (by first | exact Or.inl rfl | exact Or.inr rfl) (pe_op op_rep (pe_lst (pa_cons pe_int pa_nil)) (pe_op op_add (pe_callB (call_len_seqK (K := K) rfl) rfl Z.len_ PySem.boot_len (pa_cons (pv 0) pa_nil)) pe_int)))
    apply pss_cons
    case h1 =>
      exact (ps_set (i := 4) sc_lines_of.nd rfl (by first | exact Or.inl rfl | exact Or.inr rfl) (pe_lst (pa_cons (pe_disp (pps_cons pe_str (pv 3) (pps_cons pe_str (pv 3) (pps_cons pe_str (pv 3) pps_nil))) rfl rfl (List.cons_ne_nil _ _) (by decide)) pa_nil)))
    apply pss_cons
    case h1 =>
      apply ps_for PassesOwn.never rfl
      case hi => exact (pi_range2 rfl Z.range_ (pa_cons pe_int (pa_cons (pe_op op_add (pv 1) pe_int) pa_nil)))
      case hg => exact (pg_name (i := 5) sc_lines_of.nd rfl (by first | exact Or.inl rfl | exact Or.inr rfl))
      case hb =>
        apply pss_cons
        case h1 =>
          exact (ps_set (i := 6) sc_lines_of.nd rfl (by first | exact Or.inl rfl | exact Or.inr rfl) (pe_def D_begun_line hr rfl (pa_cons (pv 0) (pa_cons (pe_dget (hu_of hr) (pe_ix (ix_listK (K := K) rfl) (pv 4) (pe_op op_sub (pv 5) pe_int) (fun _ _ => rfl)) pe_str (fun _ _ => rfl)) pa_nil))))
        apply pss_cons
        case h1 =>
          exact (ps_set (i := 7) sc_lines_of.nd rfl (by first | exact Or.inl rfl | exact Or.inr rfl) (pe_def D_best_line hr rfl (pa_cons (pv 6) pa_nil)))
        apply pss_one
        exact (ps_expr (pe_bmK (K := K) rfl PySem.F.plainAttrs_list PySem.F.slot_list_append PySem.F.type_list_append mt_append (pv 4) (pa_cons (pe_disp (pps_cons pe_str (pv 6) (pps_cons pe_str (pv 7) (pps_cons pe_str (pe_def D_behind_line hr rfl (pa_cons (pv 7) (pa_cons (pv 2) pa_nil))) pps_nil))) rfl rfl (List.cons_ne_nil _ _) (by decide)) pa_nil)))
    apply pss_one
    exact (ps_ret (pv 4))
  have hl : (ns.map V.int).length = ns.length := List.length_map _
  walk_at "rd"
  refine ⟨by show 1 ≤ sizeLine; decide, fun p1 hp1 => ?_⟩
  have s1 := Same.new hp1 (.lst [.int 0])
  walk_at "rd"
  refine ⟨r, _, rfl, .inl (SqL.of (s1 _ _ hR)), ?_⟩
  walk_at "rd"
  rw [hl]
  refine ⟨p1, _, _, rfl, rfl, upd_same, by (first | lia | omega), by (first | lia | omega), ?_, fun p2 hp2 => ?_⟩
  · show 1 * ((ns.length : Int) + 1).toNat ≤ sizeLine
    exact Nat.le_of_lt (small (by (first | lia | omega)))
  have hp2' := wasNone s1 hp2
  have s2 := s1.upd (o := .lst (List.replicate ((ns.length : Int) + 1).toNat [V.int 0]).flatten) hp2'
  have h2 : upd (upd H p1 (.lst [.int 0])) p2 (.lst (List.replicate ((ns.length : Int) + 1).toNat [V.int 0]).flatten) p2 = some (.lst ((lineOf (ns.length + 1) (fun _ => some 0)).map oV)) := by
    rw [upd_same, show ((ns.length : Int) + 1).toNat = ns.length + 1 by (first | lia | omega), show V.int 0 = oV (some 0) from rfl, line_rep]
  generalize upd (upd H p1 (.lst [.int 0])) p2 (.lst (List.replicate ((ns.length : Int) + 1).toNat [V.int 0]).flatten) = H2 at s2 h2 ⊢
  walk_at "rd"
  intro p3 hp3
  walk_at "rd"
  refine ⟨upd_same, [(.inr "begun", .ref p2), (.inr "best", .ref p2), (.inr "behind", .ref p2)], rfl, (by show 3 ≤ 15; decide), ?_⟩
  have hp3' := wasNone s2 hp3
  have L0 : LnAt (upd (upd H2 p3 (.dK [])) p3 (.dK (mergeK [] [(.inr "begun", .ref p2), (.inr "best", .ref p2), (.inr "behind", .ref p2)]))) ns g 0 p3 := by
    have h2' : upd (upd H2 p3 (.dK [])) p3 (.dK (mergeK [] [(.inr "begun", .ref p2), (.inr "best", .ref p2), (.inr "behind", .ref p2)])) p2 = some (.lst ((lineOf (ns.length + 1) (fun _ => some 0)).map oV)) := by
      have e : p2 ≠ p3 := fun z => by rw [← z, h2] at hp3; cases hp3
      rw [upd_ne e, upd_ne e, h2]
    refine ⟨p2, p2, p2, by rw [upd_same]; rfl, h2', ?_, ?_⟩
    · rw [h2']
      exact congrArg (fun z => some (HO.lst (List.map oV z))) (line_ext fun i hi => by rw [fb_zero]; rfl)
    · rw [h2']
      exact congrArg (fun z => some (HO.lst (List.map oV z))) (line_ext fun i hi => by rw [fb_zero]; rfl)
  have s3 := (s2.upd (o := .dK []) hp3').upd (o := .dK (mergeK [] [(.inr "begun", .ref p2), (.inr "best", .ref p2), (.inr "behind", .ref p2)])) hp3'
  generalize upd (upd H2 p3 (.dK [])) p3 (.dK (mergeK [] [(.inr "begun", .ref p2), (.inr "best", .ref p2), (.inr "behind", .ref p2)])) = H3 at s3 L0 ⊢
  walk_at "rd"
  refine ⟨by show 1 ≤ sizeLine; decide, fun l hl0 => ?_⟩
  have hl0' := wasNone s3 hl0
  have s4 := s3.upd (o := .lst [.ref p3]) hl0'
  walk_at "rd"
  refine ⟨_, _, rfl, ⟨by (first | lia | omega), by (first | lia | omega), by (first | lia | omega), by (first | lia | omega)⟩, ?_⟩
  rw [show ((m : Int) + 1 - 1).toNat = m by (first | lia | omega)]
  refine for_range (fun i σ H' => ∃ xs o5 o6 o7, Same H H' ∧ H' l = some (.lst xs) ∧ Lns H' ns g (i + 1) xs ∧ σ = [some (.ref r), some (.int m), some (.int g), some (.ref p2), some (.ref l), o5, o6, o7]) ⟨_, none, none, none, s4, upd_same, ⟨rfl, fun c hc => ?_⟩, rfl⟩ ?_ ?_
  · have : c = 0 := by (first | lia | omega)
    subst this
    exact ⟨p3, rfl, L0.keep (Same.new hl0 _)⟩
  · rintro i σ H4 hi ⟨xs, o5, o6, o7, sm, hl4, ⟨hx, hc⟩, rfl⟩
    have hR4 := sm _ _ hR
    obtain ⟨d, hd, a, b, e, hd1, ha, hb, he⟩ := hc i (by (first | lia | omega))
    obtain ⟨d0, hd0, _⟩ := hc 0 (by (first | lia | omega))
    walk_at "rd"
    refine ⟨l, _, ((i : Nat) : Int), _, rfl, (by show V.int ((1 : Int) + i - 1) = _; rw [show (1 : Int) + i - 1 = i by (first | lia | omega)]), SqL.of hl4, atI_nat hd, ?_⟩
    walk_at "rd"
    refine ⟨d, _, rfl, (show DGet _ _ (.str "behind") (some (.ref e)) from DGet.k (k := .inr "behind") hd1), ?_⟩
    refine ⟨r, e, ns, _, rfl, hR4, he, by (first | lia | omega), fun lb H5 s5 hlb0 hlb => ?_⟩
    walk_at "rd"
    refine ⟨lb, ns.length, _, rfl, hlb, by (first | lia | omega), fun lt H6 s6 hlt0 hlt => ?_⟩
    have s46 : Same H4 H6 := fun b o z => s6 _ _ (s5 _ _ z)
    have hl6 := s46 _ _ hl4
    walk_at "rd"
    refine ⟨.inl ⟨rfl, _, SqL.of hl6⟩, ?_⟩
    walk_at "rd"
    intro pd hpd
    have s7 := Same.new hpd (.dK [])
    walk_at "rd"
    refine ⟨lt, ns.length, g, _, rfl, s7 _ _ hlt, by (first | lia | omega), fun le H7 s8 hle0 hle => ?_⟩
    have s67 : Same H6 H7 := fun b o z => s8 _ _ (s7 _ _ z)
    have s47 : Same H4 H7 := fun b o z => s67 _ _ (s46 _ _ z)
    have hpd4 : H4 pd = none := wasNone s46 hpd
    refine ⟨s8 _ _ upd_same, [(.inr "begun", .ref lb), (.inr "best", .ref lt), (.inr "behind", .ref le)], rfl, (by show 3 ≤ 15; decide), ?_⟩
    have s48 := s47.upd (o := .dK (mergeK [] [(.inr "begun", .ref lb), (.inr "best", .ref lt), (.inr "behind", .ref le)])) hpd4
    have nle : le ≠ pd := fun z => by rw [z, s8 _ _ upd_same] at hle; cases hle
    have nlt : lt ≠ pd := fun z => by rw [← z, hlt] at hpd; cases hpd
    have nlb : lb ≠ pd := fun z => by rw [← z, s6 _ _ hlb] at hpd; cases hpd
    have fgE : ∀ p, bgF ns (fun p => val (fb ns g i (p + g))) p = val (fg ns g i p) := bg_fg fun b _ => rfl
    have fbE : ∀ p, sfx gm none (ns.length + 1) p (bgF ns (fun p => val (fb ns g i (p + g)))) = val (fb ns g (i + 1) p) := by
      refine sfx_ind (n := ns.length) (fun p hp => ?_) (fun p hp ih => ?_)
      · rw [fb_end hp]
        by_cases z : p < ns.length + 1
        · rw [sfx_step z, sfx_end (by (first | lia | omega)), gm_none, bg_end hp]
          rfl
        · rw [sfx_end (by (first | lia | omega))]
          rfl
      · rw [sfx_step (by (first | lia | omega)), ih, fgE, fb_val hp]
    have L1 : LnAt (upd H7 pd (.dK (mergeK [] [(.inr "begun", .ref lb), (.inr "best", .ref lt), (.inr "behind", .ref le)]))) ns g (i + 1) pd := by
      refine ⟨lb, lt, le, by rw [upd_same]; rfl, ?_, ?_, ?_⟩
      · rw [upd_ne nlb, s67 _ _ (s6 _ _ hlb)]
        exact congrArg (fun z => some (HO.lst (List.map oV z))) (line_ext fun j _ => fgE j)
      · rw [upd_ne nlt, s67 _ _ hlt]
        exact congrArg (fun z => some (HO.lst (List.map oV z))) (line_ext fun j _ => fbE j)
      · rw [upd_ne nle, hle]
        refine congrArg (fun z => some (HO.lst (List.map oV z))) (line_ext fun j _ => ?_)
        rw [fbE]
        split
        · rfl
        · rw [fb_end (by (first | lia | omega))]
          rfl
    generalize upd H7 pd (.dK (mergeK [] [(.inr "begun", .ref lb), (.inr "best", .ref lt), (.inr "behind", .ref le)])) = H8 at s48 L1 ⊢
    have hl8 := s48 _ _ hl4
    walk_at "rd"
    refine ⟨l, _, _, rfl, rfl, hl8, small (by (first | lia | omega)), ?_⟩
    refine ⟨_, _, _, _, (show Same H H8 from fun b o z => s48 _ _ (sm _ _ z)).upd hl0', upd_same, ⟨by rw [List.length_append, hx]; rfl, fun c hc' => ?_⟩, rfl⟩
    by_cases z : c = i + 1
    · subst z
      exact ⟨pd, by rw [List.getElem?_append_right (by (first | lia | omega)), hx, Nat.sub_self]; rfl, L1.upd hl8 hd0⟩
    · obtain ⟨dc, hdc, Lc⟩ := hc c (by (first | lia | omega))
      exact ⟨dc, by rw [List.getElem?_append_left (by (first | lia | omega))]; exact hdc, (Lc.keep s48).upd hl8 hd0⟩
  · rintro σ H4 ⟨xs, o5, o6, o7, sm, hl4, hL, rfl⟩
    walk_at "rd"
    exact q l xs H4 sm hl0' hl4 hL
noncomputable def Pairs (H : Hp) (xs : List V) (ps : List (Int × Int)) : Prop := xs.length = ps.length ∧ ∀ (j : Nat) x, xs[j]? = some x → ∃ (t : Addr) (p : Int × Int), ps[j]? = some p ∧ x = .ref t ∧ H t = some (.tup [.int p.1, .int p.2])
theorem Pairs.keep {H H' : Hp} {xs : List V} {ps : List (Int × Int)} (h : Pairs H xs ps) (s : Same H H') : Pairs H' xs ps := ⟨h.1, fun j x e => by
  obtain ⟨t, p, h1, h2, h3⟩ := h.2 j x e
  exact ⟨t, p, h1, h2, s _ _ h3⟩⟩
theorem Pairs.keepL {H H' : Hp} {xs : List V} {ps : List (Int × Int)} {l : Addr} {o : List V} (h : Pairs H xs ps) (hl : H l = some (.lst o)) (s : ∀ b u, b ≠ l → H b = some u → H' b = some u) : Pairs H' xs ps := ⟨h.1, fun j x e => by
  obtain ⟨t, p, h1, h2, h3⟩ := h.2 j x e
  exact ⟨t, p, h1, h2, s _ _ (fun z => by subst z; rw [hl] at h3; cases h3) h3⟩⟩
theorem Pairs.nil {H : Hp} : Pairs H [] [] := ⟨rfl, fun j x e => by cases e⟩
theorem Pairs.snoc {H : Hp} {xs : List V} {ps : List (Int × Int)} {t : Addr} {a b : Int} (h : Pairs H xs ps) (ht : H t = some (.tup [.int a, .int b])) : Pairs H (xs ++ [.ref t]) (ps ++ [(a, b)]) := ⟨by rw [List.length_append, List.length_append, h.1]; rfl, fun j x e => by
  by_cases hj : j < xs.length
  · rw [List.getElem?_append_left hj] at e
    obtain ⟨t', p, h1, h2, h3⟩ := h.2 j x e
    refine ⟨t', p, ?_, h2, h3⟩
    rw [List.getElem?_append_left (by rw [← h.1]; exact hj)]
    exact h1
  · rw [List.getElem?_append_right (by (first | lia | omega))] at e
    have hj0 : j - xs.length = 0 := by
      cases z : j - xs.length with
      | zero => rfl
      | succ n => rw [z] at e; cases e
    rw [hj0] at e
    cases e
    refine ⟨t, (a, b), ?_, rfl, ht⟩
    rw [List.getElem?_append_right (by rw [← h.1]; (first | lia | omega)), ← h.1, hj0]
    rfl⟩
theorem oV_inj {u v : Option Int} : oV u = oV v ↔ u = v := by cases u <;> cases v <;> simp [oV]
theorem scal_oV {u v : Option Int} : scal (oV u) (oV v) = true := by cases u <;> cases v <;> rfl
theorem ifNe {u v : Option Int} {A B : Prop} (h1 : u ≠ v → A) (h2 : u = v → B) : if (!decide (oV u = oV v)) = true then A else B := by
  by_cases h : u = v
  · rw [if_neg (by rw [decide_eq_true (oV_inj.mpr h)]; decide)]
    exact h2 h
  · rw [if_pos (by rw [decide_eq_false (fun z => h (oV_inj.mp z))]; rfl)]
    exact h1 h
noncomputable def prI (p : Nat × Nat) : Int × Int := ((p.1 : Int), (p.2 : Int))
theorem dBegun {H : Hp} {d : Addr} {a b e : Addr} (h : H d = some (.dK [(.inr "begun", .ref a), (.inr "best", .ref b), (.inr "behind", .ref e)])) : DGet H d (.str "begun") (some (.ref a)) := DGet.k (k := .inr "begun") h
theorem dBest {H : Hp} {d : Addr} {a b e : Addr} (h : H d = some (.dK [(.inr "begun", .ref a), (.inr "best", .ref b), (.inr "behind", .ref e)])) : DGet H d (.str "best") (some (.ref b)) := DGet.k (k := .inr "best") h
theorem dBehind {H : Hp} {d : Addr} {a b e : Addr} (h : H d = some (.dK [(.inr "begun", .ref a), (.inr "best", .ref b), (.inr "behind", .ref e)])) : DGet H d (.str "behind") (some (.ref e)) := DGet.k (k := .inr "behind") h
theorem fb_lt {ns : List Int} {g c p : Nat} {x : SL} (h : fb ns g (c + 1) p = some x) : p < ns.length := by
  refine Nat.lt_of_not_le fun z => ?_
  rw [fb_end z] at h
  cases h
noncomputable def sumL (ns : List Int) (L : List (Nat × Nat)) : Int := (L.map fun p => psum ns p.2 - psum ns p.1).sum
noncomputable def fm (ns : List Int) (ls : List (List (Nat × Nat))) : Option SL := (ls.map fun L => some (sumL ns L, L)).foldr cb none
theorem cb_assoc (a b c : Option SL) : cb (cb a b) c = cb a (cb b c) := by
  cases a with
  | none => rfl
  | some x =>
    cases b with
    | none => rfl
    | some y =>
      cases c with
      | none => rfl
      | some z =>
        show some (if z.1 > (if y.1 > x.1 then y else x).1 then z else (if y.1 > x.1 then y else x)) = some (if (if z.1 > y.1 then z else y).1 > x.1 then (if z.1 > y.1 then z else y) else x)
        by_cases h1 : y.1 > x.1
        · rw [if_pos h1]
          by_cases h2 : z.1 > y.1
          · rw [if_pos h2, if_pos (by (first | lia | omega))]
          · rw [if_neg h2, if_pos h1]
        · rw [if_neg h1]
          by_cases h2 : z.1 > y.1
          · rw [if_pos h2]
          · rw [if_neg h2, if_neg h1, if_neg (by (first | lia | omega))]
theorem cb_foldr {xs : List (Option SL)} {z : Option SL} : xs.foldr cb z = cb (xs.foldr cb none) z := by
  induction xs with
  | nil => rfl
  | cons x xs ih => rw [List.foldr_cons, List.foldr_cons, ih, cb_assoc]
theorem fm_app {ns : List Int} {A B : List (List (Nat × Nat))} : fm ns (A ++ B) = cb (fm ns A) (fm ns B) := by
  unfold fm
  rw [List.map_append, List.foldr_append, cb_foldr]
theorem cb_map {ns : List Int} {f b : Nat} {x y : Option SL} : (cb x y).map (put1 ns f b) = cb (x.map (put1 ns f b)) (y.map (put1 ns f b)) := by
  cases x with
  | none => rfl
  | some x =>
    cases y with
    | none => rfl
    | some y =>
      show some (put1 ns f b (if y.1 > x.1 then y else x)) = some (if (put1 ns f b y).1 > (put1 ns f b x).1 then put1 ns f b y else put1 ns f b x)
      have e1 : (put1 ns f b y).1 = psum ns b - psum ns f + y.1 := rfl
      have e2 : (put1 ns f b x).1 = psum ns b - psum ns f + x.1 := rfl
      by_cases h : y.1 > x.1
      · rw [if_pos h, if_pos (by (first | lia | omega))]
      · rw [if_neg h, if_neg (by (first | lia | omega))]
theorem fm_cons {ns : List Int} {f b : Nat} : ∀ {ls : List (List (Nat × Nat))}, fm ns (ls.map ((f, b) :: ·)) = (fm ns ls).map (put1 ns f b)
  | [] => rfl
  | L :: ls => by
    have ih := fm_cons (ns := ns) (f := f) (b := b) (ls := ls)
    have e : fm ns (L :: ls) = cb (some (sumL ns L, L)) (fm ns ls) := rfl
    have e' : fm ns ((L :: ls).map ((f, b) :: ·)) = cb (some (sumL ns ((f, b) :: L), (f, b) :: L)) (fm ns (ls.map ((f, b) :: ·))) := rfl
    rw [e, e', ih, cb_map]
    rfl
theorem fm_flat {ns : List Int} {F : Nat → List (List (Nat × Nat))} : ∀ {m p : Nat}, fm ns ((List.range' p m).flatMap F) = sfx cb none (p + m) p (fun f => fm ns (F f))
  | 0, p => by rw [sfx_end (by (first | lia | omega))]; rfl
  | m + 1, p => by
    rw [List.range'_succ, List.flatMap_cons, fm_app, fm_flat (m := m) (p := p + 1), show p + 1 + m = p + (m + 1) by (first | lia | omega), sfx_step (n := p + (m + 1)) (p := p) (by (first | lia | omega))]
noncomputable def evB (S : Nat → List (List (Nat × Nat))) (f j : Nat) : List (List (Nat × Nat)) := (List.range' (f + 1) j).flatMap fun b => (S b).map ((f, b) :: ·)
noncomputable def evA (n : Nat) (S : Nat → List (List (Nat × Nat))) (p i : Nat) : List (List (Nat × Nat)) := (List.range' p i).flatMap fun f => evB S f (n - f)
noncomputable def ev (n g : Nat) : Nat → Nat → List (List (Nat × Nat))
  | 0, _ => [[]]
  | c + 1, p => evA n (fun b => ev n g c (b + g)) p (n - p)
theorem fm_ev {ns : List Int} {g : Nat} : ∀ {c p : Nat}, fm ns (ev ns.length g c p) = fb ns g c p
  | 0, p => by rw [fb_zero]; rfl
  | c + 1, p => by
    have key : ∀ f, f < ns.length → fm ns (evB (fun b => ev ns.length g c (b + g)) f (ns.length - f)) = fg ns g c f := fun f hf => by
      unfold evB
      rw [fm_flat, show f + 1 + (ns.length - f) = ns.length + 1 by (first | lia | omega)]
      unfold fg fgt
      congr 1
      funext b
      rw [fm_cons, fm_ev]
    rw [ev]
    unfold evA
    rw [fm_flat]
    by_cases hp : p ≤ ns.length
    · rw [show p + (ns.length - p) = ns.length by (first | lia | omega)]
      refine sfx_ind (n := ns.length) (C := fun q => sfx cb none ns.length q (fun f => fm ns (evB (fun b => ev ns.length g c (b + g)) f (ns.length - f))) = fb ns g (c + 1) q) (fun q hq => ?_) (fun q hq ih => ?_) p
      · rw [sfx_end hq, fb_end hq]
      · rw [sfx_step hq, ih, key q hq, ← fb_step hq]
    · rw [sfx_end (by (first | lia | omega)), fb_end (by (first | lia | omega))]
noncomputable def WfL (n : Nat) (L : List (Nat × Nat)) : Prop := ∀ q, q ∈ L → q.1 < q.2 ∧ q.2 ≤ n
theorem ev_wf {n g : Nat} : ∀ {c p : Nat} {L : List (Nat × Nat)}, L ∈ ev n g c p → WfL n L ∧ L.length = c
  | 0, p, L, h => by
    cases List.mem_singleton.mp h
    exact ⟨fun q hq => absurd hq List.not_mem_nil, rfl⟩
  | c + 1, p, L, h => by
    obtain ⟨f, hf, h1⟩ := List.mem_flatMap.mp (show L ∈ (List.range' p (n - p)).flatMap fun f => evB (fun b => ev n g c (b + g)) f (n - f) from h)
    obtain ⟨b, hb, h2⟩ := List.mem_flatMap.mp h1
    obtain ⟨M, hM, rfl⟩ := List.mem_map.mp h2
    obtain ⟨w1, w2⟩ := ev_wf hM
    have hf' := List.mem_range'_1.mp hf
    have hb' := List.mem_range'_1.mp hb
    refine ⟨fun q hq => ?_, by rw [List.length_cons, w2]⟩
    rcases List.mem_cons.mp hq with rfl | hq
    · exact ⟨by show f < b; (first | lia | omega), by show b ≤ n; (first | lia | omega)⟩
    · exact w1 q hq
theorem fm_mem {ns : List Int} : ∀ {ls : List (List (Nat × Nat))} {x : SL}, fm ns ls = some x → x.2 ∈ ls ∧ x.1 = sumL ns x.2
  | [], x, h => by cases h
  | L :: ls, x, h => by
    have e : fm ns (L :: ls) = cb (some (sumL ns L, L)) (fm ns ls) := rfl
    rw [e] at h
    rcases cb_or (some (sumL ns L, L)) (fm ns ls) with z | z
    · rw [z] at h
      cases h
      exact ⟨List.mem_cons_self, rfl⟩
    · rw [z] at h
      obtain ⟨h1, h2⟩ := fm_mem h
      exact ⟨List.mem_cons_of_mem _ h1, h2⟩
noncomputable def LLs (ok : Addr → Prop) (H : Hp) (xs : List V) (ls : List (List (Nat × Nat))) : Prop := xs.length = ls.length ∧ ∀ (j : Nat) x, xs[j]? = some x → ∃ (a : Addr) (ys : List V) (L : List (Nat × Nat)), ls[j]? = some L ∧ x = .ref a ∧ ok a ∧ H a = some (.lst ys) ∧ Pairs H ys (L.map prI)
noncomputable def Okl (n g p : Nat) (L : List (Nat × Nat)) : Prop := (∀ q, q ∈ L → p ≤ q.1 ∧ q.1 < q.2 ∧ q.2 ≤ n) ∧ L.Pairwise (fun q r => q.2 + g ≤ r.1)
theorem Okl.cons {n g p f b : Nat} {L : List (Nat × Nat)} : Okl n g p ((f, b) :: L) ↔ (p ≤ f ∧ f < b ∧ b ≤ n) ∧ Okl n g (b + g) L := by
  unfold Okl
  rw [List.pairwise_cons]
  constructor
  · rintro ⟨h1, h2, h3⟩
    have h0 := h1 (f, b) List.mem_cons_self
    refine ⟨h0, fun q hq => ?_, h3⟩
    have := h1 q (List.mem_cons_of_mem _ hq)
    exact ⟨h2 q hq, this.2⟩
  · rintro ⟨h0, h1, h2⟩
    refine ⟨fun q hq => ?_, fun q hq => (h1 q hq).1, h2⟩
    rcases List.mem_cons.mp hq with rfl | hq
    · exact h0
    · have := h1 q hq
      exact ⟨by (first | lia | omega), this.2⟩
theorem ev_iff {n g : Nat} : ∀ {c p : Nat} {L : List (Nat × Nat)}, L ∈ ev n g c p ↔ Okl n g p L ∧ L.length = c
  | 0, p, L => by
    rw [show ev n g 0 p = [[]] from rfl, List.mem_singleton]
    constructor
    · rintro rfl
      exact ⟨⟨fun q hq => absurd hq List.not_mem_nil, List.Pairwise.nil⟩, rfl⟩
    · rintro ⟨_, h⟩
      exact List.eq_nil_of_length_eq_zero h
  | c + 1, p, L => by
    have e : (L ∈ ev n g (c + 1) p) ↔ ∃ f, f ∈ List.range' p (n - p) ∧ ∃ b, b ∈ List.range' (f + 1) (n - f) ∧ ∃ M, M ∈ ev n g c (b + g) ∧ (f, b) :: M = L := by
      show (L ∈ (List.range' p (n - p)).flatMap fun f => evB (fun b => ev n g c (b + g)) f (n - f)) ↔ _
      rw [List.mem_flatMap]
      constructor
      · rintro ⟨f, hf, h⟩
        obtain ⟨b, hb, h⟩ := List.mem_flatMap.mp h
        obtain ⟨M, hM, h⟩ := List.mem_map.mp h
        exact ⟨f, hf, b, hb, M, hM, h⟩
      · rintro ⟨f, hf, b, hb, M, hM, h⟩
        exact ⟨f, hf, List.mem_flatMap.mpr ⟨b, hb, List.mem_map.mpr ⟨M, hM, h⟩⟩⟩
    rw [e]
    constructor
    · rintro ⟨f, hf, b, hb, M, hM, rfl⟩
      have hf' := List.mem_range'_1.mp hf
      have hb' := List.mem_range'_1.mp hb
      obtain ⟨h1, h2⟩ := ev_iff.mp hM
      exact ⟨Okl.cons.mpr ⟨⟨by (first | lia | omega), by (first | lia | omega), by (first | lia | omega)⟩, h1⟩, by rw [List.length_cons, h2]⟩
    · rintro ⟨h1, h2⟩
      match L, h1, h2 with
      | (f, b) :: M, h1, h2 =>
        obtain ⟨h0, h3⟩ := Okl.cons.mp h1
        exact ⟨f, List.mem_range'_1.mpr (by (first | lia | omega)), b, List.mem_range'_1.mpr (by (first | lia | omega)), M, ev_iff.mpr ⟨h3, by rw [List.length_cons] at h2; (first | lia | omega)⟩, rfl⟩
theorem fm_max {ns : List Int} : ∀ {ls : List (List (Nat × Nat))} {L : List (Nat × Nat)}, L ∈ ls → ∃ x, fm ns ls = some x ∧ sumL ns L ≤ x.1
  | M :: ls, L, h => by
    have e : fm ns (M :: ls) = cb (some (sumL ns M, M)) (fm ns ls) := rfl
    rw [e]
    rcases List.mem_cons.mp h with rfl | h
    · cases fm ns ls with
      | none => exact ⟨_, rfl, Int.le_refl _⟩
      | some y => exact ⟨_, rfl, by show sumL ns L ≤ (if y.1 > sumL ns L then y else (sumL ns L, L)).1; split; (first | lia | omega); exact Int.le_refl _⟩
    · obtain ⟨x, hx, hle⟩ := fm_max h
      rw [hx]
      exact ⟨_, rfl, by show sumL ns L ≤ (if x.1 > sumL ns M then x else (sumL ns M, M)).1; split; exact hle; show sumL ns L ≤ sumL ns M; (first | lia | omega)⟩
theorem fb_le {ns : List Int} {g c p : Nat} {L : List (Nat × Nat)} (hL : Okl ns.length g p L) (hc : L.length = c) : ∃ x, fb ns g c p = some x ∧ sumL ns L ≤ x.1 := by
  rw [← fm_ev]
  exact fm_max (ev_iff.mpr ⟨hL, hc⟩)
theorem fb_ok {ns : List Int} {g c p : Nat} {x : SL} (h : fb ns g c p = some x) : Okl ns.length g p x.2 ∧ x.2.length = c ∧ x.1 = sumL ns x.2 := by
  rw [← fm_ev] at h
  obtain ⟨h1, h2⟩ := fm_mem h
  obtain ⟨h3, h4⟩ := ev_iff.mp h1
  exact ⟨h3, h4, h2⟩
theorem val_le {ns ns' : List Int} {g g' c c' p p' : Nat} (T : List (Nat × Nat) → List (Nat × Nat)) (hT : ∀ L, Okl ns.length g p L → L.length = c → Okl ns'.length g' p' (T L) ∧ (T L).length = c' ∧ sumL ns L ≤ sumL ns' (T L)) {x : SL} (hx : fb ns g c p = some x) : ∃ y, fb ns' g' c' p' = some y ∧ x.1 ≤ y.1 := by
  obtain ⟨h1, h2, h3⟩ := fb_ok hx
  obtain ⟨h4, h5, h6⟩ := hT x.2 h1 h2
  obtain ⟨y, hy, hle⟩ := fb_le h4 h5
  exact ⟨y, hy, by (first | lia | omega)⟩
theorem val_eq {ns ns' : List Int} {g g' c c' p p' : Nat} (T U : List (Nat × Nat) → List (Nat × Nat)) (hT : ∀ L, Okl ns.length g p L → L.length = c → Okl ns'.length g' p' (T L) ∧ (T L).length = c' ∧ sumL ns L ≤ sumL ns' (T L)) (hU : ∀ L, Okl ns'.length g' p' L → L.length = c' → Okl ns.length g p (U L) ∧ (U L).length = c ∧ sumL ns' L ≤ sumL ns (U L)) : val (fb ns g c p) = val (fb ns' g' c' p') := by
  cases h : fb ns g c p with
  | none =>
    cases h' : fb ns' g' c' p' with
    | none => rfl
    | some y =>
      obtain ⟨x, hx, _⟩ := val_le U hU h'
      rw [h] at hx
      cases hx
  | some x =>
    obtain ⟨y, hy, h1⟩ := val_le T hT h
    obtain ⟨x', hx', h2⟩ := val_le U hU hy
    rw [h] at hx'
    cases hx'
    rw [hy]
    show some x.1 = some y.1
    rw [show x.1 = y.1 by (first | lia | omega)]
theorem sum_rev (xs : List Int) : xs.reverse.sum = xs.sum := by
  induction xs with
  | nil => rfl
  | cons x xs ih => rw [List.reverse_cons, List.sum_append, List.sum_singleton, List.sum_cons, ih]; (first | lia | omega)
noncomputable def rvL (n : Nat) (L : List (Nat × Nat)) : List (Nat × Nat) := (L.map fun q => (n - q.2, n - q.1)).reverse
theorem rvL_len {n : Nat} {L : List (Nat × Nat)} : (rvL n L).length = L.length := by unfold rvL; rw [List.length_reverse, List.length_map]
theorem rvL_ok {n g p p' m : Nat} {L : List (Nat × Nat)} (h : Okl m g p L) (hm : m ≤ n) (h1 : p' + m ≤ n) : Okl (n - p) g p' (rvL n L) := by
  obtain ⟨a, b⟩ := h
  refine ⟨fun q hq => ?_, ?_⟩
  · obtain ⟨r, hr, rfl⟩ := List.mem_map.mp (List.mem_reverse.mp hq)
    have := a r hr
    exact ⟨by show p' ≤ n - r.2; (first | lia | omega), by show n - r.2 < n - r.1; (first | lia | omega), by show n - r.1 ≤ n - p; (first | lia | omega)⟩
  · unfold rvL
    rw [List.pairwise_reverse, List.pairwise_map]
    refine List.Pairwise.imp_of_mem (fun {q r} hq hr h => ?_) b
    have h1 := a q hq
    have h2 := a r hr
    show n - r.1 + g ≤ n - q.2
    (first | lia | omega)
theorem psum_rvA {ns : List Int} : ∀ i, i ≤ ns.length → psum ns.reverse i = psum ns ns.length - psum ns (ns.length - i)
  | 0, _ => by
    show psum ns.reverse 0 = psum ns ns.length - psum ns ns.length
    have : psum ns.reverse 0 = 0 := rfl
    (first | lia | omega)
  | i + 1, h => by
    have ih := psum_rvA (ns := ns) i (by (first | lia | omega))
    have a := psum_getD (ns := ns.reverse) (i := i) (by rw [List.length_reverse]; (first | lia | omega))
    have b := psum_getD (ns := ns) (i := ns.length - 1 - i) (by (first | lia | omega))
    have e : ns.reverse.getD i 0 = ns.getD (ns.length - 1 - i) 0 := by
      rw [List.getD_eq_getElem?_getD, List.getD_eq_getElem?_getD, List.getElem?_reverse (by (first | lia | omega))]
    have e1 : ns.length - 1 - i + 1 = ns.length - i := by (first | lia | omega)
    have e2 : ns.length - (i + 1) = ns.length - 1 - i := by (first | lia | omega)
    rw [e1] at b
    rw [a, ih, e, e2]
    (first | lia | omega)
theorem psum_tkA {ns : List Int} {m i : Nat} (h : i ≤ m) : psum (ns.take m) i = psum ns i := by
  unfold psum
  rw [List.take_take, Nat.min_eq_left h]
theorem sumL_rv {ms rs : List Int} {n : Nat} {L : List (Nat × Nat)} (h : ∀ q, q ∈ L → psum ms (n - q.1) - psum ms (n - q.2) = psum rs q.2 - psum rs q.1) : sumL ms (rvL n L) = sumL rs L := by
  unfold sumL rvL
  rw [List.map_reverse, sum_rev, List.map_map]
  exact congrArg List.sum (List.map_congr_left fun q hq => h q hq)
theorem fb_rev {ns : List Int} {g c p : Nat} (hp : p ≤ ns.length) : val (fb ns.reverse g c p) = val (fb (ns.take (ns.length - p)) g c 0) := by
  have hl : ns.reverse.length = ns.length := List.length_reverse
  have ht : (ns.take (ns.length - p)).length = ns.length - p := by rw [List.length_take]; (first | lia | omega)
  refine val_eq (rvL ns.length) (rvL ns.length) (fun L hL hc => ?_) (fun L hL hc => ?_)
  · rw [hl] at hL
    refine ⟨by rw [ht]; exact rvL_ok hL (Nat.le_refl _) (by (first | lia | omega)), by rw [rvL_len, hc], ?_⟩
    rw [sumL_rv fun q hq => ?_]
    · exact Int.le_refl _
    · have := hL.1 q hq
      rw [psum_tkA (by (first | lia | omega)), psum_tkA (by (first | lia | omega)), psum_rvA _ (by (first | lia | omega)), psum_rvA _ (by (first | lia | omega))]
      (first | lia | omega)
  · rw [ht] at hL
    refine ⟨by rw [hl]; exact rvL_ok (p := 0) hL (by (first | lia | omega)) (by (first | lia | omega)), by rw [rvL_len, hc], ?_⟩
    rw [sumL_rv fun q hq => ?_]
    · exact Int.le_refl _
    · have := hL.1 q hq
      rw [psum_tkA (by (first | lia | omega)), psum_tkA (by (first | lia | omega)), psum_rvA _ (by (first | lia | omega)), psum_rvA _ (by (first | lia | omega)), show ns.length - (ns.length - q.1) = q.1 by (first | lia | omega), show ns.length - (ns.length - q.2) = q.2 by (first | lia | omega)]
      (first | lia | omega)
noncomputable def sp_counts : Sp := fun vs H Q _ => ∃ m l g : Int, vs = [.int m, .int l, .int g] ∧ l ≤ m ∧ 0 ≤ g ∧ Q .non H
theorem ok_counts {P : Program} {w : World} {K : PySem.W.Frag} {mg : Str → Option Value} {base : Heap} {k : Nat} {f : Addr} {fd : FuncData} (F : Fun K "refuse_counts" "refuse_counts" s_refuse_counts f fd) (Z : Blt mg) : FnOk P w K mg base CX0 (k + 1) f fd ["many", "least", "gap"] sp_counts := by
  refine F.ok sc_refuse_counts (fun vs H Q E h => ?_) (fun cdv A outer s H vs Q E hr h => ?_)
  · obtain ⟨m, l, g, rfl, _⟩ := h
    rfl
  obtain ⟨m, l, g, rfl, hm, hg, q⟩ := h
  apply Exists.intro
  apply And.intro
  case left =>
    apply pss_one
    apply ps_if
    case hc => exact (PW.pt (pw_or (pt_cmpR op_lt (pv 0) (pv 1) (nomark _)) (pw_or1 (pt_cmpR op_lt (pv 2) pe_int (nomark _)))))
    case ha =>
      apply pss_one
      exact ps_never
    case hb =>
      exact pss_nil
  walk_at "rd"
  refine ifD (fun z => absurd z (by (first | lia | omega))) (fun _ => ?_)
  walk_at "rd"
  exact ifD (fun z => absurd z (by (first | lia | omega))) (fun _ => q)
noncomputable def sp_room : Sp := fun vs H Q _ => ∃ n g : Nat, vs = [.int n, .int g] ∧ g < 2 ^ 150 ∧ Q (.int ((n + g) / (1 + g) : Nat)) H
theorem ok_room {P : Program} {w : World} {K : PySem.W.Frag} {mg : Str → Option Value} {base : Heap} {k : Nat} {f : Addr} {fd : FuncData} (F : Fun K "room_for" "room_for" s_room_for f fd) (Z : Blt mg) : FnOk P w K mg base CX0 (k + 1) f fd ["numbers", "gap"] sp_room := by
  refine F.ok sc_room_for (fun vs H Q E h => ?_) (fun cdv A outer s H vs Q E hr h => ?_)
  · obtain ⟨n, g, rfl, _⟩ := h
    rfl
  obtain ⟨n, g, rfl, hg, q⟩ := h
  apply Exists.intro
  apply And.intro
  case left =>
    apply pss_one
    exact (ps_ret (pe_op op_fdivL (pe_op op_add (pv 0) (pv 1)) (pe_op op_add pe_int (pv 1))))
  walk_at "rd"
  refine ⟨⟨by (first | lia | omega), by (first | lia | omega)⟩, ?_⟩
  show Q (.int (((n : Int) + g) / (1 + g))) H
  have e : ((n : Int) + g) / (1 + g) = (((n + g) / (1 + g) : Nat) : Int) := by push_cast; rfl
  rw [e]
  exact q
noncomputable def sp_ahead : Sp := fun vs H Q _ => ∃ (r : Addr) (ns : List Int), vs = [.ref r] ∧ H r = some (.lst (ns.map V.int)) ∧ ns.length ≤ 90000 ∧
  ∀ (l : Addr) (H' : Hp), Same H H' → H l = none → H' l = some (.lst ((pl ns ns.length).map V.int)) → Q (.ref l) H'
theorem ok_ahead {P : Program} {w : World} {K : PySem.W.Frag} {mg : Str → Option Value} {base : Heap} {k : Nat} {f : Addr} {fd : FuncData} (F : Fun K "sums_ahead" "sums_ahead" s_sums_ahead f fd) (Z : Blt mg) : FnOk P w K mg base CX0 (k + 1) f fd ["row"] sp_ahead := by
  refine F.ok sc_sums_ahead (fun vs H Q E h => ?_) (fun cdv A outer s H vs Q E hr h => ?_)
  · obtain ⟨r, ns, rfl, _⟩ := h
    rfl
  obtain ⟨r, ns, rfl, hR, hz, q⟩ := h
  apply Exists.intro
  apply And.intro
  case left =>
    apply pss_cons
    case h1 =>
      exact (ps_set (i := 1) sc_sums_ahead.nd rfl (by first | exact Or.inl rfl | exact Or.inr rfl) pe_int)
    apply pss_cons
    case h1 =>
      exact (ps_set (i := 2) sc_sums_ahead.nd rfl (by first | exact Or.inl rfl | exact Or.inr rfl) (pe_lst (pa_cons (pv 1) pa_nil)))
    apply pss_cons
    case h1 =>
      apply ps_for PassesOwn.never rfl
      case hi => exact (pi_listK (K := K) rfl (pv 0))
      case hg => exact (pg_name (i := 3) sc_sums_ahead.nd rfl (by first | exact Or.inl rfl | exact Or.inr rfl))
      case hb =>
        apply pss_cons
        case h1 =>
          exact (ps_aug (i := 1) sc_sums_ahead.nd rfl (by first | exact Or.inl rfl | exact Or.inr rfl) (pv 3) ip_add)
        apply pss_one
        exact (ps_expr (pe_bmK (K := K) rfl PySem.F.plainAttrs_list PySem.F.slot_list_append PySem.F.type_list_append mt_append (pv 2) (pa_cons (pv 1) pa_nil)))
    apply pss_one
    exact (ps_ret (pv 2))
  walk_at "rd"
  refine ⟨by show 1 ≤ sizeLine; decide, fun l hl => ?_⟩
  walk_at "rd"
  have s1 : Same H (upd H l (.lst [.int 0])) := Same.new hl _
  refine ⟨⟨_, SqL.of (s1 _ _ hR)⟩, ?_⟩
  refine for_list (xs := ns.map V.int) (fun i σ H' => ∃ o3, Same H H' ∧ H' l = some (.lst ((pl ns i).map V.int)) ∧ σ = [some (.ref r), some (.int (psum ns i)), some (.ref l), o3]) ⟨none, s1, upd_same, rfl⟩ ?_ ?_ ?_
  · rintro i σ H' _ ⟨o3, sm, _, _⟩
    exact SqL.of (sm _ _ hR)
  · rintro i x σ H' hx ⟨o3, sm, hl', rfl⟩
    obtain ⟨hi, rfl⟩ := int_at hx
    walk_at "rd"
    refine ⟨.inl ⟨rfl, _, SqL.of hl'⟩, ?_⟩
    walk_at "rd"
    refine ⟨l, _, _, rfl, rfl, hl', small (by rw [List.length_map, pl_len]; (first | lia | omega)), ?_⟩
    refine ⟨_, sm.upd hl, ?_, by rw [psum_succ hi]; rfl⟩
    rw [upd_same, pl_succ, List.map_append, psum_succ hi]
    rfl
  · rintro σ H' ⟨o3, sm, hl', rfl⟩
    walk_at "rd"
    rw [List.length_map] at hl'
    exact q l H' sm hl hl'
noncomputable def gO (l : List (Option Int)) (i : Nat) : Option Int := l.getD i none
noncomputable def lnP (pp : List (List (Option Int))) (c : Nat) : List (Option Int) := pp.getD c []
theorem gO_at {l : List (Option Int)} {i : Nat} (h : i < l.length) : l[i]? = some (gO l i) := by
  unfold gO
  rw [List.getD_eq_getElem?_getD, List.getElem?_eq_getElem h]
  rfl
theorem atOL {l : List (Option Int)} {i : Nat} (h : i < l.length) : atI (l.map oV) (i : Int) = some (oV (gO l i)) := atI_nat (by rw [List.getElem?_map, gO_at h]; rfl)
theorem gO_line {n i : Nat} {f : Nat → Option Int} (h : i < n) : gO (lineOf n f) i = f i := by
  unfold gO
  rw [List.getD_eq_getElem?_getD, line_at h]
  rfl
noncomputable def FormL (n g c : Nat) (l : List (Option Int)) : Prop := l.length = n + 1 ∧ ∀ i, i ≤ n → (gO l i ≠ none ↔ c * (1 + g) ≤ i + g)
noncomputable def NoFall (n : Nat) (l : List (Option Int)) : Prop := ∀ i, i < n → ∀ x y, gO l i = some x → gO l (i + 1) = some y → x ≤ y
noncomputable def ahO (pp : List (List (Option Int))) (g c a : Nat) : Option Int := if c = 1 then some 0 else if g ≤ a then gO (lnP pp (c - 1)) (a - g) else none
noncomputable def HighL (ns : List Int) (l : List (Option Int)) (ah : Nat → Option Int) : Prop := ∀ b, b ≤ ns.length → ∀ a, a < b → ∀ r v, ah a = some r → gO l b = some v → psum ns b - psum ns a + r ≤ v
noncomputable def Stands (ns : List Int) (m g : Nat) (pp : List (List (Option Int))) : Prop := pp.length = m + 1 ∧ (∀ c, c ≤ m → FormL ns.length g c (lnP pp c)) ∧ (∀ i, i ≤ ns.length → ∀ x, gO (lnP pp 0) i = some x → 0 ≤ x) ∧ (∀ c, c ≤ m → NoFall ns.length (lnP pp c)) ∧ ∀ c, 1 ≤ c → c ≤ m → HighL ns (lnP pp c) (ahO pp g c)
theorem room_iff {c i g : Nat} : (i + g) / (1 + g) < c ↔ ¬ c * (1 + g) ≤ i + g := by
  rw [← Nat.le_div_iff_mul_le (by (first | lia | omega))]
  (first | lia | omega)
theorem form_next {n g c i : Nat} {l : List (Option Int)} (h : FormL n g c l) (hi : i < n) (hx : gO l i ≠ none) : ∃ y, gO l (i + 1) = some y :=
  Option.ne_none_iff_exists'.mp ((h.2 (i + 1) (by (first | lia | omega))).mpr (by have := (h.2 i (by (first | lia | omega))).mp hx; (first | lia | omega)))
theorem form_ahead {n g c a b : Nat} {pp : List (List (Option Int))} (h : FormL n g c (lnP pp c)) (h' : 1 < c → FormL n g (c - 1) (lnP pp (c - 1))) (h1 : 1 ≤ c) (hab : a < b) (hb : b ≤ n) (hx : ahO pp g c a ≠ none) : gO (lnP pp c) b ≠ none := by
  refine (h.2 b hb).mpr ?_
  by_cases hc : c = 1
  · subst hc
    (first | lia | omega)
  · unfold ahO at hx
    rw [if_neg hc] at hx
    by_cases hg : g ≤ a
    · rw [if_pos hg] at hx
      have := ((h' (by (first | lia | omega))).2 (a - g) (by (first | lia | omega))).mp hx
      obtain ⟨d, rfl⟩ : ∃ d, c = d + 1 := ⟨c - 1, by (first | lia | omega)⟩
      rw [show d + 1 - 1 = d by (first | lia | omega)] at this
      rw [Nat.add_mul, Nat.one_mul]
      (first | lia | omega)
    · rw [if_neg hg] at hx
      exact absurd rfl hx
theorem form_zero {n g : Nat} {l : List (Option Int)} (h : FormL n g 0 l) : ∃ is : List Int, l = is.map some ∧ is.length = n + 1 := by
  refine ⟨l.map fun o => o.getD 0, ?_, by rw [List.length_map, h.1]⟩
  rw [List.map_map]
  refine List.ext_getElem? fun i => ?_
  rw [List.getElem?_map]
  by_cases hi : i < l.length
  · have := (h.2 i (by rw [h.1] at hi; (first | lia | omega))).mpr (by (first | lia | omega))
    obtain ⟨y, hy⟩ := Option.ne_none_iff_exists'.mp this
    rw [gO_at hi, hy]
    rfl
  · rw [List.getElem?_eq_none (by (first | lia | omega))]
    rfl
noncomputable def PpA (H : Hp) (p : Addr) (pp : List (List (Option Int))) : Prop := ∃ xs : List V, H p = some (.lst xs) ∧ xs.length = pp.length ∧ ∀ c, c < pp.length → ∃ a, xs[c]? = some (.ref a) ∧ H a = some (.lst ((lnP pp c).map oV))
theorem PpA.keep {H H' : Hp} {p : Addr} {pp : List (List (Option Int))} (h : PpA H p pp) (s : Same H H') : PpA H' p pp := by
  obtain ⟨xs, h1, h2, h3⟩ := h
  exact ⟨xs, s _ _ h1, h2, fun c hc => by
    obtain ⟨a, ha, hA⟩ := h3 c hc
    exact ⟨a, ha, s _ _ hA⟩⟩
theorem kit_ni {K : PySem.W.Frag} : PySem.W.kitOne K (.type "NoneType") (.type "int") = some false := by kernel_rfl
noncomputable def sp_wholeO : Sp := fun vs H Q _ => ∃ o : Option Int, vs = [oV o] ∧ Q (.bl o.isSome) H
theorem ok_wholeO {P : Program} {w : World} {K : PySem.W.Frag} {mg : Str → Option Value} {base : Heap} {k : Nat} {f : Addr} {fd : FuncData} (F : Fun K "is_whole" "is_whole" s_is_whole f fd) (Z : Blt mg) : FnOk P w K mg base CX0 (k + 1) f fd ["thing"] sp_wholeO := by
  refine F.ok sc_is_whole (fun vs H Q E h => ?_) (fun cdv A outer s H vs Q E hr h => ?_)
  · obtain ⟨i, rfl, _⟩ := h
    rfl
  obtain ⟨o, rfl, q⟩ := h
  apply Exists.intro
  apply And.intro
  case left =>
    apply pss_one
    exact (ps_ret (pe_and (pe_callB call_isi rfl Z.isinstance_ PyProof.Rows.boot_isinstance (pa_cons (pv 0) (pa_cons (pe_bltn (v := .ty "int") rfl Z.int_ PyProof.Rows.boot_int rfl) pa_nil))) (pe_one (pe_not (pe_callB call_isi rfl Z.isinstance_ PyProof.Rows.boot_isinstance (pa_cons (pv 0) (pa_cons (pe_bltn (v := .ty "bool") rfl Z.bool_ PyProof.Rows.boot_bool rfl) pa_nil)))))))
  cases o with
  | none =>
    walk_at "rd"
    refine ⟨_, _, _, _, rfl, .non, kit_ni, _, rfl, iteF ?_⟩
    exact q
  | some i =>
    walk_at "rd"
    refine ⟨_, _, _, _, rfl, .int _, kit_ii, _, rfl, iteT ?_⟩
    walk_at "rd"
    refine ⟨_, _, _, _, rfl, .int _, kit_ib, _, rfl, ?_⟩
    exact q
noncomputable def sp_lform : Sp := fun vs H Q _ => ∃ (a : Addr) (l : List (Option Int)) (n c g : Nat), vs = [.ref a, .int n, .int c, .int g] ∧ H a = some (.lst (l.map oV)) ∧ g < 2 ^ 150 ∧ n ≤ 20000 ∧ ∀ b : Bool, (b = true ↔ FormL n g c l) → Q (.bl b) H
theorem ok_lform {P : Program} {w : World} {K : PySem.W.Frag} {mg : Str → Option Value} {base : Heap} {k : Nat} {f : Addr} {fd : FuncData} (F : Fun K "is_line_of_form" "is_line_of_form" s_is_line_of_form f fd) (Z : Blt mg)
    (D_room_for : Def P w K mg base k "room_for" ["numbers", "gap"] sp_room) (D_is_whole : Def P w K mg base k "is_whole" ["thing"] sp_wholeO) : FnOk P w K mg base CX0 (k + 1) f fd ["line", "numbers", "count", "gap"] sp_lform := by
  refine F.ok sc_is_line_of_form (fun vs H Q E h => ?_) (fun cdv A outer s H vs Q E hr h => ?_)
  · obtain ⟨a, l, n, c, g, rfl, _⟩ := h
    rfl
  obtain ⟨a, l, n, c, g, rfl, hA, hg, hn, q⟩ := h
  apply Exists.intro
  apply And.intro
  case left =>
    apply pss_cons
    case h1 =>
      apply ps_if
      case hc => exact (PW.pt (pw_or (pt_not (pt_val (pe_callB call_isi rfl Z.isinstance_ PyProof.Rows.boot_isinstance (pa_cons (pv 0) (pa_cons (pe_bltn (v := .ty "list") rfl Z.list_ PyProof.Rows.boot_list rfl) pa_nil))))) (pw_or1 (pt_cmpR op_ne (pe_callB (call_len_seqK (K := K) rfl) rfl Z.len_ PySem.boot_len (pa_cons (pv 0) pa_nil)) (pe_op op_add (pv 1) pe_int) (nomark _)))))
      case ha =>
        apply pss_one
        exact (ps_ret pe_bl)
      case hb =>
        exact pss_nil
    apply pss_cons
    case h1 =>
      apply ps_for PassesOwn.never rfl
      case hi => exact (pi_range1 rfl Z.range_ (pa_cons (pe_op op_add (pv 1) pe_int) pa_nil))
      case hg => exact (pg_name (i := 4) sc_is_line_of_form.nd rfl (by first | exact Or.inl rfl | exact Or.inr rfl))
      case hb =>
        apply pss_one
        apply ps_if
        case hc => exact (pt_cmpR op_gt (pv 2) (pe_def D_room_for hr rfl (pa_cons (pv 4) (pa_cons (pv 3) pa_nil))) (nomark _))
        case ha =>
          apply pss_one
          apply ps_if
          case hc => exact (pt_cmpR op_notN (pe_ix (ix_listK (K := K) rfl) (pv 0) (pv 4) (fun _ _ => rfl)) pe_non (nomark _))
          case ha =>
            apply pss_one
            exact (ps_ret pe_bl)
          case hb =>
            exact pss_nil
        case hb =>
          apply pss_one
          apply ps_if
          case hc => exact (pt_not (pt_val (pe_def D_is_whole hr rfl (pa_cons (pe_ix (ix_listK (K := K) rfl) (pv 0) (pv 4) (fun _ _ => rfl)) pa_nil))))
          case ha =>
            apply pss_one
            exact (ps_ret pe_bl)
          case hb =>
            exact pss_nil
    apply pss_one
    exact (ps_ret pe_bl)
  have hl : (l.map oV).length = l.length := List.length_map _
  walk_at "rd"
  refine ⟨_, _, _, _, rfl, .lst hA, kit_ll, _, rfl, iteF ?_⟩
  walk_at "rd"
  refine ⟨a, _, rfl, .inl (SqL.of hA), ?_⟩
  rw [hl]
  walk_at "rd"
  refine ifIN (fun z => ?_) (fun z => ?_)
  · walk_at "rd"
    exact q false ⟨fun z => absurd z (by decide), fun h => absurd h.1 (by (first | lia | omega))⟩
  walk_at "rd"
  refine ⟨by (first | lia | omega), by (first | lia | omega), ?_⟩
  rw [show ((n : Int) + 1).toNat = n + 1 by (first | lia | omega)]
  refine for_range (fun i σ H' => ∃ o4, H = H' ∧ (∀ j, j < i → (gO l j ≠ none ↔ c * (1 + g) ≤ j + g)) ∧ σ = [some (.ref a), some (.int n), some (.int c), some (.int g), o4]) ⟨none, rfl, fun j hj => absurd hj (by (first | lia | omega)), rfl⟩ ?_ ?_
  · rintro i σ H1 hi ⟨o4, rfl, hin, rfl⟩
    rw [show (0 : Int) + i = ((i : Nat) : Int) by (first | lia | omega)]
    have at1 := atOL (l := l) (i := i) (by (first | lia | omega))
    walk_at "rd"
    refine ⟨i, g, rfl, hg, ?_⟩
    walk_at "rd"
    refine ifD (fun z => ?_) (fun z => ?_)
    · have hno : ¬ c * (1 + g) ≤ i + g := room_iff.mp (by (first | lia | omega))
      walk_at "rd"
      refine ⟨a, _, _, _, rfl, rfl, SqL.of hA, at1, ?_⟩
      cases e : gO l i with
      | none =>
        walk_at "rd"
        refine ⟨_, rfl, fun j hj => ?_, rfl⟩
        by_cases hji : j = i
        · subst hji
          exact ⟨fun z => absurd e z, fun z => absurd z hno⟩
        · exact hin j (by (first | lia | omega))
      | some x =>
        walk_at "rd"
        exact q false ⟨fun z => absurd z (by decide), fun h => absurd ((h.2 i (by (first | lia | omega))).mp (by rw [e]; exact fun z => by cases z)) hno⟩
    · have hyes : c * (1 + g) ≤ i + g := Decidable.of_not_not fun z' => z (by have := room_iff.mpr z'; (first | lia | omega))
      walk_at "rd"
      refine ⟨a, _, _, _, rfl, rfl, SqL.of hA, at1, ?_⟩
      refine ⟨_, rfl, ?_⟩
      cases e : gO l i with
      | none =>
        walk_at "rd"
        exact q false ⟨fun z => absurd z (by decide), fun h => absurd e ((h.2 i (by (first | lia | omega))).mpr hyes)⟩
      | some x =>
        walk_at "rd"
        refine ⟨_, rfl, fun j hj => ?_, rfl⟩
        by_cases hji : j = i
        · subst hji
          exact ⟨fun _ => hyes, fun _ z => by rw [e] at z; cases z⟩
        · exact hin j (by (first | lia | omega))
  · rintro σ H1 ⟨o4, rfl, hin, rfl⟩
    walk_at "rd"
    exact q true ⟨fun _ => ⟨by (first | lia | omega), fun i hi => hin i (by (first | lia | omega))⟩, fun _ => rfl⟩
noncomputable def sp_pform : Sp := fun vs H Q _ => ∃ (p : Addr) (pp : List (List (Option Int))) (n m g : Nat), vs = [.ref p, .int n, .int m, .int g] ∧ PpA H p pp ∧ g < 2 ^ 150 ∧ n ≤ 20000 ∧ m ≤ 20000 ∧ ∀ b : Bool, (b = true ↔ pp.length = m + 1 ∧ ∀ c, c ≤ m → FormL n g c (lnP pp c)) → Q (.bl b) H
theorem ok_pform {P : Program} {w : World} {K : PySem.W.Frag} {mg : Str → Option Value} {base : Heap} {k : Nat} {f : Addr} {fd : FuncData} (F : Fun K "is_of_form" "is_of_form" s_is_of_form f fd) (Z : Blt mg)
    (D_is_line_of_form : Def P w K mg base k "is_line_of_form" ["line", "numbers", "count", "gap"] sp_lform) : FnOk P w K mg base CX0 (k + 1) f fd ["paper", "numbers", "many", "gap"] sp_pform := by
  refine F.ok sc_is_of_form (fun vs H Q E h => ?_) (fun cdv A outer s H vs Q E hr h => ?_)
  · obtain ⟨p, pp, n, m, g, rfl, _⟩ := h
    rfl
  obtain ⟨p, pp, n, m, g, rfl, ⟨xs, hx, hxl, hxs⟩, hg, hn, hm, q⟩ := h
  apply Exists.intro
  apply And.intro
  case left =>
    apply pss_cons
    case h1 =>
      apply ps_if
      case hc => exact (pt_cmpR op_ne (pe_callB (call_len_seqK (K := K) rfl) rfl Z.len_ PySem.boot_len (pa_cons (pv 0) pa_nil)) (pe_op op_add (pv 2) pe_int) (nomark _))
      case ha =>
        apply pss_one
        exact (ps_ret pe_bl)
      case hb =>
        exact pss_nil
    apply pss_cons
    case h1 =>
      apply ps_for PassesOwn.never rfl
      case hi => exact (pi_range1 rfl Z.range_ (pa_cons (pe_op op_add (pv 2) pe_int) pa_nil))
      case hg => exact (pg_name (i := 4) sc_is_of_form.nd rfl (by first | exact Or.inl rfl | exact Or.inr rfl))
      case hb =>
        apply pss_one
        apply ps_if
        case hc => exact (pt_not (pt_val (pe_def D_is_line_of_form hr rfl (pa_cons (pe_ix (ix_listK (K := K) rfl) (pv 0) (pv 4) (fun _ _ => rfl)) (pa_cons (pv 1) (pa_cons (pv 4) (pa_cons (pv 3) pa_nil)))))))
        case ha =>
          apply pss_one
          exact (ps_ret pe_bl)
        case hb =>
          exact pss_nil
    apply pss_one
    exact (ps_ret pe_bl)
  walk_at "rd"
  refine ⟨p, _, rfl, .inl (SqL.of hx), ?_⟩
  rw [hxl]
  walk_at "rd"
  refine ifIN (fun z => ?_) (fun z => ?_)
  · walk_at "rd"
    exact q false ⟨fun z => absurd z (by decide), fun h => absurd h.1 (by (first | lia | omega))⟩
  have hpl : pp.length = m + 1 := by (first | lia | omega)
  walk_at "rd"
  refine ⟨by (first | lia | omega), by (first | lia | omega), ?_⟩
  rw [show ((m : Int) + 1).toNat = m + 1 by (first | lia | omega)]
  refine for_range (fun i σ H' => ∃ o4, H = H' ∧ (∀ c, c < i → FormL n g c (lnP pp c)) ∧ σ = [some (.ref p), some (.int n), some (.int m), some (.int g), o4]) ⟨none, rfl, fun j hj => absurd hj (by (first | lia | omega)), rfl⟩ ?_ ?_
  · rintro i σ H1 hi ⟨o4, rfl, hin, rfl⟩
    rw [show (0 : Int) + i = ((i : Nat) : Int) by (first | lia | omega)]
    obtain ⟨a, ha, hA⟩ := hxs i (by (first | lia | omega))
    walk_at "rd"
    refine ⟨p, _, _, _, rfl, rfl, SqL.of hx, atI_nat ha, ?_⟩
    walk_at "rd"
    refine ⟨a, lnP pp i, n, i, g, rfl, hA, hg, hn, fun b hb => ?_⟩
    cases b with
    | true =>
      walk_at "rd"
      refine ⟨_, rfl, fun c hc => ?_, rfl⟩
      by_cases z : c = i
      · subst z
        exact hb.mp rfl
      · exact hin c (by (first | lia | omega))
    | false =>
      walk_at "rd"
      exact q false ⟨fun z => absurd z (by decide), fun h => hb.mpr (h.2 i (by (first | lia | omega)))⟩
  · rintro σ H1 ⟨o4, rfl, hin, rfl⟩
    walk_at "rd"
    exact q true ⟨fun _ => ⟨hpl, fun c hc => hin c (by (first | lia | omega))⟩, fun _ => rfl⟩
noncomputable def sp_nofall : Sp := fun vs H Q _ => ∃ (a : Addr) (l : List (Option Int)) (n c g : Nat), vs = [.ref a] ∧ H a = some (.lst (l.map oV)) ∧ FormL n g c l ∧ n ≤ 20000 ∧ ∀ b : Bool, (b = true ↔ NoFall n l) → Q (.bl b) H
theorem ok_nofall {P : Program} {w : World} {K : PySem.W.Frag} {mg : Str → Option Value} {base : Heap} {k : Nat} {f : Addr} {fd : FuncData} (F : Fun K "never_falls" "never_falls" s_never_falls f fd) (Z : Blt mg) : FnOk P w K mg base CX0 (k + 1) f fd ["line"] sp_nofall := by
  refine F.ok sc_never_falls (fun vs H Q E h => ?_) (fun cdv A outer s H vs Q E hr h => ?_)
  · obtain ⟨a, l, n, c, g, rfl, _⟩ := h
    rfl
  obtain ⟨a, l, n, c, g, rfl, hA, hF, hn, q⟩ := h
  apply Exists.intro
  apply And.intro
  case left =>
    apply pss_cons
    case h1 =>
      apply ps_for PassesOwn.never rfl
      case hi => exact (pi_range2 rfl Z.range_ (pa_cons pe_int (pa_cons (pe_callB (call_len_seqK (K := K) rfl) rfl Z.len_ PySem.boot_len (pa_cons (pv 0) pa_nil)) pa_nil)))
      case hg => exact (pg_name (i := 1) sc_never_falls.nd rfl (by first | exact Or.inl rfl | exact Or.inr rfl))
      case hb =>
        apply pss_one
        apply ps_if
        case hc => exact (PW.pt (pw_and (pt_cmpR op_notN (pe_ix (ix_listK (K := K) rfl) (pv 0) (pe_op op_sub (pv 1) pe_int) (fun _ _ => rfl)) pe_non (nomark _)) (pw_and1 (pt_cmpR op_lt (pe_ix (ix_listK (K := K) rfl) (pv 0) (pv 1) (fun _ _ => rfl)) (pe_ix (ix_listK (K := K) rfl) (pv 0) (pe_op op_sub (pv 1) pe_int) (fun _ _ => rfl)) (nomark _)))))
        case ha =>
          apply pss_one
          exact (ps_ret pe_bl)
        case hb =>
          exact pss_nil
    apply pss_one
    exact (ps_ret pe_bl)
  have hll := hF.1
  have hl : (l.map oV).length = n + 1 := by rw [List.length_map, hll]
  walk_at "rd"
  refine ⟨a, _, rfl, .inl (SqL.of hA), ?_⟩
  rw [hl]
  refine ⟨_, _, rfl, ⟨by (first | lia | omega), by (first | lia | omega), by (first | lia | omega), by (first | lia | omega)⟩, ?_⟩
  rw [show (((n + 1 : Nat) : Int) - 1).toNat = n by (first | lia | omega)]
  refine for_range (fun i σ H' => ∃ o1, H = H' ∧ (∀ j, j < i → ∀ x y, gO l j = some x → gO l (j + 1) = some y → x ≤ y) ∧ σ = [some (.ref a), o1]) ⟨none, rfl, fun j hj => absurd hj (by (first | lia | omega)), rfl⟩ ?_ ?_
  · rintro i σ H1 hi ⟨o1, rfl, hin, rfl⟩
    have e1 : (1 : Int) + i - 1 = ((i : Nat) : Int) := by (first | lia | omega)
    have e2 : (1 : Int) + i = ((i + 1 : Nat) : Int) := by (first | lia | omega)
    have at0 := atOL (l := l) (i := i) (by (first | lia | omega))
    have at1 := atOL (l := l) (i := i + 1) (by (first | lia | omega))
    walk_at "rd"
    refine ⟨a, _, ((i : Nat) : Int), _, rfl, congrArg V.int e1, SqL.of hA, at0, ?_⟩
    cases e : gO l i with
    | none =>
      walk_at "rd"
      refine ⟨_, rfl, fun j hj x y hx hy => ?_, rfl⟩
      by_cases z : j = i
      · subst z
        rw [e] at hx
        cases hx
      · exact hin j (by (first | lia | omega)) x y hx hy
    | some x =>
      obtain ⟨y, hy⟩ := form_next hF hi (by rw [e]; exact fun z => by cases z)
      rw [e] at at0
      rw [hy] at at1
      walk_at "rd"
      refine ⟨a, _, ((i + 1 : Nat) : Int), _, rfl, congrArg V.int e2, SqL.of hA, at1, ?_⟩
      walk_at "rd"
      refine ⟨a, _, ((i : Nat) : Int), _, rfl, congrArg V.int e1, SqL.of hA, at0, ?_⟩
      refine ⟨_, _, rfl, rfl, _, rfl, ?_⟩
      refine ifD (fun z => ?_) (fun z => ?_)
      · walk_at "rd"
        exact q false ⟨fun z => absurd z (by decide), fun h => absurd (h i hi x y e hy) (by (first | lia | omega))⟩
      · walk_at "rd"
        refine ⟨_, rfl, fun j hj x' y' hx' hy' => ?_, rfl⟩
        by_cases z' : j = i
        · subst z'
          rw [e] at hx'
          rw [hy] at hy'
          cases hx'
          cases hy'
          (first | lia | omega)
        · exact hin j (by (first | lia | omega)) x' y' hx' hy'
  · rintro σ H1 ⟨o1, rfl, hin, rfl⟩
    walk_at "rd"
    exact q true ⟨fun _ => hin, fun _ => rfl⟩
noncomputable def sp_aheadl : Sp := fun vs H Q _ => ∃ (p : Addr) (pp : List (List (Option Int))) (n c g : Nat), vs = [.ref p, .int c, .int g] ∧ PpA H p pp ∧ n ≤ 20000 ∧ 1 ≤ c ∧ c < pp.length ∧ (∀ c, c < pp.length → (lnP pp c).length = n + 1) ∧
  ∀ (l : Addr) (H' : Hp), Same H H' → H l = none → H' l = some (.lst ((lineOf (n + 1) (ahO pp g c)).map oV)) → Q (.ref l) H'
theorem ok_aheadl {P : Program} {w : World} {K : PySem.W.Frag} {mg : Str → Option Value} {base : Heap} {k : Nat} {f : Addr} {fd : FuncData} (F : Fun K "ahead_line" "ahead_line" s_ahead_line f fd) (Z : Blt mg) : FnOk P w K mg base CX0 (k + 1) f fd ["paper", "count", "gap"] sp_aheadl := by
  refine F.ok sc_ahead_line (fun vs H Q E h => ?_) (fun cdv A outer s H vs Q E hr h => ?_)
  · obtain ⟨p, pp, n, c, g, rfl, _⟩ := h
    rfl
  obtain ⟨p, pp, n, c, g, rfl, ⟨xs, hx, hxl, hxs⟩, hn, hc1, hcp, hL, q⟩ := h
  apply Exists.intro
  apply And.intro
  case left =>
    apply pss_cons
    case h1 =>
      apply ps_if
      case hc => exact (pt_cmpR op_eq (pv 1) pe_int (nomark _))
      case ha =>
        apply pss_one
        exact (ps_ret (pe_op op_rep (pe_lst (pa_cons pe_int pa_nil)) (pe_callB (call_len_seqK (K := K) rfl) rfl Z.len_ PySem.boot_len (pa_cons (pe_ix (ix_listK (K := K) rfl) (pv 0) pe_int (fun _ _ => rfl)) pa_nil))))
      case hb =>
        exact pss_nil
    apply pss_cons
    case h1 =>
      exact (ps_set (i := 3) sc_ahead_line.nd rfl (by first | exact Or.inl rfl | exact Or.inr rfl) (pe_ix (ix_listK (K := K) rfl) (pv 0) (pe_op op_sub (pv 1) pe_int) (fun _ _ => rfl)))
    apply pss_one
    exact (ps_ret (pe_lc (N' := ["first", "gap", "fewer"]) (ix := [none, some 2, some 3]) rfl rfl (by decide +kernel) rfl rfl rfl rfl (pi_range1 rfl Z.range_ (pa_cons (pe_callB (call_len_seqK (K := K) rfl) rfl Z.len_ PySem.boot_len (pa_cons (pv 3) pa_nil)) pa_nil)) (fun _ _ _ _ => (pg_name (i := 0) (show List.Nodup (["first", "gap", "fewer"] : List Str) by decide +kernel) rfl (by first | exact Or.inl rfl | exact Or.inr rfl))) (fun _ _ _ _ => pts_nil) (fun _ _ _ _ => (pe_ifExp (pt_cmpR op_ge (pv 0) (pv 1) (nomark _)) (pe_ix ix_listB (pv 2) (pe_op op_sub (pv 0) (pv 1)) (fun _ _ => rfl)) pe_non))))
  walk_at "rd"
  refine ifI (fun z => ?_) (fun z => ?_)
  · obtain ⟨a, ha, hA⟩ := hxs 0 (by (first | lia | omega))
    have hl0 : ((lnP pp 0).map oV).length = n + 1 := by rw [List.length_map, hL 0 (by (first | lia | omega))]
    walk_at "rd"
    refine ⟨by show 1 ≤ sizeLine; decide, fun p1 hp1 => ?_⟩
    have s1 := Same.new hp1 (.lst [.int 0])
    walk_at "rd"
    refine ⟨p, _, ((0 : Nat) : Int), _, rfl, rfl, SqL.of (s1 _ _ hx), atI_nat ha, ?_⟩
    walk_at "rd"
    refine ⟨a, _, rfl, .inl (SqL.of (s1 _ _ hA)), ?_⟩
    rw [hl0]
    refine ⟨p1, _, _, rfl, rfl, upd_same, by (first | lia | omega), by (first | lia | omega), ?_, fun p2 hp2 => ?_⟩
    · show 1 * ((n + 1 : Nat) : Int).toNat ≤ sizeLine
      exact Nat.le_of_lt (small (by (first | lia | omega)))
    have hp2' := wasNone s1 hp2
    refine q p2 _ (s1.upd hp2') hp2' ?_
    rw [upd_same, show ((n + 1 : Nat) : Int).toNat = n + 1 from rfl, show V.int 0 = oV (some 0) from rfl, line_rep]
    refine congrArg (fun z => some (HO.lst (List.map oV z))) (line_ext fun i _ => ?_)
    unfold ahO
    rw [if_pos (by (first | lia | omega))]
  · obtain ⟨a, ha, hA⟩ := hxs (c - 1) (by (first | lia | omega))
    have hl0 : ((lnP pp (c - 1)).map oV).length = n + 1 := by rw [List.length_map, hL (c - 1) (by (first | lia | omega))]
    have hl1 := hL (c - 1) (by (first | lia | omega))
    walk_at "rd"
    refine ⟨p, _, ((c - 1 : Nat) : Int), _, rfl, congrArg V.int (show (c : Int) - 1 = ((c - 1 : Nat) : Int) by (first | lia | omega)), SqL.of hx, atI_nat ha, ?_⟩
    walk_at "rd"
    refine ⟨a, _, rfl, .inl (SqL.of hA), ?_⟩
    rw [hl0]
    refine ⟨_, rfl, by (first | lia | omega), by (first | lia | omega), ?_⟩
    rw [show ((n + 1 : Nat) : Int).toNat = n + 1 from rfl]
    intro acc hacc
    refine comp_by (n := n + 1) (fun i τ zs H' => H' acc = some (.lst zs) ∧ zs = (lineOf i (ahO pp g c)).map oV ∧ Same H H' ∧ ∃ o0, τ = [o0, some (.int g), some (.ref a)]) ⟨upd_same, rfl, Same.new hacc _, none, rfl⟩ (by (first | lia | omega)) ?_ ?_ ?_ ?_
    · rintro i τ zs H' ⟨e, rfl, _⟩
      exact ⟨e, by rw [List.length_map, line_len]; exact Nat.le_refl _⟩
    · rintro i τ zs H' hi _
      exact hi
    · rintro τ zs H1 ⟨e, rfl, s1, _⟩
      exact ⟨Nat.le_refl _, q acc H1 s1 hacc e⟩
    · rintro i τ zs H1 v H2 hi ⟨e, rfl, s1, o0, rfl⟩ ⟨rfl, rfl⟩
      rw [show (0 : Int) + i = ((i : Nat) : Int) by (first | lia | omega)]
      have snoc : ∀ o, o = ahO pp g c i → (lineOf i (ahO pp g c)).map oV ++ [oV o] = (lineOf (i + 1) (ahO pp g c)).map oV := fun o ho => by
        unfold lineOf
        rw [List.range_succ, List.map_append, List.map_append, ho]
        rfl
      walk_at "rd"
      refine ifD (fun z2 => ?_) (fun z2 => ?_)
      · walk_at "rd"
        refine ⟨a, _, ((i - g : Nat) : Int), _, rfl, congrArg V.int (show (i : Int) - (g : Int) = ((i - g : Nat) : Int) by (first | lia | omega)), SqL.of (s1 _ _ hA), atOL (by (first | lia | omega)), ?_⟩
        refine ⟨e, Nx.mk hi ⟨upd_same, snoc _ ?_, s1.upd hacc, _, rfl⟩⟩
        unfold ahO
        rw [if_neg (by (first | lia | omega)), if_pos (by (first | lia | omega))]
      · walk_at "rd"
        refine ⟨e, Nx.mk hi ⟨upd_same, snoc none ?_, s1.upd hacc, _, rfl⟩⟩
        unfold ahO
        rw [if_neg (by (first | lia | omega)), if_neg (by (first | lia | omega))]
theorem atPl {ns : List Int} {i : Nat} (h : i ≤ ns.length) : atI ((pl ns ns.length).map V.int) (i : Int) = some (.int (psum ns i)) := atI_nat (by
  unfold pl
  rw [List.getElem?_map, List.getElem?_map, List.getElem?_range (by (first | lia | omega))]
  rfl)
noncomputable def sp_lshows : Sp := fun vs H Q _ => ∃ (a s h : Addr) (l : List (Option Int)) (ns : List Int) (ah : Nat → Option Int), vs = [.ref a, .ref s, .ref h] ∧ H a = some (.lst (l.map oV)) ∧ H s = some (.lst ((pl ns ns.length).map V.int)) ∧ H h = some (.lst ((lineOf (ns.length + 1) ah).map oV)) ∧ l.length = ns.length + 1 ∧ ns.length ≤ 20000 ∧
  (∀ a b, a < b → b ≤ ns.length → ah a ≠ none → gO l b ≠ none) ∧ ∀ b : Bool, (b = true ↔ HighL ns l ah) → Q (.bl b) H
theorem ok_lshows {P : Program} {w : World} {K : PySem.W.Frag} {mg : Str → Option Value} {base : Heap} {k : Nat} {f : Addr} {fd : FuncData} (F : Fun K "line_shows" "line_shows" s_line_shows f fd) (Z : Blt mg) : FnOk P w K mg base CX0 (k + 1) f fd ["line", "sums", "ahead"] sp_lshows := by
  refine F.ok sc_line_shows (fun vs H Q E h => ?_) (fun cdv A outer s H vs Q E hr h => ?_)
  · obtain ⟨a, s, h, l, ns, ah, rfl, _⟩ := h
    rfl
  obtain ⟨a, sa, h, l, ns, ah, rfl, hA, hS, hh, hll, hn, hok, q⟩ := h
  apply Exists.intro
  apply And.intro
  case left =>
    apply pss_cons
    case h1 =>
      apply ps_for PassesOwn.never rfl
      case hi => exact (pi_range2 rfl Z.range_ (pa_cons pe_int (pa_cons (pe_callB (call_len_seqK (K := K) rfl) rfl Z.len_ PySem.boot_len (pa_cons (pv 0) pa_nil)) pa_nil)))
      case hg => exact (pg_name (i := 3) sc_line_shows.nd rfl (by first | exact Or.inl rfl | exact Or.inr rfl))
      case hb =>
        apply pss_one
        apply ps_for PassesOwn.never rfl
        case hi => exact (pi_range1 rfl Z.range_ (pa_cons (pv 3) pa_nil))
        case hg => exact (pg_name (i := 4) sc_line_shows.nd rfl (by first | exact Or.inl rfl | exact Or.inr rfl))
        case hb =>
          apply pss_one
          apply ps_if
          case hc => exact (PW.pt (pw_and (pt_cmpR op_notN (pe_ix (ix_listK (K := K) rfl) (pv 2) (pv 4) (fun _ _ => rfl)) pe_non (nomark _)) (pw_and1 (pt_cmpR op_lt (pe_ix (ix_listK (K := K) rfl) (pv 0) (pv 3) (fun _ _ => rfl)) (pe_op op_add (pe_op op_sub (pe_ix (ix_listK (K := K) rfl) (pv 1) (pv 3) (fun _ _ => rfl)) (pe_ix (ix_listK (K := K) rfl) (pv 1) (pv 4) (fun _ _ => rfl))) (pe_ix (ix_listK (K := K) rfl) (pv 2) (pv 4) (fun _ _ => rfl))) (nomark _)))))
          case ha =>
            apply pss_one
            exact (ps_ret pe_bl)
          case hb =>
            exact pss_nil
    apply pss_one
    exact (ps_ret pe_bl)
  have hl : (l.map oV).length = ns.length + 1 := by rw [List.length_map, hll]
  walk_at "rd"
  refine ⟨a, _, rfl, .inl (SqL.of hA), ?_⟩
  rw [hl]
  refine ⟨_, _, rfl, ⟨by (first | lia | omega), by (first | lia | omega), by (first | lia | omega), by (first | lia | omega)⟩, ?_⟩
  rw [show (((ns.length + 1 : Nat) : Int) - 1).toNat = ns.length by (first | lia | omega)]
  refine for_range (fun i σ H' => ∃ o3 o4, H = H' ∧ (∀ b, b ≤ i → ∀ a, a < b → ∀ r v, ah a = some r → gO l b = some v → psum ns b - psum ns a + r ≤ v) ∧ σ = [some (.ref a), some (.ref sa), some (.ref h), o3, o4]) ⟨none, none, rfl, fun b hb a ha => absurd ha (by (first | lia | omega)), rfl⟩ ?_ ?_
  · rintro i σ H1 hi ⟨o3, o4, rfl, hin, rfl⟩
    rw [show (1 : Int) + i = ((i + 1 : Nat) : Int) by (first | lia | omega)]
    have at1 := atOL (l := l) (i := i + 1) (by (first | lia | omega))
    walk_at "rd"
    refine ⟨by (first | lia | omega), by (first | lia | omega), ?_⟩
    rw [show ((i + 1 : Nat) : Int).toNat = i + 1 from rfl]
    refine for_range (fun j σ H' => ∃ o4, H = H' ∧ (∀ a, a < j → ∀ r v, ah a = some r → gO l (i + 1) = some v → psum ns (i + 1) - psum ns a + r ≤ v) ∧ σ = [some (.ref a), some (.ref sa), some (.ref h), some (.int ((i + 1 : Nat) : Int)), o4]) ⟨_, rfl, fun a ha => absurd ha (by (first | lia | omega)), rfl⟩ ?_ ?_
    · rintro j σ H1 hj ⟨o4, rfl, hin2, rfl⟩
      rw [show (0 : Int) + j = ((j : Nat) : Int) by (first | lia | omega)]
      have at2 := atO (n := ns.length + 1) (i := j) (g := ah) (by (first | lia | omega))
      walk_at "rd"
      refine ⟨h, _, _, _, rfl, rfl, SqL.of hh, at2, ?_⟩
      cases e : ah j with
      | none =>
        walk_at "rd"
        refine ⟨_, rfl, fun a' ha' r v hr' hv => ?_, rfl⟩
        by_cases z : a' = j
        · subst z
          rw [e] at hr'
          cases hr'
        · exact hin2 a' (by (first | lia | omega)) r v hr' hv
      | some r =>
        obtain ⟨v, hv⟩ := Option.ne_none_iff_exists'.mp (hok j (i + 1) (by (first | lia | omega)) (by (first | lia | omega)) (by rw [e]; exact fun z => by cases z))
        rw [e] at at2
        rw [hv] at at1
        walk_at "rd"
        refine ⟨a, _, _, _, rfl, rfl, SqL.of hA, at1, ?_⟩
        walk_at "rd"
        refine ⟨sa, _, _, _, rfl, rfl, SqL.of hS, atPl (by (first | lia | omega)), ?_⟩
        walk_at "rd"
        refine ⟨sa, _, _, _, rfl, rfl, SqL.of hS, atPl (by (first | lia | omega)), ?_⟩
        walk_at "rd"
        refine ⟨h, _, _, _, rfl, rfl, SqL.of hh, at2, ?_⟩
        refine ⟨_, _, rfl, rfl, _, _, rfl, rfl, _, rfl, ?_⟩
        refine ifD (fun z => ?_) (fun z => ?_)
        · walk_at "rd"
          exact q false ⟨fun z => absurd z (by decide), fun h => absurd (h (i + 1) (by (first | lia | omega)) j (by (first | lia | omega)) r v e hv) (by (first | lia | omega))⟩
        · walk_at "rd"
          refine ⟨_, rfl, fun a' ha' r' v' hr' hv' => ?_, rfl⟩
          by_cases z' : a' = j
          · subst z'
            rw [e] at hr'
            rw [hv] at hv'
            cases hr'
            cases hv'
            (first | lia | omega)
          · exact hin2 a' (by (first | lia | omega)) r' v' hr' hv'
    · rintro σ H1 ⟨o4, rfl, hin2, rfl⟩
      refine ⟨_, _, rfl, fun b hb a ha r v hr' hv => ?_, rfl⟩
      by_cases z : b = i + 1
      · subst z
        exact hin2 a ha r v hr' hv
      · exact hin b (by (first | lia | omega)) a ha r v hr' hv
  · rintro σ H1 ⟨o3, o4, rfl, hin, rfl⟩
    walk_at "rd"
    exact q true ⟨fun _ => hin, fun _ => rfl⟩
noncomputable def sp_sshows : Sp := fun vs H Q _ => ∃ (r p : Addr) (ns : List Int) (pp : List (List (Option Int))) (m g : Nat), vs = [.ref r, .int m, .int g, .ref p] ∧ H r = some (.lst (ns.map V.int)) ∧ PpA H p pp ∧ ns.length ≤ 20000 ∧ 1 ≤ m ∧ m ≤ 20000 ∧ g < 2 ^ 150 ∧ ∀ (b : Bool) (H' : Hp), Same H H' → (b = true ↔ Stands ns m g pp) → Q (.bl b) H'
theorem ok_sshows {P : Program} {w : World} {K : PySem.W.Frag} {mg : Str → Option Value} {base : Heap} {k : Nat} {f : Addr} {fd : FuncData} (F : Fun K "several_shows" "several_shows" s_several_shows f fd) (Z : Blt mg)
    (D_refuse_counts : Def P w K mg base k "refuse_counts" ["many", "least", "gap"] sp_counts) (D_is_of_form : Def P w K mg base k "is_of_form" ["paper", "numbers", "many", "gap"] sp_pform) (D_never_falls : Def P w K mg base k "never_falls" ["line"] sp_nofall)
    (D_sums_ahead : Def P w K mg base k "sums_ahead" ["row"] sp_ahead) (D_ahead_line : Def P w K mg base k "ahead_line" ["paper", "count", "gap"] sp_aheadl) (D_line_shows : Def P w K mg base k "line_shows" ["line", "sums", "ahead"] sp_lshows) : FnOk P w K mg base CX0 (k + 1) f fd ["row", "many", "gap", "paper"] sp_sshows := by
  refine F.ok sc_several_shows (fun vs H Q E h => ?_) (fun cdv A outer s H vs Q E hr h => ?_)
  · obtain ⟨r, p, ns, pp, m, g, rfl, _⟩ := h
    rfl
  obtain ⟨r, p, ns, pp, m, g, rfl, hR, hPp, hn, hm1, hm, hg, q⟩ := h
  apply Exists.intro
  apply And.intro
  case left =>
    apply pss_cons
    case h1 =>
      exact (ps_expr (pe_def D_refuse_counts hr rfl (pa_cons (pv 1) (pa_cons pe_int (pa_cons (pv 2) pa_nil)))))
    apply pss_cons
    case h1 =>
      apply ps_if
      case hc => exact (pt_not (pt_val (pe_def D_is_of_form hr rfl (pa_cons (pv 3) (pa_cons (pe_callB (call_len_seqK (K := K) rfl) rfl Z.len_ PySem.boot_len (pa_cons (pv 0) pa_nil)) (pa_cons (pv 1) (pa_cons (pv 2) pa_nil)))))))
      case ha =>
        apply pss_one
        exact (ps_ret pe_bl)
      case hb =>
        exact pss_nil
    apply pss_cons
    case h1 =>
      apply ps_if
      case hc => exact (PW.pt (pw_or (pt_cmpR op_lt (pe_callB (min_of_list rfl) rfl Z.min_ PyProof.Rows.boot_min (pa_cons (pe_ix (ix_listK (K := K) rfl) (pv 3) pe_int (fun _ _ => rfl)) pa_nil)) pe_int (nomark _)) (pw_or1 (pt_not (pt_val (pe_def D_never_falls hr rfl (pa_cons (pe_ix (ix_listK (K := K) rfl) (pv 3) pe_int (fun _ _ => rfl)) pa_nil)))))))
      case ha =>
        apply pss_one
        exact (ps_ret pe_bl)
      case hb =>
        exact pss_nil
    apply pss_cons
    case h1 =>
      exact (ps_set (i := 4) sc_several_shows.nd rfl (by first | exact Or.inl rfl | exact Or.inr rfl) (pe_def D_sums_ahead hr rfl (pa_cons (pv 0) pa_nil)))
    apply pss_cons
    case h1 =>
      apply ps_for PassesOwn.never rfl
      case hi => exact (pi_range2 rfl Z.range_ (pa_cons pe_int (pa_cons (pe_op op_add (pv 1) pe_int) pa_nil)))
      case hg => exact (pg_name (i := 5) sc_several_shows.nd rfl (by first | exact Or.inl rfl | exact Or.inr rfl))
      case hb =>
        apply pss_cons
        case h1 =>
          apply ps_if
          case hc => exact (pt_not (pt_val (pe_def D_never_falls hr rfl (pa_cons (pe_ix (ix_listK (K := K) rfl) (pv 3) (pv 5) (fun _ _ => rfl)) pa_nil))))
          case ha =>
            apply pss_one
            exact (ps_ret pe_bl)
          case hb =>
            exact pss_nil
        apply pss_one
        apply ps_if
        case hc => exact (pt_not (pt_val (pe_def D_line_shows hr rfl (pa_cons (pe_ix (ix_listK (K := K) rfl) (pv 3) (pv 5) (fun _ _ => rfl)) (pa_cons (pv 4) (pa_cons (pe_def D_ahead_line hr rfl (pa_cons (pv 3) (pa_cons (pv 5) (pa_cons (pv 2) pa_nil)))) pa_nil))))))
        case ha =>
          apply pss_one
          exact (ps_ret pe_bl)
        case hb =>
          exact pss_nil
    apply pss_one
    exact (ps_ret pe_bl)
  have hl : (ns.map V.int).length = ns.length := List.length_map _
  have noway : ∀ {H' : Hp}, Same H H' → ¬ Stands ns m g pp → Q (.bl false) H' := fun s h => q false _ s ⟨fun z => absurd z (by decide), fun z => absurd z h⟩
  walk_at "rd"
  refine ⟨_, _, _, rfl, by (first | lia | omega), by (first | lia | omega), ?_⟩
  walk_at "rd"
  refine ⟨r, _, rfl, .inl (SqL.of hR), ?_⟩
  rw [hl]
  walk_at "rd"
  refine ⟨p, pp, ns.length, m, g, rfl, hPp, hg, hn, hm, fun b hb => ?_⟩
  cases b with
  | false =>
    walk_at "rd"
    exact noway (Same.refl _) fun h => by cases hb.mpr ⟨h.1, h.2.1⟩
  | true =>
    obtain ⟨hpl, hF⟩ := hb.mp rfl
    obtain ⟨xs, hx, hxl, hxs⟩ := id hPp
    obtain ⟨a0, ha0, hA0⟩ := hxs 0 (by (first | lia | omega))
    obtain ⟨is, eis, his⟩ := form_zero (hF 0 (by (first | lia | omega)))
    have eV : (lnP pp 0).map oV = is.map V.int := by
      rw [eis, List.map_map]
      rfl
    have gis : ∀ {i : Nat} {x : Int}, gO (lnP pp 0) i = some x → x ∈ is := fun {i x} h => by
      unfold gO at h
      rw [eis, List.getD_eq_getElem?_getD, List.getElem?_map] at h
      cases e : is[i]? with
      | none => rw [e] at h; cases h
      | some y =>
        rw [e] at h
        cases h
        exact List.mem_of_getElem? e
    have gis' : ∀ {x : Int}, x ∈ is → ∃ i, i ≤ ns.length ∧ gO (lnP pp 0) i = some x := fun {x} h => by
      obtain ⟨i, hi, rfl⟩ := List.getElem_of_mem h
      refine ⟨i, by (first | lia | omega), ?_⟩
      unfold gO
      rw [eis, List.getD_eq_getElem?_getD, List.getElem?_map, List.getElem?_eq_getElem hi]
      rfl
    walk_at "rd"
    refine ⟨p, _, ((0 : Nat) : Int), _, rfl, rfl, SqL.of hx, atI_nat ha0, ?_⟩
    refine ⟨a0, is, rfl, SqL.of (by rw [← eV]; exact hA0), by (first | lia | omega), fun M hM1 hM2 => ?_⟩
    walk_at "rd"
    refine ifD (fun z => ?_) (fun z => ?_)
    · walk_at "rd"
      obtain ⟨i, hi, hgi⟩ := gis' hM1
      exact noway (Same.refl _) fun h => absurd (h.2.2.1 i hi M hgi) (by (first | lia | omega))
    have hpos : ∀ i, i ≤ ns.length → ∀ x, gO (lnP pp 0) i = some x → 0 ≤ x := fun i _ x hx => by
      have := hM2 x (gis hx)
      (first | lia | omega)
    walk_at "rd"
    refine ⟨p, _, ((0 : Nat) : Int), _, rfl, rfl, SqL.of hx, atI_nat ha0, ?_⟩
    walk_at "rd"
    refine ⟨a0, lnP pp 0, ns.length, 0, g, rfl, hA0, hF 0 (by (first | lia | omega)), hn, fun b hb0 => ?_⟩
    cases b with
    | false =>
      walk_at "rd"
      exact noway (Same.refl _) fun h => by cases hb0.mpr (h.2.2.2.1 0 (by (first | lia | omega)))
    | true =>
      have hfall0 := hb0.mp rfl
      walk_at "rd"
      refine ⟨r, ns, rfl, hR, by (first | lia | omega), fun sa H1 s1 hs0 hS1 => ?_⟩
      have hPp1 := hPp.keep s1
      have hx1 := s1 _ _ hx
      walk_at "rd"
      refine ⟨_, _, rfl, ⟨by (first | lia | omega), by (first | lia | omega), by (first | lia | omega), by (first | lia | omega)⟩, ?_⟩
      rw [show ((m : Int) + 1 - 1).toNat = m by (first | lia | omega)]
      refine for_range (fun i σ H' => ∃ o5, Same H1 H' ∧ (∀ c, c ≤ i → NoFall ns.length (lnP pp c)) ∧ (∀ c, 1 ≤ c → c ≤ i → HighL ns (lnP pp c) (ahO pp g c)) ∧ σ = [some (.ref r), some (.int m), some (.int g), some (.ref p), some (.ref sa), o5]) ⟨none, Same.refl _, (fun c hc => by rw [show c = 0 by (first | lia | omega)]; exact hfall0), (fun c h1 h2 => absurd h1 (by (first | lia | omega))), rfl⟩ ?_ ?_
      · rintro i σ H2 hi ⟨o5, s2, hin1, hin2, rfl⟩
        rw [show (1 : Int) + i = ((i + 1 : Nat) : Int) by (first | lia | omega)]
        obtain ⟨a, ha, hA⟩ := hxs (i + 1) (by (first | lia | omega))
        have s12 := s1.trans s2
        walk_at "rd"
        refine ⟨p, _, _, _, rfl, rfl, SqL.of (s2 _ _ hx1), atI_nat ha, ?_⟩
        walk_at "rd"
        refine ⟨a, lnP pp (i + 1), ns.length, i + 1, g, rfl, s12 _ _ hA, hF (i + 1) (by (first | lia | omega)), hn, fun b hb1 => ?_⟩
        cases b with
        | false =>
          walk_at "rd"
          exact noway s12 fun h => by cases hb1.mpr (h.2.2.2.1 (i + 1) (by (first | lia | omega)))
        | true =>
          walk_at "rd"
          refine ⟨p, _, _, _, rfl, rfl, SqL.of (s2 _ _ hx1), atI_nat ha, ?_⟩
          walk_at "rd"
          refine ⟨p, pp, ns.length, i + 1, g, rfl, hPp1.keep s2, hn, by (first | lia | omega), by (first | lia | omega), fun c hc => (hF c (by (first | lia | omega))).1, fun h H3 s3 hh0 hh => ?_⟩
          have s13 := s12.trans s3
          refine ⟨a, sa, h, lnP pp (i + 1), ns, ahO pp g (i + 1), rfl, s13 _ _ hA, s3 _ _ (s2 _ _ hS1), hh, (hF (i + 1) (by (first | lia | omega))).1, hn, fun x y hxy hy hne => form_ahead (hF (i + 1) (by (first | lia | omega))) (fun _ => hF (i + 1 - 1) (by (first | lia | omega))) (by (first | lia | omega)) hxy hy hne, fun b hb2 => ?_⟩
          cases b with
          | false =>
            walk_at "rd"
            exact noway s13 fun h => by cases hb2.mpr (h.2.2.2.2 (i + 1) (by (first | lia | omega)) (by (first | lia | omega)))
          | true =>
            walk_at "rd"
            refine ⟨_, s2.trans s3, fun c hc => ?_, fun c h1 hc => ?_, rfl⟩
            · by_cases z : c = i + 1
              · subst z
                exact hb1.mp rfl
              · exact hin1 c (by (first | lia | omega))
            · by_cases z : c = i + 1
              · subst z
                exact hb2.mp rfl
              · exact hin2 c h1 (by (first | lia | omega))
      · rintro σ H2 ⟨o5, s2, hin1, hin2, rfl⟩
        walk_at "rd"
        exact q true _ (s1.trans s2) ⟨fun _ => ⟨hpl, hF, hpos, hin1, hin2⟩, fun _ => rfl⟩
noncomputable def pv2 (ns : List Int) (g c i : Nat) : Option Int := val (fb (ns.take i) g c 0)
noncomputable def Ppr (ok : Addr → Prop) (H : Hp) (ns : List Int) (g m : Nat) (xs : List V) : Prop := xs.length = m ∧ ∀ c, c < m → ∃ a, xs[c]? = some (.ref a) ∧ ok a ∧ H a = some (.lst ((lineOf (ns.length + 1) (pv2 ns g c)).map oV))
theorem Ppr.keep {ok : Addr → Prop} {H H' : Hp} {ns : List Int} {g m : Nat} {xs : List V} (h : Ppr ok H ns g m xs) (s : Same H H') : Ppr ok H' ns g m xs := ⟨h.1, fun c hc => by
  obtain ⟨a, e, o, z⟩ := h.2 c hc
  exact ⟨a, e, o, s _ _ z⟩⟩
theorem line_rev {n : Nat} {f : Nat → Option Int} : ((lineOf (n + 1) f).map oV).reverse = (lineOf (n + 1) (fun i => f (n - i))).map oV := by
  refine List.ext_getElem? fun i => ?_
  have hl : ((lineOf (n + 1) f).map oV).length = n + 1 := by rw [List.length_map, line_len]
  by_cases hi : i < n + 1
  · rw [List.getElem?_reverse (by (first | lia | omega)), hl, List.getElem?_map, List.getElem?_map, line_at (by (first | lia | omega)), line_at hi, show n + 1 - 1 - i = n - i by (first | lia | omega)]
  · rw [List.getElem?_eq_none (by rw [List.length_reverse, hl]; (first | lia | omega)), List.getElem?_eq_none (by rw [List.length_map, line_len]; (first | lia | omega))]
theorem paper_line {ns : List Int} {g c : Nat} : lineOf (ns.length + 1) (fun i => val (fb ns.reverse g c (ns.length - i))) = lineOf (ns.length + 1) (pv2 ns g c) := line_ext fun i hi => by
  rw [fb_rev (by (first | lia | omega)), show ns.length - (ns.length - i) = i by (first | lia | omega)]
  rfl
noncomputable def sp_spaper : Sp := fun vs H Q _ => ∃ (r : Addr) (ns : List Int) (m g : Nat), vs = [.ref r, .int m, .int g] ∧ H r = some (.lst (ns.map V.int)) ∧ ns.length ≤ 20000 ∧ 1 ≤ m ∧ m ≤ 40000 ∧
  ∀ (l : Addr) (xs : List V) (H' : Hp), Same H H' → H l = none → H' l = some (.lst xs) → Ppr (fun a => H a = none ∧ a ≠ l) H' ns g (m + 1) xs → Q (.ref l) H'
theorem ok_spaper {P : Program} {w : World} {K : PySem.W.Frag} {mg : Str → Option Value} {base : Heap} {k : Nat} {f : Addr} {fd : FuncData} (F : Fun K "several_paper" "several_paper" s_several_paper f fd) (Z : Blt mg)
    (D_refuse_counts : Def P w K mg base k "refuse_counts" ["many", "least", "gap"] sp_counts) (D_lines_of : Def P w K mg base k "lines_of" ["row", "many", "gap"] sp_lines) : FnOk P w K mg base CX0 (k + 1) f fd ["row", "many", "gap"] sp_spaper := by
  refine F.ok sc_several_paper (fun vs H Q E h => ?_) (fun cdv A outer s H vs Q E hr h => ?_)
  · obtain ⟨r, ns, m, g, rfl, _⟩ := h
    rfl
  obtain ⟨r, ns, m, g, rfl, hR, hn, hm1, hm, q⟩ := h
  apply Exists.intro
  apply And.intro
  case left =>
    apply pss_cons
    case h1 =>
      exact (ps_expr (pe_def D_refuse_counts hr rfl (pa_cons (pv 1) (pa_cons pe_int (pa_cons (pv 2) pa_nil)))))
    apply pss_cons
    case h1 =>
      exact (ps_set (i := 3) sc_several_paper.nd rfl (by first | exact Or.inl rfl | exact Or.inr rfl) (pe_def D_lines_of hr rfl (pa_cons (pe_rev (pv 0) (pe_un un_neg pe_int)) (pa_cons (pv 1) (pa_cons (pv 2) pa_nil)))))
    apply pss_one
    exact (ps_ret (pe_lc (N' := ["line"]) (ix := [none]) rfl rfl (by decide +kernel) rfl rfl rfl rfl (pi_listK (K := K) rfl (pv 3)) (fun _ _ _ _ => (pg_name (i := 0) (show List.Nodup (["line"] : List Str) by decide +kernel) rfl (by first | exact Or.inl rfl | exact Or.inr rfl))) (fun _ _ _ _ => pts_nil) (fun _ _ _ _ => (pe_revB (pe_dgetB (hu_of hr) (pv 0) pe_str (fun _ _ => rfl)) (pe_un un_neg pe_int)))))
  have hl : (ns.map V.int).length = ns.length := List.length_map _
  walk_at "rd"
  refine ⟨_, _, _, rfl, by (first | lia | omega), by (first | lia | omega), ?_⟩
  walk_at "rd"
  refine ⟨r, _, rfl, rfl, SqL.of hR, fun p1 hp1 => ?_⟩
  have s1 := Same.new hp1 (.lst (ns.map V.int).reverse)
  have hrl : ns.reverse.length = ns.length := List.length_reverse
  walk_at "rd"
  refine ⟨p1, ns.reverse, m, g, rfl, by rw [upd_same, List.map_reverse], by rw [hrl]; exact hn, hm, fun l xs H1 s2 hl0 hl1 hL => ?_⟩
  have s12 := s1.trans s2
  walk_at "rd"
  refine ⟨⟨_, SqL.of hl1⟩, ?_⟩
  intro acc hacc
  have hxl := hL.1
  refine comp_by (n := m + 1) (fun i τ zs H' => H' acc = some (.lst zs) ∧ Ppr (fun a => H a = none ∧ a ≠ acc) H' ns g i zs ∧ Same H1 H' ∧ ∃ o0, τ = [o0]) ⟨upd_same, ⟨rfl, fun c hc => by (first | lia | omega)⟩, Same.new hacc _, none, rfl⟩ (by (first | lia | omega)) ?_ ?_ ?_ ?_
  · rintro i τ zs H' ⟨e, hp, _⟩
    exact ⟨e, by rw [hp.1]; exact Nat.le_refl _⟩
  · rintro i τ zs H' hi ⟨e, _, sm', _⟩
    exact ⟨_, xs[i]'(by (first | lia | omega)), SqL.of (sm' _ _ hl1), List.getElem?_eq_getElem (by (first | lia | omega))⟩
  · rintro τ zs H4 ⟨e, hp, s4, _⟩
    refine ⟨⟨_, SqL.of (s4 _ _ hl1), by rw [hxl]; exact Nat.le_refl _⟩, ?_⟩
    exact q acc zs H4 (s12.trans s4) (s12.free hacc) e hp
  · rintro i τ zs H4 v H5 hi ⟨e, hp, s4, o0, rfl⟩ ⟨rfl, y⟩
    have ey := y _ (SqL.of (s4 _ _ hl1))
    obtain ⟨d, hd, a, b, ee, hd1, ha, hb, he⟩ := hL.2 i hi
    rw [hd] at ey
    cases ey
    walk_at "rd"
    refine ⟨d, _, rfl, dBest (s4 _ _ hd1), ?_⟩
    walk_at "rd"
    refine ⟨b, _, rfl, rfl, SqL.of (s4 _ _ hb), fun p5 hp5 => ?_⟩
    rw [hrl, line_rev, paper_line]
    have s5 := Same.new hp5 (.lst ((lineOf (ns.length + 1) (pv2 ns g i)).map oV))
    have h5n : p5 ≠ acc := fun z => by rw [z, e] at hp5; cases hp5
    refine ⟨s5 _ _ e, Nx.mk hi ⟨upd_same, ⟨by rw [List.length_append, hp.1]; rfl, fun c hc => ?_⟩, (s4.trans s5).upd hacc, _, rfl⟩⟩
    by_cases z : c = i
    · subst z
      exact ⟨p5, by rw [List.getElem?_append_right (by rw [hp.1]; exact Nat.le_refl _), hp.1, Nat.sub_self]; rfl, ⟨(s12.trans s4).free hp5, h5n⟩, by rw [upd_ne h5n, upd_same]⟩
    · obtain ⟨a', ea, ⟨o1, o2⟩, ha'⟩ := hp.2 c (by (first | lia | omega))
      exact ⟨a', by rw [List.getElem?_append_left (by rw [hp.1]; (first | lia | omega))]; exact ea, ⟨o1, o2⟩, by rw [upd_ne o2]; exact s5 _ _ ha'⟩
noncomputable def avl (ns : List Int) (g c k : Nat) : Option Int := val (fb ns.reverse g c (ns.length - k))
noncomputable def enl (ns : List Int) (g c k : Nat) : Option Int := val (fg ns.reverse g c (ns.length - k))
noncomputable def ahl (ns : List Int) (g c k : Nat) : Option Int := if c = 0 then some 0 else if g ≤ k then avl ns g c (k - g) else none
theorem avl_none {ns : List Int} {g c : Nat} : avl ns g (c + 1) 0 = none := by
  unfold avl
  rw [fb_end (by rw [List.length_reverse]; (first | lia | omega))]
  rfl
theorem enl_none {ns : List Int} {g c : Nat} : enl ns g c 0 = none := by
  unfold enl
  rw [fg_end (by rw [List.length_reverse]; (first | lia | omega))]
  rfl
theorem rev_getD {ns : List Int} {k : Nat} (h : k < ns.length) : ns.reverse.getD (ns.length - (k + 1)) 0 = ns.getD k 0 := by
  rw [List.getD_eq_getElem?_getD, List.getD_eq_getElem?_getD, List.getElem?_reverse (by (first | lia | omega)), show ns.length - 1 - (ns.length - (k + 1)) = k by (first | lia | omega)]
theorem enl_step {ns : List Int} {g c k : Nat} (h : k < ns.length) : enl ns g c (k + 1) = (gm (ahl ns g c k) (enl ns g c k)).map (ns.getD k 0 + ·) := by
  have hl : ns.reverse.length = ns.length := List.length_reverse
  unfold enl
  rw [fg_val (by (first | lia | omega)), rev_getD h, show ns.length - (k + 1) + 1 = ns.length - k by (first | lia | omega)]
  congr 2
  unfold ahl
  by_cases hc : c = 0
  · subst hc
    rw [if_pos rfl, fb_zero]
    rfl
  · rw [if_neg hc]
    by_cases hg : g ≤ k
    · rw [if_pos hg]
      unfold avl
      rw [show ns.length - (k - g) = ns.length - k + g by (first | lia | omega)]
    · rw [if_neg hg]
      obtain ⟨d, rfl⟩ : ∃ d, c = d + 1 := ⟨c - 1, by (first | lia | omega)⟩
      rw [fb_end (by (first | lia | omega))]
      rfl
theorem avl_step {ns : List Int} {g c k : Nat} (h : k < ns.length) : avl ns g (c + 1) (k + 1) = gm (avl ns g (c + 1) k) (enl ns g c (k + 1)) := by
  have hl : ns.reverse.length = ns.length := List.length_reverse
  unfold avl enl
  rw [fb_val (by (first | lia | omega)), gm_comm, show ns.length - (k + 1) + 1 = ns.length - k by (first | lia | omega)]
theorem cut_set {xs : List V} {k : Nat} {v : V} (h : k < xs.length) : cutV xs none (some (k : Int)) ++ [v] ++ cutV xs (some ((k : Int) + 1)) none = xs.set k v := by
  have e : (k : Int) + 1 = ((k + 1 : Nat) : Int) := by push_cast; rfl
  rw [e]
  unfold cutV
  rw [HT.sIx_nat, HT.sIx_nat, HT.sIx_none, HT.sIx_none, List.drop_zero, Nat.sub_zero, Nat.min_eq_left (by (first | lia | omega)), Nat.min_eq_left (by (first | lia | omega)), List.take_of_length_le (l := xs.drop (k + 1)) (by rw [List.length_drop]; (first | lia | omega)), List.append_assoc, List.set_eq_take_append_cons_drop, if_pos h]
  rfl
theorem pv2_avl {ns : List Int} {g c i : Nat} (h : i ≤ ns.length) : pv2 ns g c i = avl ns g c i := by
  unfold pv2 avl
  rw [fb_rev (by (first | lia | omega)), show ns.length - (ns.length - i) = i by (first | lia | omega)]
theorem gm_left {a b : Option Int} {x : Int} (h : a = some x) : ∃ y, gm a b = some y ∧ x ≤ y := by
  subst h
  cases b with
  | none => exact ⟨x, rfl, Int.le_refl _⟩
  | some y =>
    refine ⟨_, rfl, ?_⟩
    split <;> (first | lia | omega)
theorem gm_right {a b : Option Int} {x : Int} (h : b = some x) : ∃ y, gm a b = some y ∧ x ≤ y := by
  rw [gm_comm]
  exact gm_left h
theorem gm_or {a b : Option Int} {x : Int} (h : gm a b = some x) : a = some x ∨ b = some x := by
  cases a with
  | none => exact .inr h
  | some y =>
    cases b with
    | none => exact .inl h
    | some z =>
      have h' : (if z > y then z else y) = x := Option.some.inj h
      split at h'
      · exact .inr (by rw [h'])
      · exact .inl (by rw [h'])
theorem enl_ge {ns : List Int} {g c a : Nat} {r : Int} (h : ahl ns g c a = some r) : ∀ {b : Nat}, a < b → b ≤ ns.length → ∃ v, enl ns g c b = some v ∧ psum ns b - psum ns a + r ≤ v
  | 0, h1, _ => by (first | lia | omega)
  | b + 1, h1, h2 => by
    have e := psum_getD (ns := ns) (i := b) (by (first | lia | omega))
    rw [enl_step (by (first | lia | omega))]
    by_cases z : a = b
    · subst z
      obtain ⟨y, hy, hle⟩ := gm_left (b := enl ns g c a) h
      rw [hy]
      exact ⟨_, rfl, by show psum ns (a + 1) - psum ns a + r ≤ ns.getD a 0 + y; (first | lia | omega)⟩
    · obtain ⟨v, hv, hle⟩ := enl_ge h (b := b) (by (first | lia | omega)) (by (first | lia | omega))
      obtain ⟨y, hy, hle'⟩ := gm_right (a := ahl ns g c b) hv
      rw [hy]
      exact ⟨_, rfl, by show psum ns (b + 1) - psum ns a + r ≤ ns.getD b 0 + y; (first | lia | omega)⟩
theorem enl_from {ns : List Int} {g c : Nat} : ∀ {k : Nat} {x : Int}, k ≤ ns.length → enl ns g c k = some x → ∃ a, a < k ∧ ∃ r, ahl ns g c a = some r ∧ x = psum ns k - psum ns a + r
  | 0, x, _, h => by rw [enl_none] at h; cases h
  | k + 1, x, hk, h => by
    have e := psum_getD (ns := ns) (i := k) (by (first | lia | omega))
    rw [enl_step (by (first | lia | omega))] at h
    obtain ⟨y, hy, rfl⟩ := Option.map_eq_some_iff.mp h
    rcases gm_or hy with z | z
    · exact ⟨k, by (first | lia | omega), y, z, by show ns.getD k 0 + y = _; (first | lia | omega)⟩
    · obtain ⟨a, ha, r, hr, rfl⟩ := enl_from (by (first | lia | omega)) z
      exact ⟨a, by (first | lia | omega), r, hr, by show ns.getD k 0 + _ = _; (first | lia | omega)⟩
theorem avl_ge {ns : List Int} {g c b : Nat} {v : Int} (hb : b + 1 ≤ ns.length) (h : enl ns g c (b + 1) = some v) : ∃ y, avl ns g (c + 1) (b + 1) = some y ∧ v ≤ y := by
  rw [avl_step (by (first | lia | omega))]
  exact gm_right h
theorem avl_mono {ns : List Int} {g c b : Nat} {v : Int} (hb : b + 1 ≤ ns.length) (h : avl ns g (c + 1) b = some v) : ∃ y, avl ns g (c + 1) (b + 1) = some y ∧ v ≤ y := by
  rw [avl_step (by (first | lia | omega))]
  exact gm_left h
theorem pv2_zero {ns : List Int} {g i : Nat} : pv2 ns g 0 i = some 0 := by
  unfold pv2
  rw [fb_zero]
  rfl
theorem pv2_form {ns : List Int} {g c i : Nat} (h : i ≤ ns.length) : pv2 ns g c i ≠ none ↔ c * (1 + g) ≤ i + g := by
  have hl : (ns.take i).length = i := by rw [List.length_take]; (first | lia | omega)
  unfold pv2
  constructor
  · intro z
    refine Decidable.of_not_not fun w => z ?_
    by_cases hc : c = 0
    · subst hc
      (first | lia | omega)
    · rw [fb_noroom hc (by rw [hl]; (first | lia | omega))]
      rfl
  · intro z w
    refine fb_room (ns := ns.take i) (g := g) (c := c) (p := 0) (.inr ⟨Nat.zero_le _, by rw [hl]; (first | lia | omega)⟩) ?_
    exact Option.map_eq_none_iff.mp w
theorem pv2_all {ns : List Int} {g c : Nat} : pv2 ns g c ns.length = val (fb ns g c 0) := by
  unfold pv2
  rw [List.take_length]
noncomputable def leastP (ns : List Int) (m g : Nat) : List (List (Option Int)) := (List.range (m + 1)).map fun c => lineOf (ns.length + 1) (pv2 ns g c)
theorem leastP_len {ns : List Int} {m g : Nat} : (leastP ns m g).length = m + 1 := by unfold leastP; rw [List.length_map, List.length_range]
theorem leastP_ln {ns : List Int} {m g c : Nat} (h : c ≤ m) : lnP (leastP ns m g) c = lineOf (ns.length + 1) (pv2 ns g c) := by
  unfold lnP leastP
  rw [List.getD_eq_getElem?_getD, List.getElem?_map, List.getElem?_range (by (first | lia | omega))]
  rfl
theorem leastP_gO {ns : List Int} {m g c i : Nat} (h : c ≤ m) (hi : i ≤ ns.length) : gO (lnP (leastP ns m g) c) i = pv2 ns g c i := by rw [leastP_ln h, gO_line (by (first | lia | omega))]
theorem leastP_ah {ns : List Int} {m g c a : Nat} {pp : List (List (Option Int))} (hc : c < m + 1) (ha : a ≤ ns.length) (hp : c ≠ 0 → lnP pp c = lnP (leastP ns m g) c) : ahO pp g (c + 1) a = ahl ns g c a := by
  unfold ahO ahl
  by_cases z : c = 0
  · rw [if_pos (by (first | lia | omega)), if_pos z]
  · rw [if_neg (by (first | lia | omega)), if_neg z, show c + 1 - 1 = c by (first | lia | omega)]
    split
    · rw [hp z, leastP_gO (by (first | lia | omega)) (by (first | lia | omega)), pv2_avl (by (first | lia | omega))]
    · rfl
theorem Ppr.pp {ok : Addr → Prop} {H : Hp} {ns : List Int} {g m : Nat} {xs : List V} {p : Addr} (h : Ppr ok H ns g (m + 1) xs) (hp : H p = some (.lst xs)) : PpA H p (leastP ns m g) := ⟨xs, hp, by rw [leastP_len, h.1], fun c hc => by
  rw [leastP_len] at hc
  obtain ⟨a, e, _, hA⟩ := h.2 c hc
  exact ⟨a, e, by rw [leastP_ln (by (first | lia | omega))]; exact hA⟩⟩
noncomputable def NoMore (ns os : List Int) : Prop := os.length = ns.length ∧ ∀ a b, a ≤ b → b ≤ ns.length → psum ns b - psum ns a ≤ psum os b - psum os a
theorem NoMore.refl (ns : List Int) : NoMore ns ns := ⟨rfl, fun _ _ _ _ => Int.le_refl _⟩
theorem least_stands {ns os : List Int} {m g : Nat} (hm : NoMore ns os) : Stands ns m g (leastP os m g) := by
  obtain ⟨hl, hs⟩ := hm
  refine ⟨leastP_len, fun c hc => ⟨?_, fun i hi => ?_⟩, fun i hi x hx => ?_, fun c hc i hi x y hx hy => ?_, fun c h1 hc b hb a ha r v hr hv => ?_⟩
  · rw [leastP_ln hc, line_len, hl]
  · rw [leastP_gO hc (by (first | lia | omega))]
    exact pv2_form (by (first | lia | omega))
  · rw [leastP_gO (Nat.zero_le _) (by (first | lia | omega)), pv2_zero] at hx
    cases hx
    exact Int.le_refl _
  · rw [leastP_gO hc (by (first | lia | omega))] at hx hy
    cases c with
    | zero =>
      rw [pv2_zero] at hx hy
      cases hx
      cases hy
      exact Int.le_refl _
    | succ c =>
      rw [pv2_avl (by (first | lia | omega))] at hx hy
      obtain ⟨z, hz, hle⟩ := avl_mono (by (first | lia | omega)) hx
      rw [hy] at hz
      cases hz
      exact hle
  · obtain ⟨c, rfl⟩ : ∃ d, c = d + 1 := ⟨c - 1, by (first | lia | omega)⟩
    rw [leastP_ah (ns := os) (m := m) (by (first | lia | omega)) (by (first | lia | omega)) (fun _ => rfl)] at hr
    obtain ⟨b, rfl⟩ : ∃ d, b = d + 1 := ⟨b - 1, by (first | lia | omega)⟩
    rw [leastP_gO hc (by (first | lia | omega)), pv2_avl (by (first | lia | omega))] at hv
    obtain ⟨u, hu, h2⟩ := enl_ge hr (b := b + 1) (by (first | lia | omega)) (by (first | lia | omega))
    obtain ⟨w, hw, h3⟩ := avl_ge (by (first | lia | omega)) hu
    rw [hv] at hw
    cases hw
    have := hs a (b + 1) (by (first | lia | omega)) (by (first | lia | omega))
    (first | lia | omega)
theorem least_less {ns : List Int} {m g c i : Nat} {x : Int} {pp : List (List (Option Int))} (hc : c ≤ m) (hi : i ≤ ns.length) (hx : pv2 ns g c i = some x) (hne : ∀ d, d ≤ m → d ≠ c → lnP pp d = lnP (leastP ns m g) d) (hat : gO (lnP pp c) i = some (x - 1)) (hot : ∀ j, j ≤ ns.length → j ≠ i → gO (lnP pp c) j = pv2 ns g c j) : ¬ Stands ns m g pp := by
  rintro ⟨_, _, h0, hf, hh⟩
  cases c with
  | zero =>
    rw [pv2_zero] at hx
    cases hx
    have := h0 i hi _ hat
    (first | lia | omega)
  | succ c =>
    cases i with
    | zero =>
      have := (pv2_form (ns := ns) (g := g) (c := c + 1) (i := 0) (Nat.zero_le _)).mp (by rw [hx]; exact fun z => by cases z)
      rw [Nat.add_mul, Nat.one_mul] at this
      (first | lia | omega)
    | succ i =>
      rw [pv2_avl (by (first | lia | omega)), avl_step (by (first | lia | omega))] at hx
      rcases gm_or hx with z | z
      · have := hf (c + 1) hc i (by (first | lia | omega)) x (x - 1) (by rw [hot i (by (first | lia | omega)) (by (first | lia | omega)), pv2_avl (by (first | lia | omega))]; exact z) hat
        (first | lia | omega)
      · obtain ⟨a, ha, r, hr, rfl⟩ := enl_from (by (first | lia | omega)) z
        have := hh (c + 1) (by (first | lia | omega)) hc (i + 1) hi a (by (first | lia | omega)) r _ (by rw [leastP_ah (ns := ns) (m := m) (by (first | lia | omega)) (by (first | lia | omega)) (fun _ => hne c (by (first | lia | omega)) (by (first | lia | omega)))]; exact hr) hat
        (first | lia | omega)
theorem lnP_set {pp : List (List (Option Int))} {c d : Nat} {l : List (Option Int)} (hc : c < pp.length) : lnP (pp.set c l) d = if d = c then l else lnP pp d := by
  unfold lnP
  rw [List.getD_eq_getElem?_getD, List.getD_eq_getElem?_getD, List.getElem?_set]
  by_cases h : c = d
  · subst h
    rw [if_pos rfl, if_pos hc, if_pos rfl]
    rfl
  · rw [if_neg h, if_neg (fun z => h z.symm)]
theorem gO_set {l : List (Option Int)} {i j : Nat} {o : Option Int} (hi : i < l.length) : gO (l.set i o) j = if j = i then o else gO l j := by
  unfold gO
  rw [List.getD_eq_getElem?_getD, List.getD_eq_getElem?_getD, List.getElem?_set]
  by_cases h : i = j
  · subst h
    rw [if_pos rfl, if_pos hi, if_pos rfl]
    rfl
  · rw [if_neg h, if_neg (fun z => h z.symm)]
theorem least_lessP {ns : List Int} {m g c i : Nat} {x : Int} (hc : c ≤ m) (hi : i ≤ ns.length) (hx : pv2 ns g c i = some x) : ¬ Stands ns m g ((leastP ns m g).set c ((lnP (leastP ns m g) c).set i (some (x - 1)))) := by
  have hl : (lnP (leastP ns m g) c).length = ns.length + 1 := by rw [leastP_ln hc, line_len]
  refine least_less hc hi hx (fun d hd hne => ?_) ?_ (fun j hj hne => ?_)
  · rw [lnP_set (by rw [leastP_len]; (first | lia | omega)), if_neg hne]
  · rw [lnP_set (by rw [leastP_len]; (first | lia | omega)), if_pos rfl, gO_set (by (first | lia | omega)), if_pos rfl]
  · rw [lnP_set (by rw [leastP_len]; (first | lia | omega)), if_pos rfl, gO_set (by (first | lia | omega)), if_neg hne, leastP_gO hc hj]
theorem PpA.set {H : Hp} {p p' l : Addr} {pp : List (List (Option Int))} {c : Nat} {xs : List V} {L : List (Option Int)} (hx : xs.length = pp.length) (hxs : ∀ c, c < pp.length → ∃ a, xs[c]? = some (.ref a) ∧ H a = some (.lst ((lnP pp c).map oV))) (hc : c < pp.length) (hl : H l = some (.lst (L.map oV))) (hp' : H p' = some (.lst (xs.set c (.ref l)))) : PpA H p' (pp.set c L) := by
  refine ⟨_, hp', by rw [List.length_set, List.length_set, hx], fun d hd => ?_⟩
  rw [List.length_set] at hd
  rw [lnP_set hc, List.getElem?_set]
  by_cases z : c = d
  · subst z
    rw [if_pos rfl, if_pos (by (first | lia | omega)), if_pos rfl]
    exact ⟨l, rfl, hl⟩
  · rw [if_neg z, if_neg (fun w => z w.symm)]
    exact hxs d hd
noncomputable def SameX (q : Addr) (H H' : Hp) : Prop := ∀ b o, b ≠ q → H b = some o → H' b = some o
theorem sX {q : Addr} {H H' : Hp} (s : Same H H') : SameX q H H' := fun b o _ e => s b o e
theorem SameX.trans {q : Addr} {H H1 H2 : Hp} (a : SameX q H H1) (b : SameX q H1 H2) : SameX q H H2 := fun c o h e => b c o h (a c o h e)
theorem SameX.upd {q p : Addr} {H H' : Hp} {o : HO} (s : SameX q H H') (h : H p = none) : SameX q H (upd H' p o) := fun b u hb e => by
  rw [upd_ne (ne_of_none e h)]
  exact s b u hb e
noncomputable def Reel (H : Hp) (q : Addr) : Prop := ∃ a b : Int, H q = some (.lst [.int a, .int b]) ∧ 0 ≤ a ∧ 0 ≤ b ∧ b < 2147483647
theorem Reel.keep {H H' : Hp} {q : Addr} (h : Reel H q) (s : Same H H') : Reel H' q := by
  obtain ⟨a, b, e, z⟩ := h
  exact ⟨a, b, s _ _ e, z⟩
theorem Reel.ne {H : Hp} {q p : Addr} (h : Reel H q) (e : H p = none) : p ≠ q := fun z => by
  obtain ⟨a, b, e', _⟩ := h
  rw [z, e'] at e
  cases e
theorem SameX.free {q p : Addr} {H H' : Hp} (s : SameX q H H') (hq : Reel H' q) (h : H' p = none) : H p = none := by
  cases e : H p with
  | none => rfl
  | some o => rw [s p o (hq.ne h) e] at h; cases h
noncomputable def sp_reel : Sp := fun vs H Q _ => ∃ c : Int, vs = [.int c] ∧ ∀ (q : Addr), H q = none → ∀ H', Same H H' → Reel H' q → Q (.ref q) H'
theorem ok_reel {P : Program} {w : World} {K : PySem.W.Frag} {mg : Str → Option Value} {base : Heap} {k : Nat} {f : Addr} {fd : FuncData} (F : Fun K "_law_reel" "_law_reel" s_law_reel f fd) (Z : Blt mg) : FnOk P w K mg base CX0 (k + 1) f fd ["cell"] sp_reel := by
  refine F.ok sc_law_reel (fun vs H Q E h => ?_) (fun cdv A outer s H vs Q E hr h => ?_)
  · obtain ⟨c, rfl, _⟩ := h
    rfl
  obtain ⟨c, rfl, q⟩ := h
  apply Exists.intro
  apply And.intro
  case left =>
    apply pss_one
    exact (ps_ret (pe_lst (pa_cons (pe_callB call_abs rfl Z.abs_ PyProof.Rows.boot_abs (pa_cons (pv 0) pa_nil)) (pa_cons (pe_op op_mod (pe_op op_mul (pe_op op_add (pe_op op_mod (pv 0) pe_int) pe_int) pe_int) pe_int) pa_nil))))
  walk_at "rd"
  have m1 := mod_lt (a := (c % 2147483647 + 1) * 742938285) (b := 2147483647) (by decide)
  refine ⟨by show 2 ≤ sizeLine; decide, fun p hp => q p hp _ (Same.new hp _) ⟨_, _, upd_same, ?_, m1.1, m1.2⟩⟩
  split <;> (first | lia | omega)
noncomputable def sp_take : Sp := fun vs H Q _ => ∃ (q : Addr) (m : Int), vs = [.ref q, .int m] ∧ Reel H q ∧ 1 ≤ m ∧ m < 1000000000 ∧ ∀ (n : Int) (H' : Hp), SameX q H H' → Reel H' q → 0 ≤ n → n < m → Q (.int n) H'
theorem ok_take {P : Program} {w : World} {K : PySem.W.Frag} {mg : Str → Option Value} {base : Heap} {k : Nat} {f : Addr} {fd : FuncData} (F : Fun K "_law_take" "_law_take" s_law_take f fd) (Z : Blt mg) : FnOk P w K mg base CX0 (k + 1) f fd ["reel", "many"] sp_take := by
  refine F.ok sc_law_take (fun vs H Q E h => ?_) (fun cdv A outer s H vs Q E hr h => ?_)
  · obtain ⟨q, m, rfl, _⟩ := h
    rfl
  obtain ⟨q, m, rfl, ⟨a, b, hq, ha, hb, hb2⟩, hm1, hm2, fin⟩ := h
  apply Exists.intro
  apply And.intro
  case left =>
    apply pss_cons
    case h1 =>
      apply ps_if
      case hc => exact (pt_cmpR op_ge (pe_ix (ix_listK (K := K) rfl) (pv 0) pe_int (fun _ _ => rfl)) (pe_op op_pow pe_int pe_int) (nomark _))
      case ha =>
        apply pss_cons
        case h1 =>
          exact (ps_set (i := 2) sc_law_take.nd rfl (by first | exact Or.inl rfl | exact Or.inr rfl) (pe_op op_mod (pe_ix (ix_listK (K := K) rfl) (pv 0) pe_int (fun _ _ => rfl)) (pv 1)))
        apply pss_cons
        case h1 =>
          exact (ps_asg (pe_op op_fdiv (pe_ix (ix_listK (K := K) rfl) (pv 0) pe_int (fun _ _ => rfl)) (pv 1)) (pg_sub (pv 0) pe_int set_list (fun _ => rfl)))
        apply pss_one
        exact (ps_ret (pv 2))
      case hb =>
        exact pss_nil
    apply pss_cons
    case h1 =>
      exact (ps_asg (pe_op op_mod (pe_op op_add (pe_op op_mul (pe_ix (ix_listK (K := K) rfl) (pv 0) pe_int (fun _ _ => rfl)) pe_int) pe_int) pe_int) (pg_sub (pv 0) pe_int set_list (fun _ => rfl)))
    apply pss_cons
    case h1 =>
      exact (ps_set (i := 3) sc_law_take.nd rfl (by first | exact Or.inl rfl | exact Or.inr rfl) (pe_op op_mod (pe_op op_mul (pe_ix (ix_listK (K := K) rfl) (pv 0) pe_int (fun _ _ => rfl)) (pe_ix (ix_listK (K := K) rfl) (pv 0) pe_int (fun _ _ => rfl))) pe_int))
    apply pss_one
    exact (ps_ret (pe_op op_mod (pe_op op_fdiv (pe_op op_mod (pe_op op_mul (pv 3) pe_int) pe_int) pe_int) (pv 1)))
  walk_at "rd"
  refine ⟨q, _, 0, _, rfl, rfl, SqL.of hq, rfl, ?_⟩
  walk_at "rd"
  refine ifD (fun hge => ?_) (fun hge => ?_)
  · walk_at "rd"
    refine ⟨q, _, 0, _, rfl, rfl, SqL.of hq, rfl, ?_⟩
    walk_at "rd"
    refine ⟨by (first | lia | omega), ?_⟩
    walk_at "rd"
    refine ⟨q, _, 0, _, rfl, rfl, SqL.of hq, rfl, ?_⟩
    walk_at "rd"
    refine ⟨⟨by (first | lia | omega), by (first | lia | omega)⟩, ?_⟩
    walk_at "rd"
    refine ⟨q, _, 0, 0, rfl, rfl, hq, rfl, ?_⟩
    walk_at "rd"
    have mm := mod_lt (a := a) (b := m) (by (first | lia | omega))
    exact fin _ _ (fun c o hc e => by rw [upd_ne hc]; exact e) ⟨a / m, b, upd_same, Int.ediv_nonneg ha (by (first | lia | omega)), hb, hb2⟩ mm.1 mm.2
  · walk_at "rd"
    refine ⟨q, _, 1, _, rfl, rfl, SqL.of hq, rfl, ?_⟩
    walk_at "rd"
    refine ⟨q, _, 1, 1, rfl, rfl, hq, rfl, ?_⟩
    have m1 := mod_lt (a := b * 48271 + 11) (b := 2147483647) (by decide)
    obtain ⟨b', eb⟩ : ∃ b', b' = (b * 48271 + 11) % 2147483647 := ⟨_, rfl⟩
    have hq2 : upd H q (.lst [.int a, .int b']) q = some (.lst [.int a, .int b']) := upd_same
    show tSeq _ _ _ _ (upd H q (.lst [.int a, .int ((b * 48271 + 11) % 2147483647)]))
    rw [← eb] at m1 ⊢
    walk_at "rd"
    refine ⟨q, _, 1, _, rfl, rfl, SqL.of hq2, rfl, ?_⟩
    walk_at "rd"
    refine ⟨q, _, 1, _, rfl, rfl, SqL.of hq2, rfl, ?_⟩
    refine ⟨_, _, rfl, rfl, cMulL' (by (first | lia | omega)) (by (first | lia | omega)), ?_⟩
    walk_at "rd"
    refine ⟨by (first | lia | omega), ?_⟩
    have mm := mod_lt (a := (b' * b' % 2147483629 * 69621 % 2147483587) / 8) (b := m) (by (first | lia | omega))
    exact fin _ _ (fun c o hc e => by rw [upd_ne hc]; exact e) ⟨a, b', hq2, ha, m1.1, m1.2⟩ mm.1 mm.2
noncomputable def sp_rrow : Sp := fun vs H Q _ => ∃ (q : Addr) (m : Int), vs = [.ref q, .int m] ∧ Reel H q ∧ 1 ≤ m ∧ m ≤ 1000 ∧
  ∀ (r : Addr) (ns : List Int) (H' : Hp), SameX q H H' → Reel H' q → H r = none → H' r = some (.lst (ns.map V.int)) → 1 ≤ ns.length → (ns.length : Int) ≤ m → Q (.ref r) H'
theorem ok_rrow {P : Program} {w : World} {K : PySem.W.Frag} {mg : Str → Option Value} {base : Heap} {k : Nat} {f : Addr} {fd : FuncData} (F : Fun K "_law_row" "_law_row" s_law_row f fd) (Z : Blt mg)
    (D_law_take : Def P w K mg base k "_law_take" ["reel", "many"] sp_take) : FnOk P w K mg base CX0 (k + 1) f fd ["reel", "most"] sp_rrow := by
  refine F.ok sc_law_row (fun vs H Q E h => ?_) (fun cdv A outer s H vs Q E hr h => ?_)
  · obtain ⟨q, m, rfl, _⟩ := h
    rfl
  obtain ⟨q, m, rfl, hq, hm1, hm2, fin⟩ := h
  apply Exists.intro
  apply And.intro
  case left =>
    apply pss_cons
    case h1 =>
      exact (ps_set (i := 2) sc_law_row.nd rfl (by first | exact Or.inl rfl | exact Or.inr rfl) (pe_op op_add pe_int (pe_def D_law_take hr rfl (pa_cons (pv 0) (pa_cons (pv 1) pa_nil)))))
    apply pss_cons
    case h1 =>
      exact (ps_set (i := 3) sc_law_row.nd rfl (by first | exact Or.inl rfl | exact Or.inr rfl) (pe_def D_law_take hr rfl (pa_cons (pv 0) (pa_cons pe_int pa_nil))))
    apply pss_cons
    case h1 =>
      exact (ps_set (i := 4) sc_law_row.nd rfl (by first | exact Or.inl rfl | exact Or.inr rfl) (pe_lst pa_nil))
    apply pss_cons
    case h1 =>
      apply ps_for PassesOwn.never rfl
      case hi => exact (pi_range1 rfl Z.range_ (pa_cons (pv 2) pa_nil))
      case hg => exact (pg_name (i := 5) sc_law_row.nd rfl (by first | exact Or.inl rfl | exact Or.inr rfl))
      case hb =>
        apply pss_cons
        case h1 =>
          exact (ps_set (i := 6) sc_law_row.nd rfl (by first | exact Or.inl rfl | exact Or.inr rfl) (pe_op op_sub (pe_def D_law_take hr rfl (pa_cons (pv 0) (pa_cons (pe_ix (ix_listK (K := K) rfl) (pe_lst (pa_cons pe_int (pa_cons pe_int (pa_cons pe_int (pa_cons pe_int (pa_cons pe_int (pa_cons pe_int pa_nil))))))) (pv 3) (fun _ _ => rfl)) pa_nil))) (pe_ix (ix_listK (K := K) rfl) (pe_lst (pa_cons pe_int (pa_cons pe_int (pa_cons pe_int (pa_cons pe_int (pa_cons pe_int (pa_cons pe_int pa_nil))))))) (pv 3) (fun _ _ => rfl))))
        apply pss_cons
        case h1 =>
          apply ps_if
          case hc => exact (pt_cmpR op_eq (pv 3) pe_int (nomark _))
          case ha =>
            apply pss_one
            exact (ps_set (i := 6) sc_law_row.nd rfl (by first | exact Or.inl rfl | exact Or.inr rfl) (pe_op op_sub (pv 6) pe_int))
          case hb =>
            exact pss_nil
        apply pss_cons
        case h1 =>
          apply ps_if
          case hc => exact (pt_cmpR op_eq (pv 3) pe_int (nomark _))
          case ha =>
            apply pss_one
            exact (ps_set (i := 6) sc_law_row.nd rfl (by first | exact Or.inl rfl | exact Or.inr rfl) (pe_op op_add (pe_op op_mul (pv 6) (pe_op op_pow pe_int pe_int)) (pe_def D_law_take hr rfl (pa_cons (pv 0) (pa_cons pe_int pa_nil)))))
          case hb =>
            exact pss_nil
        apply pss_cons
        case h1 =>
          apply ps_if
          case hc => exact (pt_cmpR op_eq (pv 3) pe_int (nomark _))
          case ha =>
            apply pss_one
            exact (ps_set (i := 6) sc_law_row.nd rfl (by first | exact Or.inl rfl | exact Or.inr rfl) (pe_op op_mul (pe_ix (ix_listK (K := K) rfl) (pe_lst (pa_cons pe_int (pa_cons (pe_un un_neg pe_int) pa_nil))) (pe_op op_mod (pv 5) pe_int) (fun _ _ => rfl)) (pe_callB call_abs rfl Z.abs_ PyProof.Rows.boot_abs (pa_cons (pv 6) pa_nil))))
          case hb =>
            exact pss_nil
        apply pss_one
        exact (ps_expr (pe_bmK (K := K) rfl PySem.F.plainAttrs_list PySem.F.slot_list_append PySem.F.type_list_append mt_append (pv 4) (pa_cons (pv 6) pa_nil)))
    apply pss_one
    exact (ps_ret (pv 4))
  walk_at "rd"
  refine ⟨_, _, rfl, hq, by (first | lia | omega), by (first | lia | omega), fun n1 H1 s1 hq1 h1a h1b => ?_⟩
  walk_at "rd"
  refine ⟨_, _, rfl, hq1, by decide, by decide, fun way H2 s2 hq2 h2a h2b => ?_⟩
  walk_at "rd"
  refine ⟨Nat.zero_le _, fun l hl => ?_⟩
  have s3 := (s1.trans s2).upd (p := l) (o := .lst []) ((s1.trans s2).free hq2 hl)
  have hlq : l ≠ q := hq2.ne hl
  have hl0 : H l = none := (s1.trans s2).free hq2 hl
  walk_at "rd"
  refine ⟨by (first | lia | omega), by (first | lia | omega), ?_⟩
  obtain ⟨size, hsz⟩ : ∃ z, z = 1 + n1 := ⟨_, rfl⟩
  refine for_range (fun i σ H' => ∃ (ns : List Int) (o5 o6 : Option V), ns.length = i ∧ SameX q H H' ∧ Reel H' q ∧ H' l = some (.lst (ns.map V.int)) ∧ σ = [some (.ref q), some (.int m), some (.int size), some (.int way), some (.ref l), o5, o6]) ?_ ?_ ?_
  · exact ⟨[], none, none, rfl, s3, hq2.keep (Same.new hl _), upd_same, by rw [hsz]; rfl⟩
  · rintro i σ H3 hi ⟨ns, o5, o6, hlen, sm, hq3, hl3, rfl⟩
    walk_at "rd"
    refine ⟨by show 6 ≤ sizeLine; decide, fun p1 hp1 => ?_⟩
    walk_at "rd"
    obtain ⟨d1, hd1, e1⟩ := pick (ns := [7, 19, 9, 3, 5, 9]) (k := way) (by (first | lia | omega)) (by show way < 6; (first | lia | omega))
    have hd1' : 1 ≤ d1 ∧ d1 ≤ 19 := by
      simp only [List.mem_cons, List.not_mem_nil, or_false] at hd1
      (first | lia | omega)
    refine ⟨p1, _, _, _, rfl, rfl, .of upd_same, e1, ?_⟩
    refine ⟨q, _, rfl, hq3.keep (Same.new hp1 _), by (first | lia | omega), by (first | lia | omega), fun n2 H4 s4 hq4 h4a h4b => ?_⟩
    walk_at "rd"
    refine ⟨by show 6 ≤ sizeLine; decide, fun p2 hp2 => ?_⟩
    walk_at "rd"
    obtain ⟨d2, hd2, e2⟩ := pick (ns := [3, 9, 9, 1, 2, 4]) (k := way) (by (first | lia | omega)) (by show way < 6; (first | lia | omega))
    have hd2' : 1 ≤ d2 ∧ d2 ≤ 9 := by
      simp only [List.mem_cons, List.not_mem_nil, or_false] at hd2
      (first | lia | omega)
    refine ⟨p2, _, _, _, rfl, rfl, .of upd_same, e2, ?_⟩
    have s5 : SameX q H3 (upd H4 p2 (.lst [.int 3, .int 9, .int 9, .int 1, .int 2, .int 4])) := fun b o hb e => Same.new hp2 _ _ _ (s4 b o hb (Same.new hp1 _ _ _ e))
    have hq5 := hq4.keep (Same.new hp2 (.lst [.int 3, .int 9, .int 9, .int 1, .int 2, .int 4]))
    obtain ⟨H5, eH5⟩ : ∃ z, z = upd H4 p2 (.lst [.int 3, .int 9, .int 9, .int 1, .int 2, .int 4]) := ⟨_, rfl⟩
    rw [← eH5] at s5 hq5
    walk_at "rd"
    rw [← eH5]
    refine ifJ (fun σ' H' => ∃ x : Int, -100 ≤ x ∧ x ≤ 100 ∧ H5 = H' ∧ σ' = [some (.ref q), some (.int m), some (.int size), some (.int way), some (.ref l), some (.int (0 + i)), some (.int x)]) ?_ (fun _ => ⟨_, by (first | lia | omega), by (first | lia | omega), rfl, rfl⟩) (fun R hR _ => ?_)
    case refine_2 =>
      walk_at "rd"
      exact hR _ _ ⟨_, by (first | lia | omega), by (first | lia | omega), rfl, rfl⟩
    rintro _ _ ⟨x, hx1, hx2, rfl, rfl⟩
    walk_at "rd"
    refine ifJ (fun σ' H' => ∃ x : Int, SameX q H3 H' ∧ Reel H' q ∧ ((way = 4 → False) → -100 ≤ x ∧ x ≤ 100) ∧ σ' = [some (.ref q), some (.int m), some (.int size), some (.int way), some (.ref l), some (.int (0 + i)), some (.int x)]) ?_ (fun _ => ⟨_, s5, hq5, fun _ => ⟨hx1, hx2⟩, rfl⟩) (fun R hR h4 => ?_)
    case refine_2 =>
      walk_at "rd"
      refine ⟨cMulL' (by (first | lia | omega)) (by (first | lia | omega)), ?_⟩
      walk_at "rd"
      refine ⟨_, _, rfl, hq5, by decide, by decide, fun n3 H6 s6 hq6 h6a h6b => ?_⟩
      walk_at "rd"
      exact hR _ _ ⟨_, s5.trans s6, hq6, fun z => absurd (V.int.inj h4) z, rfl⟩
    rintro _ H6 ⟨y, s6, hq6, hy, rfl⟩
    walk_at "rd"
    refine ifJ (fun σ' H' => ∃ x : Int, SameX q H3 H' ∧ Reel H' q ∧ σ' = [some (.ref q), some (.int m), some (.int size), some (.int way), some (.ref l), some (.int (0 + i)), some (.int x)]) ?_ (fun _ => ⟨_, s6, hq6, rfl⟩) (fun R hR h5 => ?_)
    case refine_2 =>
      have h5' := V.int.inj h5
      have hy' := hy (by (first | lia | omega))
      walk_at "rd"
      refine ⟨by show 2 ≤ sizeLine; decide, fun p3 hp3 => ?_⟩
      walk_at "rd"
      obtain ⟨d3, hd3, e3⟩ := pick (ns := [1, -1]) (k := (0 + i) % 2) (mod_lt (by decide)).1 (mod_lt (by decide)).2
      have hd3' : -2 ≤ d3 ∧ d3 ≤ 2 := by
        simp only [List.mem_cons, List.not_mem_nil, or_false] at hd3
        (first | lia | omega)
      refine ⟨p3, _, _, _, rfl, rfl, .of upd_same, e3, ?_⟩
      refine ⟨_, rfl, _, rfl, _, _, rfl, rfl, cMulL' (by (first | lia | omega)) (by (first | lia | omega)), ?_⟩
      exact hR _ _ ⟨_, fun b o hb e => Same.new hp3 _ _ _ (s6 b o hb e), hq6.keep (Same.new hp3 _), rfl⟩
    rintro _ H7 ⟨x7, s7, hq7, rfl⟩
    have hl7 := s7 _ _ hlq hl3
    walk_at "rd"
    refine ⟨.inl ⟨rfl, _, SqL.of hl7⟩, ?_⟩
    walk_at "rd"
    refine ⟨l, _, _, rfl, rfl, hl7, small (by rw [List.length_map]; (first | lia | omega)), ?_⟩
    refine ⟨ns ++ [x7], _, _, by rw [List.length_append, List.length_singleton, hlen], (sm.trans s7).upd hl0, ?_, by rw [upd_same, List.map_append]; rfl, rfl⟩
    obtain ⟨a, b, e, z⟩ := hq7
    exact ⟨a, b, by rw [upd_ne (Ne.symm hlq)]; exact e, z⟩
  · rintro σ H3 ⟨ns, o5, o6, hlen, sm, hq3, hl3, rfl⟩
    walk_at "rd"
    exact fin l ns H3 sm hq3 hl0 hl3 (by (first | lia | omega)) (by (first | lia | omega))
noncomputable def sp_cnts : Sp := fun vs H Q _ => ∃ (q : Addr) (n : Nat), vs = [.ref q, .int n] ∧ Reel H q ∧ 1 ≤ n ∧ n ≤ 1000 ∧
  ∀ (t : Addr) (c g : Nat) (H' : Hp), SameX q H H' → Reel H' q → H t = none → H' t = some (.tup [.int c, .int g]) → 1 ≤ c → c ≤ (n + g) / (1 + g) → g ≤ 1000 → Q (.ref t) H'
theorem ok_cnts {P : Program} {w : World} {K : PySem.W.Frag} {mg : Str → Option Value} {base : Heap} {k : Nat} {f : Addr} {fd : FuncData} (F : Fun K "_law_counts" "_law_counts" s_law_counts f fd) (Z : Blt mg)
    (D_law_take : Def P w K mg base k "_law_take" ["reel", "many"] sp_take) : FnOk P w K mg base CX0 (k + 1) f fd ["reel", "many"] sp_cnts := by
  refine F.ok sc_law_counts (fun vs H Q E h => ?_) (fun cdv A outer s H vs Q E hr h => ?_)
  · obtain ⟨q, n, rfl, _⟩ := h
    rfl
  obtain ⟨q, n, rfl, hq, hn1, hn2, fin⟩ := h
  apply Exists.intro
  apply And.intro
  case left =>
    apply pss_cons
    case h1 =>
      exact (ps_set (i := 2) sc_law_counts.nd rfl (by first | exact Or.inl rfl | exact Or.inr rfl) (pe_ix (ix_listK (K := K) rfl) (pe_lst (pa_cons pe_int (pa_cons pe_int (pa_cons pe_int (pa_cons (pe_def D_law_take hr rfl (pa_cons (pv 0) (pa_cons pe_int pa_nil))) (pa_cons (pe_def D_law_take hr rfl (pa_cons (pv 0) (pa_cons (pe_op op_add (pv 1) pe_int) pa_nil))) pa_nil)))))) (pe_def D_law_take hr rfl (pa_cons (pv 0) (pa_cons pe_int pa_nil))) (fun _ _ => rfl)))
    apply pss_cons
    case h1 =>
      exact (ps_set (i := 3) sc_law_counts.nd rfl (by first | exact Or.inl rfl | exact Or.inr rfl) (pe_op op_add pe_int (pe_def D_law_take hr rfl (pa_cons (pv 0) (pa_cons (pe_op op_fdiv (pe_op op_add (pv 1) (pv 2)) (pe_op op_add pe_int (pv 2))) pa_nil)))))
    apply pss_one
    exact (ps_ret (pe_tup (pa_cons (pv 3) (pa_cons (pv 2) pa_nil))))
  walk_at "rd"
  refine ⟨_, _, rfl, hq, by decide, by decide, fun n1 H1 s1 hq1 h1a h1b => ?_⟩
  walk_at "rd"
  refine ⟨_, _, rfl, hq1, by (first | lia | omega), by (first | lia | omega), fun n2 H2 s2 hq2 h2a h2b => ?_⟩
  walk_at "rd"
  refine ⟨by show 5 ≤ sizeLine; decide, fun p1 hp1 => ?_⟩
  walk_at "rd"
  have hq3 := hq2.keep (Same.new hp1 (.lst [.int 0, .int 0, .int 1, .int n1, .int n2]))
  refine ⟨_, _, rfl, hq3, by decide, by decide, fun n3 H3 s3 hq4 h3a h3b => ?_⟩
  have hp3 : H3 p1 = some (.lst (([0, 0, 1, n1, n2] : List Int).map V.int)) := s3 _ _ (hq2.ne hp1) upd_same
  obtain ⟨d, hd, ed⟩ := pick (ns := [0, 0, 1, n1, n2]) (k := n3) (by (first | lia | omega)) (by show n3 < 5; (first | lia | omega))
  have hd' : 0 ≤ d ∧ d ≤ 1000 := by
    simp only [List.mem_cons, List.not_mem_nil, or_false] at hd
    (first | lia | omega)
  refine ⟨p1, _, _, _, rfl, rfl, SqL.of hp3, ed, ?_⟩
  obtain ⟨g, rfl⟩ : ∃ g : Nat, d = g := ⟨d.toNat, by (first | lia | omega)⟩
  walk_at "rd"
  refine ⟨⟨by (first | lia | omega), by (first | lia | omega)⟩, ?_⟩
  have ediv : ((n : Int) + g) / (1 + g) = (((n + g) / (1 + g) : Nat) : Int) := by push_cast; rfl
  have hge : 1 ≤ (n + g) / (1 + g) := (Nat.le_div_iff_mul_le (by (first | lia | omega))).mpr (by (first | lia | omega))
  have hle : (n + g) / (1 + g) ≤ n + g := Nat.div_le_self _ _
  dsimp only
  rw [ediv]
  refine ⟨_, _, rfl, hq4, by (first | lia | omega), by (first | lia | omega), fun n4 H4 s4 hq5 h4a h4b => ?_⟩
  walk_at "rd"
  refine ⟨by show 2 ≤ sizeLine; decide, fun t ht => ?_⟩
  have s13 : SameX q H H3 := (s1.trans s2).trans (fun b o hb e => s3 _ _ hb (Same.new hp1 _ _ _ e))
  have s14 : SameX q H H4 := s13.trans s4
  refine fin t (1 + n4.toNat) g _ (s14.upd (s14.free hq5 ht)) (hq5.keep (Same.new ht _)) (s14.free hq5 ht) ?_ (by (first | lia | omega)) (by (first | lia | omega)) (by (first | lia | omega))
  dsimp only
  rw [upd_same, show (1 : Int) + n4 = ((1 + n4.toNat : Nat) : Int) by (first | lia | omega)]
noncomputable def sp_whole : Sp := fun vs H Q _ => ∃ i : Int, vs = [.int i] ∧ Q (.bl true) H
theorem ok_whole {P : Program} {w : World} {K : PySem.W.Frag} {mg : Str → Option Value} {base : Heap} {k : Nat} {f : Addr} {fd : FuncData} (F : Fun K "is_whole" "is_whole" s_is_whole f fd) (Z : Blt mg) : FnOk P w K mg base CX0 (k + 1) f fd ["thing"] sp_whole := by
  refine F.ok sc_is_whole (fun vs H Q E h => ?_) (fun cdv A outer s H vs Q E hr h => ?_)
  · obtain ⟨i, rfl, _⟩ := h
    rfl
  obtain ⟨i, rfl, q⟩ := h
  apply Exists.intro
  apply And.intro
  case left =>
    apply pss_one
    exact (ps_ret (pe_and (pe_callB call_isi rfl Z.isinstance_ PyProof.Rows.boot_isinstance (pa_cons (pv 0) (pa_cons (pe_bltn (v := .ty "int") rfl Z.int_ PyProof.Rows.boot_int rfl) pa_nil))) (pe_one (pe_not (pe_callB call_isi rfl Z.isinstance_ PyProof.Rows.boot_isinstance (pa_cons (pv 0) (pa_cons (pe_bltn (v := .ty "bool") rfl Z.bool_ PyProof.Rows.boot_bool rfl) pa_nil)))))))
  walk_at "rd"
  refine ⟨_, _, _, _, rfl, .int _, kit_ii, _, rfl, iteT ?_⟩
  walk_at "rd"
  refine ⟨_, _, _, _, rfl, .int _, kit_ib, _, rfl, ?_⟩
  exact q
noncomputable def ppr (ns : List Int) : Nat → Int
  | 0 => ns.getD 0 0
  | i + 1 => ns.getD (i + 1) 0 + (if ppr ns i > 0 then ppr ns i else 0)
noncomputable def pprL (ns : List Int) (i : Nat) : List Int := (List.range i).map (ppr ns)
theorem pprL_len {ns : List Int} {i : Nat} : (pprL ns i).length = i := by unfold pprL; rw [List.length_map, List.length_range]
theorem pprL_succ {ns : List Int} {i : Nat} : pprL ns (i + 1) = pprL ns i ++ [ppr ns i] := by
  unfold pprL
  rw [List.range_succ, List.map_append]
  rfl
theorem pprL_at {ns : List Int} {i d : Nat} (h : d < i) : (pprL ns i).getD d 0 = ppr ns d := by
  unfold pprL
  rw [List.getD_eq_getElem?_getD, List.getElem?_map, List.getElem?_range h]
  rfl
noncomputable def IsTop (ns : List Int) (lo p : Nat) (v : Int) : Prop := (∀ f, lo ≤ f → f ≤ p → psum ns (p + 1) - psum ns f ≤ v) ∧ ∃ f, lo ≤ f ∧ f ≤ p ∧ v = psum ns (p + 1) - psum ns f
theorem ppr_top {ns : List Int} : ∀ {p : Nat}, p < ns.length → IsTop ns 0 p (ppr ns p)
  | 0, h => by
    have e : psum ns 1 = psum ns 0 + ns.getD 0 0 := psum_getD (ns := ns) (i := 0) h
    have z : psum ns 0 = 0 := rfl
    refine ⟨fun f _ hf => ?_, 0, by (first | lia | omega), by (first | lia | omega), ?_⟩
    · have : f = 0 := by (first | lia | omega)
      subst this
      show psum ns 1 - psum ns 0 ≤ ns.getD 0 0
      (first | lia | omega)
    · show ns.getD 0 0 = psum ns 1 - psum ns 0
      (first | lia | omega)
  | p + 1, h => by
    obtain ⟨h1, f, a, b, e⟩ := ppr_top (ns := ns) (p := p) (by (first | lia | omega))
    have e1 := psum_getD (ns := ns) (i := p + 1) h
    have eq : ppr ns (p + 1) = ns.getD (p + 1) 0 + (if ppr ns p > 0 then ppr ns p else 0) := rfl
    refine ⟨fun f' _ hf' => ?_, ?_⟩
    · by_cases ef : f' = p + 1
      · subst ef
        rw [eq]
        split <;> (first | lia | omega)
      · have := h1 f' (by (first | lia | omega)) (by (first | lia | omega))
        rw [eq]
        split <;> (first | lia | omega)
    · by_cases hp : ppr ns p > 0
      · refine ⟨f, a, by (first | lia | omega), ?_⟩
        rw [eq, if_pos hp]
        (first | lia | omega)
      · refine ⟨p + 1, by (first | lia | omega), by (first | lia | omega), ?_⟩
        rw [eq, if_neg hp]
        (first | lia | omega)
noncomputable def Right (ns ps : List Int) : Prop := ps.length = ns.length ∧ ∀ i, i < ns.length → ns.getD i 0 ≤ ps.getD i 0 ∧ (0 < i → ns.getD i 0 + ps.getD (i - 1) 0 ≤ ps.getD i 0)
theorem ppr_right {ns : List Int} : Right ns (pprL ns ns.length) := by
  refine ⟨pprL_len, fun i hi => ?_⟩
  rw [pprL_at hi]
  constructor
  · cases i with
    | zero => exact Int.le_refl _
    | succ i =>
      show _ ≤ ns.getD (i + 1) 0 + (if ppr ns i > 0 then ppr ns i else 0)
      split <;> (first | lia | omega)
  · intro h0
    obtain ⟨j, rfl⟩ : ∃ j, i = j + 1 := ⟨i - 1, by (first | lia | omega)⟩
    rw [show j + 1 - 1 = j from rfl, pprL_at (by (first | lia | omega))]
    show _ ≤ ns.getD (j + 1) 0 + (if ppr ns j > 0 then ppr ns j else 0)
    split <;> (first | lia | omega)
theorem ppr_less {ns : List Int} {d : Nat} (hd : d < ns.length) {ps : List Int} (hl : ps.length = ns.length) (hps : ∀ i, i < ns.length → ps.getD i 0 = if i = d then ppr ns d - 1 else ppr ns i) : ¬ Right ns ps := by
  rintro ⟨_, h⟩
  have h1 := (h d hd).1
  rw [hps d hd, if_pos rfl] at h1
  cases d with
  | zero =>
    have : ppr ns 0 = ns.getD 0 0 := rfl
    (first | lia | omega)
  | succ d =>
    have h2 := (h (d + 1) hd).2 (by (first | lia | omega))
    have e : ppr ns (d + 1) = ns.getD (d + 1) 0 + (if ppr ns d > 0 then ppr ns d else 0) := rfl
    rw [hps (d + 1) hd, if_pos rfl, show d + 1 - 1 = d from rfl, hps d (by (first | lia | omega)), if_neg (by (first | lia | omega))] at h2
    split at e <;> (first | lia | omega)
noncomputable def sp_paper : Sp := fun vs H Q _ => ∃ (r : Addr) (ns : List Int), vs = [.ref r] ∧ H r = some (.lst (ns.map V.int)) ∧ 1 ≤ ns.length ∧ ns.length ≤ 90000 ∧
  ∀ (l : Addr) (H' : Hp), Same H H' → H l = none → H' l = some (.lst ((pprL ns ns.length).map V.int)) → Q (.ref l) H'
theorem ok_paper {P : Program} {w : World} {K : PySem.W.Frag} {mg : Str → Option Value} {base : Heap} {k : Nat} {f : Addr} {fd : FuncData} (F : Fun K "paper_of" "paper_of" s_paper_of f fd) (Z : Blt mg) : FnOk P w K mg base CX0 (k + 1) f fd ["row"] sp_paper := by
  refine F.ok sc_paper_of (fun vs H Q E h => ?_) (fun cdv A outer s H vs Q E hr h => ?_)
  · obtain ⟨r, ns, rfl, _⟩ := h
    rfl
  obtain ⟨r, ns, rfl, hR, hn, hz, q⟩ := h
  apply Exists.intro
  apply And.intro
  case left =>
    apply pss_cons
    case h1 =>
      exact (ps_set (i := 1) sc_paper_of.nd rfl (by first | exact Or.inl rfl | exact Or.inr rfl) (pe_lst (pa_cons (pe_ix (ix_listK (K := K) rfl) (pv 0) pe_int (fun _ _ => rfl)) pa_nil)))
    apply pss_cons
    case h1 =>
      apply ps_for PassesOwn.never rfl
      case hi => exact (pi_range2 rfl Z.range_ (pa_cons pe_int (pa_cons (pe_callB (call_len_seqK (K := K) rfl) rfl Z.len_ PySem.boot_len (pa_cons (pv 0) pa_nil)) pa_nil)))
      case hg => exact (pg_name (i := 2) sc_paper_of.nd rfl (by first | exact Or.inl rfl | exact Or.inr rfl))
      case hb =>
        apply pss_one
        exact (ps_expr (pe_bmK (K := K) rfl PySem.F.plainAttrs_list PySem.F.slot_list_append PySem.F.type_list_append mt_append (pv 1) (pa_cons (pe_op op_add (pe_ix (ix_listK (K := K) rfl) (pv 0) (pv 2) (fun _ _ => rfl)) (pe_callB (call_max2 rfl) rfl Z.max_ PyProof.Rows.boot_max (pa_cons pe_int (pa_cons (pe_ix (ix_listK (K := K) rfl) (pv 1) (pe_op op_sub (pv 2) pe_int) (fun _ _ => rfl)) pa_nil)))) pa_nil)))
    apply pss_one
    exact (ps_ret (pv 1))
  have hl : (ns.map V.int).length = ns.length := List.length_map _
  walk_at "rd"
  refine ⟨r, _, _, _, rfl, rfl, SqL.of hR, atI_ok (k := 0) (by (first | lia | omega)) (by (first | lia | omega)), ?_⟩
  walk_at "rd"
  refine ⟨by show 1 ≤ sizeLine; decide, fun l hl0 => ?_⟩
  have s1 : Same H (upd H l (.lst [.int (ns.getD 0 0)])) := Same.new hl0 _
  walk_at "rd"
  refine ⟨r, _, rfl, .inl (SqL.of (s1 _ _ hR)), ?_⟩
  refine ⟨_, _, rfl, ⟨by (first | lia | omega), by (first | lia | omega), by (first | lia | omega), by (first | lia | omega)⟩, ?_⟩
  refine for_range (fun i σ H' => ∃ o2, Same H H' ∧ H' l = some (.lst ((pprL ns (i + 1)).map V.int)) ∧ σ = [some (.ref r), some (.ref l), o2]) ⟨none, s1, upd_same, rfl⟩ ?_ ?_
  · rintro i σ H1 hi ⟨o2, sm, hl1, rfl⟩
    have hi' : i + 1 < ns.length := by (first | lia | omega)
    have ei : ((1 : Int) + i).toNat = i + 1 := by (first | lia | omega)
    have ej : ((1 : Int) + i - 1).toNat = i := by (first | lia | omega)
    have hpl := pprL_len (ns := ns) (i := i + 1)
    walk_at "rd"
    refine ⟨.inl ⟨rfl, _, SqL.of hl1⟩, ?_⟩
    walk_at "rd"
    refine ⟨r, _, _, _, rfl, rfl, SqL.of (sm _ _ hR), atI_ok (by (first | lia | omega)) (by (first | lia | omega)), ?_⟩
    walk_at "rd"
    refine ⟨l, _, _, _, rfl, rfl, SqL.of hl1, atI_ok (by (first | lia | omega)) (by (first | lia | omega)), ?_⟩
    rw [ei, ej, pprL_at (by (first | lia | omega))]
    refine ⟨_, _, rfl, ?_⟩
    walk_at "rd"
    refine ⟨l, _, _, rfl, rfl, hl1, small (by rw [List.length_map]; (first | lia | omega)), ?_⟩
    refine ⟨_, sm.upd hl0, ?_, rfl⟩
    rw [upd_same, pprL_succ (i := i + 1), List.map_append]
    rfl
  · rintro σ H1 ⟨o2, sm, hl1, rfl⟩
    walk_at "rd"
    have e : ((((ns.map V.int).length : Nat) : Int) - 1).toNat + 1 = ns.length := by (first | lia | omega)
    rw [e] at hl1
    exact q l H1 sm hl0 hl1
noncomputable def sp_arew : Sp := fun vs H Q _ => ∃ (p : Addr) (ps : List Int) (m : Int), vs = [.ref p, .int m] ∧ H p = some (.lst (ps.map V.int)) ∧ ps.length ≤ 90000 ∧ ∀ H', Same H H' → Q (.bl (decide ((ps.length : Int) = m))) H'
theorem ok_arew {P : Program} {w : World} {K : PySem.W.Frag} {mg : Str → Option Value} {base : Heap} {k : Nat} {f : Addr} {fd : FuncData} (F : Fun K "are_whole" "are_whole" s_are_whole f fd) (Z : Blt mg)
    (D_is_whole : Def P w K mg base k "is_whole" ["thing"] sp_whole) : FnOk P w K mg base CX0 (k + 1) f fd ["paper", "many"] sp_arew := by
  refine F.ok sc_are_whole (fun vs H Q E h => ?_) (fun cdv A outer s H vs Q E hr h => ?_)
  · obtain ⟨p, ps, m, rfl, _⟩ := h
    rfl
  obtain ⟨p, ps, m, rfl, hp, hz, q⟩ := h
  apply Exists.intro
  apply And.intro
  case left =>
    apply pss_one
    exact (ps_ret (pe_and (pe_cmpR op_eq (pe_callB (call_len_seqK (K := K) rfl) rfl Z.len_ PySem.boot_len (pa_cons (pv 0) pa_nil)) (pv 1) (nomark _)) (pe_one (pe_callB (call_all rfl) rfl Z.all_ PyProof.Rows.boot_all (pa_cons (pe_lc (N' := ["number"]) (ix := [none]) rfl rfl (by decide +kernel) rfl rfl rfl rfl (pi_listK (K := K) rfl (pv 0)) (fun _ _ _ _ => (pg_name (i := 0) (show List.Nodup (["number"] : List Str) by decide +kernel) rfl (by first | exact Or.inl rfl | exact Or.inr rfl))) (fun _ _ _ _ => pts_nil) (fun _ _ _ _ => (pe_def D_is_whole hr rfl (pa_cons (pv 0) pa_nil)))) pa_nil)))))
  have hl : (ps.map V.int).length = ps.length := List.length_map _
  walk_at "rd"
  refine ⟨p, _, rfl, .inl (SqL.of hp), ?_⟩
  walk_at "rd"
  refine ifI (fun he => ?_) (fun hne => ?_)
  · rw [hl] at he
    rw [decide_eq_true he] at q
    walk_at "rd"
    refine ⟨⟨_, SqL.of hp⟩, ?_⟩
    intro acc hacc
    refine comp_by (n := ps.length) (fun i τ zs H' => H' acc = some (.lst zs) ∧ zs = (List.replicate i true).map V.bl ∧ Same H H' ∧ ∃ o0, τ = [o0]) ⟨upd_same, rfl, Same.new hacc _, none, rfl⟩ (by (first | lia | omega)) ?_ ?_ ?_ ?_
    · rintro i τ zs H' ⟨e, rfl, _⟩
      exact ⟨e, by rw [List.length_map, List.length_replicate]; exact Nat.le_refl _⟩
    · rintro i τ zs H' hi ⟨e, _, sm, _⟩
      exact ⟨_, V.int ps[i], SqL.of (sm _ _ hp), by rw [List.getElem?_map, List.getElem?_eq_getElem hi]; rfl⟩
    · rintro τ zs H' ⟨e, rfl, sm, _⟩
      refine ⟨⟨_, SqL.of (sm _ _ hp), by rw [hl]; exact Nat.le_refl _⟩, ?_⟩
      refine ⟨acc, List.replicate ps.length true, rfl, SqL.of e, ?_⟩
      have ea : (List.replicate ps.length true).all id = true := by simp
      rw [ea]
      exact q _ sm
    · rintro i τ zs H' v H2 hi ⟨e, rfl, sm, o0, rfl⟩ ⟨rfl, y⟩
      have ey := y _ (SqL.of (sm _ _ hp))
      obtain ⟨_, rfl⟩ := int_at ey
      walk_at "rd"
      refine ⟨e, Nx.mk hi ⟨upd_same, ?_, sm.upd hacc, _, rfl⟩⟩
      rw [List.replicate_succ', List.map_append]
      rfl
  · rw [hl] at hne
    rw [decide_eq_false hne] at q
    exact q _ (Same.refl _)
noncomputable def sp_shows : Sp := fun vs H Q _ => ∃ (r p : Addr) (ns ps : List Int), vs = [.ref r, .ref p] ∧ H r = some (.lst (ns.map V.int)) ∧ H p = some (.lst (ps.map V.int)) ∧ ns.length ≤ 90000 ∧ ps.length ≤ 90000 ∧
  ∀ (b : Bool) (H' : Hp), Same H H' → (b = true ↔ Right ns ps) → Q (.bl b) H'
theorem ok_shows {P : Program} {w : World} {K : PySem.W.Frag} {mg : Str → Option Value} {base : Heap} {k : Nat} {f : Addr} {fd : FuncData} (F : Fun K "paper_shows" "paper_shows" s_paper_shows f fd) (Z : Blt mg)
    (D_are_whole : Def P w K mg base k "are_whole" ["paper", "many"] sp_arew) : FnOk P w K mg base CX0 (k + 1) f fd ["row", "paper"] sp_shows := by
  refine F.ok sc_paper_shows (fun vs H Q E h => ?_) (fun cdv A outer s H vs Q E hr h => ?_)
  · obtain ⟨r, p, ns, ps, rfl, _⟩ := h
    rfl
  obtain ⟨r, p, ns, ps, rfl, hR, hp, hz, hzp, q⟩ := h
  apply Exists.intro
  apply And.intro
  case left =>
    apply pss_cons
    case h1 =>
      apply ps_if
      case hc => exact (pt_not (pt_val (pe_def D_are_whole hr rfl (pa_cons (pv 1) (pa_cons (pe_callB (call_len_seqK (K := K) rfl) rfl Z.len_ PySem.boot_len (pa_cons (pv 0) pa_nil)) pa_nil)))))
      case ha =>
        apply pss_one
        exact (ps_ret pe_bl)
      case hb =>
        exact pss_nil
    apply pss_cons
    case h1 =>
      apply ps_for PassesOwn.never rfl
      case hi => exact (pi_range1 rfl Z.range_ (pa_cons (pe_callB (call_len_seqK (K := K) rfl) rfl Z.len_ PySem.boot_len (pa_cons (pv 0) pa_nil)) pa_nil))
      case hg => exact (pg_name (i := 2) sc_paper_shows.nd rfl (by first | exact Or.inl rfl | exact Or.inr rfl))
      case hb =>
        apply pss_cons
        case h1 =>
          apply ps_if
          case hc => exact (pt_cmpR op_lt (pe_ix (ix_listK (K := K) rfl) (pv 1) (pv 2) (fun _ _ => rfl)) (pe_ix (ix_listK (K := K) rfl) (pv 0) (pv 2) (fun _ _ => rfl)) (nomark _))
          case ha =>
            apply pss_one
            exact (ps_ret pe_bl)
          case hb =>
            exact pss_nil
        apply pss_one
        apply ps_if
        case hc => exact (PW.pt (pw_and (pt_cmpR op_gt (pv 2) pe_int (nomark _)) (pw_and1 (pt_cmpR op_lt (pe_ix (ix_listK (K := K) rfl) (pv 1) (pv 2) (fun _ _ => rfl)) (pe_op op_add (pe_ix (ix_listK (K := K) rfl) (pv 0) (pv 2) (fun _ _ => rfl)) (pe_ix (ix_listK (K := K) rfl) (pv 1) (pe_op op_sub (pv 2) pe_int) (fun _ _ => rfl))) (nomark _)))))
        case ha =>
          apply pss_one
          exact (ps_ret pe_bl)
        case hb =>
          exact pss_nil
    apply pss_one
    exact (ps_ret pe_bl)
  have hl : (ns.map V.int).length = ns.length := List.length_map _
  have hlp : (ps.map V.int).length = ps.length := List.length_map _
  walk_at "rd"
  refine ⟨r, _, rfl, .inl (SqL.of hR), ?_⟩
  refine ⟨_, _, _, rfl, hp, hzp, fun H1 s1 => ?_⟩
  rw [hl]
  walk_at "rd"
  refine ifN (fun hne => ?_) (fun he => ?_)
  · walk_at "rd"
    exact q false _ s1 ⟨(fun z => by cases z), fun z => absurd (by rw [z.1]) hne⟩
  have he' : ps.length = ns.length := by (first | lia | omega)
  have hR1 := s1 _ _ hR
  have hp1 := s1 _ _ hp
  walk_at "rd"
  refine ⟨r, _, rfl, .inl (SqL.of hR1), ?_⟩
  refine ⟨_, rfl, by (first | lia | omega), by (first | lia | omega), ?_⟩
  refine for_range (fun i σ H' => ∃ o2, H1 = H' ∧ (∀ j, j < i → ns.getD j 0 ≤ ps.getD j 0 ∧ (0 < j → ns.getD j 0 + ps.getD (j - 1) 0 ≤ ps.getD j 0)) ∧ σ = [some (.ref r), some (.ref p), o2]) ⟨none, rfl, fun j hj => by (first | lia | omega), rfl⟩ ?_ ?_
  · rintro i σ H2 hi ⟨o2, rfl, hall, rfl⟩
    have hi' : i < ns.length := by (first | lia | omega)
    have ei : ((0 : Int) + i).toNat = i := by (first | lia | omega)
    walk_at "rd"
    refine ⟨p, _, _, _, rfl, rfl, SqL.of hp1, atI_ok (by (first | lia | omega)) (by (first | lia | omega)), ?_⟩
    walk_at "rd"
    refine ⟨r, _, _, _, rfl, rfl, SqL.of hR1, atI_ok (by (first | lia | omega)) (by (first | lia | omega)), ?_⟩
    rw [ei]
    walk_at "rd"
    refine ifD (fun hlt => ?_) (fun hge => ?_)
    · walk_at "rd"
      refine q false _ s1 ⟨(fun z => by cases z), fun z => ?_⟩
      have := (z.2 i hi').1
      (first | lia | omega)
    walk_at "rd"
    refine ifD (fun h0 => ?_) (fun h0 => ?_)
    · have h0' : 0 < i := by (first | lia | omega)
      have ej : ((0 : Int) + i - 1).toNat = i - 1 := by (first | lia | omega)
      walk_at "rd"
      refine ⟨p, _, _, _, rfl, rfl, SqL.of hp1, atI_ok (by (first | lia | omega)) (by (first | lia | omega)), ?_⟩
      walk_at "rd"
      refine ⟨r, _, _, _, rfl, rfl, SqL.of hR1, atI_ok (by (first | lia | omega)) (by (first | lia | omega)), ?_⟩
      walk_at "rd"
      refine ⟨p, _, _, _, rfl, rfl, SqL.of hp1, atI_ok (by (first | lia | omega)) (by (first | lia | omega)), ?_⟩
      rw [ei, ej]
      walk_at "rd"
      refine ifD (fun hlt => ?_) (fun hge2 => ?_)
      · walk_at "rd"
        refine q false _ s1 ⟨(fun z => by cases z), fun z => ?_⟩
        have := (z.2 i hi').2 h0'
        (first | lia | omega)
      · refine ⟨_, rfl, fun j hj => ?_, rfl⟩
        by_cases e : j = i
        · subst e
          exact ⟨by (first | lia | omega), fun _ => by (first | lia | omega)⟩
        · exact hall j (by (first | lia | omega))
    · refine ⟨_, rfl, fun j hj => ?_, rfl⟩
      by_cases e : j = i
      · subst e
        exact ⟨by (first | lia | omega), fun z => by (first | lia | omega)⟩
      · exact hall j (by (first | lia | omega))
  · rintro σ H2 ⟨o2, rfl, hall, rfl⟩
    walk_at "rd"
    exact q true _ s1 ⟨fun _ => ⟨he', fun i hi => hall i (by (first | lia | omega))⟩, fun _ => rfl⟩
noncomputable def sp_bound : Sp := fun vs H Q _ => ∃ (p : Addr) (ps : List Int), vs = [.ref p] ∧ H p = some (.lst (ps.map V.int)) ∧ 0 < ps.length ∧ ∀ M, M ∈ ps → (∀ a, a ∈ ps → a ≤ M) → Q (.int M) H
theorem ok_bound {P : Program} {w : World} {K : PySem.W.Frag} {mg : Str → Option Value} {base : Heap} {k : Nat} {f : Addr} {fd : FuncData} (F : Fun K "bound_of" "bound_of" s_bound_of f fd) (Z : Blt mg) : FnOk P w K mg base CX0 (k + 1) f fd ["paper"] sp_bound := by
  refine F.ok sc_bound_of (fun vs H Q E h => ?_) (fun cdv A outer s H vs Q E hr h => ?_)
  · obtain ⟨p, ps, rfl, _⟩ := h
    rfl
  obtain ⟨p, ps, rfl, hp, hz, q⟩ := h
  apply Exists.intro
  apply And.intro
  case left =>
    apply pss_one
    exact (ps_ret (pe_callB (max_of_listK (K := K) rfl rfl) rfl Z.max_ PyProof.Rows.boot_max (pa_cons (pv 0) pa_nil)))
  walk_at "rd"
  exact ⟨p, ps, rfl, SqL.of hp, hz, q⟩
theorem room_le {n g m : Nat} (h : m ≤ (n + g) / (1 + g)) : m * (1 + g) ≤ n + g := (Nat.le_div_iff_mul_le (by (first | lia | omega))).mp h
theorem room_gt {n g m : Nat} (h : (n + g) / (1 + g) < m) : n + g < m * (1 + g) := (Nat.div_lt_iff_lt_mul (by (first | lia | omega))).mp h
theorem room_n {n g m : Nat} (h : m ≤ (n + g) / (1 + g)) : m ≤ n := by
  have h1 := room_le h
  refine Nat.le_of_not_lt fun z => ?_
  have h2 : (n + 1) * (1 + g) ≤ m * (1 + g) := Nat.mul_le_mul_right _ (by (first | lia | omega))
  have h3 : (n + 1) * (1 + g) = n * (1 + g) + (1 + g) := by rw [Nat.add_mul, Nat.one_mul]
  have h4 : n * 1 ≤ n * (1 + g) := Nat.mul_le_mul_left _ (by (first | lia | omega))
  (first | lia | omega)
noncomputable def Told (H : Hp) (o : Option SL) (v : V) : Prop := (o = none ∧ v = .non) ∨ ∃ (t st : Addr) (ys : List V) (x : SL), o = some x ∧ v = .ref t ∧ H t = some (.tup [.int x.1, .ref st]) ∧ H st = some (.lst ys) ∧ Pairs H ys (x.2.map prI)
noncomputable def NoLess (ns os : List Int) : Prop := os.length = ns.length ∧ ∀ i, i < ns.length → ns.getD i 0 ≤ os.getD i 0
theorem atO_last {n : Nat} {f : Nat → Option Int} : atI ((lineOf (n + 1) f).map oV) (-1) = some (oV (f n)) := by
  have hlen : ((lineOf (n + 1) f).map oV).length = n + 1 := by rw [List.length_map, line_len]
  unfold atI ixN
  rw [if_neg (by decide), if_pos (by rw [hlen]; (first | lia | omega))]
  show ((lineOf (n + 1) f).map oV)[((-1 : Int) + (((lineOf (n + 1) f).map oV).length : Int)).toNat]? = _
  rw [hlen, show ((-1 : Int) + ((n + 1 : Nat) : Int)).toNat = n by (first | lia | omega), List.getElem?_map, line_at (by (first | lia | omega))]
  rfl
noncomputable def sp_lessV : Sp := fun vs H Q _ => ∃ (p : Addr) (xs : List V) (d : Nat) (x : Int), vs = [.ref p, .int d] ∧ H p = some (.lst xs) ∧ xs.length ≤ 40000 ∧ xs[d]? = some (.int x) ∧ ∀ (l : Addr) (H' : Hp), Same H H' → H l = none → H' l = some (.lst (xs.set d (.int (x - 1)))) → Q (.ref l) H'
theorem ok_lessV {P : Program} {w : World} {K : PySem.W.Frag} {mg : Str → Option Value} {base : Heap} {k : Nat} {f : Addr} {fd : FuncData} (F : Fun K "_law_less" "_law_less" s_law_less f fd) (Z : Blt mg) : FnOk P w K mg base CX0 (k + 1) f fd ["paper", "place"] sp_lessV := by
  refine F.ok sc_law_less (fun vs H Q E h => ?_) (fun cdv A outer s H vs Q E hr h => ?_)
  · obtain ⟨p, xs, d, x, rfl, _⟩ := h
    rfl
  obtain ⟨p, xs, d, x, rfl, hp, hz, hx, q⟩ := h
  apply Exists.intro
  apply And.intro
  case left =>
    apply pss_one
    exact (ps_ret (pe_op op_cat (pe_op op_cat (pe_slice (sl_listK (K := K) rfl) (pv 0) po_none (po_some (pv 1))) (pe_lst (pa_cons (pe_op op_sub (pe_ix (ix_listK (K := K) rfl) (pv 0) (pv 1) (fun _ _ => rfl)) pe_int) pa_nil))) (pe_slice (sl_listK (K := K) rfl) (pv 0) (po_some (pe_op op_add (pv 1) pe_int)) po_none)))
  have hd : d < xs.length := (List.getElem?_eq_some_iff.mp hx).1
  walk_at "rd"
  refine ⟨p, _, rfl, SqL.of hp, fun pa hpa => ?_⟩
  have sa := Same.new hpa (.lst (cutV xs none (some (d : Int))))
  walk_at "rd"
  refine ⟨p, _, _, _, rfl, rfl, SqL.of (sa _ _ hp), atI_nat hx, ?_⟩
  walk_at "rd"
  refine ⟨by show 1 ≤ sizeLine; decide, fun pb hpb => ?_⟩
  have sb := sa.trans (Same.new hpb (.lst [.int (x - 1)]))
  have nab : pa ≠ pb := fun z => by rw [← z, upd_same] at hpb; cases hpb
  have c1 := cutV_length xs none (some (d : Int))
  have c2 := cutV_length xs (some ((d : Int) + 1)) none
  refine ⟨pa, pb, _, _, rfl, rfl, by rw [upd_ne nab, upd_same], upd_same, Nat.le_of_lt (small (by show _ + 1 ≤ _; (first | lia | omega))), fun pc hpc => ?_⟩
  have sc := sb.trans (Same.new hpc (.lst (cutV xs none (some (d : Int)) ++ [.int (x - 1)])))
  walk_at "rd"
  refine ⟨p, _, rfl, SqL.of (sc _ _ hp), fun pd hpd => ?_⟩
  have sd := sc.trans (Same.new hpd (.lst (cutV xs (some ((d : Int) + 1)) none)))
  have ncd : pc ≠ pd := fun z => by rw [← z, upd_same] at hpd; cases hpd
  refine ⟨pc, pd, _, _, rfl, rfl, by rw [upd_ne ncd, upd_same], upd_same, Nat.le_of_lt (small (by rw [List.length_append]; show _ + 1 + _ ≤ _; (first | lia | omega))), fun pe hpe => ?_⟩
  rw [cut_set hd]
  exact q pe _ (sd.trans (Same.new hpe _)) (sd.free hpe) upd_same
noncomputable def SpotOk (pp : List (List (Option Int))) (q : Nat × Nat) : Prop := q.1 < pp.length ∧ q.2 < (lnP pp q.1).length ∧ gO (lnP pp q.1) q.2 ≠ none
noncomputable def sp_spots : Sp := fun vs H Q _ => ∃ (p : Addr) (pp : List (List (Option Int))), vs = [.ref p] ∧ PpA H p pp ∧ pp.length ≤ 50 ∧ 1 ≤ pp.length ∧ (∀ c, c < pp.length → (lnP pp c).length ≤ 200) ∧ 1 ≤ (lnP pp 0).length ∧ gO (lnP pp 0) 0 ≠ none ∧
  ∀ (l : Addr) (ys : List V) (ps : List (Nat × Nat)) (H' : Hp), Same H H' → H l = none → H' l = some (.lst ys) → Pairs H' ys (ps.map prI) → (∀ q, q ∈ ps → SpotOk pp q) → ps ≠ [] → ps.length ≤ 10000 → Q (.ref l) H'
theorem ok_spots {P : Program} {w : World} {K : PySem.W.Frag} {mg : Str → Option Value} {base : Heap} {k : Nat} {f : Addr} {fd : FuncData} (F : Fun K "_law_spots" "_law_spots" s_law_spots f fd) (Z : Blt mg) : FnOk P w K mg base CX0 (k + 1) f fd ["paper"] sp_spots := by
  refine F.ok sc_law_spots (fun vs H Q E h => ?_) (fun cdv A outer s H vs Q E hr h => ?_)
  · obtain ⟨p, pp, rfl, _⟩ := h
    rfl
  obtain ⟨p, pp, rfl, ⟨xs, hx, hxl, hxs⟩, hl1, hl2, hll, h01, h00, q⟩ := h
  apply Exists.intro
  apply And.intro
  case left =>
    apply pss_cons
    case h1 =>
      exact (ps_set (i := 1) sc_law_spots.nd rfl (by first | exact Or.inl rfl | exact Or.inr rfl) (pe_lst pa_nil))
    apply pss_cons
    case h1 =>
      apply ps_for PassesOwn.never rfl
      case hi => exact (pi_enumerate rfl Z.enumerate_ (pa_cons (pv 0) pa_nil))
      case hg => exact (pg_tupK (K := K) (n := 2) rfl rfl (pgs_cons (pg_name (i := 2) sc_law_spots.nd rfl (by first | exact Or.inl rfl | exact Or.inr rfl)) (pgs_cons (pg_name (i := 3) sc_law_spots.nd rfl (by first | exact Or.inl rfl | exact Or.inr rfl)) pgs_nil)))
      case hb =>
        apply pss_one
        exact (ps_set (i := 1) sc_law_spots.nd rfl (by first | exact Or.inl rfl | exact Or.inr rfl) (pe_op op_cat (pv 1) (pe_lc (N' := ["place", "one", "count"]) (ix := [none, none, some 2]) rfl rfl (by decide +kernel) rfl rfl rfl rfl (pi_enumerate rfl Z.enumerate_ (pa_cons (pv 3) pa_nil)) (fun _ _ _ _ => (pg_tupB (n := 2) rfl (pgs_cons (pg_name (i := 0) (show List.Nodup (["place", "one", "count"] : List Str) by decide +kernel) rfl (by first | exact Or.inl rfl | exact Or.inr rfl)) (pgs_cons (pg_name (i := 1) (show List.Nodup (["place", "one", "count"] : List Str) by decide +kernel) rfl (by first | exact Or.inl rfl | exact Or.inr rfl)) pgs_nil)))) (fun _ _ _ _ => (pts_one (pt_cmpR op_notN (pv 1) pe_non (nomark _)))) (fun _ _ _ _ => (pe_tup (pa_cons (pv 2) (pa_cons (pv 0) pa_nil)))))))
    apply pss_one
    exact (ps_ret (pv 1))
  walk_at "rd"
  refine ⟨Nat.zero_le _, fun l0 hl0 => ?_⟩
  have s0 := Same.new hl0 (.lst [])
  walk_at "rd"
  refine ⟨_, _, rfl, SqL.of (s0 _ _ hx), ?_⟩
  refine for_enum (xs := xs) (fun i σ H' => ∃ (l : Addr) (ys : List V) (ps : List (Nat × Nat)) (o2 o3 : Option V), Same H H' ∧ H l = none ∧ H' l = some (.lst ys) ∧ Pairs H' ys (ps.map prI) ∧ (∀ q, q ∈ ps → SpotOk pp q) ∧ (1 ≤ i → ps ≠ []) ∧ ps.length ≤ 200 * i ∧ σ = [some (.ref p), some (.ref l), o2, o3]) ⟨l0, [], [], none, none, s0, hl0, upd_same, Pairs.nil, fun q hq => absurd hq List.not_mem_nil, fun z => absurd z (by decide), by decide, rfl⟩ ?_ ?_ ?_
  · rintro i σ H' _ ⟨_, _, _, _, _, sm, _⟩
    exact SqL.of (sm _ _ hx)
  · rintro i x σ H1 pt hx' ⟨l, ys, ps, o2, o3, s1, hl0', hl, hP, hok, hne, hlen, rfl⟩ hpt
    have hi : i < pp.length := by rw [← hxl]; exact (List.getElem?_eq_some_iff.mp hx').1
    obtain ⟨a, ea, hA⟩ := hxs i hi
    rw [hx'] at ea
    cases ea
    refine ⟨pt, _, rfl, SqT.of upd_same, rfl, _, _, rfl, _, _, rfl, rfl, ?_⟩
    have s2 := s1.trans (Same.new hpt (.tup [.int i, .ref a]))
    have hl2' := Same.new hpt (.tup [.int i, .ref a]) _ _ hl
    have hP2 := hP.keep (Same.new hpt (.tup [.int i, .ref a]))
    generalize upd H1 pt (.tup [.int i, .ref a]) = H2 at s2 hl2' hP2 ⊢
    have hA2 := s2 _ _ hA
    have hLl := hll i hi
    have hlm : ((lnP pp i).map oV).length = (lnP pp i).length := List.length_map _
    walk_at "rd"
    refine ⟨_, _, rfl, SqL.of hA2, ?_⟩
    intro acc hacc
    refine comp_by (n := (lnP pp i).length) (fun j τ zs H' => H' acc = some (.lst zs) ∧ (∃ qs : List (Nat × Nat), Pairs H' zs (qs.map prI) ∧ (∀ q, q ∈ qs → SpotOk pp q) ∧ (1 ≤ j → gO (lnP pp i) 0 ≠ none → qs ≠ []) ∧ qs.length ≤ j) ∧ Same H2 H' ∧ ∃ o0 o1, τ = [o0, o1, some (.int i)]) ⟨upd_same, ⟨[], Pairs.nil, fun q hq => absurd hq List.not_mem_nil, fun z => absurd z (by decide), Nat.le_refl _⟩, Same.new hacc _, none, none, rfl⟩ (by (first | lia | omega)) ?_ ?_ ?_ ?_
    · rintro j τ zs H' ⟨e, ⟨qs, hPq, _, _, hql⟩, _⟩
      exact ⟨e, by rw [hPq.1, List.length_map]; exact hql⟩
    · rintro j τ zs H' hj ⟨e, _, sm', _⟩
      exact ⟨_, ((lnP pp i).map oV)[j]'(by (first | lia | omega)), SqL.of (sm' _ _ hA2), List.getElem?_eq_getElem (by (first | lia | omega))⟩
    · rintro τ zs H3 ⟨e, ⟨qs, hPq, hqok, hqne, hql⟩, s3, _⟩
      refine ⟨⟨_, SqL.of (s3 _ _ hA2), by rw [hlm]; exact Nat.le_refl _⟩, ?_⟩
      have yl : ys.length = ps.length := by rw [hP.1, List.length_map]
      have zl : zs.length = qs.length := by rw [hPq.1, List.length_map]
      have hi50 : 200 * i ≤ 200 * 50 := Nat.mul_le_mul_left _ (by (first | lia | omega))
      refine ⟨l, acc, _, _, rfl, rfl, s3 _ _ hl2', e, Nat.le_of_lt (small (by (first | lia | omega))), fun l3 hl3 => ?_⟩
      have s4 := s3.trans (Same.new hl3 (.lst (ys ++ zs)))
      refine ⟨l3, _, ps ++ qs, some (.int i), some (.ref a), s2.trans s4, (s2.trans s3).free hl3, upd_same, ?_, fun q hq => ?_, fun _ => ?_, by rw [List.length_append]; (first | lia | omega), rfl⟩
      · have hP4 := hP2.keep s4
        have hPq4 := hPq.keep (Same.new hl3 (.lst (ys ++ zs)))
        rw [List.map_append]
        refine ⟨by rw [List.length_append, List.length_append, hP4.1, hPq4.1], fun j x ex => ?_⟩
        by_cases hj : j < ys.length
        · rw [List.getElem?_append_left hj] at ex
          rw [List.getElem?_append_left (by rw [← hP4.1]; exact hj)]
          exact hP4.2 j x ex
        · rw [List.getElem?_append_right (by (first | lia | omega))] at ex
          rw [List.getElem?_append_right (by rw [← hP4.1]; (first | lia | omega)), ← hP4.1]
          exact hPq4.2 _ x ex
      · rcases List.mem_append.mp hq with z | z
        · exact hok q z
        · exact hqok q z
      · intro z
        obtain ⟨z1, z2⟩ := List.append_eq_nil_iff.mp z
        by_cases h0 : i = 0
        · subst h0
          exact hqne h01 h00 z2
        · exact hne (by (first | lia | omega)) z1
    · rintro j τ zs H3 v H4 hj ⟨e, ⟨qs, hPq, hqok, hqne, hql⟩, s3, o0, o1, rfl⟩ ⟨pv, hpv, rfl, y⟩
      obtain ⟨x, ex, rfl⟩ := y _ (SqL.of (s3 _ _ hA2))
      rw [List.getElem?_map, gO_at hj] at ex
      cases ex
      refine ⟨pv, _, rfl, SqT.of upd_same, rfl, _, _, rfl, _, _, rfl, rfl, ?_⟩
      have s4 := Same.new hpv (.tup [.int j, oV (gO (lnP pp i) j)])
      have ea := s4 _ _ e
      have hPq4 := hPq.keep s4
      cases eo : gO (lnP pp i) j with
      | none =>
        walk_at "rd"
        refine Nx.mk hj ⟨by rw [eo] at ea; exact ea, ⟨qs, by rw [eo] at hPq4; exact hPq4, hqok, fun h1 h2 => ?_, by (first | lia | omega)⟩, by rw [eo] at s4; exact s3.trans s4, _, _, rfl⟩
        by_cases h0 : j = 0
        · subst h0
          exact absurd eo h2
        · exact hqne (by (first | lia | omega)) h2
      | some x =>
        rw [eo] at s4 ea hPq4
        walk_at "rd"
        refine ⟨by show 2 ≤ sizeLine; decide, fun t ht => ?_⟩
        have s5 := s4.trans (Same.new ht (.tup [.int i, .int j]))
        have tne : t ≠ acc := fun z => by rw [z, ea] at ht; cases ht
        refine ⟨Same.new ht _ _ _ ea, Nx.mk hj ⟨upd_same, ⟨qs ++ [(i, j)], ?_, fun q hq => ?_, fun _ _ z => by simp at z, by rw [List.length_append]; show _ + 1 ≤ _; (first | lia | omega)⟩, (s3.trans s5).upd hacc, _, _, rfl⟩⟩
        · rw [List.map_append]
          refine Pairs.snoc ((hPq4.keep (Same.new ht _)).keepL (Same.new ht _ _ _ ea) (fun b u hb w => by rw [upd_ne hb]; exact w)) ?_
          rw [upd_ne tne, upd_same]
        · rcases List.mem_append.mp hq with z | z
          · exact hqok q z
          · cases List.mem_singleton.mp z
            exact ⟨hi, hj, by rw [eo]; exact fun z => by cases z⟩
  · rintro σ H1 ⟨l, ys, ps, o2, o3, s1, hl0', hl, hP, hok, hne, hlen, rfl⟩
    walk_at "rd"
    exact q l ys ps H1 s1 hl0' hl hP hok (hne (by (first | lia | omega))) (by rw [hxl] at hlen; (first | lia | omega))
noncomputable def cutA {α : Type} (xs : List α) (lo hi : Option Int) : List α := (xs.drop (HT.sIx xs.length 0 lo)).take (HT.sIx xs.length xs.length hi - HT.sIx xs.length 0 lo)
theorem cutV_map {α : Type} {g : α → V} {xs : List α} {lo hi : Option Int} : cutV (xs.map g) lo hi = (cutA xs lo hi).map g := by
  unfold cutV cutA
  rw [List.length_map, List.map_take, List.map_drop]
theorem cut_last {α : Type} {g : α → V} {xs : List α} : cutV (xs.map g) none (some (-1)) = (xs.take (xs.length - 1)).map g := by
  rw [cutV_map]
  unfold cutA
  rw [HT.sIx_none, List.drop_zero]
  show List.map g (xs.take (((-1 : Int) + (xs.length : Int)).toNat - 0)) = _
  rw [show ((-1 : Int) + (xs.length : Int)).toNat - 0 = xs.length - 1 by (first | lia | omega)]
noncomputable def sp_first : Sp := fun vs H Q _ => ∃ (d : Addr) (ns : List Int) (g c p : Nat) (x : SL), vs = [.ref d, .int p] ∧ LnAt H ns g (c + 1) d ∧ fb ns g (c + 1) p = some x ∧ ns.length ≤ 90000 ∧ ∀ f : Nat, p ≤ f → f < ns.length → fg ns g c f = some x → Q (.int f) H
theorem ok_first {P : Program} {w : World} {K : PySem.W.Frag} {mg : Str → Option Value} {base : Heap} {k : Nat} {f : Addr} {fd : FuncData} (F : Fun K "first_from" "first_from" s_first_from f fd) (Z : Blt mg) : FnOk P w K mg base CX0 (k + 1) f fd ["line", "start"] sp_first := by
  refine F.ok sc_first_from (fun vs H Q E h => ?_) (fun cdv A outer s H vs Q E hr h => ?_)
  · obtain ⟨d, ns, g, c, p, x, rfl, _⟩ := h
    rfl
  obtain ⟨d, ns, g, c, p, x, rfl, ⟨a, b, e, hd, ha, hb, he⟩, hx, hn, q⟩ := h
  apply Exists.intro
  apply And.intro
  case left =>
    apply pss_cons
    case h1 =>
      exact (ps_set (i := 2) sc_first_from.nd rfl (by first | exact Or.inl rfl | exact Or.inr rfl) (pv 1))
    apply pss_cons
    case h1 =>
      apply ps_while PassesOwn.never
      case hc => exact (pt_cmpR op_ne (pe_ix (ix_listK (K := K) rfl) (pe_dget (hu_of hr) (pv 0) pe_str (fun _ _ => rfl)) (pv 2) (fun _ _ => rfl)) (pe_ix (ix_listK (K := K) rfl) (pe_dget (hu_of hr) (pv 0) pe_str (fun _ _ => rfl)) (pv 2) (fun _ _ => rfl)) (nomark _))
      case hb =>
        apply pss_one
        exact (ps_aug (i := 2) sc_first_from.nd rfl (by first | exact Or.inl rfl | exact Or.inr rfl) pe_int ip_add)
    apply pss_one
    exact (ps_ret (pv 2))
  walk_at "rd"
  refine ⟨fun m σ H' => ∃ f : Nat, m = ns.length - f ∧ H = H' ∧ p ≤ f ∧ fb ns g (c + 1) f = some x ∧ σ = [some (.ref d), some (.int p), some (.int f)], ⟨_, p, rfl, rfl, Nat.le_refl _, hx, rfl⟩, ?_⟩
  rintro _ _ _ ⟨f, rfl, rfl, hpf, hf, rfl⟩
  have hfn := fb_lt hf
  walk_at "rd"
  refine ⟨d, _, rfl, dBegun hd, ?_⟩
  walk_at "rd"
  refine ⟨a, _, _, _, rfl, rfl, SqL.of ha, atO (by (first | lia | omega)), ?_⟩
  walk_at "rd"
  refine ⟨d, _, rfl, dBest hd, ?_⟩
  walk_at "rd"
  refine ⟨b, _, _, _, rfl, rfl, SqL.of hb, atO (by (first | lia | omega)), ?_⟩
  refine ⟨scal_oV, ?_⟩
  walk_at "rd"
  have est := fb_step (ns := ns) (g := g) (c := c) hfn
  refine ifNe (fun hne => ?_) (fun heq => ?_)
  · have e1 : cb (fg ns g c f) (fb ns g (c + 1) (f + 1)) = fb ns g (c + 1) (f + 1) := cb_right fun z => hne (by rw [est]; exact z)
    refine ⟨fun σ H' => H = H' ∧ σ = [some (.ref d), some (.int p), some (.int ((f + 1 : Nat) : Int))], ?_, ?_⟩
    · rintro _ _ ⟨rfl, rfl⟩
      exact ⟨ns.length - (f + 1), by (first | lia | omega), f + 1, rfl, rfl, by (first | lia | omega), by rw [← e1, ← est]; exact hf, rfl⟩
    · walk_at "rd"
      push_cast
      rfl
  · walk_at "rd"
    refine q f hpf hfn ?_
    rw [est] at hf
    refine cb_left hf ?_
    rw [← est]
    exact heq
noncomputable def sp_beyond : Sp := fun vs H Q _ => ∃ (r e : Addr) (ns : List Int) (g c f : Nat) (x : SL), vs = [.ref r, .int f, .int x.1, .ref e] ∧ H r = some (.lst (ns.map V.int)) ∧ H e = some (.lst ((lineOf (ns.length + 1) (fun p => val (fb ns g c (p + g)))).map oV)) ∧ fg ns g c f = some x ∧ f < ns.length ∧ ns.length ≤ 90000 ∧
  ∀ (b : Nat) (y : SL), f < b → b ≤ ns.length → fb ns g c (b + g) = some y → x = put1 ns f b y → Q (.int b) H
theorem ok_beyond {P : Program} {w : World} {K : PySem.W.Frag} {mg : Str → Option Value} {base : Heap} {k : Nat} {f : Addr} {fd : FuncData} (F : Fun K "beyond_from" "beyond_from" s_beyond_from f fd) (Z : Blt mg) : FnOk P w K mg base CX0 (k + 1) f fd ["row", "first", "total", "behind"] sp_beyond := by
  refine F.ok sc_beyond_from (fun vs H Q E h => ?_) (fun cdv A outer s H vs Q E hr h => ?_)
  · obtain ⟨r, e, ns, g, c, f, x, rfl, _⟩ := h
    rfl
  obtain ⟨r, e, ns, g, c, f, x, rfl, hR, he, hx, hfn, hn, q⟩ := h
  apply Exists.intro
  apply And.intro
  case left =>
    apply pss_cons
    case h1 =>
      exact (ps_set (i := 4) sc_beyond_from.nd rfl (by first | exact Or.inl rfl | exact Or.inr rfl) (pe_op op_add (pv 1) pe_int))
    apply pss_cons
    case h1 =>
      exact (ps_set (i := 5) sc_beyond_from.nd rfl (by first | exact Or.inl rfl | exact Or.inr rfl) (pe_op op_sub (pv 2) (pe_ix (ix_listK (K := K) rfl) (pv 0) (pv 1) (fun _ _ => rfl))))
    apply pss_cons
    case h1 =>
      apply ps_while PassesOwn.never
      case hc => exact (pt_cmpR op_ne (pe_ix (ix_listK (K := K) rfl) (pv 3) (pv 4) (fun _ _ => rfl)) (pv 5) (nomark _))
      case hb =>
        apply pss_cons
        case h1 =>
          exact (ps_aug (i := 5) sc_beyond_from.nd rfl (by first | exact Or.inl rfl | exact Or.inr rfl) (pe_ix (ix_listK (K := K) rfl) (pv 0) (pv 4) (fun _ _ => rfl)) ip_sub)
        apply pss_one
        exact (ps_aug (i := 4) sc_beyond_from.nd rfl (by first | exact Or.inl rfl | exact Or.inr rfl) pe_int ip_add)
    apply pss_one
    exact (ps_ret (pv 4))
  have hl : (ns.map V.int).length = ns.length := List.length_map _
  walk_at "rd"
  refine ⟨r, _, _, _, rfl, rfl, SqL.of hR, atI_ok (by (first | lia | omega)) (by (first | lia | omega)), ?_⟩
  rw [show ((f : Nat) : Int).toNat = f from rfl]
  walk_at "rd"
  have e0 := psum_getD (ns := ns) (i := f) hfn
  refine ⟨fun m σ H' => ∃ b : Nat, m = ns.length + 1 - b ∧ H = H' ∧ f < b ∧ fgt ns (fun b => fb ns g c (b + g)) f b = some x ∧ σ = [some (.ref r), some (.int f), some (.int x.1), some (.ref e), some (.int b), some (.int (x.1 - (psum ns b - psum ns f)))], ⟨_, f + 1, rfl, rfl, by (first | lia | omega), hx, ?_⟩, ?_⟩
  · rw [show psum ns (f + 1) - psum ns f = ns.getD f 0 by (first | lia | omega)]
    rfl
  rintro _ _ _ ⟨b, rfl, rfl, hfb, hb, rfl⟩
  have hbn : b < ns.length + 1 := Nat.lt_of_not_le fun z => by rw [fgt_end z] at hb; cases hb
  have est := fgt_step (ns := ns) (S := fun b => fb ns g c (b + g)) (f := f) hbn
  walk_at "rd"
  refine ⟨e, _, _, _, rfl, rfl, SqL.of he, atO (by (first | lia | omega)), ?_⟩
  walk_at "rd"
  refine ⟨scal_oV (v := some _), ?_⟩
  walk_at "rd"
  refine ifNe (v := some (x.1 - (psum ns b - psum ns f))) (fun hne => ?_) (fun heq => ?_)
  · have hb' := hb
    rw [est, cb_right] at hb'
    · have hb1 : b + 1 < ns.length + 1 := Nat.lt_of_not_le fun z => by rw [fgt_end z] at hb'; cases hb'
      have e1 := psum_getD (ns := ns) (i := b) (by (first | lia | omega))
      refine ⟨fun σ H' => H = H' ∧ σ = [some (.ref r), some (.int f), some (.int x.1), some (.ref e), some (.int ((b + 1 : Nat) : Int)), some (.int (x.1 - (psum ns (b + 1) - psum ns f)))], ?_, ?_⟩
      · rintro _ _ ⟨rfl, rfl⟩
        exact ⟨ns.length + 1 - (b + 1), by (first | lia | omega), b + 1, rfl, rfl, by (first | lia | omega), hb', rfl⟩
      · walk_at "rd"
        refine ⟨r, _, _, _, rfl, rfl, SqL.of hR, atI_ok (by (first | lia | omega)) (by (first | lia | omega)), ?_⟩
        walk_at "rd"
        rw [show x.1 - (psum ns (b + 1) - psum ns f) = x.1 - (psum ns b - psum ns f) - ns.getD b 0 by (first | lia | omega)]
        push_cast
        rfl
    · rw [← est, hb, val_put]
      intro z
      refine hne ?_
      cases ev : val (fb ns g c (b + g)) with
      | none => rw [ev] at z; cases z
      | some v =>
        rw [ev] at z
        have z' : psum ns b - psum ns f + v = x.1 := Option.some.inj z
        rw [show x.1 - (psum ns b - psum ns f) = v by (first | lia | omega)]
  · walk_at "rd"
    have hb' := hb
    rw [est] at hb'
    have hc := cb_left hb' (by
      rw [hb', val_put, heq]
      show some (psum ns b - psum ns f + (x.1 - (psum ns b - psum ns f))) = some x.1
      rw [show psum ns b - psum ns f + (x.1 - (psum ns b - psum ns f)) = x.1 by (first | lia | omega)])
    obtain ⟨y, hy, ey⟩ := Option.map_eq_some_iff.mp hc
    exact q b y hfb (by (first | lia | omega)) hy ey.symm
noncomputable def sp_strs : Sp := fun vs H Q _ => ∃ (r l : Addr) (ns : List Int) (xs : List V) (m M g : Nat) (x : SL), vs = [.ref r, .ref l, .int m, .int g] ∧ H r = some (.lst (ns.map V.int)) ∧ H l = some (.lst xs) ∧ Lns H ns g M xs ∧ m < M ∧ m ≤ 40000 ∧ ns.length ≤ 20000 ∧ fb ns g m 0 = some x ∧
  ∀ (st : Addr) (ys : List V) (H' : Hp), Same H H' → H st = none → H' st = some (.lst ys) → Pairs H' ys (x.2.map prI) → Q (.ref st) H'
theorem ok_strs {P : Program} {w : World} {K : PySem.W.Frag} {mg : Str → Option Value} {base : Heap} {k : Nat} {f : Addr} {fd : FuncData} (F : Fun K "stretches_of" "stretches_of" s_stretches_of f fd) (Z : Blt mg)
    (D_first_from : Def P w K mg base k "first_from" ["line", "start"] sp_first) (D_beyond_from : Def P w K mg base k "beyond_from" ["row", "first", "total", "behind"] sp_beyond) : FnOk P w K mg base CX0 (k + 1) f fd ["row", "lines", "many", "gap"] sp_strs := by
  refine F.ok sc_stretches_of (fun vs H Q E h => ?_) (fun cdv A outer s H vs Q E hr h => ?_)
  · obtain ⟨r, l, ns, xs, m, M, g, x, rfl, _⟩ := h
    rfl
  obtain ⟨r, l, ns, xs, m, M, g, x, rfl, hR, hL, hLn, hmM, hm, hn, hx, q⟩ := h
  apply Exists.intro
  apply And.intro
  case left =>
    apply pss_cons
    case h1 =>
      exact (ps_set (i := 4) sc_stretches_of.nd rfl (by first | exact Or.inl rfl | exact Or.inr rfl) (pe_lst pa_nil))
    apply pss_cons
    case h1 =>
      exact (ps_set (i := 5) sc_stretches_of.nd rfl (by first | exact Or.inl rfl | exact Or.inr rfl) pe_int)
    apply pss_cons
    case h1 =>
      apply ps_for PassesOwn.never rfl
      case hi => exact (pi_range3 rfl Z.range_ (pa_cons (pv 2) (pa_cons pe_int (pa_cons (pe_un un_neg pe_int) pa_nil))))
      case hg => exact (pg_name (i := 6) sc_stretches_of.nd rfl (by first | exact Or.inl rfl | exact Or.inr rfl))
      case hb =>
        apply pss_cons
        case h1 =>
          exact (ps_set (i := 7) sc_stretches_of.nd rfl (by first | exact Or.inl rfl | exact Or.inr rfl) (pe_def D_first_from hr rfl (pa_cons (pe_ix (ix_listK (K := K) rfl) (pv 1) (pv 6) (fun _ _ => rfl)) (pa_cons (pv 5) pa_nil))))
        apply pss_cons
        case h1 =>
          exact (ps_set (i := 8) sc_stretches_of.nd rfl (by first | exact Or.inl rfl | exact Or.inr rfl) (pe_ix (ix_listK (K := K) rfl) (pe_dget (hu_of hr) (pe_ix (ix_listK (K := K) rfl) (pv 1) (pv 6) (fun _ _ => rfl)) pe_str (fun _ _ => rfl)) (pv 7) (fun _ _ => rfl)))
        apply pss_cons
        case h1 =>
          exact (ps_set (i := 9) sc_stretches_of.nd rfl (by first | exact Or.inl rfl | exact Or.inr rfl) (pe_def D_beyond_from hr rfl (pa_cons (pv 0) (pa_cons (pv 7) (pa_cons (pv 8) (pa_cons (pe_dget (hu_of hr) (pe_ix (ix_listK (K := K) rfl) (pv 1) (pe_op op_sub (pv 6) pe_int) (fun _ _ => rfl)) pe_str (fun _ _ => rfl)) pa_nil))))))
        apply pss_cons
        case h1 =>
          exact (ps_expr (pe_bmK (K := K) rfl PySem.F.plainAttrs_list PySem.F.slot_list_append PySem.F.type_list_append mt_append (pv 4) (pa_cons (pe_tup (pa_cons (pv 7) (pa_cons (pv 9) pa_nil))) pa_nil)))
        apply pss_one
        exact (ps_set (i := 5) sc_stretches_of.nd rfl (by first | exact Or.inl rfl | exact Or.inr rfl) (pe_op op_add (pv 9) (pv 3)))
    apply pss_one
    exact (ps_ret (pv 4))
  walk_at "rd"
  refine ⟨Nat.zero_le _, fun st hst => ?_⟩
  walk_at "rd"
  refine ⟨_, _, rfl, ⟨by (first | lia | omega), by (first | lia | omega), by (first | lia | omega), by (first | lia | omega)⟩, ?_⟩
  rw [show ((m : Int) - 0).toNat = m by (first | lia | omega)]
  refine for_down (fun i σ H' => ∃ (ys : List V) (T : List (Nat × Nat)) (p : Nat) (y : SL) (o6 o7 o8 o9 : Option V), Same H H' ∧ H' st = some (.lst ys) ∧ Pairs H' ys (T.map prI) ∧ T.length = i ∧ fb ns g (m - i) p = some y ∧ x.2 = T ++ y.2 ∧ σ = [some (.ref r), some (.ref l), some (.int m), some (.int g), some (.ref st), some (.int p), o6, o7, o8, o9]) ⟨[], [], 0, x, none, none, none, none, Same.new hst _, upd_same, Pairs.nil, rfl, hx, rfl, rfl⟩ ?_ ?_
  · rintro i σ H1 hi ⟨ys, T, p, y, o6, o7, o8, o9, sm, hys, hP, hT, hy, hxy, rfl⟩
    obtain ⟨c, hc⟩ : ∃ c, m - i = c + 1 := ⟨m - i - 1, by (first | lia | omega)⟩
    have ec : (m : Int) - i = ((c + 1 : Nat) : Int) := by (first | lia | omega)
    rw [hc] at hy
    rw [ec]
    have hR1 := sm _ _ hR
    have hL1 := sm _ _ hL
    obtain ⟨d, hd, hA⟩ := hLn.2 (c + 1) (by (first | lia | omega))
    have hA1 := hA.keep sm
    obtain ⟨d', hd', hB⟩ := hLn.2 c (by (first | lia | omega))
    have hB1 := hB.keep sm
    obtain ⟨a2, b2, e2, hd2, ha2, hb2, he2⟩ := hB1
    walk_at "rd"
    refine ⟨l, _, _, _, rfl, rfl, SqL.of hL1, atI_nat hd, ?_⟩
    walk_at "rd"
    refine ⟨d, ns, g, c, p, y, rfl, hA1, hy, by (first | lia | omega), fun f hpf hfn hf => ?_⟩
    obtain ⟨a, b, e, hd1, ha, hb, he⟩ := hA1
    walk_at "rd"
    refine ⟨l, _, _, _, rfl, rfl, SqL.of hL1, atI_nat hd, ?_⟩
    walk_at "rd"
    refine ⟨d, _, rfl, dBegun hd1, ?_⟩
    walk_at "rd"
    refine ⟨a, _, _, _, rfl, rfl, SqL.of ha, atO (by (first | lia | omega)), ?_⟩
    rw [show bgV ns g (c + 1) f = some y.1 by show val (fg ns g c f) = _; rw [hf]; rfl]
    walk_at "rd"
    refine ⟨l, _, ((c : Nat) : Int), _, rfl, (by show V.int (((c + 1 : Nat) : Int) - 1) = _; rw [show ((c + 1 : Nat) : Int) - 1 = (c : Int) by (first | lia | omega)]), SqL.of hL1, atI_nat hd', ?_⟩
    walk_at "rd"
    refine ⟨d', _, rfl, dBehind hd2, ?_⟩
    refine ⟨r, e2, ns, g, c, f, y, rfl, hR1, he2, hf, hfn, by (first | lia | omega), fun bb z hfb hbn hz ez => ?_⟩
    walk_at "rd"
    refine ⟨.inl ⟨rfl, _, SqL.of hys⟩, ?_⟩
    walk_at "rd"
    refine ⟨by show 2 ≤ sizeLine; decide, fun t ht => ?_⟩
    have s1 := Same.new ht (.tup [.int f, .int bb])
    walk_at "rd"
    refine ⟨st, _, _, rfl, rfl, s1 _ _ hys, small (by rw [hP.1, List.length_map]; (first | lia | omega)), ?_⟩
    walk_at "rd"
    have hst1 : H1 st ≠ none := by rw [hys]; exact fun z => by cases z
    have hnt : t ≠ st := fun z => hst1 (by rw [← z]; exact ht)
    refine ⟨_, T ++ [(f, bb)], bb + g, z, some (.int ((c + 1 : Nat) : Int)), some (.int f), some (.int y.1), some (.int bb), (show Same H (upd H1 t (.tup [.int f, .int bb])) from fun b o w => s1 _ _ (sm _ _ w)).upd hst, upd_same, ?_, by rw [List.length_append, hT]; rfl, by rw [show m - (i + 1) = c by (first | lia | omega)]; exact hz, ?_, ?_⟩
    · rw [List.map_append]
      refine Pairs.snoc ((hP.keep s1).keepL (s1 _ _ hys) (fun b u hb w => by rw [upd_ne hb]; exact w)) ?_
      rw [upd_ne hnt, upd_same]
    · rw [hxy, ez, List.append_assoc]
      rfl
    · rfl
  · rintro σ H1 ⟨ys, T, p, y, o6, o7, o8, o9, sm, hys, hP, hT, hy, hxy, rfl⟩
    walk_at "rd"
    refine q st ys H1 sm hst hys ?_
    rw [Nat.sub_self, fb_zero] at hy
    cases hy
    rw [hxy, List.append_nil]
    exact hP
noncomputable def sp_apart : Sp := fun vs H Q _ => ∃ (r : Addr) (ns : List Int) (m g : Nat), vs = [.ref r, .int m, .int g] ∧ H r = some (.lst (ns.map V.int)) ∧ ns.length ≤ 20000 ∧ 1 ≤ m ∧ g < 2 ^ 150 ∧
  (fb ns g m 0 = none → Q .non H) ∧ ∀ (t st : Addr) (ys : List V) (x : SL) (H' : Hp), fb ns g m 0 = some x → m ≤ ns.length → Same H H' → H t = none → H st = none → H' t = some (.tup [.int x.1, .ref st]) → H' st = some (.lst ys) → Pairs H' ys (x.2.map prI) → Q (.ref t) H'
theorem ok_apart {P : Program} {w : World} {K : PySem.W.Frag} {mg : Str → Option Value} {base : Heap} {k : Nat} {f : Addr} {fd : FuncData} (F : Fun K "best_apart" "best_apart" s_best_apart f fd) (Z : Blt mg)
    (D_refuse_counts : Def P w K mg base k "refuse_counts" ["many", "least", "gap"] sp_counts) (D_room_for : Def P w K mg base k "room_for" ["numbers", "gap"] sp_room) (D_lines_of : Def P w K mg base k "lines_of" ["row", "many", "gap"] sp_lines) (D_stretches_of : Def P w K mg base k "stretches_of" ["row", "lines", "many", "gap"] sp_strs) : FnOk P w K mg base CX0 (k + 1) f fd ["row", "many", "gap"] sp_apart := by
  refine F.ok sc_best_apart (fun vs H Q E h => ?_) (fun cdv A outer s H vs Q E hr h => ?_)
  · obtain ⟨r, ns, m, g, rfl, _⟩ := h
    rfl
  obtain ⟨r, ns, m, g, rfl, hR, hn, hm, hg, qN, q⟩ := h
  apply Exists.intro
  apply And.intro
  case left =>
    apply pss_cons
    case h1 =>
      exact (ps_expr (pe_def D_refuse_counts hr rfl (pa_cons (pv 1) (pa_cons pe_int (pa_cons (pv 2) pa_nil)))))
    apply pss_cons
    case h1 =>
      apply ps_if
      case hc => exact (pt_cmpR op_gt (pv 1) (pe_def D_room_for hr rfl (pa_cons (pe_callB (call_len_seqK (K := K) rfl) rfl Z.len_ PySem.boot_len (pa_cons (pv 0) pa_nil)) (pa_cons (pv 2) pa_nil))) (nomark _))
      case ha =>
        apply pss_one
        exact (ps_ret pe_non)
      case hb =>
        exact pss_nil
    apply pss_cons
    case h1 =>
      exact (ps_set (i := 3) sc_best_apart.nd rfl (by first | exact Or.inl rfl | exact Or.inr rfl) (pe_def D_lines_of hr rfl (pa_cons (pv 0) (pa_cons (pv 1) (pa_cons (pv 2) pa_nil)))))
    apply pss_one
    exact (ps_ret (pe_tup (pa_cons (pe_ix (ix_listK (K := K) rfl) (pe_dget (hu_of hr) (pe_ix (ix_listK (K := K) rfl) (pv 3) (pv 1) (fun _ _ => rfl)) pe_str (fun _ _ => rfl)) pe_int (fun _ _ => rfl)) (pa_cons (pe_def D_stretches_of hr rfl (pa_cons (pv 0) (pa_cons (pv 3) (pa_cons (pv 1) (pa_cons (pv 2) pa_nil))))) pa_nil))))
  have hl : (ns.map V.int).length = ns.length := List.length_map _
  walk_at "rd"
  refine ⟨_, _, _, rfl, by (first | lia | omega), by (first | lia | omega), ?_⟩
  walk_at "rd"
  refine ⟨r, _, rfl, .inl (SqL.of hR), ?_⟩
  rw [hl]
  walk_at "rd"
  refine ⟨ns.length, g, rfl, hg, ?_⟩
  walk_at "rd"
  refine ifD (fun z => ?_) (fun z => ?_)
  · walk_at "rd"
    refine qN (fb_noroom (by (first | lia | omega)) ?_)
    have := room_gt (n := ns.length) (g := g) (m := m) (by (first | lia | omega))
    (first | lia | omega)
  have hz : m ≤ (ns.length + g) / (1 + g) := by (first | lia | omega)
  have hmn := room_n hz
  obtain ⟨x, hx⟩ : ∃ x, fb ns g m 0 = some x := Option.ne_none_iff_exists'.mp (fb_room (.inr ⟨by (first | lia | omega), room_le hz⟩))
  walk_at "rd"
  refine ⟨r, ns, m, g, rfl, hR, hn, by (first | lia | omega), fun l xs H1 s1 hl0 hl1 hL => ?_⟩
  obtain ⟨d, hd, a, b, e, hd1, ha, hb, he⟩ := hL.2 m (by (first | lia | omega))
  walk_at "rd"
  refine ⟨l, _, _, _, rfl, rfl, SqL.of hl1, atI_nat hd, ?_⟩
  walk_at "rd"
  refine ⟨d, _, rfl, dBest hd1, ?_⟩
  walk_at "rd"
  refine ⟨b, _, ((0 : Nat) : Int), _, rfl, rfl, SqL.of hb, atO (by (first | lia | omega)), ?_⟩
  rw [hx]
  walk_at "rd"
  refine ⟨r, l, ns, xs, m, m + 1, g, x, rfl, s1 _ _ hR, hl1, hL, by (first | lia | omega), by (first | lia | omega), hn, hx, fun st ys H2 s2 hst0 hst hP => ?_⟩
  walk_at "rd"
  refine ⟨by show 2 ≤ sizeLine; decide, fun t ht => ?_⟩
  have s3 := Same.new ht (.tup [.int x.1, .ref st])
  have s12 : Same H H2 := fun b o z => s2 _ _ (s1 _ _ z)
  exact q t st ys x _ hx hmn (fun b o z => s3 _ _ (s12 _ _ z)) (wasNone s12 ht) (wasNone s1 hst0) upd_same (s3 _ _ hst) (hP.keep s3)
theorem cut_take {xs : List V} {m : Nat} (h : m ≤ xs.length) : cutV xs none (some (m : Int)) = xs.take m := by
  unfold cutV
  rw [HT.sIx_nat, HT.sIx_none, List.drop_zero, Nat.sub_zero, Nat.min_eq_left h]
theorem atI_lastV {xs : List V} (h : xs ≠ []) : ∃ v, atI xs (-1) = some v ∧ v ∈ xs := by
  obtain ⟨ys, v, rfl⟩ : ∃ ys v, xs = ys ++ [v] := ⟨xs.dropLast, xs.getLast h, (List.dropLast_concat_getLast h).symm⟩
  exact ⟨v, atI_last ys v, List.mem_append_right _ List.mem_cons_self⟩
theorem line_take {n m : Nat} {f : Nat → Option Int} (h : m ≤ n) : (lineOf n f).take m = lineOf m f := by
  refine List.ext_getElem? fun i => ?_
  by_cases hi : i < m
  · rw [List.getElem?_take_of_lt hi, line_at (by (first | lia | omega)), line_at hi]
  · rw [List.getElem?_eq_none (by rw [List.length_take, line_len]; (first | lia | omega)), List.getElem?_eq_none (by rw [line_len]; (first | lia | omega))]
theorem Like.line {K : PySem.W.Frag} {H : Hp} {a b : Addr} {l : List (Option Int)} (ha : H a = some (.lst (l.map oV))) (hb : H b = some (.lst (l.map oV))) : Like K H 1 (.ref a) (.ref b) :=
  .lst (SqL.of ha) (SqL.of hb) rfl fun j x y ex ey => by
    rw [ex] at ey
    cases ey
    rw [List.getElem?_map] at ex
    obtain ⟨o, _, rfl⟩ := Option.map_eq_some_iff.mp ex
    cases o <;> exact .same rfl
noncomputable def sp_sev24 : Sp := fun vs H Q _ => ∃ (q r : Addr) (ns : List Int) (m g : Nat), vs = [.ref q, .ref r, .int m, .int g] ∧ Reel H q ∧ r ≠ q ∧ H r = some (.lst (ns.map V.int)) ∧ 1 ≤ ns.length ∧ ns.length ≤ 100 ∧ 1 ≤ m ∧ m ≤ 40 ∧ g ≤ 1000 ∧ ∀ H', SameX q H H' → Reel H' q → Q (.bl true) H'
theorem ok_sev24 {P : Program} {w : World} {K : PySem.W.Frag} {mg : Str → Option Value} {base : Heap} {k : Nat} {f : Addr} {fd : FuncData} (F : Fun K "_law_several_right" "_law_several_right" s_law_several_right f fd) (Z : Blt mg)
    (D_law_take : Def P w K mg base k "_law_take" ["reel", "many"] sp_take) (D_several_paper : Def P w K mg base k "several_paper" ["row", "many", "gap"] sp_spaper) (D_several_shows : Def P w K mg base k "several_shows" ["row", "many", "gap", "paper"] sp_sshows) (D_law_spots : Def P w K mg base k "_law_spots" ["paper"] sp_spots) (D_law_less : Def P w K mg base k "_law_less" ["paper", "place"] sp_lessV) (D_best_apart : Def P w K mg base k "best_apart" ["row", "many", "gap"] sp_apart) : FnOk P w K mg base CX0 (k + 1) f fd ["reel", "row", "many", "gap"] sp_sev24 := by
  refine F.ok sc_law_several_right (fun vs H Q E h => ?_) (fun cdv A outer s H vs Q E hr h => ?_)
  · obtain ⟨q, r, ns, m, g, rfl, _⟩ := h
    rfl
  obtain ⟨q, r, ns, m, g, rfl, hq, rq, hR, hn1, hn2, hm1, hm2, hg, fin⟩ := h
  apply Exists.intro
  apply And.intro
  case left =>
    apply pss_cons
    case h1 =>
      exact (ps_set (i := 4) sc_law_several_right.nd rfl (by first | exact Or.inl rfl | exact Or.inr rfl) (pe_def D_several_paper hr rfl (pa_cons (pv 1) (pa_cons (pv 2) (pa_cons (pv 3) pa_nil)))))
    apply pss_cons
    case h1 =>
      apply ps_if
      case hc => exact (pt_cmpR op_notB (pe_def D_several_shows hr rfl (pa_cons (pv 1) (pa_cons (pv 2) (pa_cons (pv 3) (pa_cons (pv 4) pa_nil))))) pe_bl (nomark _))
      case ha =>
        apply pss_one
        exact (ps_ret pe_bl)
      case hb =>
        exact pss_nil
    apply pss_cons
    case h1 =>
      exact (ps_set (i := 5) sc_law_several_right.nd rfl (by first | exact Or.inl rfl | exact Or.inr rfl) (pe_def D_law_spots hr rfl (pa_cons (pv 4) pa_nil)))
    apply pss_cons
    case h1 =>
      apply ps_for PassesOwn.never rfl
      case hi => exact (pi_listK (K := K) rfl (pe_lst (pa_cons (pe_ix (ix_listK (K := K) rfl) (pv 5) (pe_un un_neg pe_int) (fun _ _ => rfl)) (pa_cons (pe_ix (ix_listK (K := K) rfl) (pv 5) (pe_def D_law_take hr rfl (pa_cons (pv 0) (pa_cons (pe_callB (call_len_seqK (K := K) rfl) rfl Z.len_ PySem.boot_len (pa_cons (pv 5) pa_nil)) pa_nil))) (fun _ _ => rfl)) pa_nil))))
      case hg => exact (pg_tupK (K := K) (n := 2) rfl rfl (pgs_cons (pg_name (i := 6) sc_law_several_right.nd rfl (by first | exact Or.inl rfl | exact Or.inr rfl)) (pgs_cons (pg_name (i := 7) sc_law_several_right.nd rfl (by first | exact Or.inl rfl | exact Or.inr rfl)) pgs_nil)))
      case hb =>
        apply pss_cons
        case h1 =>
          exact (ps_set (i := 8) sc_law_several_right.nd rfl (by first | exact Or.inl rfl | exact Or.inr rfl) (pe_op op_cat (pe_op op_cat (pe_slice (sl_listK (K := K) rfl) (pv 4) po_none (po_some (pv 6))) (pe_lst (pa_cons (pe_def D_law_less hr rfl (pa_cons (pe_ix (ix_listK (K := K) rfl) (pv 4) (pv 6) (fun _ _ => rfl)) (pa_cons (pv 7) pa_nil))) pa_nil))) (pe_slice (sl_listK (K := K) rfl) (pv 4) (po_some (pe_op op_add (pv 6) pe_int)) po_none)))
        apply pss_one
        apply ps_if
        case hc => exact (pt_cmpR op_notB (pe_def D_several_shows hr rfl (pa_cons (pv 1) (pa_cons (pv 2) (pa_cons (pv 3) (pa_cons (pv 8) pa_nil))))) pe_bl (nomark _))
        case ha =>
          apply pss_one
          exact (ps_ret pe_bl)
        case hb =>
          exact pss_nil
    apply pss_cons
    case h1 =>
      exact (ps_set (i := 9) sc_law_several_right.nd rfl (by first | exact Or.inl rfl | exact Or.inr rfl) (pe_def D_best_apart hr rfl (pa_cons (pv 1) (pa_cons (pv 2) (pa_cons (pv 3) pa_nil)))))
    apply pss_cons
    case h1 =>
      apply ps_if
      case hc => exact (pt_cmpR op_ne (pe_ix (ix_listK (K := K) rfl) (pe_ix (ix_listK (K := K) rfl) (pv 4) (pv 2) (fun _ _ => rfl)) (pe_un un_neg pe_int) (fun _ _ => rfl)) (pe_ifExp (pt_cmpR op_isN (pv 9) pe_non (nomark _)) pe_non (pe_ix (ix_tupK (K := K) rfl) (pv 9) pe_int (fun _ _ => rfl))) (nomark _))
      case ha =>
        apply pss_one
        exact (ps_ret pe_bl)
      case hb =>
        exact pss_nil
    apply pss_cons
    case h1 =>
      apply ps_if
      case hc => exact (PW.pt (pw_and (pt_cmpR op_gt (pv 2) pe_int (nomark _)) (pw_and1 (pt_cmpR (op_neKK (K := K) hr rfl) (pe_def D_several_paper hr rfl (pa_cons (pv 1) (pa_cons (pe_op op_sub (pv 2) pe_int) (pa_cons (pv 3) pa_nil)))) (pe_slice (sl_listK (K := K) rfl) (pv 4) po_none (po_some (pv 2))) (nomark _)))))
      case ha =>
        apply pss_one
        exact (ps_ret pe_bl)
      case hb =>
        exact pss_nil
    apply pss_cons
    case h1 =>
      apply ps_if
      case hc => exact (pt_cmpR op_lt (pe_callB (call_len_seqK (K := K) rfl) rfl Z.len_ PySem.boot_len (pa_cons (pv 1) pa_nil)) pe_int (nomark _))
      case ha =>
        apply pss_one
        exact (ps_ret pe_bl)
      case hb =>
        exact pss_nil
    apply pss_one
    exact (ps_ret (pe_cmpR (op_eqKK (K := K) hr rfl) (pe_def D_several_paper hr rfl (pa_cons (pe_slice (sl_listK (K := K) rfl) (pv 1) po_none (po_some (pe_un un_neg pe_int))) (pa_cons (pv 2) (pa_cons (pv 3) pa_nil)))) (pe_lc (N' := ["line"]) (ix := [none]) rfl rfl (by decide +kernel) rfl rfl rfl rfl (pi_listK (K := K) rfl (pv 4)) (fun _ _ _ _ => (pg_name (i := 0) (show List.Nodup (["line"] : List Str) by decide +kernel) rfl (by first | exact Or.inl rfl | exact Or.inr rfl))) (fun _ _ _ _ => pts_nil) (fun _ _ _ _ => (pe_slice sl_listB (pv 0) po_none (po_some (pe_un un_neg pe_int))))) (nomark _)))
  have hl : (ns.map V.int).length = ns.length := List.length_map _
  walk_at "rd"
  refine ⟨r, ns, m, g, rfl, hR, by (first | lia | omega), hm1, by (first | lia | omega), fun lp xp H1 s1 hlp0 hlp hPp => ?_⟩
  have lpq : lp ≠ q := hq.ne hlp0
  have hxl := hPp.1
  have hq1 := hq.keep s1
  walk_at "rd"
  refine ⟨r, lp, ns, leastP ns m g, m, g, rfl, s1 _ _ hR, hPp.pp hlp, by (first | lia | omega), hm1, by (first | lia | omega), by (first | lia | omega), fun b H2 s2 hb => ?_⟩
  rw [hb.mpr (least_stands (NoMore.refl ns))]
  walk_at "rd"
  have hlp2 := s2 _ _ hlp
  have hPp2 := hPp.keep s2
  refine ⟨lp, leastP ns m g, rfl, hPp2.pp hlp2, by rw [leastP_len]; (first | lia | omega), by rw [leastP_len]; (first | lia | omega), fun c hc => ?_, ?_, ?_, fun l3 ys ps H3 s3 hl30 hl3 hP hok hne hpl => ?_⟩
  · rw [leastP_len] at hc
    rw [leastP_ln (by (first | lia | omega)), line_len]
    (first | lia | omega)
  · rw [leastP_ln (Nat.zero_le _), line_len]
    (first | lia | omega)
  · rw [leastP_gO (Nat.zero_le _) (Nat.zero_le _), pv2_zero]
    exact fun z => by cases z
  have s13 := s1.trans (s2.trans s3)
  have hq3 := hq.keep s13
  have l3q : l3 ≠ q := (hq1.keep s2).ne hl30
  have yl : ys.length = ps.length := by rw [hP.1, List.length_map]
  have hp0 : 0 < ps.length := List.length_pos_iff.mpr hne
  obtain ⟨v1, ev1, hv1⟩ := atI_lastV (xs := ys) (fun z => by rw [z] at yl; simp at yl; (first | lia | omega))
  dsimp only [gName]
  refine seqU (fun σ' H' => ∃ (o6 o7 o8 o9 : Option V), SameX q H H' ∧ Reel H' q ∧ H' r = some (.lst (ns.map V.int)) ∧ H' lp = some (.lst xp) ∧ Ppr (fun a => H a = none ∧ a ≠ lp) H' ns g (m + 1) xp ∧ σ' = [some (.ref q), some (.ref r), some (.int m), some (.int g), some (.ref lp), some (.ref l3), o6, o7, o8, o9]) ?_ (fun R hRR => ?_)
  case refine_2 =>
    walk_at "rd"
    refine ⟨l3, _, -1, _, rfl, rfl, SqL.of hl3, ev1, ?_⟩
    walk_at "rd"
    refine ⟨l3, _, rfl, .inl (SqL.of hl3), ?_⟩
    rw [yl]
    refine ⟨_, _, rfl, hq3, by (first | lia | omega), by (first | lia | omega), fun n4 H4 s4 hq4 h4a h4b => ?_⟩
    have hl4 := s4 _ _ l3q hl3
    obtain ⟨n4', rfl⟩ : ∃ n4' : Nat, n4 = n4' := ⟨n4.toNat, by (first | lia | omega)⟩
    have hn4 : n4' < ys.length := by (first | lia | omega)
    obtain ⟨v2, ev2, hv2⟩ : ∃ v2, atI ys ((n4' : Nat) : Int) = some v2 ∧ v2 ∈ ys := ⟨ys[n4'], atI_nat (List.getElem?_eq_getElem hn4), List.getElem_mem hn4⟩
    refine ⟨l3, _, _, _, rfl, rfl, SqL.of hl4, ev2, ?_⟩
    refine ⟨by show 2 ≤ sizeLine; decide, fun pL hpL => ?_⟩
    have s5 := Same.new hpL (.lst [v1, v2])
    have hL5 : upd H4 pL (.lst [v1, v2]) pL = some (.lst [v1, v2]) := upd_same
    have pLq : pL ≠ q := hq4.ne hpL
    have s05 : SameX q H (upd H4 pL (.lst [v1, v2])) := fun b o hb z => s5 _ _ (s4 _ _ hb (s13 _ _ z))
    have hq5 := hq4.keep s5
    have spot : ∀ v, v ∈ [v1, v2] → ∃ (t : Addr) (c i : Nat) (x : Int), v = .ref t ∧ upd H4 pL (.lst [v1, v2]) t = some (.tup [.int c, .int i]) ∧ c ≤ m ∧ i ≤ ns.length ∧ pv2 ns g c i = some x := fun v hv => by
      have hv' : v ∈ ys := by
        simp only [List.mem_cons, List.not_mem_nil, or_false] at hv
        rcases hv with rfl | rfl
        · exact hv1
        · exact hv2
      obtain ⟨j, hj, rfl⟩ := List.getElem_of_mem hv'
      obtain ⟨t, p, hp, et, ht⟩ := hP.2 j ys[j] (List.getElem?_eq_getElem hj)
      rw [List.getElem?_map, List.getElem?_eq_getElem (by (first | lia | omega))] at hp
      cases hp
      obtain ⟨k1, k2, k3⟩ := hok ps[j] (List.getElem_mem (by (first | lia | omega)))
      rw [leastP_len] at k1
      rw [leastP_ln (by (first | lia | omega)), line_len] at k2
      rw [leastP_gO (by (first | lia | omega)) (by (first | lia | omega))] at k3
      obtain ⟨x, hx⟩ := Option.ne_none_iff_exists'.mp k3
      refine ⟨t, ps[j].1, ps[j].2, x, et, s5 _ _ (s4 _ _ (fun z => ?_) ht), by (first | lia | omega), by (first | lia | omega), hx⟩
      obtain ⟨x', y', e', _⟩ := hq3
      rw [z, e'] at ht
      cases ht
    have hlp5 := s5 _ _ (s4 _ _ lpq (s3 _ _ hlp2))
    have hPp5 : Ppr (fun a => H a = none ∧ a ≠ lp) (upd H4 pL (.lst [v1, v2])) ns g (m + 1) xp := ⟨hxl, fun c hc => by
      obtain ⟨a, e1, ⟨o1, o2⟩, hA⟩ := hPp.2 c hc
      exact ⟨a, e1, ⟨o1, o2⟩, s5 _ _ (s4 _ _ (hq.ne o1) (s3 _ _ (s2 _ _ hA)))⟩⟩
    have hR5 := s05 _ _ rq hR
    generalize upd H4 pL (.lst [v1, v2]) = H5 at s5 hL5 s05 hq5 spot hlp5 hPp5 hR5 ⊢
    refine ⟨_, rfl, ⟨_, SqL.of hL5⟩, ?_⟩
    refine for_list (xs := [v1, v2]) (fun i σ H' => ∃ (o6 o7 o8 o9 : Option V), Same H5 H' ∧ σ = [some (.ref q), some (.ref r), some (.int m), some (.int g), some (.ref lp), some (.ref l3), o6, o7, o8, o9]) ⟨_, _, _, _, Same.refl _, rfl⟩ ?_ ?_ ?_
    · rintro i σ H' _ ⟨_, _, _, _, s', _⟩
      exact SqL.of (s' _ _ hL5)
    · rintro i0 v σ H6 hv ⟨o6, o7, o8, o9, s6, rfl⟩
      obtain ⟨t, c, i, x, rfl, ht, hc, hi, ev⟩ := spot v (List.mem_of_getElem? hv)
      refine ⟨t, _, rfl, SqT.of (s6 _ _ ht), rfl, _, _, rfl, _, _, rfl, rfl, ?_⟩
      have hlp6 := s6 _ _ hlp5
      have hPp6 := hPp5.keep s6
      obtain ⟨a, ea, _, hA⟩ := hPp6.2 c (by (first | lia | omega))
      walk_at "rd"
      refine ⟨lp, _, rfl, SqL.of hlp6, fun qa hqa => ?_⟩
      have ta := Same.new hqa (.lst (cutV xp none (some (c : Int))))
      walk_at "rd"
      refine ⟨lp, _, _, _, rfl, rfl, SqL.of (ta _ _ hlp6), atI_nat ea, ?_⟩
      walk_at "rd"
      refine ⟨a, _, i, x, rfl, ta _ _ hA, by rw [List.length_map, line_len]; (first | lia | omega), by rw [List.getElem?_map, line_at (by (first | lia | omega)), ev]; rfl, fun pe H7 s7 hpe0 hpe => ?_⟩
      have t7 := ta.trans s7
      walk_at "rd"
      refine ⟨by show 1 ≤ sizeLine; decide, fun qb hqb => ?_⟩
      have tb := t7.trans (Same.new hqb (.lst [.ref pe]))
      have hqa7 := (s7.trans (Same.new hqb (.lst [.ref pe]))) qa _ upd_same
      have d1 := cutV_length xp none (some (c : Int))
      have d2 := cutV_length xp (some ((c : Int) + 1)) none
      refine ⟨qa, qb, _, _, rfl, rfl, hqa7, upd_same, Nat.le_of_lt (small (by show _ + 1 ≤ _; (first | lia | omega))), fun qc hqc => ?_⟩
      have tc := tb.trans (Same.new hqc (.lst (cutV xp none (some (c : Int)) ++ [.ref pe])))
      walk_at "rd"
      refine ⟨lp, _, rfl, SqL.of (tc _ _ hlp6), fun qd hqd => ?_⟩
      have td := tc.trans (Same.new hqd (.lst (cutV xp (some ((c : Int) + 1)) none)))
      have mcd : qc ≠ qd := fun z => by rw [← z, upd_same] at hqd; cases hqd
      refine ⟨qc, qd, _, _, rfl, rfl, by rw [upd_ne mcd, upd_same], upd_same, Nat.le_of_lt (small (by rw [List.length_append]; show _ + 1 + _ ≤ _; (first | lia | omega))), fun qe hqe => ?_⟩
      rw [cut_set (by (first | lia | omega))]
      have te := td.trans (Same.new hqe (.lst (xp.set c (.ref pe))))
      have hpe9 := ((((Same.new hqb (.lst [.ref pe])).trans (Same.new hqc (.lst (cutV xp none (some (c : Int)) ++ [.ref pe])))).trans (Same.new hqd (.lst (cutV xp (some ((c : Int) + 1)) none)))).trans (Same.new hqe (.lst (xp.set c (.ref pe))))) pe _ hpe
      have hpp : PpA _ qe ((leastP ns m g).set c ((lnP (leastP ns m g) c).set i (some (x - 1)))) := PpA.set (p := lp) (xs := xp) (by rw [leastP_len, hxl]) (fun d hd => by
        rw [leastP_len] at hd
        obtain ⟨a', ea', _, hA'⟩ := hPp6.2 d hd
        exact ⟨a', ea', by rw [leastP_ln (by (first | lia | omega))]; exact te _ _ hA'⟩) (by rw [leastP_len]; (first | lia | omega)) (by rw [leastP_ln hc, List.map_set]; exact hpe9) upd_same
      walk_at "rd"
      refine ⟨r, qe, ns, _, m, g, rfl, te _ _ (s6 _ _ hR5), hpp, by (first | lia | omega), hm1, by (first | lia | omega), by (first | lia | omega), fun b Hf sf hb => ?_⟩
      cases b with
      | true => exact absurd (hb.mp rfl) (least_lessP hc hi ev)
      | false =>
        walk_at "rd"
        exact ⟨_, _, _, _, (s6.trans te).trans sf, rfl⟩
    rintro σ H6 ⟨o6, o7, o8, o9, s6, rfl⟩
    exact hRR _ _ ⟨_, _, _, _, fun b o hb z => s6 _ _ (s05 _ _ hb z), hq5.keep s6, s6 _ _ hR5, s6 _ _ hlp5, hPp5.keep s6, rfl⟩
  rintro _ H6 ⟨o6, o7, o8, o9, s06, hq6, hR6, hlp6, hPp6, rfl⟩
  refine seqU (fun σ' H' => ∃ v, Same H6 H' ∧ ((v = .non ∧ fb ns g m 0 = none) ∨ ∃ (t st : Addr) (x : SL), v = .ref t ∧ fb ns g m 0 = some x ∧ H' t = some (.tup [.int x.1, .ref st])) ∧ σ' = [some (.ref q), some (.ref r), some (.int m), some (.int g), some (.ref lp), some (.ref l3), o6, o7, o8, some v]) ?_ (fun R hR' => ?_)
  case refine_2 =>
    walk_at "rd"
    refine ⟨r, ns, m, g, rfl, hR6, by (first | lia | omega), hm1, by (first | lia | omega), fun z => hR' _ _ ⟨.non, Same.refl _, .inl ⟨rfl, z⟩, rfl⟩, fun t st ys x H' hx _ s' _ _ ht _ _ => hR' _ _ ⟨.ref t, s', .inr ⟨t, st, x, rfl, hx, ht⟩, rfl⟩⟩
  rintro _ H7 ⟨v, s7, hv, rfl⟩
  have hR7 := s7 _ _ hR6
  have hlp7 := s7 _ _ hlp6
  have hPp7 := hPp6.keep s7
  refine seqU (fun σ' H' => H7 = H' ∧ σ' = [some (.ref q), some (.ref r), some (.int m), some (.int g), some (.ref lp), some (.ref l3), o6, o7, o8, some v]) ?_ (fun R hR' => ?_)
  case refine_2 =>
    obtain ⟨a, ea, _, hA⟩ := hPp7.2 m (by (first | lia | omega))
    walk_at "rd"
    refine ⟨lp, _, _, _, rfl, rfl, SqL.of hlp7, atI_nat ea, ?_⟩
    walk_at "rd"
    refine ⟨a, _, -1, _, rfl, rfl, SqL.of hA, atO_last, ?_⟩
    rw [pv2_all]
    rcases hv with ⟨rfl, hx⟩ | ⟨t, st, x, rfl, hx, ht⟩
    · rw [hx]
      walk_at "rd"
      exact hR' _ _ ⟨rfl, rfl⟩
    · rw [hx]
      walk_at "rd"
      refine ⟨t, _, 0, _, rfl, rfl, SqT.of ht, rfl, ?_⟩
      refine ⟨rfl, _, rfl, ?_⟩
      refine ifIN (fun z => absurd rfl z) (fun _ => ?_)
      exact hR' _ _ ⟨rfl, rfl⟩
  rintro _ _ ⟨rfl, rfl⟩
  refine seqU (fun σ' H' => Same H7 H' ∧ σ' = [some (.ref q), some (.ref r), some (.int m), some (.int g), some (.ref lp), some (.ref l3), o6, o7, o8, some v]) ?_ (fun R hR' => ?_)
  case refine_2 =>
    walk_at "rd"
    refine ifD (fun z => ?_) (fun z => ?_)
    · walk_at "rd"
      refine ⟨r, ns, m - 1, g, by rw [show ((m - 1 : Nat) : Int) = (m : Int) - 1 by (first | lia | omega)]; rfl, hR7, by (first | lia | omega), by (first | lia | omega), by (first | lia | omega), fun l8 x8 H8 s8 hl80 hl8 hP8 => ?_⟩
      rw [show m - 1 + 1 = m by (first | lia | omega)] at hP8
      walk_at "rd"
      refine ⟨lp, _, rfl, SqL.of (s8 _ _ hlp7), fun p9 hp9 => ?_⟩
      rw [cut_take (by (first | lia | omega))]
      have s9 := s8.trans (Same.new hp9 (.lst (xp.take m)))
      have hlt : (xp.take m).length = m := by rw [List.length_take]; (first | lia | omega)
      refine ⟨1, l8, p9, _, _, rfl, rfl, .inr ⟨SqL.of (Same.new hp9 _ _ _ hl8), SqL.of upd_same⟩, by rw [hP8.1, hlt], fun j x y ex ey => ?_, by decide, ?_⟩
      · have hj : j < m := by rw [← hP8.1]; exact (List.getElem?_eq_some_iff.mp ex).1
        obtain ⟨a1, e1, _, h1⟩ := hP8.2 j hj
        obtain ⟨a2, e2, _, h2⟩ := hPp7.2 j (by (first | lia | omega))
        rw [e1] at ex
        rw [List.getElem?_take_of_lt hj, e2] at ey
        cases ex
        cases ey
        exact Like.line (Same.new hp9 _ _ _ h1) (s9 _ _ h2)
      · walk_at "rd"
        exact hR' _ _ ⟨s9, rfl⟩
    · walk_at "rd"
      exact hR' _ _ ⟨Same.refl _, rfl⟩
  rintro _ H8 ⟨s8, rfl⟩
  have hR8 := s8 _ _ hR7
  have hlp8 := s8 _ _ hlp7
  have hPp8 := hPp7.keep s8
  have fin' : ∀ {Hx : Hp}, Same H8 Hx → Q (.bl true) Hx := fun {Hx} sx => fin Hx (fun b o hb z => sx _ _ (s8 _ _ (s7 _ _ (s06 _ _ hb z)))) (hq6.keep (s7.trans (s8.trans sx)))
  walk_at "rd"
  refine ⟨r, _, rfl, .inl (SqL.of hR8), ?_⟩
  rw [hl]
  walk_at "rd"
  refine ifD (fun z => ?_) (fun z => ?_)
  · walk_at "rd"
    exact fin' (Same.refl _)
  walk_at "rd"
  refine ⟨r, _, rfl, SqL.of hR8, fun p9 hp9 => ?_⟩
  rw [cut_last]
  have s9 := Same.new hp9 (.lst ((ns.take (ns.length - 1)).map V.int))
  obtain ⟨ms, ems⟩ : ∃ ms, ms = ns.take (ns.length - 1) := ⟨_, rfl⟩
  have hml : ms.length = ns.length - 1 := by rw [ems, List.length_take]; (first | lia | omega)
  have hpv : ∀ c i, i ≤ ms.length → pv2 ms g c i = pv2 ns g c i := fun c i hi => by
    unfold pv2
    rw [ems, List.take_take, Nat.min_eq_left (by (first | lia | omega))]
  rw [← ems] at s9 ⊢
  walk_at "rd"
  refine ⟨p9, ms, m, g, rfl, upd_same, by (first | lia | omega), hm1, by (first | lia | omega), fun l10 x10 H10 s10 hl100 hl10 hP10 => ?_⟩
  have s810 := s9.trans s10
  have hlp10 := s810 _ _ hlp8
  have hPp10 := hPp8.keep s810
  walk_at "rd"
  refine ⟨⟨_, SqL.of hlp10⟩, ?_⟩
  intro acc hacc
  refine comp_by (n := m + 1) (fun i τ zs H' => H' acc = some (.lst zs) ∧ Ppr (fun a => a ≠ acc) H' ms g i zs ∧ Same H10 H' ∧ ∃ o0, τ = [o0]) ⟨upd_same, ⟨rfl, fun c hc => absurd hc (by (first | lia | omega))⟩, Same.new hacc _, none, rfl⟩ (by (first | lia | omega)) ?_ ?_ ?_ ?_
  · rintro i τ zs H' ⟨e, hp, _⟩
    exact ⟨e, by rw [hp.1]; exact Nat.le_refl _⟩
  · rintro i τ zs H' hi ⟨e, _, sm', _⟩
    exact ⟨_, xp[i]'(by (first | lia | omega)), SqL.of (sm' _ _ hlp10), List.getElem?_eq_getElem (by (first | lia | omega))⟩
  · rintro τ zs H11 ⟨e, hp, s11, _⟩
    refine ⟨⟨_, SqL.of (s11 _ _ hlp10), by (first | lia | omega)⟩, ?_⟩
    refine ⟨1, l10, acc, _, _, rfl, rfl, .inr ⟨SqL.of (s11 _ _ hl10), SqL.of e⟩, by rw [hP10.1, hp.1], fun j x y ex ey => ?_, by decide, ?_⟩
    · have hj : j < m + 1 := by rw [← hP10.1]; exact (List.getElem?_eq_some_iff.mp ex).1
      obtain ⟨a1, e1, _, h1⟩ := hP10.2 j hj
      obtain ⟨a2, e2, _, h2⟩ := hp.2 j hj
      rw [e1] at ex
      rw [e2] at ey
      cases ex
      cases ey
      exact Like.line (s11 _ _ h1) h2
    · exact fin' (s810.trans s11)
  · rintro i τ zs H11 v H12 hi ⟨e, hp, s11, o0, rfl⟩ ⟨rfl, y⟩
    have ey := y _ (SqL.of (s11 _ _ hlp10))
    obtain ⟨a, ea, _, hA⟩ := hPp10.2 i hi
    rw [ea] at ey
    cases ey
    walk_at "rd"
    refine ⟨a, _, rfl, SqL.of (s11 _ _ hA), fun p5 hp5 => ?_⟩
    rw [cut_last, line_len, line_take (by (first | lia | omega)), show ns.length + 1 - 1 = ms.length + 1 by (first | lia | omega), show lineOf (ms.length + 1) (pv2 ns g i) = lineOf (ms.length + 1) (pv2 ms g i) from line_ext fun j hj => (hpv i j (by (first | lia | omega))).symm]
    have s5' := Same.new hp5 (.lst ((lineOf (ms.length + 1) (pv2 ms g i)).map oV))
    have h5n : p5 ≠ acc := fun z => by rw [z, e] at hp5; cases hp5
    refine ⟨s5' _ _ e, Nx.mk hi ⟨upd_same, ⟨by rw [List.length_append, hp.1]; rfl, fun c hc => ?_⟩, (s11.trans s5').upd hacc, _, rfl⟩⟩
    by_cases z : c = i
    · subst z
      exact ⟨p5, by rw [List.getElem?_append_right (by rw [hp.1]; exact Nat.le_refl _), hp.1, Nat.sub_self]; rfl, h5n, by rw [upd_ne h5n, upd_same]⟩
    · obtain ⟨a', ea, o2, ha'⟩ := hp.2 c (by (first | lia | omega))
      exact ⟨a', by rw [List.getElem?_append_left (by rw [hp.1]; (first | lia | omega))]; exact ea, o2, by rw [upd_ne o2]; exact s5' _ _ ha'⟩
noncomputable def sp_longest : Sp := fun vs H Q _ => ∃ n L M : Int, vs = [.int n, .int L, .int M] ∧ 1 ≤ L ∧ L ≤ M ∧ L ≤ n ∧ Q (.int (if n < M then n else M)) H
theorem ok_longest {P : Program} {w : World} {K : PySem.W.Frag} {mg : Str → Option Value} {base : Heap} {k : Nat} {f : Addr} {fd : FuncData} (F : Fun K "longest_of" "longest_of" s_longest_of f fd) (Z : Blt mg) : FnOk P w K mg base CX0 (k + 1) f fd ["many", "least", "most"] sp_longest := by
  refine F.ok sc_longest_of (fun vs H Q E h => ?_) (fun cdv A outer s H vs Q E hr h => ?_)
  · obtain ⟨n, L, M, rfl, _⟩ := h
    rfl
  obtain ⟨n, L, M, rfl, h1, h2, h3, q⟩ := h
  apply Exists.intro
  apply And.intro
  case left =>
    apply pss_cons
    case h1 =>
      apply ps_if
      case hc => exact (PW.pt (pw_or (pt_cmpR op_lt (pv 1) pe_int (nomark _)) (pw_or (pt_cmpR op_lt (pv 2) (pv 1) (nomark _)) (pw_or1 (pt_cmpR op_gt (pv 1) (pv 0) (nomark _))))))
      case ha =>
        apply pss_one
        exact ps_never
      case hb =>
        exact pss_nil
    apply pss_one
    exact (ps_ret (pe_callB (call_min2 rfl) rfl Z.min_ PyProof.Rows.boot_min (pa_cons (pv 2) (pa_cons (pv 0) pa_nil))))
  walk_at "rd"
  refine ifD (fun z => absurd z (by (first | lia | omega))) (fun _ => ?_)
  walk_at "rd"
  refine ifD (fun z => absurd z (by (first | lia | omega))) (fun _ => ?_)
  walk_at "rd"
  refine ifD (fun z => absurd z (by (first | lia | omega))) (fun _ => ?_)
  walk_at "rd"
  exact ⟨_, _, rfl, q⟩
theorem pl_getD {ns : List Int} {d m : Nat} (h : d ≤ m) : (pl ns m).getD d 0 = psum ns d := by
  unfold pl
  rw [List.getD_eq_getElem?_getD, List.getElem?_map, List.getElem?_range (by (first | lia | omega))]
  rfl
noncomputable abbrev nv (d : Nat) : V := .int (d : Int)
structure Dq (P : Nat → Int) (lo h : Nat) (ds : List Nat) : Prop where
  pw : ds.Pairwise fun a b => a < b ∧ P a ≤ P b
  mem : ∀ d, d ∈ ds → lo ≤ d ∧ d < h
  dom : ∀ f, lo ≤ f → f < h → f ∉ ds → ∃ d, d ∈ ds ∧ f < d ∧ P d < P f
theorem pw_last {P : Nat → Int} {cs : List Nat} {l : Nat} (h : cs.Pairwise fun a b => a < b ∧ P a ≤ P b) (hl : cs.getLast? = some l) : ∀ a, a ∈ cs → P a ≤ P l := by
  intro a ha
  obtain ⟨c', rfl⟩ := List.getLast?_eq_some_iff.mp hl
  rcases List.mem_append.mp ha with ha | ha
  · exact ((List.pairwise_append.mp h).2.2 a ha l (by simp)).2
  · have : a = l := by simpa using ha
    rw [this]
    exact Int.le_refl _
theorem Dq.enter {P : Nat → Int} {lo h : Nat} {cs rs : List Nat} (q : Dq P lo h (cs ++ rs)) (hr : ∀ d, d ∈ rs → P d > P h) (hc : ∀ d, cs.getLast? = some d → P d ≤ P h) (hlo : lo ≤ h) : Dq P lo (h + 1) (cs ++ [h]) := by
  have pc := (List.pairwise_append.mp q.pw).1
  refine ⟨List.pairwise_append.mpr ⟨pc, List.pairwise_singleton _ _, fun a ha b hb => ?_⟩, fun d hd => ?_, fun f h1 h2 h3 => ?_⟩
  · have e : b = h := by simpa using hb
    subst e
    refine ⟨(q.mem a (List.mem_append_left _ ha)).2, ?_⟩
    cases e2 : cs.getLast? with
    | none =>
      have : cs = [] := by simpa using e2
      subst this
      cases ha
    | some l => exact Int.le_trans (pw_last pc e2 a ha) (hc l e2)
  · rcases List.mem_append.mp hd with hd | hd
    · have := q.mem d (List.mem_append_left _ hd)
      (first | lia | omega)
    · have : d = h := by simpa using hd
      (first | lia | omega)
  · have n1 : f ∉ cs := fun z => h3 (List.mem_append_left _ z)
    have n2 : f ≠ h := fun z => h3 (List.mem_append_right _ (by simp [z]))
    by_cases hf : f ∈ rs
    · exact ⟨h, by simp, by (first | lia | omega), hr f hf⟩
    · obtain ⟨d, hd, d1, d2⟩ := q.dom f h1 (by (first | lia | omega)) (fun z => (List.mem_append.mp z).elim n1 hf)
      rcases List.mem_append.mp hd with hd | hd
      · exact ⟨d, List.mem_append_left _ hd, d1, d2⟩
      · have := hr d hd
        exact ⟨h, by simp, by (first | lia | omega), by (first | lia | omega)⟩
theorem Dq.pop {P : Nat → Int} {lo lo' h d0 : Nat} {tl : List Nat} (q : Dq P lo h (d0 :: tl)) (h0 : d0 < lo') (hle : lo' ≤ lo + 1) : Dq P lo' h tl := by
  obtain ⟨p1, p2⟩ := List.pairwise_cons.mp q.pw
  have m0 := q.mem d0 List.mem_cons_self
  refine ⟨p2, fun d hd => ?_, fun f h1 h2 h3 => ?_⟩
  · have a := (p1 d hd).1
    have b := q.mem d (List.mem_cons_of_mem _ hd)
    (first | lia | omega)
  · obtain ⟨d, hd, d1, d2⟩ := q.dom f (by (first | lia | omega)) h2 (fun z => by
      rcases List.mem_cons.mp z with z | z
      · (first | lia | omega)
      · exact h3 z)
    rcases List.mem_cons.mp hd with hd | hd
    · (first | lia | omega)
    · exact ⟨d, hd, d1, d2⟩
theorem Dq.stay {P : Nat → Int} {lo lo' h d0 : Nat} {tl : List Nat} (q : Dq P lo h (d0 :: tl)) (h0 : ¬ d0 < lo') (hle : lo ≤ lo') : Dq P lo' h (d0 :: tl) := by
  obtain ⟨p1, _⟩ := List.pairwise_cons.mp q.pw
  refine ⟨q.pw, fun d hd => ?_, fun f h1 h2 h3 => q.dom f (by (first | lia | omega)) h2 h3⟩
  have b := q.mem d hd
  rcases List.mem_cons.mp hd with hd | hd
  · (first | lia | omega)
  · have a := (p1 d hd).1
    (first | lia | omega)
theorem Dq.head {P : Nat → Int} {lo h d0 : Nat} {tl : List Nat} (q : Dq P lo h (d0 :: tl)) : ∀ f, lo ≤ f → f < h → P d0 < P f ∨ (P d0 = P f ∧ d0 ≤ f) := by
  obtain ⟨p1, _⟩ := List.pairwise_cons.mp q.pw
  have all : ∀ d, d ∈ d0 :: tl → P d0 ≤ P d ∧ d0 ≤ d := fun d hd => by
    rcases List.mem_cons.mp hd with hd | hd
    · subst hd; exact ⟨Int.le_refl _, Nat.le_refl _⟩
    · have := p1 d hd
      exact ⟨this.2, by (first | lia | omega)⟩
  intro f h1 h2
  by_cases hf : f ∈ d0 :: tl
  · have := all f hf
    (first | lia | omega)
  · obtain ⟨d, hd, d1, d2⟩ := q.dom f h1 h2 hf
    have := all d hd
    exact .inl (by (first | lia | omega))
theorem win_first {P : Nat → Int} {S : Nat → Nat → Prop} {lo h d0 b0 : Nat} (e : ∀ f b, S f b ↔ (b = b0 ∧ lo ≤ f ∧ f < h)) (hd : lo ≤ d0 ∧ d0 < h) (top : ∀ f, lo ≤ f → f < h → P d0 < P f ∨ (P d0 = P f ∧ d0 ≤ f)) : BestIn P S (P b0 - P d0) d0 b0 :=
  ⟨(e d0 b0).mpr ⟨rfl, hd⟩, rfl, fun f' b' q => by
    obtain ⟨rfl, h1, h2⟩ := (e f' b').mp q
    have := top f' h1 h2
    (first | lia | omega)⟩
theorem win_more {P : Nat → Int} {S S' : Nat → Nat → Prop} {s : Int} {f b lo h d0 b0 : Nat} (hB : BestIn P S s f b) (e : ∀ f b, S' f b ↔ (S f b ∨ (b = b0 ∧ lo ≤ f ∧ f < h))) (hd : lo ≤ d0 ∧ d0 < h)
    (top : ∀ f, lo ≤ f → f < h → P d0 < P f ∨ (P d0 = P f ∧ d0 ≤ f)) (hs : P b0 - P d0 > s) : BestIn P S' (P b0 - P d0) d0 b0 :=
  ⟨(e d0 b0).mpr (.inr ⟨rfl, hd⟩), rfl, fun f' b' q => by
    rcases (e f' b').mp q with q | ⟨rfl, h1, h2⟩
    · have := hB.top f' b' q
      exact .inl (by (first | lia | omega))
    · have := top f' h1 h2
      (first | lia | omega)⟩
theorem win_less {P : Nat → Int} {S S' : Nat → Nat → Prop} {s : Int} {f b lo h d0 b0 : Nat} (hB : BestIn P S s f b) (e : ∀ f b, S' f b ↔ (S f b ∨ (b = b0 ∧ lo ≤ f ∧ f < h)))
    (top : ∀ f, lo ≤ f → f < h → P d0 < P f ∨ (P d0 = P f ∧ d0 ≤ f)) (hs : ¬ P b0 - P d0 > s) (hle : f ≤ d0) (hb : b ≤ b0) : BestIn P S' s f b :=
  ⟨(e f b).mpr (.inl hB.mem), hB.val, fun f' b' q => by
    rcases (e f' b').mp q with q | ⟨rfl, h1, h2⟩
    · exact hB.top f' b' q
    · have := top f' h1 h2
      (first | lia | omega)⟩
theorem upd_id {H : Hp} {a : Addr} {o : HO} (h : H a = some o) : upd H a o = H := by
  funext b
  by_cases e : b = a
  · subst e; rw [upd_same, h]
  · rw [upd_ne e]
noncomputable def sp_enter : Sp := fun vs H Q _ => ∃ (q a : Addr) (ds : List Nat) (ns : List Int) (i : Nat), vs = [.ref q, .ref a, .int i] ∧ q ≠ a ∧ H q = some (.lst (ds.map nv)) ∧ H a = some (.lst ((pl ns ns.length).map V.int)) ∧ (∀ d, d ∈ ds → d ≤ ns.length) ∧ i ≤ ns.length ∧ ds.length ≤ 90000 ∧
  ∀ cs rs, ds = cs ++ rs → (∀ d, d ∈ rs → psum ns d > psum ns i) → (∀ d, cs.getLast? = some d → psum ns d ≤ psum ns i) → Q .non (upd H q (.lst ((cs ++ [i]).map nv)))
theorem ok_enter {P : Program} {w : World} {K : PySem.W.Frag} {mg : Str → Option Value} {base : Heap} {k : Nat} {f : Addr} {fd : FuncData} (F : Fun K "enter_first" "enter_first" s_enter_first f fd) (Z : Blt mg) : FnOk P w K mg base CX0 (k + 1) f fd ["firsts", "ahead", "first"] sp_enter := by
  refine F.ok sc_enter_first (fun vs H Q E h => ?_) (fun cdv A outer s H vs Q E hr h => ?_)
  · obtain ⟨q, a, ds, ns, i, rfl, _⟩ := h
    rfl
  obtain ⟨q, a, ds, ns, i, rfl, hqa, hq, ha, hds, hi, hz, fin⟩ := h
  apply Exists.intro
  apply And.intro
  case left =>
    apply pss_cons
    case h1 =>
      apply ps_while PassesOwn.never
      case hc => exact (PW.pt (pw_and (pt_truth (pv 0) (fun _ => rfl)) (pw_and1 (pt_cmpR op_gt (pe_ix (ix_listK (K := K) rfl) (pv 1) (pe_ix (ix_listK (K := K) rfl) (pv 0) (pe_un un_neg pe_int) (fun _ _ => rfl)) (fun _ _ => rfl)) (pe_ix (ix_listK (K := K) rfl) (pv 1) (pv 2) (fun _ _ => rfl)) (nomark _)))))
      case hb =>
        apply pss_one
        exact (ps_expr (pe_bm0K (K := K) rfl PySem.F.plainAttrs_list PySem.F.slot_list_pop PySem.F.type_list_pop mt_pop (pv 0)))
    apply pss_one
    exact (ps_expr (pe_bmK (K := K) rfl PySem.F.plainAttrs_list PySem.F.slot_list_append PySem.F.type_list_append mt_append (pv 0) (pa_cons (pv 2) pa_nil)))
  have atA : ∀ d : Nat, d ≤ ns.length → atI ((pl ns ns.length).map V.int) (d : Int) = some (.int (psum ns d)) := fun d hd => by
    have := atI_ok (ns := pl ns ns.length) (k := (d : Int)) (by (first | lia | omega)) (by rw [pl_len]; (first | lia | omega))
    rw [this, Int.toNat_natCast, pl_getD hd]
  refine ⟨fun m σ H' => ∃ cs rs, ds = cs ++ rs ∧ m = cs.length ∧ (∀ d, d ∈ rs → psum ns d > psum ns i) ∧ H' = upd H q (.lst (cs.map nv)) ∧ σ = [some (.ref q), some (.ref a), some (.int i)], ⟨ds.length, ds, [], by simp, rfl, (fun d z => by cases z), (upd_id hq).symm, rfl⟩, ?_⟩
  rintro m _ _ ⟨cs, rs, rfl, rfl, hrs, rfl, rfl⟩
  have ha' : upd H q (.lst (cs.map nv)) a = some (.lst ((pl ns ns.length).map V.int)) := by rw [upd_ne (Ne.symm hqa)]; exact ha
  have app : ∀ (D : V → Hp → Prop), D .non (upd H q (.lst ((cs ++ [i]).map nv))) → rAppend (.ref q) [.int i] (upd H q (.lst (cs.map nv))) D := fun D z => by
    refine ⟨q, _, _, rfl, rfl, upd_same, small ?_, ?_⟩
    · rw [List.length_map]
      rw [List.length_append] at hz
      (first | lia | omega)
    · rw [upd_upd]
      rw [List.map_append] at z
      exact z
  refine ⟨_, rfl, _, .inl ⟨_, SqL.of upd_same, rfl⟩, ?_⟩
  cases e : cs.getLast? with
  | none =>
    have : cs = [] := by simpa using e
    subst this
    refine iteF ?_
    walk_at "rd"
    refine ⟨.inl ⟨rfl, _, SqL.of upd_same⟩, ?_⟩
    walk_at "rd"
    exact app _ (fin [] rs rfl hrs (fun d z => by cases z))
  | some l =>
    obtain ⟨c', rfl⟩ := List.getLast?_eq_some_iff.mp e
    have hb : (!((c' ++ [l]).map nv).isEmpty) = true := by simp
    rw [hb]
    refine iteT ?_
    have hl : l ≤ ns.length := hds l (by simp)
    walk_at "rd"
    refine ⟨q, _, -1, _, rfl, rfl, SqL.of upd_same, by rw [List.map_append]; exact atI_last _ _, ?_⟩
    refine ⟨a, _, _, _, rfl, rfl, SqL.of ha', atA l hl, ?_⟩
    walk_at "rd"
    refine ⟨a, _, _, _, rfl, rfl, SqL.of ha', atA i hi, ?_⟩
    walk_at "rd"
    refine ifD (fun hgt => ?_) (fun hgt => ?_)
    · refine ⟨fun σ' H' => σ' = [some (.ref q), some (.ref a), some (.int i)] ∧ H' = upd H q (.lst (c'.map nv)), ?_, ?_⟩
      · rintro σ' H' ⟨rfl, rfl⟩
        refine ⟨c'.length, by simp, c', l :: rs, by simp, rfl, fun d hd => ?_, rfl, rfl⟩
        rcases List.mem_cons.mp hd with hd | hd
        · subst hd; exact hgt
        · exact hrs d hd
      · walk_at "rd"
        refine ⟨.inl ⟨rfl, _, SqL.of upd_same⟩, ?_⟩
        refine ⟨q, _, nv l, rfl, rfl, upd_same, ?_, rfl, ?_⟩
        · rw [List.map_append, List.length_append, List.length_map]
          simp
        · rw [upd_upd, List.map_append]
          simp
    · walk_at "rd"
      refine ⟨.inl ⟨rfl, _, SqL.of upd_same⟩, ?_⟩
      walk_at "rd"
      refine app _ (fin (c' ++ [l]) rs rfl hrs fun d z => ?_)
      rw [e] at z
      cases z
      (first | lia | omega)
theorem atI_head {x : V} {xs : List V} : atI (x :: xs) 0 = some x := atI_nat (j := 0) rfl
noncomputable def sp_sized : Sp := fun vs H Q _ => ∃ (r : Addr) (ns : List Int) (L : Nat) (M : Int), vs = [.ref r, .int L, .int M] ∧ H r = some (.lst (ns.map V.int)) ∧ ns.length ≤ 80000 ∧ 1 ≤ L ∧ L ≤ ns.length ∧ (L : Int) ≤ M ∧
  ∀ (t : Addr) (s : Int) (f b : Nat) (H' : Hp), Same H H' → H' t = some (.tup [.int s, .int f, .int b]) → IsBest ns L M s f b → Q (.ref t) H'
noncomputable def BstF (P : Nat → Int) (H : Hp) (S : Nat → Nat → Prop) (v : V) (ds : List Nat) (h : Nat) (bb : Nat) : Prop := (v = .non ∧ ∀ f b, ¬ S f b) ∨ ∃ (t : Addr) (s : Int) (f b : Nat), v = .ref t ∧ H t = some (.tup [.int s, .int f, .int b]) ∧ BestIn P S s f b ∧ (∀ d, d ∈ ds → f ≤ d) ∧ f < h ∧ b ≤ bb
theorem ok_sized {P : Program} {w : World} {K : PySem.W.Frag} {mg : Str → Option Value} {base : Heap} {k : Nat} {f : Addr} {fd : FuncData} (F : Fun K "best_sized" "best_sized" s_best_sized f fd) (Z : Blt mg)
    (D_longest_of : Def P w K mg base k "longest_of" ["many", "least", "most"] sp_longest) (D_sums_ahead : Def P w K mg base k "sums_ahead" ["row"] sp_ahead) (D_enter_first : Def P w K mg base k "enter_first" ["firsts", "ahead", "first"] sp_enter) :
    FnOk P w K mg base CX0 (k + 1) f fd ["row", "least", "most"] sp_sized := by
  refine F.ok sc_best_sized (fun vs H Q E h => ?_) (fun cdv A outer s H vs Q E hr h => ?_)
  · obtain ⟨r, ns, L, M, rfl, _⟩ := h
    rfl
  obtain ⟨r, ns, L, M, rfl, hR, hz, hL1, hL2, hLM, fin⟩ := h
  apply Exists.intro
  apply And.intro
  case left =>
    apply pss_cons
    case h1 =>
      exact (ps_set (i := 3) sc_best_sized.nd rfl (by first | exact Or.inl rfl | exact Or.inr rfl) (pe_def D_longest_of hr rfl (pa_cons (pe_callB (call_len_seqK (K := K) rfl) rfl Z.len_ PySem.boot_len (pa_cons (pv 0) pa_nil)) (pa_cons (pv 1) (pa_cons (pv 2) pa_nil)))))
    apply pss_cons
    case h1 =>
      exact (ps_set (i := 4) sc_best_sized.nd rfl (by first | exact Or.inl rfl | exact Or.inr rfl) (pe_def D_sums_ahead hr rfl (pa_cons (pv 0) pa_nil)))
    apply pss_cons
    case h1 =>
      exact (ps_set (i := 5) sc_best_sized.nd rfl (by first | exact Or.inl rfl | exact Or.inr rfl) (pe_lst pa_nil))
    apply pss_cons
    case h1 =>
      exact (ps_set (i := 6) sc_best_sized.nd rfl (by first | exact Or.inl rfl | exact Or.inr rfl) pe_non)
    apply pss_cons
    case h1 =>
      apply ps_for PassesOwn.never rfl
      case hi => exact (pi_range2 rfl Z.range_ (pa_cons (pv 1) (pa_cons (pe_op op_add (pe_callB (call_len_seqK (K := K) rfl) rfl Z.len_ PySem.boot_len (pa_cons (pv 0) pa_nil)) pe_int) pa_nil)))
      case hg => exact (pg_name (i := 7) sc_best_sized.nd rfl (by first | exact Or.inl rfl | exact Or.inr rfl))
      case hb =>
        apply pss_cons
        case h1 =>
          exact (ps_expr (pe_def D_enter_first hr rfl (pa_cons (pv 5) (pa_cons (pv 4) (pa_cons (pe_op op_sub (pv 7) (pv 1)) pa_nil)))))
        apply pss_cons
        case h1 =>
          apply ps_if
          case hc => exact (pt_cmpR op_lt (pe_ix (ix_listK (K := K) rfl) (pv 5) pe_int (fun _ _ => rfl)) (pe_op op_sub (pv 7) (pv 3)) (nomark _))
          case ha =>
            apply pss_one
            exact (ps_expr (pe_bmK (K := K) rfl PySem.F.plainAttrs_list PySem.F.slot_list_pop PySem.F.type_list_pop mt_popAt (pv 5) (pa_cons pe_int pa_nil)))
          case hb =>
            exact pss_nil
        apply pss_cons
        case h1 =>
          exact (ps_set (i := 8) sc_best_sized.nd rfl (by first | exact Or.inl rfl | exact Or.inr rfl) (pe_op op_sub (pe_ix (ix_listK (K := K) rfl) (pv 4) (pv 7) (fun _ _ => rfl)) (pe_ix (ix_listK (K := K) rfl) (pv 4) (pe_ix (ix_listK (K := K) rfl) (pv 5) pe_int (fun _ _ => rfl)) (fun _ _ => rfl))))
        apply pss_one
        apply ps_if
        case hc => exact (PW.pt (pw_or (pt_cmpR op_isN (pv 6) pe_non (nomark _)) (pw_or1 (pt_cmpR op_gt (pv 8) (pe_ix (ix_tupK (K := K) rfl) (pv 6) pe_int (fun _ _ => rfl)) (nomark _)))))
        case ha =>
          apply pss_one
          exact (ps_set (i := 6) sc_best_sized.nd rfl (by first | exact Or.inl rfl | exact Or.inr rfl) (pe_tup (pa_cons (pv 8) (pa_cons (pe_ix (ix_listK (K := K) rfl) (pv 5) pe_int (fun _ _ => rfl)) (pa_cons (pv 7) pa_nil)))))
        case hb =>
          exact pss_nil
    apply pss_one
    exact (ps_ret (pv 6))
  have hl : (ns.map V.int).length = ns.length := List.length_map _
  walk_at "rd"
  refine ⟨r, _, rfl, .inl (SqL.of hR), ?_⟩
  walk_at "rd"
  refine ⟨_, _, _, rfl, by (first | lia | omega), hLM, by rw [hl]; (first | lia | omega), ?_⟩
  obtain ⟨lg, elg⟩ : ∃ lg : Nat, (if (((ns.map V.int).length : Nat) : Int) < M then (((ns.map V.int).length : Nat) : Int) else M) = (lg : Int) := by
    rw [hl]
    split
    · exact ⟨_, rfl⟩
    · exact ⟨M.toNat, by (first | lia | omega)⟩
  have hlg : L ≤ lg ∧ lg ≤ ns.length ∧ (lg : Int) ≤ M ∧ ((lg : Int) = M ∨ lg = ns.length) := by
    rw [hl] at elg
    split at elg <;> (first | lia | omega)
  rw [elg]
  walk_at "rd"
  refine ⟨r, ns, rfl, hR, by (first | lia | omega), fun a H1 s1 ha0 ha => ?_⟩
  walk_at "rd"
  refine ⟨Nat.zero_le _, fun q hq => ?_⟩
  walk_at "rd"
  have hqa : q ≠ a := fun z => by subst z; rw [ha] at hq; cases hq
  have hR1 := s1 _ _ hR
  have hrq : r ≠ q := fun z => by subst z; rw [hR1] at hq; cases hq
  refine ⟨r, _, rfl, .inl (SqL.of (by rw [upd_ne hrq]; exact hR1)), ?_⟩
  walk_at "rd"
  refine ⟨_, _, rfl, ⟨by (first | lia | omega), by (first | lia | omega), by (first | lia | omega), by (first | lia | omega)⟩, ?_⟩
  have atA : ∀ d : Nat, d ≤ ns.length → atI ((pl ns ns.length).map V.int) (d : Int) = some (.int (psum ns d)) := fun d hd => by
    have := atI_ok (ns := pl ns ns.length) (k := (d : Int)) (by (first | lia | omega)) (by rw [pl_len]; (first | lia | omega))
    rw [this, Int.toNat_natCast, pl_getD hd]
  refine for_range (fun j σ H' => ∃ (v : V) (ds : List Nat) (o7 o8 : Option V), (∀ b o, b ≠ q → H1 b = some o → H' b = some o) ∧ H' q = some (.lst (ds.map nv)) ∧ Dq (psum ns) (L + j - 1 - lg) j ds ∧ ds.length ≤ j ∧ BstF (psum ns) H' (fun f b => Val ns.length L M f b ∧ b < L + j) v ds j (L + j) ∧
    σ = [some (.ref r), some (.int L), some (.int M), some (.int lg), some (.ref a), some (.ref q), some v, o7, o8]) ?_ ?_ ?_
  · refine ⟨.non, [], none, none, fun b o hb e => by rw [upd_ne hb]; exact e, upd_same, ⟨List.Pairwise.nil, (fun d z => by cases z), (fun f _ h2 => by (first | lia | omega))⟩, Nat.le_refl _, .inl ⟨rfl, fun f b z => ?_⟩, rfl⟩
    unfold Val at z
    (first | lia | omega)
  · rintro j σ H2 hj ⟨v, ds, o7, o8, keep, hq2, hD, hlen, hv, rfl⟩
    have hj' : L + j ≤ ns.length := by (first | lia | omega)
    have ha2 := keep a _ (Ne.symm hqa) ha
    walk_at "rd"
    have ei : (L : Int) + j - L = (j : Int) := by (first | lia | omega)
    refine ⟨q, a, ds, ns, j, by show [V.ref q, V.ref a, V.int ((L : Int) + j - L)] = _; rw [ei], hqa, hq2, ha2, fun d hd => ?_, by (first | lia | omega), by (first | lia | omega), fun cs rs ecs hrs hcs => ?_⟩
    · have := (hD.mem d hd).2
      (first | lia | omega)
    subst ecs
    have hE := hD.enter hrs hcs (by (first | lia | omega))
    have hcl : (cs ++ [j]).length ≤ j + 1 := by
      rw [List.length_append] at hlen ⊢
      rw [List.length_singleton]
      (first | lia | omega)
    obtain ⟨d0, tl, ed⟩ : ∃ d0 tl, cs ++ [j] = d0 :: tl := by
      cases cs with
      | nil => exact ⟨j, [], rfl⟩
      | cons x xs => exact ⟨x, xs ++ [j], rfl⟩
    have hjm : j ∈ d0 :: tl := by rw [← ed]; simp
    have hsub : ∀ x, x ∈ d0 :: tl → x = j ∨ x ∈ cs ++ rs := fun x hx => by
      rw [← ed] at hx
      rcases List.mem_append.mp hx with hx | hx
      · exact .inr (List.mem_append_left _ hx)
      · exact .inl (by simpa using hx)
    rw [ed] at hE hcl
    have hq3 : upd H2 q (.lst ((cs ++ [j]).map nv)) q = some (.lst ((d0 :: tl).map nv)) := by rw [upd_same, ed]
    walk_at "rd"
    refine ⟨q, _, 0, _, rfl, rfl, SqL.of hq3, atI_head, ?_⟩
    walk_at "rd"
    refine ifJ (fun σ' H' => ∃ (d1 : Nat) (t1 : List Nat), H' = upd H2 q (.lst ((d1 :: t1).map nv)) ∧ Dq (psum ns) (L + j - lg) (j + 1) (d1 :: t1) ∧ (d1 :: t1).length ≤ j + 1 ∧ (∀ x, x ∈ d1 :: t1 → x = j ∨ x ∈ cs ++ rs) ∧
      σ' = [some (.ref r), some (.int L), some (.int M), some (.int lg), some (.ref a), some (.ref q), some v, some (.int (L + j)), o8]) ?_ (fun hno => ⟨d0, tl, by rw [ed], hE.stay (by (first | lia | omega)) (by (first | lia | omega)), hcl, hsub, rfl⟩) (fun R hR' hlt => ?_)
    case refine_2 =>
      have hlt' : (d0 : Int) < (L : Int) + j - lg := hlt
      obtain ⟨d1, t1, rfl⟩ : ∃ d1 t1, tl = d1 :: t1 := by
        cases tl with
        | nil =>
          have : j = d0 := by simpa using hjm
          (first | lia | omega)
        | cons x xs => exact ⟨x, xs, rfl⟩
      walk_at "rd"
      refine ⟨.inl ⟨rfl, _, SqL.of hq3⟩, ?_⟩
      walk_at "rd"
      refine ⟨q, _, 0, 0, _, rfl, rfl, hq3, by decide, by decide, ?_, rfl, ?_⟩
      · unfold seqIndex?
        simp
        (first | lia | omega)
      · refine hR' _ _ ⟨d1, t1, by rw [upd_upd]; rfl, hE.pop (by (first | lia | omega)) (by (first | lia | omega)), ?_, fun x hx => hsub x (List.mem_cons_of_mem _ hx), rfl⟩
        rw [List.length_cons] at hcl
        (first | lia | omega)
    rintro _ _ ⟨d1, t1, rfl, hD1, hl1, hs1, rfl⟩
    have hd1 := hD1.mem d1 List.mem_cons_self
    have top := hD1.head
    have ha3 : upd H2 q (.lst ((d1 :: t1).map nv)) a = some (.lst ((pl ns ns.length).map V.int)) := by rw [upd_ne (Ne.symm hqa)]; exact ha2
    have eb : (L : Int) + j = ((L + j : Nat) : Int) := by (first | lia | omega)
    walk_at "rd"
    refine ⟨a, _, _, _, rfl, rfl, SqL.of ha3, by rw [eb]; exact atA (L + j) hj', ?_⟩
    walk_at "rd"
    refine ⟨q, _, 0, _, rfl, rfl, SqL.of upd_same, atI_head, ?_⟩
    refine ⟨a, _, _, _, rfl, rfl, SqL.of ha3, atA d1 (by (first | lia | omega)), ?_⟩
    walk_at "rd"
    have eS : ∀ f b, (Val ns.length L M f b ∧ b < L + (j + 1)) ↔ ((Val ns.length L M f b ∧ b < L + j) ∨ (b = L + j ∧ L + j - lg ≤ f ∧ f < j + 1)) := fun f b => by
      unfold Val
      (first | lia | omega)
    have en : L + (j + 1) - 1 - lg = L + j - lg := by (first | lia | omega)
    have keep3 : ∀ b o, b ≠ q → H1 b = some o → upd H2 q (.lst ((d1 :: t1).map nv)) b = some o := fun b o hb e => by rw [upd_ne hb]; exact keep b o hb e
    have sorted : ∀ d, d ∈ d1 :: t1 → d1 ≤ d := fun d hd => by
      rcases List.mem_cons.mp hd with hd | hd
      · (first | lia | omega)
      · have := ((List.pairwise_cons.mp hD1.pw).1 d hd).1
        (first | lia | omega)
    have more : ∀ (p : Addr) (H' : Hp), upd H2 q (.lst ((d1 :: t1).map nv)) p = none → H' = upd (upd H2 q (.lst ((d1 :: t1).map nv))) p (.tup [.int (psum ns (L + j) - psum ns d1), .int d1, .int (L + j)]) → BestIn (psum ns) (fun f b => Val ns.length L M f b ∧ b < L + (j + 1)) (psum ns (L + j) - psum ns d1) d1 (L + j) →
        ∃ (v : V) (ds : List Nat) (o7 o8' : Option V), (∀ b o, b ≠ q → H1 b = some o → H' b = some o) ∧ H' q = some (.lst (ds.map nv)) ∧ Dq (psum ns) (L + (j + 1) - 1 - lg) (j + 1) ds ∧ ds.length ≤ j + 1 ∧ BstF (psum ns) H' (fun f b => Val ns.length L M f b ∧ b < L + (j + 1)) v ds (j + 1) (L + (j + 1)) ∧
        ([some (.ref r), some (.int L), some (.int M), some (.int lg), some (.ref a), some (.ref q), some (.ref p), some (.int (L + j)), some (.int (psum ns (L + j) - psum ns d1))] : St) = [some (.ref r), some (.int L), some (.int M), some (.int lg), some (.ref a), some (.ref q), some v, o7, o8'] := fun p H' hp eH hB => by
      subst eH
      have hpq : q ≠ p := fun z => by subst z; rw [upd_same] at hp; cases hp
      refine ⟨.ref p, d1 :: t1, _, _, fun b o hb e => ?_, by rw [upd_ne hpq, upd_same], by rw [en]; exact hD1, hl1, .inr ⟨p, _, d1, L + j, rfl, ?_, hB, sorted, hd1.2, by (first | lia | omega)⟩, rfl⟩
      · have e3 := keep3 b o hb e
        rw [upd_ne (ne_of_none e3 hp)]
        exact e3
      · rw [upd_same, eb]
    rcases hv with ⟨rfl, hno⟩ | ⟨t, s, f, b, rfl, ht, hB, hfd, hfh, hbb⟩
    · refine ifD (fun _ => ?_) (fun z => absurd rfl z)
      walk_at "rd"
      refine ⟨q, _, 0, _, rfl, rfl, SqL.of upd_same, atI_head, ?_⟩
      walk_at "rd"
      refine ⟨by show 3 ≤ sizeLine; decide, fun p hp => ?_⟩
      refine more p _ hp rfl (win_first (fun f b => ?_) hd1 top)
      constructor
      · intro z
        rcases (eS f b).mp z with z | z
        · exact absurd z (hno f b)
        · exact z
      · intro z
        exact (eS f b).mpr (.inr z)
    · have htq : t ≠ q := fun z => by subst z; rw [hq2] at ht; cases ht
      have ht3 : upd H2 q (.lst ((d1 :: t1).map nv)) t = some (.tup [.int s, .int f, .int b]) := by rw [upd_ne htq]; exact ht
      refine ifD (fun z => nomatch z) (fun _ => ?_)
      walk_at "rd"
      refine ⟨t, _, 0, _, rfl, rfl, SqT.of ht3, rfl, ?_⟩
      walk_at "rd"
      refine ifD (fun hgt => ?_) (fun hgt => ?_)
      · walk_at "rd"
        refine ⟨q, _, 0, _, rfl, rfl, SqL.of upd_same, atI_head, ?_⟩
        walk_at "rd"
        refine ⟨by show 3 ≤ sizeLine; decide, fun p hp => ?_⟩
        exact more p _ hp rfl (win_more hB eS hd1 top hgt)
      · have hfd1 : ∀ d, d ∈ d1 :: t1 → f ≤ d := fun d hd => by
          rcases hs1 d hd with e | e
          · (first | lia | omega)
          · exact hfd d e
        exact ⟨.ref t, d1 :: t1, _, _, keep3, upd_same, by rw [en]; exact hD1, hl1, .inr ⟨t, s, f, b, rfl, ht3, win_less hB eS top hgt (hfd1 d1 List.mem_cons_self) (by (first | lia | omega)), hfd1, by (first | lia | omega), by (first | lia | omega)⟩, rfl⟩
  · rintro σ H2 ⟨v, ds, o7, o8, keep, hq2, hD, hlen, hv, rfl⟩
    walk_at "rd"
    rw [hl] at hv
    have eS : ∀ f b, (Val ns.length L M f b ∧ b < L + ((ns.length : Int) + 1 - L).toNat) ↔ Val ns.length L M f b := fun f b => by
      unfold Val
      (first | lia | omega)
    rcases hv with ⟨rfl, hno⟩ | ⟨t, s, f, b, rfl, ht, hB, _⟩
    · exact absurd ((eS 0 L).mpr (by unfold Val; (first | lia | omega))) (hno 0 L)
    · refine fin t s f b H2 (fun b o e => ?_) ht (hB.congr eS)
      have e1 := s1 _ _ e
      exact keep b o (fun z => by subst z; rw [e1] at hq; cases hq) e1
noncomputable def unr (ns : List Int) : List Int := ns ++ ns.take (ns.length - 1)
theorem unr_len {ns : List Int} : (unr ns).length = ns.length + (ns.length - 1) := by
  unfold unr
  rw [List.length_append, List.length_take]
  (first | lia | omega)
theorem unr_at {ns : List Int} {i : Nat} (h : i < ns.length + (ns.length - 1)) : (unr ns).getD i 0 = ns.getD (i % ns.length) 0 := by
  unfold unr
  rw [List.getD_eq_getElem?_getD, List.getD_eq_getElem?_getD]
  by_cases hi : i < ns.length
  · rw [List.getElem?_append_left hi, Nat.mod_eq_of_lt hi]
  · rw [List.getElem?_append_right (by (first | lia | omega)), List.getElem?_take_of_lt (by (first | lia | omega)), Nat.mod_eq_sub_mod (by (first | lia | omega)), Nat.mod_eq_of_lt (by (first | lia | omega))]
theorem unr_back {ns : List Int} {f : Nat} (hf : ns.length ≤ f) : ∀ d, f + d ≤ ns.length + (ns.length - 1) → psum (unr ns) (f + d) - psum (unr ns) f = psum (unr ns) (f + d - ns.length) - psum (unr ns) (f - ns.length)
  | 0, _ => by
    show psum (unr ns) f - psum (unr ns) f = psum (unr ns) (f - ns.length) - psum (unr ns) (f - ns.length)
    (first | lia | omega)
  | d + 1, h => by
    have ih := unr_back hf d (by (first | lia | omega))
    have a := psum_getD (ns := unr ns) (i := f + d) (by rw [unr_len]; (first | lia | omega))
    have b := psum_getD (ns := unr ns) (i := f + d - ns.length) (by rw [unr_len]; (first | lia | omega))
    rw [unr_at (by (first | lia | omega))] at a b
    rw [Nat.mod_eq_sub_mod (by (first | lia | omega))] at a
    have e : f + d - ns.length + 1 = f + (d + 1) - ns.length := by (first | lia | omega)
    rw [e] at b
    have e2 : f + (d + 1) = f + d + 1 := rfl
    rw [e2, a]
    rw [e2] at b
    (first | lia | omega)
noncomputable def RVal (n L : Nat) (M : Int) (f b : Nat) : Prop := f < n ∧ f + L ≤ b ∧ (b : Int) ≤ f + M ∧ b ≤ f + n
noncomputable abbrev IsBestR (ns : List Int) (L : Nat) (M : Int) (s : Int) (f b : Nat) : Prop := BestIn (psum (unr ns)) (RVal ns.length L M) s f b
theorem ring_best {ns : List Int} {L lg : Nat} {M s : Int} {f b : Nat} (hn : 1 ≤ ns.length) (hL : 1 ≤ L) (hg : lg ≤ ns.length) (hM : (lg : Int) ≤ M) (hm : (lg : Int) = M ∨ lg = ns.length) (h : IsBest (unr ns) L lg s f b) : IsBestR ns L M s f b := by
  have hl := unr_len (ns := ns)
  have m := h.mem
  unfold Val at m
  have hf : f < ns.length := by
    refine Nat.lt_of_not_le fun z => ?_
    have e := unr_back z (b - f) (by (first | lia | omega))
    have e1 : f + (b - f) = b := by (first | lia | omega)
    rw [e1] at e
    have t := h.top (f - ns.length) (b - ns.length) (by unfold Val; (first | lia | omega))
    have v := h.val
    (first | lia | omega)
  refine ⟨by unfold RVal; (first | lia | omega), h.val, fun f' b' q => h.top f' b' ?_⟩
  unfold RVal at q
  unfold Val
  (first | lia | omega)
noncomputable def sp_unr : Sp := fun vs H Q _ => ∃ (r : Addr) (ns : List Int), vs = [.ref r] ∧ H r = some (.lst (ns.map V.int)) ∧ 1 ≤ ns.length ∧ ns.length ≤ 40000 ∧
  ∀ (l : Addr) (H' : Hp), Same H H' → H' l = some (.lst ((unr ns).map V.int)) → Q (.ref l) H'
theorem ok_unr {P : Program} {w : World} {K : PySem.W.Frag} {mg : Str → Option Value} {base : Heap} {k : Nat} {f : Addr} {fd : FuncData} (F : Fun K "unrolled" "unrolled" s_unrolled f fd) (Z : Blt mg) : FnOk P w K mg base CX0 (k + 1) f fd ["ring"] sp_unr := by
  refine F.ok sc_unrolled (fun vs H Q E h => ?_) (fun cdv A outer s H vs Q E hr h => ?_)
  · obtain ⟨r, ns, rfl, _⟩ := h
    rfl
  obtain ⟨r, ns, rfl, hR, hz1, hz, q⟩ := h
  apply Exists.intro
  apply And.intro
  case left =>
    apply pss_one
    exact (ps_ret (pe_op op_cat (pv 0) (pe_slice (sl_listK (K := K) rfl) (pv 0) po_none (po_some (pe_un un_neg pe_int)))))
  walk_at "rd"
  refine ⟨r, _, rfl, SqL.of hR, fun l hl => ?_⟩
  have ec : cutV (ns.map V.int) none (some (-1)) = (ns.take (ns.length - 1)).map V.int := by
    rw [cutV_map]
    unfold cutA
    rw [HT.sIx_none, List.drop_zero]
    show List.map V.int (ns.take (((-1 : Int) + (ns.length : Int)).toNat - 0)) = _
    have e : ((-1 : Int) + (ns.length : Int)).toNat - 0 = ns.length - 1 := by (first | lia | omega)
    rw [e]
  have s1 : Same H (upd H l (.lst (cutV (ns.map V.int) none (some (-1))))) := Same.new hl _
  refine ⟨r, l, _, _, rfl, rfl, s1 _ _ hR, upd_same, ?_, fun p hp => ?_⟩
  · rw [ec, List.length_map, List.length_map, List.length_take]
    exact Nat.le_of_lt (small (by (first | lia | omega)))
  · refine q p _ (s1.trans (Same.new hp _)) ?_
    rw [upd_same, ec, ← List.map_append]
    rfl
noncomputable def sp_rsized : Sp := fun vs H Q _ => ∃ (r : Addr) (ns : List Int) (L : Nat) (M : Int), vs = [.ref r, .int L, .int M] ∧ H r = some (.lst (ns.map V.int)) ∧ ns.length ≤ 40000 ∧ 1 ≤ L ∧ L ≤ ns.length ∧ (L : Int) ≤ M ∧
  ∀ (t : Addr) (s : Int) (f b : Nat) (H' : Hp), Same H H' → H' t = some (.tup [.int s, .int f, .int (b - f)]) → IsBestR ns L M s f b → Q (.ref t) H'
theorem ok_rsized {P : Program} {w : World} {K : PySem.W.Frag} {mg : Str → Option Value} {base : Heap} {k : Nat} {f : Addr} {fd : FuncData} (F : Fun K "best_ring_sized" "best_ring_sized" s_best_ring_sized f fd) (Z : Blt mg)
    (D_longest_of : Def P w K mg base k "longest_of" ["many", "least", "most"] sp_longest) (D_unrolled : Def P w K mg base k "unrolled" ["ring"] sp_unr) (D_best_sized : Def P w K mg base k "best_sized" ["row", "least", "most"] sp_sized) :
    FnOk P w K mg base CX0 (k + 1) f fd ["ring", "least", "most"] sp_rsized := by
  refine F.ok sc_best_ring_sized (fun vs H Q E h => ?_) (fun cdv A outer s H vs Q E hr h => ?_)
  · obtain ⟨r, ns, L, M, rfl, _⟩ := h
    rfl
  obtain ⟨r, ns, L, M, rfl, hR, hz, hL1, hL2, hLM, fin⟩ := h
  apply Exists.intro
  apply And.intro
  case left =>
    apply pss_cons
    case h1 =>
      exact (ps_set (i := 3) sc_best_ring_sized.nd rfl (by first | exact Or.inl rfl | exact Or.inr rfl) (pe_def D_longest_of hr rfl (pa_cons (pe_callB (call_len_seqK (K := K) rfl) rfl Z.len_ PySem.boot_len (pa_cons (pv 0) pa_nil)) (pa_cons (pv 1) (pa_cons (pv 2) pa_nil)))))
    apply pss_cons
    case h1 =>
      exact (ps_set (i := 4) sc_best_ring_sized.nd rfl (by first | exact Or.inl rfl | exact Or.inr rfl) (pe_def D_best_sized hr rfl (pa_cons (pe_def D_unrolled hr rfl (pa_cons (pv 0) pa_nil)) (pa_cons (pv 1) (pa_cons (pv 3) pa_nil)))))
    apply pss_one
    exact (ps_ret (pe_tup (pa_cons (pe_ix (ix_tupK (K := K) rfl) (pv 4) pe_int (fun _ _ => rfl)) (pa_cons (pe_ix (ix_tupK (K := K) rfl) (pv 4) pe_int (fun _ _ => rfl)) (pa_cons (pe_op op_sub (pe_ix (ix_tupK (K := K) rfl) (pv 4) pe_int (fun _ _ => rfl)) (pe_ix (ix_tupK (K := K) rfl) (pv 4) pe_int (fun _ _ => rfl))) pa_nil)))))
  have hl : (ns.map V.int).length = ns.length := List.length_map _
  walk_at "rd"
  refine ⟨r, _, rfl, .inl (SqL.of hR), ?_⟩
  walk_at "rd"
  refine ⟨_, _, _, rfl, by (first | lia | omega), hLM, by rw [hl]; (first | lia | omega), ?_⟩
  obtain ⟨lg, elg⟩ : ∃ lg : Nat, (if (((ns.map V.int).length : Nat) : Int) < M then (((ns.map V.int).length : Nat) : Int) else M) = (lg : Int) := by
    rw [hl]
    split
    · exact ⟨_, rfl⟩
    · exact ⟨M.toNat, by (first | lia | omega)⟩
  have hlg : L ≤ lg ∧ lg ≤ ns.length ∧ (lg : Int) ≤ M ∧ ((lg : Int) = M ∨ lg = ns.length) := by
    rw [hl] at elg
    split at elg <;> (first | lia | omega)
  rw [elg]
  walk_at "rd"
  refine ⟨r, ns, rfl, hR, by (first | lia | omega), hz, fun u H1 s1 hu => ?_⟩
  walk_at "rd"
  have hul := unr_len (ns := ns)
  refine ⟨u, unr ns, L, lg, rfl, hu, by (first | lia | omega), hL1, by (first | lia | omega), by (first | lia | omega), fun t s f b H2 s2 ht hB => ?_⟩
  have hB2 := ring_best (by (first | lia | omega)) hL1 hlg.2.1 hlg.2.2.1 hlg.2.2.2 hB
  walk_at "rd"
  refine ⟨t, _, 0, _, rfl, rfl, SqT.of ht, rfl, ?_⟩
  walk_at "rd"
  refine ⟨t, _, 1, _, rfl, rfl, SqT.of ht, rfl, ?_⟩
  walk_at "rd"
  refine ⟨t, _, 2, _, rfl, rfl, SqT.of ht, rfl, ?_⟩
  walk_at "rd"
  refine ⟨t, _, 1, _, rfl, rfl, SqT.of ht, rfl, ?_⟩
  walk_at "rd"
  refine ⟨by show 3 ≤ sizeLine; decide, fun p hp => ?_⟩
  exact fin p s f b _ (s1.trans (s2.trans (Same.new hp _))) upd_same hB2
noncomputable def sp_bring : Sp := fun vs H Q _ => ∃ (r : Addr) (ns : List Int), vs = [.ref r] ∧ H r = some (.lst (ns.map V.int)) ∧ 1 ≤ ns.length ∧ ns.length ≤ 40000 ∧
  ∀ (t : Addr) (s : Int) (f b : Nat) (H' : Hp), Same H H' → H' t = some (.tup [.int s, .int f, .int (b - f)]) → IsBestR ns 1 ns.length s f b → Q (.ref t) H'
theorem ok_bring {P : Program} {w : World} {K : PySem.W.Frag} {mg : Str → Option Value} {base : Heap} {k : Nat} {f : Addr} {fd : FuncData} (F : Fun K "best_ring" "best_ring" s_best_ring f fd) (Z : Blt mg)
    (D_best_ring_sized : Def P w K mg base k "best_ring_sized" ["ring", "least", "most"] sp_rsized) : FnOk P w K mg base CX0 (k + 1) f fd ["ring"] sp_bring := by
  refine F.ok sc_best_ring (fun vs H Q E h => ?_) (fun cdv A outer s H vs Q E hr h => ?_)
  · obtain ⟨r, ns, rfl, _⟩ := h
    rfl
  obtain ⟨r, ns, rfl, hR, hz1, hz, fin⟩ := h
  apply Exists.intro
  apply And.intro
  case left =>
    apply pss_one
    exact (ps_ret (pe_def D_best_ring_sized hr rfl (pa_cons (pv 0) (pa_cons pe_int (pa_cons (pe_callB (call_len_seqK (K := K) rfl) rfl Z.len_ PySem.boot_len (pa_cons (pv 0) pa_nil)) pa_nil)))))
  have hl : (ns.map V.int).length = ns.length := List.length_map _
  walk_at "rd"
  refine ⟨r, _, rfl, .inl (SqL.of hR), ?_⟩
  refine ⟨r, ns, 1, ns.length, by rw [hl]; rfl, hR, hz, by (first | lia | omega), by (first | lia | omega), by (first | lia | omega), fun t s f b H1 s1 ht hB => ?_⟩
  exact fin t s f b H1 s1 ht hB
noncomputable def Bst (P : Nat → Int) (H : Hp) (S : Nat → Nat → Prop) (v : V) : Prop := (v = .non ∧ ∀ f b, ¬ S f b) ∨ ∃ (t : Addr) (s : Int) (f b : Nat), v = .ref t ∧ H t = some (.tup [.int s, .int f, .int b]) ∧ BestIn P S s f b
structure Ends1 (P : Nat → Int) (q : Nat) (t : Int) (f : Nat) : Prop where
  lt : f < q
  val : t = P q - P f
  top : ∀ f', f' < q → P q - P f' < t ∨ (P q - P f' = t ∧ f ≤ f')
noncomputable abbrev Upto (p : Nat) (f b : Nat) : Prop := f < b ∧ b ≤ p
theorem ends_neg {P : Nat → Int} {p : Nat} {t : Int} {f : Nat} (h : Ends1 P p t f) (hn : t < 0) : Ends1 P (p + 1) (P (p + 1) - P p) p :=
  ⟨Nat.lt_succ_self _, rfl, fun f' hf => by
    by_cases e : f' = p
    · subst e; exact .inr ⟨rfl, Nat.le_refl _⟩
    · have := h.top f' (by (first | lia | omega))
      exact .inl (by (first | lia | omega))⟩
theorem ends_pos {P : Nat → Int} {p : Nat} {t : Int} {f : Nat} (h : Ends1 P p t f) (hn : ¬ t < 0) : Ends1 P (p + 1) (P (p + 1) - P f) f :=
  ⟨Nat.lt_succ_of_lt h.lt, rfl, fun f' hf => by
    have hl := h.lt
    have hv := h.val
    by_cases e : f' = p
    · subst e; (first | lia | omega)
    · have := h.top f' (by (first | lia | omega))
      (first | lia | omega)⟩
theorem kad_more {P : Nat → Int} {p : Nat} {t s : Int} {f1 f b : Nat} (h : Ends1 P (p + 1) t f1) (hb : BestIn P (Upto p) s f b) (hs : t > s) : BestIn P (Upto (p + 1)) t f1 (p + 1) :=
  ⟨⟨h.lt, Nat.le_refl _⟩, h.val, fun f' b' q => by
    obtain ⟨q1, q2⟩ := q
    by_cases e : b' = p + 1
    · subst e
      have := h.top f' q1
      (first | lia | omega)
    · have := hb.top f' b' ⟨q1, by (first | lia | omega)⟩
      exact .inl (by (first | lia | omega))⟩
theorem kad_less {P : Nat → Int} {p : Nat} {t s : Int} {f1 f b : Nat} (h : Ends1 P (p + 1) t f1) (hb : BestIn P (Upto p) s f b) (hle : f ≤ f1) (hs : ¬ t > s) : BestIn P (Upto (p + 1)) s f b :=
  ⟨⟨hb.mem.1, Nat.le_succ_of_le hb.mem.2⟩, hb.val, fun f' b' q => by
    obtain ⟨q1, q2⟩ := q
    have hm := hb.mem.2
    by_cases e : b' = p + 1
    · subst e
      have := h.top f' q1
      (first | lia | omega)
    · exact hb.top f' b' ⟨q1, by (first | lia | omega)⟩⟩
noncomputable def sp_bestof : Sp := fun vs H Q _ => ∃ (r : Addr) (ns : List Int), vs = [.ref r] ∧ H r = some (.lst (ns.map V.int)) ∧ 1 ≤ ns.length ∧ ns.length ≤ 90000 ∧
  ∀ (t : Addr) (s : Int) (f b : Nat) (H' : Hp), Same H H' → H' t = some (.tup [.int s, .int f, .int b]) → IsBest ns 1 ns.length s f b → Q (.ref t) H'
theorem ok_bestof {P : Program} {w : World} {K : PySem.W.Frag} {mg : Str → Option Value} {base : Heap} {k : Nat} {f : Addr} {fd : FuncData} (F : Fun K "best_of" "best_of" s_best_of f fd) (Z : Blt mg) : FnOk P w K mg base CX0 (k + 1) f fd ["row"] sp_bestof := by
  refine F.ok sc_best_of (fun vs H Q E h => ?_) (fun cdv A outer s H vs Q E hr h => ?_)
  · obtain ⟨r, ns, rfl, _⟩ := h
    rfl
  obtain ⟨r, ns, rfl, hR, hn, hz, q⟩ := h
  apply Exists.intro
  apply And.intro
  case left =>
    apply pss_cons
    case h1 =>
      exact (ps_set (i := 1) sc_best_of.nd rfl (by first | exact Or.inl rfl | exact Or.inr rfl) (pe_ix (ix_listK (K := K) rfl) (pv 0) pe_int (fun _ _ => rfl)))
    apply pss_cons
    case h1 =>
      exact (ps_set (i := 2) sc_best_of.nd rfl (by first | exact Or.inl rfl | exact Or.inr rfl) pe_int)
    apply pss_cons
    case h1 =>
      exact (ps_set (i := 3) sc_best_of.nd rfl (by first | exact Or.inl rfl | exact Or.inr rfl) (pe_tup (pa_cons (pv 1) (pa_cons pe_int (pa_cons pe_int pa_nil)))))
    apply pss_cons
    case h1 =>
      apply ps_for PassesOwn.never rfl
      case hi => exact (pi_range2 rfl Z.range_ (pa_cons pe_int (pa_cons (pe_callB (call_len_seqK (K := K) rfl) rfl Z.len_ PySem.boot_len (pa_cons (pv 0) pa_nil)) pa_nil)))
      case hg => exact (pg_name (i := 4) sc_best_of.nd rfl (by first | exact Or.inl rfl | exact Or.inr rfl))
      case hb =>
        apply pss_cons
        case h1 =>
          apply ps_if
          case hc => exact (pt_cmpR op_lt (pv 1) pe_int (nomark _))
          case ha =>
            apply pss_cons
            case h1 =>
              exact (ps_set (i := 1) sc_best_of.nd rfl (by first | exact Or.inl rfl | exact Or.inr rfl) pe_int)
            apply pss_one
            exact (ps_set (i := 2) sc_best_of.nd rfl (by first | exact Or.inl rfl | exact Or.inr rfl) (pv 4))
          case hb =>
            exact pss_nil
        apply pss_cons
        case h1 =>
          exact (ps_aug (i := 1) sc_best_of.nd rfl (by first | exact Or.inl rfl | exact Or.inr rfl) (pe_ix (ix_listK (K := K) rfl) (pv 0) (pv 4) (fun _ _ => rfl)) ip_add)
        apply pss_one
        apply ps_if
        case hc => exact (pt_cmpR op_gt (pv 1) (pe_ix (ix_tupK (K := K) rfl) (pv 3) pe_int (fun _ _ => rfl)) (nomark _))
        case ha =>
          apply pss_one
          exact (ps_set (i := 3) sc_best_of.nd rfl (by first | exact Or.inl rfl | exact Or.inr rfl) (pe_tup (pa_cons (pv 1) (pa_cons (pv 2) (pa_cons (pe_op op_add (pv 4) pe_int) pa_nil)))))
        case hb =>
          exact pss_nil
    apply pss_one
    exact (ps_ret (pv 3))
  have hl : (ns.map V.int).length = ns.length := List.length_map _
  have p0 : psum ns 0 = 0 := rfl
  have p1 : psum ns (0 + 1) = ns.getD 0 0 := by
    have := psum_getD (ns := ns) (i := 0) (by (first | lia | omega))
    (first | lia | omega)
  walk_at "rd"
  refine ⟨r, _, 0, _, rfl, rfl, SqL.of hR, atI_ok (by decide) (by (first | lia | omega)), ?_⟩
  walk_at "rd"
  refine ⟨by show 3 ≤ sizeLine; decide, fun t0 ht0 => ?_⟩
  have s1 : Same H (upd H t0 (.tup [.int (ns.getD (Int.toNat 0) 0), .int 0, .int 1])) := Same.new ht0 _
  walk_at "rd"
  refine ⟨r, _, rfl, .inl (SqL.of (s1 _ _ hR)), ?_⟩
  refine ⟨_, _, rfl, ⟨by decide, by decide, by (first | lia | omega), by (first | lia | omega)⟩, ?_⟩
  refine for_range (fun j σ H' => ∃ (t : Addr) (T : Int) (f1 : Nat) (s : Int) (f b : Nat) (o4 : Option V), Same H H' ∧ H' t = some (.tup [.int s, .int f, .int b]) ∧ Ends1 (psum ns) (j + 1) T f1 ∧ BestIn (psum ns) (Upto (j + 1)) s f b ∧ f ≤ f1 ∧
    σ = [some (.ref r), some (.int T), some (.int f1), some (.ref t), o4]) ⟨t0, _, 0, _, 0, 1, none, s1, upd_same, ?_, ?_, Nat.le_refl _, rfl⟩ ?_ ?_
  · exact ⟨by (first | lia | omega), by show ns.getD 0 0 = psum ns (0 + 1) - psum ns 0; (first | lia | omega), fun f' hf => by
      have e : f' = 0 := by (first | lia | omega)
      subst e
      exact .inr ⟨by show psum ns (0 + 1) - psum ns 0 = ns.getD 0 0; (first | lia | omega), Nat.le_refl _⟩⟩
  · exact ⟨by decide, by show ns.getD 0 0 = psum ns (0 + 1) - psum ns 0; (first | lia | omega), fun f' b' z => by
      have e : f' = 0 ∧ b' = 1 := by (first | lia | omega)
      obtain ⟨rfl, rfl⟩ := e
      exact .inr ⟨by show psum ns (0 + 1) - psum ns 0 = ns.getD 0 0; (first | lia | omega), .inr ⟨rfl, Nat.le_refl _⟩⟩⟩
  · rintro j σ H1 hj ⟨t, T, f1, s, f, b, o4, sm, ht, hE, hB, hle, rfl⟩
    have hj' : j + 1 < ns.length := by (first | lia | omega)
    have ej : ((1 : Int) + j).toNat = j + 1 := by (first | lia | omega)
    have es := psum_getD (ns := ns) (i := j + 1) hj'
    walk_at "rd"
    refine ifJ (fun σ' H' => ∃ (T' : Int) (f2 : Nat), H1 = H' ∧ T' + ns.getD (j + 1) 0 = psum ns (j + 1 + 1) - psum ns f2 ∧ Ends1 (psum ns) (j + 1 + 1) (psum ns (j + 1 + 1) - psum ns f2) f2 ∧ f ≤ f2 ∧ σ' = [some (.ref r), some (.int T'), some (.int f2), some (.ref t), some (.int (1 + j))]) ?_ (fun hpos => ⟨T, f1, rfl, ?_, ends_pos hE hpos, hle, rfl⟩) (fun R hR' hneg => ?_)
    case refine_2 =>
      have := hE.val
      (first | lia | omega)
    case refine_3 =>
      walk_at "rd"
      have hf := hE.lt
      exact hR' _ _ ⟨0, j + 1, rfl, by (first | lia | omega), ends_neg hE hneg, by (first | lia | omega), by
        have e : (1 : Int) + j = ((j + 1 : Nat) : Int) := by (first | lia | omega)
        rw [← e]
        rfl⟩
    rintro _ _ ⟨T', f2, rfl, hT, hE2, hle2, rfl⟩
    walk_at "rd"
    refine ⟨r, _, _, _, rfl, rfl, SqL.of (sm _ _ hR), atI_ok (by (first | lia | omega)) (by (first | lia | omega)), ?_⟩
    walk_at "rd"
    refine ⟨t, _, 0, _, rfl, rfl, SqT.of ht, rfl, ?_⟩
    walk_at "rd"
    have hE3 : Ends1 (psum ns) (j + 1 + 1) (T' + ns.getD ((1 : Int) + j).toNat 0) f2 := by
      rw [ej, hT]
      exact hE2
    refine ifD (fun hgt => ?_) (fun hgt => ?_)
    · walk_at "rd"
      refine ⟨by show 3 ≤ sizeLine; decide, fun p hp => ?_⟩
      refine ⟨p, _, f2, _, f2, j + 1 + 1, _, sm.trans (Same.new hp _), ?_, hE3, kad_more hE3 hB hgt, Nat.le_refl _, rfl⟩
      rw [upd_same]
      have e : (1 : Int) + j + 1 = ((j + 1 + 1 : Nat) : Int) := by (first | lia | omega)
      show some (HO.tup [V.int _, V.int f2, V.int (1 + j + 1)]) = _
      rw [e]
    · exact ⟨t, _, f2, s, f, b, _, sm, ht, hE3, kad_less hE3 hB hle2 hgt, hle2, rfl⟩
  · rintro σ H1 ⟨t, T, f1, s, f, b, o4, sm, ht, hE, hB, hle, rfl⟩
    walk_at "rd"
    refine q t s f b H1 sm ht (hB.congr fun f b => ?_)
    rw [hl]
    unfold Val
    (first | lia | omega)
noncomputable def RTop (ns : List Int) (m : Nat) (s : Int) : Prop := (∀ f, f < ns.length → psum (unr ns) (f + m) - psum (unr ns) f ≤ s) ∧ ∃ f, f < ns.length ∧ s = psum (unr ns) (f + m) - psum (unr ns) f
theorem RTop.uniq {ns : List Int} {m : Nat} {s s' : Int} (h : RTop ns m s) (h' : RTop ns m s') : s = s' := by
  obtain ⟨a, f, hf, e⟩ := h
  obtain ⟨a', f', hf', e'⟩ := h'
  have := a f' hf'
  have := a' f hf
  (first | lia | omega)
theorem RTop.of_best {ns : List Int} {m : Nat} {s : Int} {f b : Nat} (hm : m ≤ ns.length) (h : IsBestR ns m m s f b) : RTop ns m s := by
  have q := h.mem
  unfold RVal at q
  have eb : b = f + m := by (first | lia | omega)
  refine ⟨fun f' hf' => ?_, f, by (first | lia | omega), by rw [← eb]; exact h.val⟩
  have t := h.top f' (f' + m) (by unfold RVal; (first | lia | omega))
  (first | lia | omega)
noncomputable def RRight (ns ps : List Int) : Prop := ps.length = ns.length ∧ ∀ i, i < ns.length → ∀ s, RTop ns (i + 1) s → s ≤ ps.getD i 0
noncomputable def sp_rshows : Sp := fun vs H Q _ => ∃ (r p : Addr) (ns ps : List Int), vs = [.ref r, .ref p] ∧ H r = some (.lst (ns.map V.int)) ∧ H p = some (.lst (ps.map V.int)) ∧ 1 ≤ ns.length ∧ ns.length ≤ 40000 ∧ ps.length ≤ 40000 ∧
  ∀ (b : Bool) (H' : Hp), Same H H' → (b = true ↔ RRight ns ps) → Q (.bl b) H'
theorem ok_rshows {P : Program} {w : World} {K : PySem.W.Frag} {mg : Str → Option Value} {base : Heap} {k : Nat} {f : Addr} {fd : FuncData} (F : Fun K "ring_shows" "ring_shows" s_ring_shows f fd) (Z : Blt mg)
    (D_are_whole : Def P w K mg base k "are_whole" ["paper", "many"] sp_arew) (D_best_ring_sized : Def P w K mg base k "best_ring_sized" ["ring", "least", "most"] sp_rsized) : FnOk P w K mg base CX0 (k + 1) f fd ["ring", "paper"] sp_rshows := by
  refine F.ok sc_ring_shows (fun vs H Q E h => ?_) (fun cdv A outer s H vs Q E hr h => ?_)
  · obtain ⟨r, p, ns, ps, rfl, _⟩ := h
    rfl
  obtain ⟨r, p, ns, ps, rfl, hR, hp, hz1, hz, hzp, q⟩ := h
  apply Exists.intro
  apply And.intro
  case left =>
    apply pss_cons
    case h1 =>
      apply ps_if
      case hc => exact (pt_not (pt_val (pe_def D_are_whole hr rfl (pa_cons (pv 1) (pa_cons (pe_callB (call_len_seqK (K := K) rfl) rfl Z.len_ PySem.boot_len (pa_cons (pv 0) pa_nil)) pa_nil)))))
      case ha =>
        apply pss_one
        exact (ps_ret pe_bl)
      case hb =>
        exact pss_nil
    apply pss_cons
    case h1 =>
      apply ps_for PassesOwn.never rfl
      case hi => exact (pi_range2 rfl Z.range_ (pa_cons pe_int (pa_cons (pe_op op_add (pe_callB (call_len_seqK (K := K) rfl) rfl Z.len_ PySem.boot_len (pa_cons (pv 0) pa_nil)) pe_int) pa_nil)))
      case hg => exact (pg_name (i := 2) sc_ring_shows.nd rfl (by first | exact Or.inl rfl | exact Or.inr rfl))
      case hb =>
        apply pss_one
        apply ps_if
        case hc => exact (pt_cmpR op_lt (pe_ix (ix_listK (K := K) rfl) (pv 1) (pe_op op_sub (pv 2) pe_int) (fun _ _ => rfl)) (pe_ix (ix_tupK (K := K) rfl) (pe_def D_best_ring_sized hr rfl (pa_cons (pv 0) (pa_cons (pv 2) (pa_cons (pv 2) pa_nil)))) pe_int (fun _ _ => rfl)) (nomark _))
        case ha =>
          apply pss_one
          exact (ps_ret pe_bl)
        case hb =>
          exact pss_nil
    apply pss_one
    exact (ps_ret pe_bl)
  have hl : (ns.map V.int).length = ns.length := List.length_map _
  have hlp : (ps.map V.int).length = ps.length := List.length_map _
  walk_at "rd"
  refine ⟨r, _, rfl, .inl (SqL.of hR), ?_⟩
  refine ⟨_, _, _, rfl, hp, by (first | lia | omega), fun H1 s1 => ?_⟩
  rw [hl]
  walk_at "rd"
  refine ifN (fun hne => ?_) (fun he => ?_)
  · walk_at "rd"
    exact q false _ s1 ⟨(fun z => by cases z), fun z => absurd (by rw [z.1]) hne⟩
  have he' : ps.length = ns.length := by (first | lia | omega)
  have hR1 := s1 _ _ hR
  walk_at "rd"
  refine ⟨r, _, rfl, .inl (SqL.of hR1), ?_⟩
  walk_at "rd"
  refine ⟨_, _, rfl, ⟨by (first | lia | omega), by (first | lia | omega), by (first | lia | omega), by (first | lia | omega)⟩, ?_⟩
  refine for_range (fun i σ H' => ∃ o2, Same H H' ∧ (∀ j, j < i → ∀ s, RTop ns (j + 1) s → s ≤ ps.getD j 0) ∧ σ = [some (.ref r), some (.ref p), o2]) ⟨none, s1, fun j hj => by (first | lia | omega), rfl⟩ ?_ ?_
  · rintro i σ H2 hi ⟨o2, s2, hall, rfl⟩
    have hi' : i < ns.length := by (first | lia | omega)
    have ei : ((1 : Int) + i - 1).toNat = i := by (first | lia | omega)
    have em : (1 : Int) + i = ((i + 1 : Nat) : Int) := by (first | lia | omega)
    walk_at "rd"
    refine ⟨p, _, _, _, rfl, rfl, SqL.of (s2 _ _ hp), atI_ok (by (first | lia | omega)) (by (first | lia | omega)), ?_⟩
    rw [ei]
    walk_at "rd"
    refine ⟨r, ns, i + 1, ((i + 1 : Nat) : Int), by show [V.ref r, V.int (1 + (i : Int)), V.int (1 + (i : Int))] = _; rw [em], s2 _ _ hR, by (first | lia | omega), by (first | lia | omega), by (first | lia | omega), Int.le_refl _, fun t s f b H3 s3 ht hB => ?_⟩
    have top := RTop.of_best (by (first | lia | omega)) hB
    walk_at "rd"
    refine ⟨t, _, 0, _, rfl, rfl, SqT.of ht, rfl, ?_⟩
    walk_at "rd"
    refine ifD (fun hlt => ?_) (fun hge => ?_)
    · walk_at "rd"
      refine q false _ (s2.trans s3) ⟨(fun z => by cases z), fun z => ?_⟩
      have := z.2 i hi' s top
      (first | lia | omega)
    · refine ⟨_, s2.trans s3, fun j hj s' hs' => ?_, rfl⟩
      by_cases ej : j = i
      · subst ej
        rw [hs'.uniq top]
        (first | lia | omega)
      · exact hall j (by (first | lia | omega)) s' hs'
  · rintro σ H2 ⟨o2, s2, hall, rfl⟩
    walk_at "rd"
    exact q true _ s2 ⟨fun _ => ⟨he', fun i hi => hall i (by (first | lia | omega))⟩, fun _ => rfl⟩
theorem ppr_max {ns : List Int} {s : Int} {f b : Nat} {M : Int} (h : IsBest ns 1 ns.length s f b) (h1 : M ∈ pprL ns ns.length) (h2 : ∀ a, a ∈ pprL ns ns.length → a ≤ M) : M = s := by
  have m := h.mem
  unfold Val at m
  refine Int.le_antisymm ?_ ?_
  · obtain ⟨p, hp, rfl⟩ := List.mem_map.mp h1
    have hp' := List.mem_range.mp hp
    obtain ⟨_, f', _, hf', e⟩ := ppr_top hp'
    have t := h.top f' (p + 1) (by unfold Val; (first | lia | omega))
    (first | lia | omega)
  · have hb : b - 1 < ns.length := by (first | lia | omega)
    have := (ppr_top hb).1 f (by (first | lia | omega)) (by (first | lia | omega))
    have e : b - 1 + 1 = b := by (first | lia | omega)
    rw [e] at this
    have v := h.val
    have := h2 (ppr ns (b - 1)) (List.mem_map.mpr ⟨b - 1, List.mem_range.mpr hb, rfl⟩)
    (first | lia | omega)
theorem rtop_max {ns ms : List Int} {s M : Int} {f b : Nat} (h : IsBestR ns 1 ns.length s f b) (hl : ms.length = ns.length) (ht : ∀ i, i < ns.length → RTop ns (i + 1) (ms.getD i 0)) (h1 : M ∈ ms) (h2 : ∀ a, a ∈ ms → a ≤ M) : M = s := by
  have m := h.mem
  unfold RVal at m
  refine Int.le_antisymm ?_ ?_
  · obtain ⟨i, hi, rfl⟩ := List.getElem_of_mem h1
    obtain ⟨_, f', hf', e⟩ := ht i (by (first | lia | omega))
    rw [List.getD_eq_getElem?_getD, List.getElem?_eq_getElem hi] at e
    have t := h.top f' (f' + (i + 1)) (by unfold RVal; (first | lia | omega))
    have e' : ms[i] = psum (unr ns) (f' + (i + 1)) - psum (unr ns) f' := e
    (first | lia | omega)
  · have hb : b - f - 1 < ns.length := by (first | lia | omega)
    have t := (ht (b - f - 1) hb).1 f (by (first | lia | omega))
    rw [show f + (b - f - 1 + 1) = b by (first | lia | omega)] at t
    have v := h.val
    have hm : ms.getD (b - f - 1) 0 ∈ ms := by
      rw [List.getD_eq_getElem?_getD, List.getElem?_eq_getElem (by (first | lia | omega))]
      exact List.getElem_mem _
    have := h2 _ hm
    (first | lia | omega)
noncomputable def sp_ring24 : Sp := fun vs H Q _ => ∃ (q r : Addr) (ns : List Int), vs = [.ref q, .ref r] ∧ Reel H q ∧ r ≠ q ∧ H r = some (.lst (ns.map V.int)) ∧ 1 ≤ ns.length ∧ ns.length ≤ 100 ∧ ∀ H', SameX q H H' → Reel H' q → Q (.bl true) H'
theorem ok_ring24 {P : Program} {w : World} {K : PySem.W.Frag} {mg : Str → Option Value} {base : Heap} {k : Nat} {f : Addr} {fd : FuncData} (F : Fun K "_law_ring_right" "_law_ring_right" s_law_ring_right f fd) (Z : Blt mg)
    (D_law_take : Def P w K mg base k "_law_take" ["reel", "many"] sp_take) (D_best_ring_sized : Def P w K mg base k "best_ring_sized" ["ring", "least", "most"] sp_rsized) (D_best_ring : Def P w K mg base k "best_ring" ["ring"] sp_bring) (D_ring_shows : Def P w K mg base k "ring_shows" ["ring", "paper"] sp_rshows) (D_bound_of : Def P w K mg base k "bound_of" ["paper"] sp_bound) (D_law_less : Def P w K mg base k "_law_less" ["paper", "place"] sp_lessV) : FnOk P w K mg base CX0 (k + 1) f fd ["reel", "ring"] sp_ring24 := by
  refine F.ok sc_law_ring_right (fun vs H Q E h => ?_) (fun cdv A outer s H vs Q E hr h => ?_)
  · obtain ⟨q, r, ns, rfl, _⟩ := h
    rfl
  obtain ⟨q, r, ns, rfl, hq, rq, hR, hn1, hn2, fin⟩ := h
  apply Exists.intro
  apply And.intro
  case left =>
    apply pss_cons
    case h1 =>
      first | exact (ps_lc (i := 2) sc_law_ring_right.nd rfl (by first | exact Or.inl rfl | exact Or.inr rfl) (N' := ["length", "ring"]) (ix := [none, some 1]) rfl rfl (by decide +kernel) rfl rfl rfl rfl (pi_range2 rfl Z.range_ (pa_cons pe_int (pa_cons (pe_op op_add (pe_callB (call_len_seqK (K := K) rfl) rfl Z.len_ PySem.boot_len (pa_cons (pv 1) pa_nil)) pe_int) pa_nil))) (fun _ _ _ _ => (pg_name (i := 0) (show List.Nodup (["length", "ring"] : List Str) by decide +kernel) rfl (by first | exact Or.inl rfl | exact Or.inr rfl))) (fun _ _ _ _ => pts_nil) (fun _ _ _ _ => (pe_ix ix_tupB (pe_def D_best_ring_sized hr rfl (pa_cons (pv 1) (pa_cons (pv 0) (pa_cons (pv 0) pa_nil)))) pe_int (fun _ _ => rfl)))) | exact (ps_set (i := 2) sc_law_ring_right.nd rfl (by first | exact Or.inl rfl | exact Or.inr rfl) (pe_lc (N' := ["length", "ring"]) (ix := [none, some 1]) rfl rfl (by decide +kernel) rfl rfl rfl rfl (pi_range2 rfl Z.range_ (pa_cons pe_int (pa_cons (pe_op op_add (pe_callB (call_len_seqK (K := K) rfl) rfl Z.len_ PySem.boot_len (pa_cons (pv 1) pa_nil)) pe_int) pa_nil))) (fun _ _ _ _ => (pg_name (i := 0) (show List.Nodup (["length", "ring"] : List Str) by decide +kernel) rfl (by first | exact Or.inl rfl | exact Or.inr rfl))) (fun _ _ _ _ => pts_nil) (fun _ _ _ _ => (pe_ix ix_tupB (pe_def D_best_ring_sized hr rfl (pa_cons (pv 1) (pa_cons (pv 0) (pa_cons (pv 0) pa_nil)))) pe_int (fun _ _ => rfl)))))
    apply pss_cons
    case h1 =>
      apply ps_if
      case hc => exact (PW.pt (pw_or (pt_cmpR op_notB (pe_def D_ring_shows hr rfl (pa_cons (pv 1) (pa_cons (pv 2) pa_nil))) pe_bl (nomark _)) (pw_or1 (pt_cmpR op_ne (pe_def D_bound_of hr rfl (pa_cons (pv 2) pa_nil)) (pe_ix (ix_tupK (K := K) rfl) (pe_def D_best_ring hr rfl (pa_cons (pv 1) pa_nil)) pe_int (fun _ _ => rfl)) (nomark _)))))
      case ha =>
        apply pss_one
        exact (ps_ret pe_bl)
      case hb =>
        exact pss_nil
    apply pss_cons
    case h1 =>
      exact (ps_set (i := 3) sc_law_ring_right.nd rfl (by first | exact Or.inl rfl | exact Or.inr rfl) (pe_listRange rfl rfl Z.list_ Z.range_ (pa_cons (pe_callB (call_len_seqK (K := K) rfl) rfl Z.len_ PySem.boot_len (pa_cons (pv 2) pa_nil)) pa_nil)))
    apply pss_cons
    case h1 =>
      apply ps_if
      case hc => exact (pt_cmpR op_gt (pe_callB (call_len_seqK (K := K) rfl) rfl Z.len_ PySem.boot_len (pa_cons (pv 2) pa_nil)) pe_int (nomark _))
      case ha =>
        apply pss_one
        exact (ps_set (i := 3) sc_law_ring_right.nd rfl (by first | exact Or.inl rfl | exact Or.inr rfl) (pe_lst (pa_cons (pe_op op_sub (pe_callB (call_len_seqK (K := K) rfl) rfl Z.len_ PySem.boot_len (pa_cons (pv 2) pa_nil)) pe_int) (pa_cons (pe_def D_law_take hr rfl (pa_cons (pv 0) (pa_cons (pe_callB (call_len_seqK (K := K) rfl) rfl Z.len_ PySem.boot_len (pa_cons (pv 2) pa_nil)) pa_nil))) (pa_cons (pe_def D_law_take hr rfl (pa_cons (pv 0) (pa_cons (pe_callB (call_len_seqK (K := K) rfl) rfl Z.len_ PySem.boot_len (pa_cons (pv 2) pa_nil)) pa_nil))) pa_nil)))))
      case hb =>
        exact pss_nil
    apply pss_one
    exact (ps_ret (pe_cmpR (op_eqDK (K := K) hr rfl) (pe_lc (N' := ["place", "ring", "paper"]) (ix := [none, some 1, some 2]) rfl rfl (by decide +kernel) rfl rfl rfl rfl (pi_listK (K := K) rfl (pv 3)) (fun _ _ _ _ => (pg_name (i := 0) (show List.Nodup (["place", "ring", "paper"] : List Str) by decide +kernel) rfl (by first | exact Or.inl rfl | exact Or.inr rfl))) (fun _ _ _ _ => (pts_one (pt_cmpR op_notB (pe_def D_ring_shows hr rfl (pa_cons (pv 1) (pa_cons (pe_def D_law_less hr rfl (pa_cons (pv 2) (pa_cons (pv 0) pa_nil))) pa_nil))) pe_bl (nomark _)))) (fun _ _ _ _ => (pv 0))) (pe_lst pa_nil) (nomark _)))
  have hl : (ns.map V.int).length = ns.length := List.length_map _
  refine seqU (fun σ' H' => ∃ (acc : Addr) (ms : List Int), acc ≠ q ∧ H' acc = some (.lst (ms.map V.int)) ∧ ms.length = ns.length ∧ (∀ j, j < ns.length → RTop ns (j + 1) (ms.getD j 0)) ∧ Same H H' ∧ σ' = [some (.ref q), some (.ref r), some (.ref acc), none]) ?_ (fun R hRR => ?_)
  case refine_2 =>
    walk_at "rd"
    refine ⟨r, _, rfl, .inl (SqL.of hR), ?_⟩
    rw [hl]
    walk_at "rd"
    refine ⟨_, _, rfl, ⟨by (first | lia | omega), by (first | lia | omega), by (first | lia | omega), by (first | lia | omega)⟩, ?_⟩
    rw [show ((ns.length : Int) + 1 - 1).toNat = ns.length by (first | lia | omega)]
    intro acc hacc
    have accq : acc ≠ q := hq.ne hacc
    refine comp_by (n := ns.length) (fun i τ zs H' => H' acc = some (.lst zs) ∧ (∃ ms : List Int, zs = ms.map V.int ∧ ms.length = i ∧ ∀ j, j < i → RTop ns (j + 1) (ms.getD j 0)) ∧ Same H H' ∧ ∃ o0, τ = [o0, some (.ref r)]) ⟨upd_same, ⟨[], rfl, rfl, fun j hj => absurd hj (by (first | lia | omega))⟩, Same.new hacc _, none, rfl⟩ (by (first | lia | omega)) ?_ ?_ ?_ ?_
    · rintro i τ zs H' ⟨e, ⟨ms, rfl, hm, _⟩, _⟩
      exact ⟨e, by rw [List.length_map]; (first | lia | omega)⟩
    · rintro i τ zs H' hi _
      exact hi
    rotate_left
    · rintro i τ zs H1 v H2 hi ⟨e, ⟨ms, rfl, hm, ht⟩, s1, o0, rfl⟩ ⟨rfl, rfl⟩
      have em : (1 : Int) + i = ((i + 1 : Nat) : Int) := by (first | lia | omega)
      rw [em]
      walk_at "rd"
      refine ⟨r, ns, i + 1, ((i + 1 : Nat) : Int), rfl, s1 _ _ hR, by (first | lia | omega), by (first | lia | omega), by (first | lia | omega), Int.le_refl _, fun t s f b H3 s3 ht3 hB => ?_⟩
      have top := RTop.of_best (by (first | lia | omega)) hB
      walk_at "rd"
      refine ⟨t, _, 0, _, rfl, rfl, SqT.of ht3, rfl, ?_⟩
      refine ⟨s3 _ _ e, Nx.mk hi ⟨upd_same, ⟨ms ++ [s], by rw [List.map_append]; rfl, by rw [List.length_append, hm]; rfl, fun j hj => ?_⟩, (s1.trans s3).upd hacc, _, rfl⟩⟩
      by_cases z : j = i
      · subst z
        rw [List.getD_eq_getElem?_getD, List.getElem?_append_right (by (first | lia | omega)), hm, Nat.sub_self]
        exact top
      · have := ht j (by (first | lia | omega))
        rw [List.getD_eq_getElem?_getD] at this ⊢
        rw [List.getElem?_append_left (by (first | lia | omega))]
        exact this
    rintro τ zs H1 ⟨e1, ⟨ms, rfl, hm, ht⟩, s1, _⟩
    exact ⟨Nat.le_refl _, hRR _ _ ⟨acc, ms, accq, e1, hm, ht, s1, rfl⟩⟩
  rintro _ H1 ⟨acc, ms, accq, e1, hm, ht, s1, rfl⟩
  have hq1 := hq.keep s1
  have hml : (ms.map V.int).length = ms.length := List.length_map _
  walk_at "rd"
  refine ⟨r, acc, ns, ms, rfl, s1 _ _ hR, e1, hn1, by (first | lia | omega), by (first | lia | omega), fun b H2 s2 hb => ?_⟩
  rw [hb.mpr ⟨hm, fun i hi s hs => by rw [hs.uniq (ht i hi)]; exact Int.le_refl _⟩]
  walk_at "rd"
  refine ⟨acc, ms, rfl, s2 _ _ e1, by (first | lia | omega), fun M hM1 hM2 => ?_⟩
  walk_at "rd"
  refine ⟨r, ns, rfl, s2 _ _ (s1 _ _ hR), hn1, by (first | lia | omega), fun t s f b H3 s3 ht3 hB => ?_⟩
  walk_at "rd"
  refine ⟨t, _, 0, _, rfl, rfl, SqT.of ht3, rfl, ?_⟩
  refine ⟨rfl, _, rfl, ?_⟩
  refine ifIN (fun z => absurd (rtop_max hB hm ht hM1 hM2) z) (fun _ => ?_)
  have s13 := s2.trans s3
  have e3 := s13 _ _ e1
  have hR3 := s13 _ _ (s1 _ _ hR)
  have hq3 := hq1.keep s13
  walk_at "rd"
  refine ⟨acc, _, rfl, .inl (SqL.of e3), ?_⟩
  rw [hml]
  refine ⟨_, rfl, by (first | lia | omega), by (first | lia | omega), fun lr hlr => ?_⟩
  obtain ⟨rs, hrs, hrl, hro⟩ : ∃ rs : List Int, (List.range ((ms.length : Nat) : Int).toNat).map (fun i => V.int ((i : Nat) : Int)) = rs.map V.int ∧ rs.length ≤ 200 ∧ ∀ x, x ∈ rs → 0 ≤ x ∧ x < (ns.length : Int) := by
    refine ⟨(List.range ms.length).map fun i => ((i : Nat) : Int), by rw [List.map_map]; rfl, by rw [List.length_map, List.length_range]; (first | lia | omega), fun x hx => ?_⟩
    obtain ⟨i, hi, rfl⟩ := List.mem_map.mp hx
    have := List.mem_range.mp hi
    (first | lia | omega)
  rw [hrs]
  have s4 := Same.new hlr (.lst (rs.map V.int))
  have h4 : upd H3 lr (.lst (rs.map V.int)) lr = some (.lst (rs.map V.int)) := upd_same
  have e4 := s4 _ _ e3
  have hR4 := s4 _ _ hR3
  have hq4 := hq3.keep s4
  have s04 := s1.trans (s13.trans s4)
  have lrq : lr ≠ q := hq3.ne hlr
  generalize upd H3 lr (.lst (rs.map V.int)) = H4 at s4 h4 e4 hR4 hq4 s04 ⊢
  walk_at "rd"
  refine ⟨acc, _, rfl, .inl (SqL.of e4), ?_⟩
  rw [hml]
  walk_at "rd"
  refine ifJ (fun σ' H' => ∃ (lx : Addr) (xs : List Int), SameX q H H' ∧ Reel H' q ∧ H' r = some (.lst (ns.map V.int)) ∧ H' acc = some (.lst (ms.map V.int)) ∧ H' lx = some (.lst (xs.map V.int)) ∧ xs.length ≤ 200 ∧ (∀ x, x ∈ xs → 0 ≤ x ∧ x < (ns.length : Int)) ∧ σ' = [some (.ref q), some (.ref r), some (.ref acc), some (.ref lx)]) ?_ (fun _ => ⟨lr, rs, sX s04, hq4, hR4, e4, h4, hrl, hro, rfl⟩) (fun R hR' _ => ?_)
  case refine_2 =>
    walk_at "rd"
    refine ⟨acc, _, rfl, .inl (SqL.of e4), ?_⟩
    rw [hml]
    walk_at "rd"
    refine ⟨acc, _, rfl, .inl (SqL.of e4), ?_⟩
    rw [hml]
    refine ⟨_, _, rfl, hq4, by (first | lia | omega), by (first | lia | omega), fun n5 H5 s5 hq5 h5a h5b => ?_⟩
    have e5 := s5 _ _ accq e4
    walk_at "rd"
    refine ⟨acc, _, rfl, .inl (SqL.of e5), ?_⟩
    rw [hml]
    refine ⟨_, _, rfl, hq5, by (first | lia | omega), by (first | lia | omega), fun n6 H6 s6 hq6 h6a h6b => ?_⟩
    have e6 := s6 _ _ accq e5
    refine ⟨by show 3 ≤ sizeLine; decide, fun lx hlx => ?_⟩
    have s7 := Same.new hlx (.lst [.int ((ms.length : Int) - 1), .int n5, .int n6])
    refine hR' _ _ ⟨lx, [(ms.length : Int) - 1, n5, n6], fun b o hb z => s7 _ _ (s6 _ _ hb (s5 _ _ hb (s04 _ _ z))), hq6.keep s7, s7 _ _ (s6 _ _ rq (s5 _ _ rq hR4)), s7 _ _ e6, upd_same, by show 3 ≤ 200; decide, fun x hx => ?_, rfl⟩
    simp only [List.mem_cons, List.not_mem_nil, or_false] at hx
    (first | lia | omega)
  rintro _ H5 ⟨lx, xs, s5, hq5, hR5, e5, hlx, hxl, hxo, rfl⟩
  have hxv : (xs.map V.int).length = xs.length := List.length_map _
  walk_at "rd"
  refine ⟨⟨_, SqL.of hlx⟩, ?_⟩
  intro ac2 hac2
  refine comp_by (n := xs.length) (fun i τ zs H' => zs = [] ∧ H' ac2 = some (.lst []) ∧ Same H5 H' ∧ ∃ o0, τ = [o0, some (.ref r), some (.ref acc)]) ⟨rfl, upd_same, Same.new hac2 _, none, rfl⟩ (by (first | lia | omega)) ?_ ?_ ?_ ?_
  · rintro i τ zs H' ⟨rfl, e, _⟩
    exact ⟨e, Nat.zero_le _⟩
  · rintro i τ zs H' hi ⟨_, e, sm', _⟩
    exact ⟨_, (xs.map V.int)[i]'(by (first | lia | omega)), SqL.of (sm' _ _ hlx), List.getElem?_eq_getElem (by (first | lia | omega))⟩
  · rintro τ zs H6 ⟨rfl, e, s6, _⟩
    refine ⟨⟨_, SqL.of (s6 _ _ hlx), by rw [hxv]; exact Nat.le_refl _⟩, ?_⟩
    refine ⟨Nat.zero_le _, fun l hl' => ?_⟩
    refine ⟨0, true, ?_, by decide, ?_⟩
    · exact (show EqD K _ 1 _ _ (decide (([] : List Int) = [])) from EqD.ints (SqL.of (by rw [upd_ne (ne_of_none e hl')]; exact e)) (SqL.of upd_same))
    · exact fin _ (fun b o hb z => Same.new hl' _ _ _ (s6 _ _ (s5 _ _ hb z))) (hq5.keep (s6.trans (Same.new hl' _)))
  · rintro i τ zs H6 v H7 hi ⟨rfl, e, s6, o0, rfl⟩ ⟨rfl, y⟩
    have ey := y _ (SqL.of (s6 _ _ hlx))
    obtain ⟨_, rfl⟩ := int_at ey
    obtain ⟨hx0, hx1⟩ := hxo xs[i] (List.getElem_mem hi)
    obtain ⟨d, ed⟩ : ∃ d : Nat, xs[i] = d := ⟨xs[i].toNat, by (first | lia | omega)⟩
    rw [ed]
    have hd : d < ms.length := by (first | lia | omega)
    walk_at "rd"
    refine ⟨acc, _, d, ms[d], rfl, s6 _ _ e5, by (first | lia | omega), by rw [List.getElem?_map, List.getElem?_eq_getElem hd]; rfl, fun l H8 s8 hl80 hl8 => ?_⟩
    have em : (ms.map V.int).set d (V.int (ms[d] - 1)) = (ms.set d (ms[d] - 1)).map V.int := by rw [List.map_set]
    rw [em] at hl8
    refine ⟨r, l, ns, ms.set d (ms[d] - 1), rfl, s8 _ _ (s6 _ _ hR5), hl8, hn1, by (first | lia | omega), by rw [List.length_set]; (first | lia | omega), fun b H9 s9 hb => ?_⟩
    cases b with
    | true =>
      have t := (hb.mp rfl).2 d (by (first | lia | omega)) _ (ht d (by (first | lia | omega)))
      rw [List.getD_eq_getElem?_getD, List.getElem?_eq_getElem hd, List.getD_eq_getElem?_getD, List.getElem?_set, if_pos rfl, if_pos hd] at t
      have t' : ms[d] ≤ ms[d] - 1 := t
      (first | lia | omega)
    | false =>
      walk_at "rd"
      have s69 := s8.trans s9
      exact Nx.mk hi ⟨rfl, s69 _ _ e, s6.trans s69, _, rfl⟩
theorem ok_law {P : Program} {w : World} {K : PySem.W.Frag} {mg : Str → Option Value} {base : Heap} {k : Nat} {f : Addr} {fd : FuncData} (F : Fun K "law" "law" s_law f fd) (Z : Blt mg)
    (D_law_reel : Def P w K mg base k "_law_reel" ["cell"] sp_reel) (D_law_take : Def P w K mg base k "_law_take" ["reel", "many"] sp_take) (D_law_row : Def P w K mg base k "_law_row" ["reel", "most"] sp_rrow) (D_law_counts : Def P w K mg base k "_law_counts" ["reel", "many"] sp_cnts)
    (D_paper_of : Def P w K mg base k "paper_of" ["row"] sp_paper) (D_bound_of : Def P w K mg base k "bound_of" ["paper"] sp_bound) (D_best_of : Def P w K mg base k "best_of" ["row"] sp_bestof) (D_paper_shows : Def P w K mg base k "paper_shows" ["row", "paper"] sp_shows) (D_law_less : Def P w K mg base k "_law_less" ["paper", "place"] sp_lessV)
    (D_law_several_right : Def P w K mg base k "_law_several_right" ["reel", "row", "many", "gap"] sp_sev24) (D_law_ring_right : Def P w K mg base k "_law_ring_right" ["reel", "ring"] sp_ring24) : FnOk P w K mg base CX0 (k + 1) f fd ["script"] (sp_law K) := by
  refine F.ok sc_law (fun vs H Q E h => ?_) (fun cdv A outer s H vs Q E hr h => ?_)
  · obtain ⟨a, ns, rfl, _⟩ := h
    rfl
  obtain ⟨a, cs, rfl, hS, hz, q⟩ := h
  apply Exists.intro
  apply And.intro
  case left =>
    apply pss_cons
    case h1 =>
      apply ps_for PassesOwn.never rfl
      case hi => exact (pi_listK (K := K) rfl (pe_op op_cat (pe_slice (sl_listK (K := K) rfl) (pv 0) po_none (po_some pe_int)) (pe_lst (pa_cons (pe_callB (call_len_seqK (K := K) rfl) rfl Z.len_ PySem.boot_len (pa_cons (pv 0) pa_nil)) pa_nil))))
      case hg => exact (pg_name (i := 1) sc_law.nd rfl (by first | exact Or.inl rfl | exact Or.inr rfl))
      case hb =>
        apply pss_cons
        case h1 =>
          exact (ps_set (i := 2) sc_law.nd rfl (by first | exact Or.inl rfl | exact Or.inr rfl) (pe_def D_law_reel hr rfl (pa_cons (pv 1) pa_nil)))
        apply pss_cons
        case h1 =>
          exact (ps_set (i := 3) sc_law.nd rfl (by first | exact Or.inl rfl | exact Or.inr rfl) (pe_def D_law_row hr rfl (pa_cons (pv 2) (pa_cons pe_int pa_nil))))
        apply pss_cons
        case h1 =>
          exact (ps_set (i := 4) sc_law.nd rfl (by first | exact Or.inl rfl | exact Or.inr rfl) (pe_def D_paper_of hr rfl (pa_cons (pv 3) pa_nil)))
        apply pss_cons
        case h1 =>
          apply ps_if
          case hc => exact (PW.pt (pw_or (pt_cmpR op_ne (pe_def D_bound_of hr rfl (pa_cons (pv 4) pa_nil)) (pe_ix (ix_tupK (K := K) rfl) (pe_def D_best_of hr rfl (pa_cons (pv 3) pa_nil)) pe_int (fun _ _ => rfl)) (nomark _)) (pw_or1 (pt_not (pt_val (pe_def D_paper_shows hr rfl (pa_cons (pv 3) (pa_cons (pv 4) pa_nil))))))))
          case ha =>
            apply pss_one
            exact (ps_ret pe_bl)
          case hb =>
            exact pss_nil
        apply pss_cons
        case h1 =>
          exact (ps_asg (pe_def D_law_counts hr rfl (pa_cons (pv 2) (pa_cons (pe_callB (call_len_seqK (K := K) rfl) rfl Z.len_ PySem.boot_len (pa_cons (pv 3) pa_nil)) pa_nil))) (pg_tupK (K := K) (n := 2) rfl rfl (pgs_cons (pg_name (i := 5) sc_law.nd rfl (by first | exact Or.inl rfl | exact Or.inr rfl)) (pgs_cons (pg_name (i := 6) sc_law.nd rfl (by first | exact Or.inl rfl | exact Or.inr rfl)) pgs_nil))))
        apply pss_cons
        case h1 =>
          exact (ps_set (i := 5) sc_law.nd rfl (by first | exact Or.inl rfl | exact Or.inr rfl) (pe_op op_add (pe_callB (call_min2 rfl) rfl Z.min_ PyProof.Rows.boot_min (pa_cons (pv 5) (pa_cons pe_int pa_nil))) (pe_callTy call_int1 rfl Z.int_ PyProof.Rows.boot_int (pa_cons (pe_cmpR op_eq (pe_def D_law_take hr rfl (pa_cons (pv 2) (pa_cons pe_int pa_nil))) pe_int (nomark _)) pa_nil))))
        apply pss_cons
        case h1 =>
          apply ps_for PassesOwn.never rfl
          case hi => exact (pi_listK (K := K) rfl (pe_lst (pa_cons (pe_op op_sub (pe_callB (call_len_seqK (K := K) rfl) rfl Z.len_ PySem.boot_len (pa_cons (pv 3) pa_nil)) pe_int) (pa_cons (pe_def D_law_take hr rfl (pa_cons (pv 2) (pa_cons (pe_callB (call_len_seqK (K := K) rfl) rfl Z.len_ PySem.boot_len (pa_cons (pv 3) pa_nil)) pa_nil))) pa_nil))))
          case hg => exact (pg_name (i := 7) sc_law.nd rfl (by first | exact Or.inl rfl | exact Or.inr rfl))
          case hb =>
            apply pss_one
            apply ps_if
            case hc => exact (pt_cmpR op_notB (pe_def D_paper_shows hr rfl (pa_cons (pv 3) (pa_cons (pe_def D_law_less hr rfl (pa_cons (pv 4) (pa_cons (pv 7) pa_nil))) pa_nil))) pe_bl (nomark _))
            case ha =>
              apply pss_one
              exact (ps_ret pe_bl)
            case hb =>
              exact pss_nil
        apply pss_one
        apply ps_if
        case hc => exact (PW.pt (pw_or (pt_not (pt_val (pe_def D_law_several_right hr rfl (pa_cons (pv 2) (pa_cons (pv 3) (pa_cons (pv 5) (pa_cons (pv 6) pa_nil))))))) (pw_or1 (pt_not (pt_val (pe_def D_law_ring_right hr rfl (pa_cons (pv 2) (pa_cons (pv 3) pa_nil))))))))
        case ha =>
          apply pss_one
          exact (ps_ret pe_bl)
        case hb =>
          exact pss_nil
    apply pss_one
    exact (ps_ret pe_bl)
  have hl : (cs.map V.int).length = cs.length := List.length_map _
  walk_at "rd"
  refine ⟨a, _, rfl, hS, fun p1 hp1 => ?_⟩
  have s1 := Same.new hp1 (.lst (cutV (cs.map V.int) none (some 5)))
  walk_at "rd"
  refine ⟨a, _, rfl, .inl (s1.seq hS), ?_⟩
  refine ⟨by show 1 ≤ sizeLine; decide, fun p2 hp2 => ?_⟩
  have h12 : p1 ≠ p2 := fun z => by subst z; rw [upd_same] at hp2; cases hp2
  have e10 : cutV (cs.map V.int) none (some 5) = (cs.take 5).map V.int := cut_front (m := 5)
  refine ⟨p1, p2, _, _, rfl, rfl, by rw [upd_ne h12, upd_same], upd_same, ?_, fun p3 hp3 => ?_⟩
  · rw [e10, List.length_map, List.length_take]
    refine Nat.le_of_lt (small ?_)
    show min 5 cs.length + 1 ≤ 100000
    (first | lia | omega)
  obtain ⟨ds, ecs⟩ : ∃ ds : List Int, cutV (cs.map V.int) none (some 5) ++ [V.int (((cs.map V.int).length : Nat) : Int)] = ds.map V.int := ⟨cs.take 5 ++ [(((cs.map V.int).length : Nat) : Int)], by rw [e10, List.map_append]; rfl⟩
  rw [ecs]
  obtain ⟨H1, eH1⟩ : ∃ H1, H1 = upd (upd (upd H p1 (.lst (cutV (cs.map V.int) none (some 5)))) p2 (.lst [V.int (((cs.map V.int).length : Nat) : Int)])) p3 (.lst (ds.map V.int)) := ⟨_, rfl⟩
  have hpc : H1 p3 = some (.lst (ds.map V.int)) := by rw [eH1, upd_same]
  rw [← eH1]
  refine ⟨_, rfl, ⟨_, SqL.of hpc⟩, ?_⟩
  refine for_list (xs := ds.map V.int) (fun i σ H' => ∃ o1 o2 o3 o4 o5 o6 o7, Same H1 H' ∧ σ = [some (.ref a), o1, o2, o3, o4, o5, o6, o7]) ⟨_, _, _, _, _, _, _, Same.refl _, rfl⟩ ?_ ?_ ?_
  · rintro i σ H' _ ⟨_, _, _, _, _, _, _, sm, _⟩
    exact SqL.of (sm _ _ hpc)
  · rintro i x σ H2 hx ⟨o1, o2, o3, o4, o5, o6, o7, S2, rfl⟩
    obtain ⟨_, rfl⟩ := int_at hx
    walk_at "rd"
    refine fun qr hqr H3 s3 hq3 => ?_
    have S3 := S2.trans s3
    have nq : H1 qr = none := S2.free hqr
    have old : ∀ {Ha Hb : Hp}, Same H1 Ha → SameX qr Ha Hb → Same H1 Hb := fun {Ha Hb} sa sb b o e => sb b o (ne_of_none e nq) (sa b o e)
    walk_at "rd"
    refine ⟨_, _, rfl, hq3, by decide, by decide, fun r ns H4 s4 hq4 hr0 hR4 hn1 hn8 => ?_⟩
    have S4 := old S3 s4
    have rne : r ≠ qr := hq3.ne hr0
    have hln : (ns.map V.int).length = ns.length := List.length_map _
    have hpl := pprL_len (ns := ns) (i := ns.length)
    walk_at "rd"
    refine ⟨r, ns, rfl, hR4, hn1, by (first | lia | omega), fun lp H5 s5 hlp0 hlp => ?_⟩
    have lpq : lp ≠ qr := hq4.ne hlp0
    walk_at "rd"
    refine ⟨lp, _, rfl, hlp, by (first | lia | omega), fun M hM1 hM2 => ?_⟩
    walk_at "rd"
    refine ⟨r, ns, rfl, s5 _ _ hR4, hn1, by (first | lia | omega), fun t s f b H6 s6 ht hB => ?_⟩
    walk_at "rd"
    refine ⟨t, _, 0, _, rfl, rfl, SqT.of ht, rfl, ?_⟩
    refine ⟨rfl, _, rfl, ?_⟩
    refine ifIN (fun z => absurd (ppr_max hB hM1 hM2) z) (fun _ => ?_)
    have s46 := s5.trans s6
    walk_at "rd"
    refine ⟨r, lp, ns, _, rfl, s46 _ _ hR4, s6 _ _ hlp, by (first | lia | omega), by (first | lia | omega), fun b H7 s7 hb => ?_⟩
    rw [hb.mpr ppr_right]
    have s47 := s46.trans s7
    have S7 := S4.trans s47
    have hq7 := hq4.keep s47
    have hR7 := s47 _ _ hR4
    have hlp7 := s7 _ _ (s6 _ _ hlp)
    walk_at "rd"
    refine ⟨r, _, rfl, .inl (SqL.of hR7), ?_⟩
    rw [hln]
    walk_at "rd"
    refine ⟨qr, ns.length, rfl, hq7, hn1, by (first | lia | omega), fun t c g H8 s8 hq8 ht0 ht hc1 hc2 hg => ?_⟩
    have S8 := old S7 s8
    have hR8 := s8 _ _ rne hR7
    have hlp8 := s8 _ _ lpq hlp7
    have hcn := room_n hc2
    walk_at "rd"
    refine ⟨t, _, rfl, SqT.of ht, rfl, _, _, rfl, _, _, rfl, rfl, ?_⟩
    walk_at "rd"
    refine ⟨_, _, rfl, ?_⟩
    walk_at "rd"
    refine ⟨_, _, rfl, hq8, by decide, by decide, fun n9 H9 s9 hq9 h9a h9b => ?_⟩
    have S9 := old S8 s9
    have hR9 := s9 _ _ rne hR8
    have hlp9 := s9 _ _ lpq hlp8
    walk_at "rd"
    refine .inr ⟨_, rfl, ?_⟩
    obtain ⟨m, hm⟩ : ∃ m : Nat, (if (6 : Int) < (c : Int) then (6 : Int) else (c : Int)) + (if decide (V.int n9 = V.int 0) = true then 1 else 0) = (m : Int) := ⟨((if (6 : Int) < (c : Int) then (6 : Int) else (c : Int)) + (if decide (V.int n9 = V.int 0) = true then 1 else 0)).toNat, by split <;> split <;> (first | lia | omega)⟩
    have hm1 : 1 ≤ m ∧ m ≤ 7 := by
      split at hm <;> split at hm <;> (first | lia | omega)
    refine ⟨_, _, rfl, rfl, ?_⟩
    dsimp only [gName]
    rw [hm]
    walk_at "rd"
    refine ⟨r, _, rfl, .inl (SqL.of hR9), ?_⟩
    rw [hln]
    walk_at "rd"
    refine ⟨r, _, rfl, .inl (SqL.of hR9), ?_⟩
    rw [hln]
    refine ⟨_, _, rfl, hq9, by (first | lia | omega), by (first | lia | omega), fun n10 Ha sa hqa h10a h10b => ?_⟩
    refine ⟨by show 2 ≤ sizeLine; decide, fun pL hpL => ?_⟩
    have sb := Same.new hpL (.lst [.int ((ns.length : Int) - 1), .int n10])
    have hLb : upd Ha pL (.lst [.int ((ns.length : Int) - 1), .int n10]) pL = some (.lst (([(ns.length : Int) - 1, n10] : List Int).map V.int)) := upd_same
    have Sb := (old S9 sa).trans sb
    have hqb := hqa.keep sb
    have hRb := sb _ _ (sa _ _ rne hR9)
    have hlpb := sb _ _ (sa _ _ lpq hlp9)
    generalize upd Ha pL (.lst [.int ((ns.length : Int) - 1), .int n10]) = Hb at sb hLb Sb hqb hRb hlpb ⊢
    refine ⟨_, rfl, ⟨_, SqL.of hLb⟩, ?_⟩
    refine for_list (xs := ([(ns.length : Int) - 1, n10] : List Int).map V.int) (fun j σ H' => ∃ o7, Same Hb H' ∧ σ = [some (.ref a), some (.int ds[i]), some (.ref qr), some (.ref r), some (.ref lp), some (.int m), some (.int g), o7]) ⟨_, Same.refl _, rfl⟩ ?_ ?_ ?_
    · rintro j σ H' _ ⟨_, s', _⟩
      exact SqL.of (s' _ _ hLb)
    · rintro j x σ Hc hx ⟨o7, sc, rfl⟩
      obtain ⟨d, ed, hd⟩ : ∃ d : Nat, x = .int d ∧ d < ns.length := by
        match j, hx with
        | 0, hx =>
          cases hx
          exact ⟨ns.length - 1, by show V.int ((ns.length : Int) - 1) = _; rw [show (ns.length : Int) - 1 = ((ns.length - 1 : Nat) : Int) by (first | lia | omega)], by (first | lia | omega)⟩
        | 1, hx =>
          cases hx
          exact ⟨n10.toNat, by show V.int n10 = _; rw [show n10 = ((n10.toNat : Nat) : Int) by (first | lia | omega)]; rfl, by (first | lia | omega)⟩
        | j + 2, hx => cases hx
      subst ed
      walk_at "rd"
      refine ⟨lp, _, d, ppr ns d, rfl, sc _ _ hlpb, by rw [List.length_map]; (first | lia | omega), ?_, fun l Hd sd hl0 hl' => ?_⟩
      · rw [List.getElem?_map, List.getElem?_eq_getElem (by (first | lia | omega))]
        have := pprL_at (ns := ns) hd
        rw [List.getD_eq_getElem?_getD, List.getElem?_eq_getElem (by (first | lia | omega))] at this
        exact congrArg (fun z => some (V.int z)) this
      have em : ((pprL ns ns.length).map V.int).set d (V.int (ppr ns d - 1)) = ((pprL ns ns.length).set d (ppr ns d - 1)).map V.int := by rw [List.map_set]
      rw [em] at hl'
      refine ⟨r, l, ns, _, rfl, sd _ _ (sc _ _ hRb), hl', by (first | lia | omega), by rw [List.length_set]; (first | lia | omega), fun b He se hb => ?_⟩
      cases b with
      | true =>
        refine absurd (hb.mp rfl) (ppr_less hd (by rw [List.length_set, hpl]) fun j hj => ?_)
        rw [List.getD_eq_getElem?_getD, List.getElem?_set]
        by_cases z : d = j
        · subst z
          rw [if_pos rfl, if_pos (by (first | lia | omega)), if_pos rfl]
          rfl
        · rw [if_neg z, if_neg (fun w => z w.symm), ← List.getD_eq_getElem?_getD, pprL_at hj]
      | false =>
        walk_at "rd"
        exact ⟨_, sc.trans (sd.trans se), rfl⟩
    · rintro σ Hc ⟨o7, sc, rfl⟩
      have hqc := hqb.keep sc
      have hRc := sc _ _ hRb
      walk_at "rd"
      refine ⟨qr, r, ns, m, g, rfl, hqc, rne, hRc, hn1, by (first | lia | omega), hm1.1, by (first | lia | omega), hg, fun Hd sd hqd => ?_⟩
      walk_at "rd"
      refine ⟨qr, r, ns, rfl, hqd, rne, sd _ _ rne hRc, hn1, by (first | lia | omega), fun He se hqe => ?_⟩
      walk_at "rd"
      exact ⟨_, _, _, _, _, _, _, old (Sb.trans sc) (sd.trans se), rfl⟩
  · rintro σ H2 ⟨_, _, _, _, _, _, _, S2, rfl⟩
    walk_at "rd"
    exact q _
theorem of1 {us : List Value} (h : us.length = 1) : ∃ x0, us = [x0] := by
  match us, h with
  | [x0], _ => exact ⟨_, rfl⟩
theorem of2 {us : List Value} (h : us.length = 2) : ∃ x0 x1, us = [x0, x1] := by
  match us, h with
  | [x0, x1], _ => exact ⟨_, _, rfl⟩
theorem of3 {us : List Value} (h : us.length = 3) : ∃ x0 x1 x2, us = [x0, x1, x2] := by
  match us, h with
  | [x0, x1, x2], _ => exact ⟨_, _, _, rfl⟩
theorem of4 {us : List Value} (h : us.length = 4) : ∃ x0 x1 x2 x3, us = [x0, x1, x2, x3] := by
  match us, h with
  | [x0, x1, x2, x3], _ => exact ⟨_, _, _, _, rfl⟩
theorem all_mk {l : PySem.W.OpenLaw} {w : World} {K : PySem.W.Frag} {h : Heap} {mg : Str → Option Value} {fa f0 f1 f2 f3 f4 f5 f6 f7 f8 f9 f10 f11 f12 f13 f14 f15 f16 f17 f18 f19 f20 f21 f22 f23 f24 f25 f26 f27 f28 f29 f30 f31 f32 f33 f34 f35 f36 f37 f38 f39 f40 : Addr} (X : K.In h) (G : h.Ns mainGlobals mg) (hfa : mg "law" = some (.ref fa))
    {od0 an0 od1 an1 od2 an2 od3 an3 od4 an4 od5 an5 od6 an6 od7 an7 od8 an8 od9 an9 od10 an10 od11 an11 od12 an12 od13 an13 od14 an14 od15 an15 od16 an16 od17 an17 od18 an18 od19 an19 od20 an20 od21 an21 od22 an22 od23 an23 od24 an24 od25 an25 od26 an26 od27 an27 od28 an28 od29 an29 od30 an30 od31 an31 od32 an32 od33 an33 od34 an34 od35 an35 od36 an36 od37 an37 od38 an38 od39 an39 od40 an40 : Option Addr} {sl0 sl1 sl2 sl3 sl4 sl5 sl6 sl7 sl8 sl9 sl10 sl11 sl12 sl13 sl14 sl15 sl16 sl17 sl18 sl19 sl20 sl21 sl22 sl23 sl24 sl25 sl26 sl27 sl28 sl29 sl30 sl31 sl32 sl33 sl34 sl35 sl36 sl37 sl38 sl39 sl40 : Array (Option Value)} {oc0 kV0 dc0 pm0 cd0 ct0 oc1 kV1 dc1 pm1 cd1 ct1 oc2 kV2 dc2 pm2 cd2 ct2 oc3 kV3 dc3 pm3 cd3 ct3 oc4 kV4 dc4 pm4 cd4 ct4 oc5 kV5 dc5 pm5 cd5 ct5 oc6 kV6 dc6 pm6 cd6 ct6 oc7 kV7 dc7 pm7 cd7 ct7 oc8 kV8 dc8 pm8 cd8 ct8 oc9 kV9 dc9 pm9 cd9 ct9 oc10 kV10 dc10 pm10 cd10 ct10 oc11 kV11 dc11 pm11 cd11 ct11 oc12 kV12 dc12 pm12 cd12 ct12 oc13 kV13 dc13 pm13 cd13 ct13 oc14 kV14 dc14 pm14 cd14 ct14 oc15 kV15 dc15 pm15 cd15 ct15 oc16 kV16 dc16 pm16 cd16 ct16 oc17 kV17 dc17 pm17 cd17 ct17 oc18 kV18 dc18 pm18 cd18 ct18 oc19 kV19 dc19 pm19 cd19 ct19 oc20 kV20 dc20 pm20 cd20 ct20 oc21 kV21 dc21 pm21 cd21 ct21 oc22 kV22 dc22 pm22 cd22 ct22 oc23 kV23 dc23 pm23 cd23 ct23 oc24 kV24 dc24 pm24 cd24 ct24 oc25 kV25 dc25 pm25 cd25 ct25 oc26 kV26 dc26 pm26 cd26 ct26 oc27 kV27 dc27 pm27 cd27 ct27 oc28 kV28 dc28 pm28 cd28 ct28 oc29 kV29 dc29 pm29 cd29 ct29 oc30 kV30 dc30 pm30 cd30 ct30 oc31 kV31 dc31 pm31 cd31 ct31 oc32 kV32 dc32 pm32 cd32 ct32 oc33 kV33 dc33 pm33 cd33 ct33 oc34 kV34 dc34 pm34 cd34 ct34 oc35 kV35 dc35 pm35 cd35 ct35 oc36 kV36 dc36 pm36 cd36 ct36 oc37 kV37 dc37 pm37 cd37 ct37 oc38 kV38 dc38 pm38 cd38 ct38 oc39 kV39 dc39 pm39 cd39 ct39 oc40 kV40 dc40 pm40 cd40 ct40 : Value}
    (a0 : PySem.W.nsIn K mainGlobals "is_whole" = some (some (.ref f0))) (l0 : K.lookup f0 = some ⟨oc0, od0, .func (PySem.W.fnOf "is_whole" "is_whole" (defArgs s_is_whole) (defBody s_is_whole) (defScope s_is_whole) .none kV0 dc0 pm0 an0 cd0 ct0), sl0⟩) (c0 : PySem.W.codeIn K cd0 "is_whole" = true) (k0 : PySem.W.keepIn K (.ref f0) = true)
    (a1 : PySem.W.nsIn K mainGlobals "best_of" = some (some (.ref f1))) (l1 : K.lookup f1 = some ⟨oc1, od1, .func (PySem.W.fnOf "best_of" "best_of" (defArgs s_best_of) (defBody s_best_of) (defScope s_best_of) .none kV1 dc1 pm1 an1 cd1 ct1), sl1⟩) (c1 : PySem.W.codeIn K cd1 "best_of" = true) (k1 : PySem.W.keepIn K (.ref f1) = true)
    (a2 : PySem.W.nsIn K mainGlobals "sums_ahead" = some (some (.ref f2))) (l2 : K.lookup f2 = some ⟨oc2, od2, .func (PySem.W.fnOf "sums_ahead" "sums_ahead" (defArgs s_sums_ahead) (defBody s_sums_ahead) (defScope s_sums_ahead) .none kV2 dc2 pm2 an2 cd2 ct2), sl2⟩) (c2 : PySem.W.codeIn K cd2 "sums_ahead" = true) (k2 : PySem.W.keepIn K (.ref f2) = true)
    (a3 : PySem.W.nsIn K mainGlobals "longest_of" = some (some (.ref f3))) (l3 : K.lookup f3 = some ⟨oc3, od3, .func (PySem.W.fnOf "longest_of" "longest_of" (defArgs s_longest_of) (defBody s_longest_of) (defScope s_longest_of) .none kV3 dc3 pm3 an3 cd3 ct3), sl3⟩) (c3 : PySem.W.codeIn K cd3 "longest_of" = true) (k3 : PySem.W.keepIn K (.ref f3) = true)
    (a4 : PySem.W.nsIn K mainGlobals "enter_first" = some (some (.ref f4))) (l4 : K.lookup f4 = some ⟨oc4, od4, .func (PySem.W.fnOf "enter_first" "enter_first" (defArgs s_enter_first) (defBody s_enter_first) (defScope s_enter_first) .none kV4 dc4 pm4 an4 cd4 ct4), sl4⟩) (c4 : PySem.W.codeIn K cd4 "enter_first" = true) (k4 : PySem.W.keepIn K (.ref f4) = true)
    (a5 : PySem.W.nsIn K mainGlobals "best_sized" = some (some (.ref f5))) (l5 : K.lookup f5 = some ⟨oc5, od5, .func (PySem.W.fnOf "best_sized" "best_sized" (defArgs s_best_sized) (defBody s_best_sized) (defScope s_best_sized) .none kV5 dc5 pm5 an5 cd5 ct5), sl5⟩) (c5 : PySem.W.codeIn K cd5 "best_sized" = true) (k5 : PySem.W.keepIn K (.ref f5) = true)
    (a6 : PySem.W.nsIn K mainGlobals "unrolled" = some (some (.ref f6))) (l6 : K.lookup f6 = some ⟨oc6, od6, .func (PySem.W.fnOf "unrolled" "unrolled" (defArgs s_unrolled) (defBody s_unrolled) (defScope s_unrolled) .none kV6 dc6 pm6 an6 cd6 ct6), sl6⟩) (c6 : PySem.W.codeIn K cd6 "unrolled" = true) (k6 : PySem.W.keepIn K (.ref f6) = true)
    (a7 : PySem.W.nsIn K mainGlobals "best_ring_sized" = some (some (.ref f7))) (l7 : K.lookup f7 = some ⟨oc7, od7, .func (PySem.W.fnOf "best_ring_sized" "best_ring_sized" (defArgs s_best_ring_sized) (defBody s_best_ring_sized) (defScope s_best_ring_sized) .none kV7 dc7 pm7 an7 cd7 ct7), sl7⟩) (c7 : PySem.W.codeIn K cd7 "best_ring_sized" = true) (k7 : PySem.W.keepIn K (.ref f7) = true)
    (a8 : PySem.W.nsIn K mainGlobals "best_ring" = some (some (.ref f8))) (l8 : K.lookup f8 = some ⟨oc8, od8, .func (PySem.W.fnOf "best_ring" "best_ring" (defArgs s_best_ring) (defBody s_best_ring) (defScope s_best_ring) .none kV8 dc8 pm8 an8 cd8 ct8), sl8⟩) (c8 : PySem.W.codeIn K cd8 "best_ring" = true) (k8 : PySem.W.keepIn K (.ref f8) = true)
    (a9 : PySem.W.nsIn K mainGlobals "refuse_counts" = some (some (.ref f9))) (l9 : K.lookup f9 = some ⟨oc9, od9, .func (PySem.W.fnOf "refuse_counts" "refuse_counts" (defArgs s_refuse_counts) (defBody s_refuse_counts) (defScope s_refuse_counts) .none kV9 dc9 pm9 an9 cd9 ct9), sl9⟩) (c9 : PySem.W.codeIn K cd9 "refuse_counts" = true) (k9 : PySem.W.keepIn K (.ref f9) = true)
    (a10 : PySem.W.nsIn K mainGlobals "room_for" = some (some (.ref f10))) (l10 : K.lookup f10 = some ⟨oc10, od10, .func (PySem.W.fnOf "room_for" "room_for" (defArgs s_room_for) (defBody s_room_for) (defScope s_room_for) .none kV10 dc10 pm10 an10 cd10 ct10), sl10⟩) (c10 : PySem.W.codeIn K cd10 "room_for" = true) (k10 : PySem.W.keepIn K (.ref f10) = true)
    (a11 : PySem.W.nsIn K mainGlobals "greater_of" = some (some (.ref f11))) (l11 : K.lookup f11 = some ⟨oc11, od11, .func (PySem.W.fnOf "greater_of" "greater_of" (defArgs s_greater_of) (defBody s_greater_of) (defScope s_greater_of) .none kV11 dc11 pm11 an11 cd11 ct11), sl11⟩) (c11 : PySem.W.codeIn K cd11 "greater_of" = true) (k11 : PySem.W.keepIn K (.ref f11) = true)
    (a12 : PySem.W.nsIn K mainGlobals "begun_line" = some (some (.ref f12))) (l12 : K.lookup f12 = some ⟨oc12, od12, .func (PySem.W.fnOf "begun_line" "begun_line" (defArgs s_begun_line) (defBody s_begun_line) (defScope s_begun_line) .none kV12 dc12 pm12 an12 cd12 ct12), sl12⟩) (c12 : PySem.W.codeIn K cd12 "begun_line" = true) (k12 : PySem.W.keepIn K (.ref f12) = true)
    (a13 : PySem.W.nsIn K mainGlobals "best_line" = some (some (.ref f13))) (l13 : K.lookup f13 = some ⟨oc13, od13, .func (PySem.W.fnOf "best_line" "best_line" (defArgs s_best_line) (defBody s_best_line) (defScope s_best_line) .none kV13 dc13 pm13 an13 cd13 ct13), sl13⟩) (c13 : PySem.W.codeIn K cd13 "best_line" = true) (k13 : PySem.W.keepIn K (.ref f13) = true)
    (a14 : PySem.W.nsIn K mainGlobals "behind_line" = some (some (.ref f14))) (l14 : K.lookup f14 = some ⟨oc14, od14, .func (PySem.W.fnOf "behind_line" "behind_line" (defArgs s_behind_line) (defBody s_behind_line) (defScope s_behind_line) .none kV14 dc14 pm14 an14 cd14 ct14), sl14⟩) (c14 : PySem.W.codeIn K cd14 "behind_line" = true) (k14 : PySem.W.keepIn K (.ref f14) = true)
    (a15 : PySem.W.nsIn K mainGlobals "lines_of" = some (some (.ref f15))) (l15 : K.lookup f15 = some ⟨oc15, od15, .func (PySem.W.fnOf "lines_of" "lines_of" (defArgs s_lines_of) (defBody s_lines_of) (defScope s_lines_of) .none kV15 dc15 pm15 an15 cd15 ct15), sl15⟩) (c15 : PySem.W.codeIn K cd15 "lines_of" = true) (k15 : PySem.W.keepIn K (.ref f15) = true)
    (a16 : PySem.W.nsIn K mainGlobals "first_from" = some (some (.ref f16))) (l16 : K.lookup f16 = some ⟨oc16, od16, .func (PySem.W.fnOf "first_from" "first_from" (defArgs s_first_from) (defBody s_first_from) (defScope s_first_from) .none kV16 dc16 pm16 an16 cd16 ct16), sl16⟩) (c16 : PySem.W.codeIn K cd16 "first_from" = true) (k16 : PySem.W.keepIn K (.ref f16) = true)
    (a17 : PySem.W.nsIn K mainGlobals "beyond_from" = some (some (.ref f17))) (l17 : K.lookup f17 = some ⟨oc17, od17, .func (PySem.W.fnOf "beyond_from" "beyond_from" (defArgs s_beyond_from) (defBody s_beyond_from) (defScope s_beyond_from) .none kV17 dc17 pm17 an17 cd17 ct17), sl17⟩) (c17 : PySem.W.codeIn K cd17 "beyond_from" = true) (k17 : PySem.W.keepIn K (.ref f17) = true)
    (a18 : PySem.W.nsIn K mainGlobals "stretches_of" = some (some (.ref f18))) (l18 : K.lookup f18 = some ⟨oc18, od18, .func (PySem.W.fnOf "stretches_of" "stretches_of" (defArgs s_stretches_of) (defBody s_stretches_of) (defScope s_stretches_of) .none kV18 dc18 pm18 an18 cd18 ct18), sl18⟩) (c18 : PySem.W.codeIn K cd18 "stretches_of" = true) (k18 : PySem.W.keepIn K (.ref f18) = true)
    (a19 : PySem.W.nsIn K mainGlobals "best_apart" = some (some (.ref f19))) (l19 : K.lookup f19 = some ⟨oc19, od19, .func (PySem.W.fnOf "best_apart" "best_apart" (defArgs s_best_apart) (defBody s_best_apart) (defScope s_best_apart) .none kV19 dc19 pm19 an19 cd19 ct19), sl19⟩) (c19 : PySem.W.codeIn K cd19 "best_apart" = true) (k19 : PySem.W.keepIn K (.ref f19) = true)
    (a20 : PySem.W.nsIn K mainGlobals "paper_of" = some (some (.ref f20))) (l20 : K.lookup f20 = some ⟨oc20, od20, .func (PySem.W.fnOf "paper_of" "paper_of" (defArgs s_paper_of) (defBody s_paper_of) (defScope s_paper_of) .none kV20 dc20 pm20 an20 cd20 ct20), sl20⟩) (c20 : PySem.W.codeIn K cd20 "paper_of" = true) (k20 : PySem.W.keepIn K (.ref f20) = true)
    (a21 : PySem.W.nsIn K mainGlobals "are_whole" = some (some (.ref f21))) (l21 : K.lookup f21 = some ⟨oc21, od21, .func (PySem.W.fnOf "are_whole" "are_whole" (defArgs s_are_whole) (defBody s_are_whole) (defScope s_are_whole) .none kV21 dc21 pm21 an21 cd21 ct21), sl21⟩) (c21 : PySem.W.codeIn K cd21 "are_whole" = true) (k21 : PySem.W.keepIn K (.ref f21) = true)
    (a22 : PySem.W.nsIn K mainGlobals "paper_shows" = some (some (.ref f22))) (l22 : K.lookup f22 = some ⟨oc22, od22, .func (PySem.W.fnOf "paper_shows" "paper_shows" (defArgs s_paper_shows) (defBody s_paper_shows) (defScope s_paper_shows) .none kV22 dc22 pm22 an22 cd22 ct22), sl22⟩) (c22 : PySem.W.codeIn K cd22 "paper_shows" = true) (k22 : PySem.W.keepIn K (.ref f22) = true)
    (a23 : PySem.W.nsIn K mainGlobals "bound_of" = some (some (.ref f23))) (l23 : K.lookup f23 = some ⟨oc23, od23, .func (PySem.W.fnOf "bound_of" "bound_of" (defArgs s_bound_of) (defBody s_bound_of) (defScope s_bound_of) .none kV23 dc23 pm23 an23 cd23 ct23), sl23⟩) (c23 : PySem.W.codeIn K cd23 "bound_of" = true) (k23 : PySem.W.keepIn K (.ref f23) = true)
    (a24 : PySem.W.nsIn K mainGlobals "several_paper" = some (some (.ref f24))) (l24 : K.lookup f24 = some ⟨oc24, od24, .func (PySem.W.fnOf "several_paper" "several_paper" (defArgs s_several_paper) (defBody s_several_paper) (defScope s_several_paper) .none kV24 dc24 pm24 an24 cd24 ct24), sl24⟩) (c24 : PySem.W.codeIn K cd24 "several_paper" = true) (k24 : PySem.W.keepIn K (.ref f24) = true)
    (a25 : PySem.W.nsIn K mainGlobals "is_line_of_form" = some (some (.ref f25))) (l25 : K.lookup f25 = some ⟨oc25, od25, .func (PySem.W.fnOf "is_line_of_form" "is_line_of_form" (defArgs s_is_line_of_form) (defBody s_is_line_of_form) (defScope s_is_line_of_form) .none kV25 dc25 pm25 an25 cd25 ct25), sl25⟩) (c25 : PySem.W.codeIn K cd25 "is_line_of_form" = true) (k25 : PySem.W.keepIn K (.ref f25) = true)
    (a26 : PySem.W.nsIn K mainGlobals "is_of_form" = some (some (.ref f26))) (l26 : K.lookup f26 = some ⟨oc26, od26, .func (PySem.W.fnOf "is_of_form" "is_of_form" (defArgs s_is_of_form) (defBody s_is_of_form) (defScope s_is_of_form) .none kV26 dc26 pm26 an26 cd26 ct26), sl26⟩) (c26 : PySem.W.codeIn K cd26 "is_of_form" = true) (k26 : PySem.W.keepIn K (.ref f26) = true)
    (a27 : PySem.W.nsIn K mainGlobals "never_falls" = some (some (.ref f27))) (l27 : K.lookup f27 = some ⟨oc27, od27, .func (PySem.W.fnOf "never_falls" "never_falls" (defArgs s_never_falls) (defBody s_never_falls) (defScope s_never_falls) .none kV27 dc27 pm27 an27 cd27 ct27), sl27⟩) (c27 : PySem.W.codeIn K cd27 "never_falls" = true) (k27 : PySem.W.keepIn K (.ref f27) = true)
    (a28 : PySem.W.nsIn K mainGlobals "ahead_line" = some (some (.ref f28))) (l28 : K.lookup f28 = some ⟨oc28, od28, .func (PySem.W.fnOf "ahead_line" "ahead_line" (defArgs s_ahead_line) (defBody s_ahead_line) (defScope s_ahead_line) .none kV28 dc28 pm28 an28 cd28 ct28), sl28⟩) (c28 : PySem.W.codeIn K cd28 "ahead_line" = true) (k28 : PySem.W.keepIn K (.ref f28) = true)
    (a29 : PySem.W.nsIn K mainGlobals "line_shows" = some (some (.ref f29))) (l29 : K.lookup f29 = some ⟨oc29, od29, .func (PySem.W.fnOf "line_shows" "line_shows" (defArgs s_line_shows) (defBody s_line_shows) (defScope s_line_shows) .none kV29 dc29 pm29 an29 cd29 ct29), sl29⟩) (c29 : PySem.W.codeIn K cd29 "line_shows" = true) (k29 : PySem.W.keepIn K (.ref f29) = true)
    (a30 : PySem.W.nsIn K mainGlobals "several_shows" = some (some (.ref f30))) (l30 : K.lookup f30 = some ⟨oc30, od30, .func (PySem.W.fnOf "several_shows" "several_shows" (defArgs s_several_shows) (defBody s_several_shows) (defScope s_several_shows) .none kV30 dc30 pm30 an30 cd30 ct30), sl30⟩) (c30 : PySem.W.codeIn K cd30 "several_shows" = true) (k30 : PySem.W.keepIn K (.ref f30) = true)
    (a31 : PySem.W.nsIn K mainGlobals "ring_shows" = some (some (.ref f31))) (l31 : K.lookup f31 = some ⟨oc31, od31, .func (PySem.W.fnOf "ring_shows" "ring_shows" (defArgs s_ring_shows) (defBody s_ring_shows) (defScope s_ring_shows) .none kV31 dc31 pm31 an31 cd31 ct31), sl31⟩) (c31 : PySem.W.codeIn K cd31 "ring_shows" = true) (k31 : PySem.W.keepIn K (.ref f31) = true)
    (a32 : PySem.W.nsIn K mainGlobals "_law_reel" = some (some (.ref f32))) (l32 : K.lookup f32 = some ⟨oc32, od32, .func (PySem.W.fnOf "_law_reel" "_law_reel" (defArgs s_law_reel) (defBody s_law_reel) (defScope s_law_reel) .none kV32 dc32 pm32 an32 cd32 ct32), sl32⟩) (c32 : PySem.W.codeIn K cd32 "_law_reel" = true) (k32 : PySem.W.keepIn K (.ref f32) = true)
    (a33 : PySem.W.nsIn K mainGlobals "_law_take" = some (some (.ref f33))) (l33 : K.lookup f33 = some ⟨oc33, od33, .func (PySem.W.fnOf "_law_take" "_law_take" (defArgs s_law_take) (defBody s_law_take) (defScope s_law_take) .none kV33 dc33 pm33 an33 cd33 ct33), sl33⟩) (c33 : PySem.W.codeIn K cd33 "_law_take" = true) (k33 : PySem.W.keepIn K (.ref f33) = true)
    (a34 : PySem.W.nsIn K mainGlobals "_law_row" = some (some (.ref f34))) (l34 : K.lookup f34 = some ⟨oc34, od34, .func (PySem.W.fnOf "_law_row" "_law_row" (defArgs s_law_row) (defBody s_law_row) (defScope s_law_row) .none kV34 dc34 pm34 an34 cd34 ct34), sl34⟩) (c34 : PySem.W.codeIn K cd34 "_law_row" = true) (k34 : PySem.W.keepIn K (.ref f34) = true)
    (a35 : PySem.W.nsIn K mainGlobals "_law_counts" = some (some (.ref f35))) (l35 : K.lookup f35 = some ⟨oc35, od35, .func (PySem.W.fnOf "_law_counts" "_law_counts" (defArgs s_law_counts) (defBody s_law_counts) (defScope s_law_counts) .none kV35 dc35 pm35 an35 cd35 ct35), sl35⟩) (c35 : PySem.W.codeIn K cd35 "_law_counts" = true) (k35 : PySem.W.keepIn K (.ref f35) = true)
    (a36 : PySem.W.nsIn K mainGlobals "_law_less" = some (some (.ref f36))) (l36 : K.lookup f36 = some ⟨oc36, od36, .func (PySem.W.fnOf "_law_less" "_law_less" (defArgs s_law_less) (defBody s_law_less) (defScope s_law_less) .none kV36 dc36 pm36 an36 cd36 ct36), sl36⟩) (c36 : PySem.W.codeIn K cd36 "_law_less" = true) (k36 : PySem.W.keepIn K (.ref f36) = true)
    (a37 : PySem.W.nsIn K mainGlobals "_law_spots" = some (some (.ref f37))) (l37 : K.lookup f37 = some ⟨oc37, od37, .func (PySem.W.fnOf "_law_spots" "_law_spots" (defArgs s_law_spots) (defBody s_law_spots) (defScope s_law_spots) .none kV37 dc37 pm37 an37 cd37 ct37), sl37⟩) (c37 : PySem.W.codeIn K cd37 "_law_spots" = true) (k37 : PySem.W.keepIn K (.ref f37) = true)
    (a38 : PySem.W.nsIn K mainGlobals "_law_several_right" = some (some (.ref f38))) (l38 : K.lookup f38 = some ⟨oc38, od38, .func (PySem.W.fnOf "_law_several_right" "_law_several_right" (defArgs s_law_several_right) (defBody s_law_several_right) (defScope s_law_several_right) .none kV38 dc38 pm38 an38 cd38 ct38), sl38⟩) (c38 : PySem.W.codeIn K cd38 "_law_several_right" = true) (k38 : PySem.W.keepIn K (.ref f38) = true)
    (a39 : PySem.W.nsIn K mainGlobals "_law_ring_right" = some (some (.ref f39))) (l39 : K.lookup f39 = some ⟨oc39, od39, .func (PySem.W.fnOf "_law_ring_right" "_law_ring_right" (defArgs s_law_ring_right) (defBody s_law_ring_right) (defScope s_law_ring_right) .none kV39 dc39 pm39 an39 cd39 ct39), sl39⟩) (c39 : PySem.W.codeIn K cd39 "_law_ring_right" = true) (k39 : PySem.W.keepIn K (.ref f39) = true)
    (a40 : PySem.W.nsIn K mainGlobals "law" = some (some (.ref f40))) (l40 : K.lookup f40 = some ⟨oc40, od40, .func (PySem.W.fnOf "law" "law" (defArgs s_law) (defBody s_law) (defScope s_law) .none kV40 dc40 pm40 an40 cd40 ct40), sl40⟩) (c40 : PySem.W.codeIn K cd40 "law" = true) (k40 : PySem.W.keepIn K (.ref f40) = true)
    (z0 : PySem.W.nsIn K mainGlobals "len" = some none)
    (z1 : PySem.W.nsIn K mainGlobals "range" = some none)
    (z2 : PySem.W.nsIn K mainGlobals "isinstance" = some none)
    (z3 : PySem.W.nsIn K mainGlobals "int" = some none)
    (z4 : PySem.W.nsIn K mainGlobals "bool" = some none)
    (z5 : PySem.W.nsIn K mainGlobals "tuple" = some none)
    (z6 : PySem.W.nsIn K mainGlobals "list" = some none)
    (z7 : PySem.W.nsIn K mainGlobals "sum" = some none)
    (z8 : PySem.W.nsIn K mainGlobals "abs" = some none)
    (z9 : PySem.W.nsIn K mainGlobals "min" = some none)
    (z10 : PySem.W.nsIn K mainGlobals "max" = some none)
    (z11 : PySem.W.nsIn K mainGlobals "zip" = some none)
    (z12 : PySem.W.nsIn K mainGlobals "enumerate" = some none)
    (z13 : PySem.W.nsIn K mainGlobals "all" = some none)
    (z14 : PySem.W.nsIn K mainGlobals "str" = some none) :
    ∃ fd : FuncData, (∀ (s : Shared) (v : Value), BindsTo s fd ⟨[v], []⟩ [("script", v)]) ∧ ∀ base : Heap, K.In base → base.Ns mainGlobals mg → FnOk l.prog w K mg base CX0 49 fa fd ["script"] (sp_law K) := by
  have e := hfa.symm.trans (PySem.W.mg_of X G a40)
  cases e
  have Z : Blt mg := ⟨PySem.W.mg_none_of X G z0, PySem.W.mg_none_of X G z1, PySem.W.mg_none_of X G z2, PySem.W.mg_none_of X G z3, PySem.W.mg_none_of X G z4, PySem.W.mg_none_of X G z5, PySem.W.mg_none_of X G z6, PySem.W.mg_none_of X G z7, PySem.W.mg_none_of X G z8, PySem.W.mg_none_of X G z9, PySem.W.mg_none_of X G z10, PySem.W.mg_none_of X G z11, PySem.W.mg_none_of X G z12, PySem.W.mg_none_of X G z13, PySem.W.mg_none_of X G z14⟩
  have F0 := fun_mk (st := s_is_whole) l0 c0 k0
  have b0 := F0.binds (ps := ["thing"]) fun _ _ _ _ _ _ us hl => by obtain ⟨_, rfl⟩ := of1 hl; rfl
  have F1 := fun_mk (st := s_best_of) l1 c1 k1
  have b1 := F1.binds (ps := ["row"]) fun _ _ _ _ _ _ us hl => by obtain ⟨_, rfl⟩ := of1 hl; rfl
  have F2 := fun_mk (st := s_sums_ahead) l2 c2 k2
  have b2 := F2.binds (ps := ["row"]) fun _ _ _ _ _ _ us hl => by obtain ⟨_, rfl⟩ := of1 hl; rfl
  have F3 := fun_mk (st := s_longest_of) l3 c3 k3
  have b3 := F3.binds (ps := ["many", "least", "most"]) fun _ _ _ _ _ _ us hl => by obtain ⟨_, _, _, rfl⟩ := of3 hl; rfl
  have F4 := fun_mk (st := s_enter_first) l4 c4 k4
  have b4 := F4.binds (ps := ["firsts", "ahead", "first"]) fun _ _ _ _ _ _ us hl => by obtain ⟨_, _, _, rfl⟩ := of3 hl; rfl
  have F5 := fun_mk (st := s_best_sized) l5 c5 k5
  have b5 := F5.binds (ps := ["row", "least", "most"]) fun _ _ _ _ _ _ us hl => by obtain ⟨_, _, _, rfl⟩ := of3 hl; rfl
  have F6 := fun_mk (st := s_unrolled) l6 c6 k6
  have b6 := F6.binds (ps := ["ring"]) fun _ _ _ _ _ _ us hl => by obtain ⟨_, rfl⟩ := of1 hl; rfl
  have F7 := fun_mk (st := s_best_ring_sized) l7 c7 k7
  have b7 := F7.binds (ps := ["ring", "least", "most"]) fun _ _ _ _ _ _ us hl => by obtain ⟨_, _, _, rfl⟩ := of3 hl; rfl
  have F8 := fun_mk (st := s_best_ring) l8 c8 k8
  have b8 := F8.binds (ps := ["ring"]) fun _ _ _ _ _ _ us hl => by obtain ⟨_, rfl⟩ := of1 hl; rfl
  have F9 := fun_mk (st := s_refuse_counts) l9 c9 k9
  have b9 := F9.binds (ps := ["many", "least", "gap"]) fun _ _ _ _ _ _ us hl => by obtain ⟨_, _, _, rfl⟩ := of3 hl; rfl
  have F10 := fun_mk (st := s_room_for) l10 c10 k10
  have b10 := F10.binds (ps := ["numbers", "gap"]) fun _ _ _ _ _ _ us hl => by obtain ⟨_, _, rfl⟩ := of2 hl; rfl
  have F11 := fun_mk (st := s_greater_of) l11 c11 k11
  have b11 := F11.binds (ps := ["one", "other"]) fun _ _ _ _ _ _ us hl => by obtain ⟨_, _, rfl⟩ := of2 hl; rfl
  have F12 := fun_mk (st := s_begun_line) l12 c12 k12
  have b12 := F12.binds (ps := ["row", "behind"]) fun _ _ _ _ _ _ us hl => by obtain ⟨_, _, rfl⟩ := of2 hl; rfl
  have F13 := fun_mk (st := s_best_line) l13 c13 k13
  have b13 := F13.binds (ps := ["begun"]) fun _ _ _ _ _ _ us hl => by obtain ⟨_, rfl⟩ := of1 hl; rfl
  have F14 := fun_mk (st := s_behind_line) l14 c14 k14
  have b14 := F14.binds (ps := ["best", "gap"]) fun _ _ _ _ _ _ us hl => by obtain ⟨_, _, rfl⟩ := of2 hl; rfl
  have F15 := fun_mk (st := s_lines_of) l15 c15 k15
  have b15 := F15.binds (ps := ["row", "many", "gap"]) fun _ _ _ _ _ _ us hl => by obtain ⟨_, _, _, rfl⟩ := of3 hl; rfl
  have F16 := fun_mk (st := s_first_from) l16 c16 k16
  have b16 := F16.binds (ps := ["line", "start"]) fun _ _ _ _ _ _ us hl => by obtain ⟨_, _, rfl⟩ := of2 hl; rfl
  have F17 := fun_mk (st := s_beyond_from) l17 c17 k17
  have b17 := F17.binds (ps := ["row", "first", "total", "behind"]) fun _ _ _ _ _ _ us hl => by obtain ⟨_, _, _, _, rfl⟩ := of4 hl; rfl
  have F18 := fun_mk (st := s_stretches_of) l18 c18 k18
  have b18 := F18.binds (ps := ["row", "lines", "many", "gap"]) fun _ _ _ _ _ _ us hl => by obtain ⟨_, _, _, _, rfl⟩ := of4 hl; rfl
  have F19 := fun_mk (st := s_best_apart) l19 c19 k19
  have b19 := F19.binds (ps := ["row", "many", "gap"]) fun _ _ _ _ _ _ us hl => by obtain ⟨_, _, _, rfl⟩ := of3 hl; rfl
  have F20 := fun_mk (st := s_paper_of) l20 c20 k20
  have b20 := F20.binds (ps := ["row"]) fun _ _ _ _ _ _ us hl => by obtain ⟨_, rfl⟩ := of1 hl; rfl
  have F21 := fun_mk (st := s_are_whole) l21 c21 k21
  have b21 := F21.binds (ps := ["paper", "many"]) fun _ _ _ _ _ _ us hl => by obtain ⟨_, _, rfl⟩ := of2 hl; rfl
  have F22 := fun_mk (st := s_paper_shows) l22 c22 k22
  have b22 := F22.binds (ps := ["row", "paper"]) fun _ _ _ _ _ _ us hl => by obtain ⟨_, _, rfl⟩ := of2 hl; rfl
  have F23 := fun_mk (st := s_bound_of) l23 c23 k23
  have b23 := F23.binds (ps := ["paper"]) fun _ _ _ _ _ _ us hl => by obtain ⟨_, rfl⟩ := of1 hl; rfl
  have F24 := fun_mk (st := s_several_paper) l24 c24 k24
  have b24 := F24.binds (ps := ["row", "many", "gap"]) fun _ _ _ _ _ _ us hl => by obtain ⟨_, _, _, rfl⟩ := of3 hl; rfl
  have F25 := fun_mk (st := s_is_line_of_form) l25 c25 k25
  have b25 := F25.binds (ps := ["line", "numbers", "count", "gap"]) fun _ _ _ _ _ _ us hl => by obtain ⟨_, _, _, _, rfl⟩ := of4 hl; rfl
  have F26 := fun_mk (st := s_is_of_form) l26 c26 k26
  have b26 := F26.binds (ps := ["paper", "numbers", "many", "gap"]) fun _ _ _ _ _ _ us hl => by obtain ⟨_, _, _, _, rfl⟩ := of4 hl; rfl
  have F27 := fun_mk (st := s_never_falls) l27 c27 k27
  have b27 := F27.binds (ps := ["line"]) fun _ _ _ _ _ _ us hl => by obtain ⟨_, rfl⟩ := of1 hl; rfl
  have F28 := fun_mk (st := s_ahead_line) l28 c28 k28
  have b28 := F28.binds (ps := ["paper", "count", "gap"]) fun _ _ _ _ _ _ us hl => by obtain ⟨_, _, _, rfl⟩ := of3 hl; rfl
  have F29 := fun_mk (st := s_line_shows) l29 c29 k29
  have b29 := F29.binds (ps := ["line", "sums", "ahead"]) fun _ _ _ _ _ _ us hl => by obtain ⟨_, _, _, rfl⟩ := of3 hl; rfl
  have F30 := fun_mk (st := s_several_shows) l30 c30 k30
  have b30 := F30.binds (ps := ["row", "many", "gap", "paper"]) fun _ _ _ _ _ _ us hl => by obtain ⟨_, _, _, _, rfl⟩ := of4 hl; rfl
  have F31 := fun_mk (st := s_ring_shows) l31 c31 k31
  have b31 := F31.binds (ps := ["ring", "paper"]) fun _ _ _ _ _ _ us hl => by obtain ⟨_, _, rfl⟩ := of2 hl; rfl
  have F32 := fun_mk (st := s_law_reel) l32 c32 k32
  have b32 := F32.binds (ps := ["cell"]) fun _ _ _ _ _ _ us hl => by obtain ⟨_, rfl⟩ := of1 hl; rfl
  have F33 := fun_mk (st := s_law_take) l33 c33 k33
  have b33 := F33.binds (ps := ["reel", "many"]) fun _ _ _ _ _ _ us hl => by obtain ⟨_, _, rfl⟩ := of2 hl; rfl
  have F34 := fun_mk (st := s_law_row) l34 c34 k34
  have b34 := F34.binds (ps := ["reel", "most"]) fun _ _ _ _ _ _ us hl => by obtain ⟨_, _, rfl⟩ := of2 hl; rfl
  have F35 := fun_mk (st := s_law_counts) l35 c35 k35
  have b35 := F35.binds (ps := ["reel", "many"]) fun _ _ _ _ _ _ us hl => by obtain ⟨_, _, rfl⟩ := of2 hl; rfl
  have F36 := fun_mk (st := s_law_less) l36 c36 k36
  have b36 := F36.binds (ps := ["paper", "place"]) fun _ _ _ _ _ _ us hl => by obtain ⟨_, _, rfl⟩ := of2 hl; rfl
  have F37 := fun_mk (st := s_law_spots) l37 c37 k37
  have b37 := F37.binds (ps := ["paper"]) fun _ _ _ _ _ _ us hl => by obtain ⟨_, rfl⟩ := of1 hl; rfl
  have F38 := fun_mk (st := s_law_several_right) l38 c38 k38
  have b38 := F38.binds (ps := ["reel", "row", "many", "gap"]) fun _ _ _ _ _ _ us hl => by obtain ⟨_, _, _, _, rfl⟩ := of4 hl; rfl
  have F39 := fun_mk (st := s_law_ring_right) l39 c39 k39
  have b39 := F39.binds (ps := ["reel", "ring"]) fun _ _ _ _ _ _ us hl => by obtain ⟨_, _, rfl⟩ := of2 hl; rfl
  have F40 := fun_mk (st := s_law) l40 c40 k40
  have b40 := F40.binds (ps := ["script"]) fun _ _ _ _ _ _ us hl => by obtain ⟨_, rfl⟩ := of1 hl; rfl
  refine ⟨PySem.W.fnOf "law" "law" (defArgs s_law) (defBody s_law) (defScope s_law) .none kV40 dc40 pm40 an40 cd40 ct40, fun s v => .of_eq rfl, fun base KB _ => ?_⟩
  have D_is_whole : Def l.prog w K mg base 6 "is_whole" ["thing"] (sp_whole) := ⟨_, _, ok_whole (k := 5) F0 Z, b0, k0, PySem.W.mg_of X G a0⟩
  have D_best_of : Def l.prog w K mg base 7 "best_of" ["row"] (sp_bestof) := ⟨_, _, ok_bestof (k := 6) F1 Z, b1, k1, PySem.W.mg_of X G a1⟩
  have D_sums_ahead : Def l.prog w K mg base 8 "sums_ahead" ["row"] (sp_ahead) := ⟨_, _, ok_ahead (k := 7) F2 Z, b2, k2, PySem.W.mg_of X G a2⟩
  have D_longest_of : Def l.prog w K mg base 9 "longest_of" ["many", "least", "most"] (sp_longest) := ⟨_, _, ok_longest (k := 8) F3 Z, b3, k3, PySem.W.mg_of X G a3⟩
  have D_enter_first : Def l.prog w K mg base 10 "enter_first" ["firsts", "ahead", "first"] (sp_enter) := ⟨_, _, ok_enter (k := 9) F4 Z, b4, k4, PySem.W.mg_of X G a4⟩
  have D_best_sized : Def l.prog w K mg base 11 "best_sized" ["row", "least", "most"] (sp_sized) := ⟨_, _, ok_sized (k := 10) F5 Z (D_longest_of.mono (by decide)) (D_sums_ahead.mono (by decide)) (D_enter_first.mono (by decide)), b5, k5, PySem.W.mg_of X G a5⟩
  have D_unrolled : Def l.prog w K mg base 12 "unrolled" ["ring"] (sp_unr) := ⟨_, _, ok_unr (k := 11) F6 Z, b6, k6, PySem.W.mg_of X G a6⟩
  have D_best_ring_sized : Def l.prog w K mg base 13 "best_ring_sized" ["ring", "least", "most"] (sp_rsized) := ⟨_, _, ok_rsized (k := 12) F7 Z (D_longest_of.mono (by decide)) (D_unrolled.mono (by decide)) (D_best_sized.mono (by decide)), b7, k7, PySem.W.mg_of X G a7⟩
  have D_best_ring : Def l.prog w K mg base 14 "best_ring" ["ring"] (sp_bring) := ⟨_, _, ok_bring (k := 13) F8 Z (D_best_ring_sized.mono (by decide)), b8, k8, PySem.W.mg_of X G a8⟩
  have D_refuse_counts : Def l.prog w K mg base 15 "refuse_counts" ["many", "least", "gap"] (sp_counts) := ⟨_, _, ok_counts (k := 14) F9 Z, b9, k9, PySem.W.mg_of X G a9⟩
  have D_room_for : Def l.prog w K mg base 16 "room_for" ["numbers", "gap"] (sp_room) := ⟨_, _, ok_room (k := 15) F10 Z, b10, k10, PySem.W.mg_of X G a10⟩
  have D_greater_of : Def l.prog w K mg base 17 "greater_of" ["one", "other"] (sp_great) := ⟨_, _, ok_great (k := 16) F11 Z, b11, k11, PySem.W.mg_of X G a11⟩
  have D_begun_line : Def l.prog w K mg base 18 "begun_line" ["row", "behind"] (sp_begun) := ⟨_, _, ok_begun (k := 17) F12 Z (D_greater_of.mono (by decide)), b12, k12, PySem.W.mg_of X G a12⟩
  have D_best_line : Def l.prog w K mg base 19 "best_line" ["begun"] (sp_bestl) := ⟨_, _, ok_bestl (k := 18) F13 Z (D_greater_of.mono (by decide)), b13, k13, PySem.W.mg_of X G a13⟩
  have D_behind_line : Def l.prog w K mg base 20 "behind_line" ["best", "gap"] (sp_behl) := ⟨_, _, ok_behl (k := 19) F14 Z, b14, k14, PySem.W.mg_of X G a14⟩
  have D_lines_of : Def l.prog w K mg base 21 "lines_of" ["row", "many", "gap"] (sp_lines) := ⟨_, _, ok_lines (k := 20) F15 Z (D_begun_line.mono (by decide)) (D_best_line.mono (by decide)) (D_behind_line.mono (by decide)), b15, k15, PySem.W.mg_of X G a15⟩
  have D_first_from : Def l.prog w K mg base 22 "first_from" ["line", "start"] (sp_first) := ⟨_, _, ok_first (k := 21) F16 Z, b16, k16, PySem.W.mg_of X G a16⟩
  have D_beyond_from : Def l.prog w K mg base 23 "beyond_from" ["row", "first", "total", "behind"] (sp_beyond) := ⟨_, _, ok_beyond (k := 22) F17 Z, b17, k17, PySem.W.mg_of X G a17⟩
  have D_stretches_of : Def l.prog w K mg base 24 "stretches_of" ["row", "lines", "many", "gap"] (sp_strs) := ⟨_, _, ok_strs (k := 23) F18 Z (D_first_from.mono (by decide)) (D_beyond_from.mono (by decide)), b18, k18, PySem.W.mg_of X G a18⟩
  have D_best_apart : Def l.prog w K mg base 25 "best_apart" ["row", "many", "gap"] (sp_apart) := ⟨_, _, ok_apart (k := 24) F19 Z (D_refuse_counts.mono (by decide)) (D_room_for.mono (by decide)) (D_lines_of.mono (by decide)) (D_stretches_of.mono (by decide)), b19, k19, PySem.W.mg_of X G a19⟩
  have D_paper_of : Def l.prog w K mg base 26 "paper_of" ["row"] (sp_paper) := ⟨_, _, ok_paper (k := 25) F20 Z, b20, k20, PySem.W.mg_of X G a20⟩
  have D_are_whole : Def l.prog w K mg base 27 "are_whole" ["paper", "many"] (sp_arew) := ⟨_, _, ok_arew (k := 26) F21 Z (D_is_whole.mono (by decide)), b21, k21, PySem.W.mg_of X G a21⟩
  have D_paper_shows : Def l.prog w K mg base 28 "paper_shows" ["row", "paper"] (sp_shows) := ⟨_, _, ok_shows (k := 27) F22 Z (D_are_whole.mono (by decide)), b22, k22, PySem.W.mg_of X G a22⟩
  have D_bound_of : Def l.prog w K mg base 29 "bound_of" ["paper"] (sp_bound) := ⟨_, _, ok_bound (k := 28) F23 Z, b23, k23, PySem.W.mg_of X G a23⟩
  have D_several_paper : Def l.prog w K mg base 30 "several_paper" ["row", "many", "gap"] (sp_spaper) := ⟨_, _, ok_spaper (k := 29) F24 Z (D_refuse_counts.mono (by decide)) (D_lines_of.mono (by decide)), b24, k24, PySem.W.mg_of X G a24⟩
  have D_is_whole : Def l.prog w K mg base 31 "is_whole" ["thing"] (sp_wholeO) := ⟨_, _, ok_wholeO (k := 30) F0 Z, b0, k0, PySem.W.mg_of X G a0⟩
  have D_is_line_of_form : Def l.prog w K mg base 32 "is_line_of_form" ["line", "numbers", "count", "gap"] (sp_lform) := ⟨_, _, ok_lform (k := 31) F25 Z (D_room_for.mono (by decide)) (D_is_whole.mono (by decide)), b25, k25, PySem.W.mg_of X G a25⟩
  have D_is_of_form : Def l.prog w K mg base 33 "is_of_form" ["paper", "numbers", "many", "gap"] (sp_pform) := ⟨_, _, ok_pform (k := 32) F26 Z (D_is_line_of_form.mono (by decide)), b26, k26, PySem.W.mg_of X G a26⟩
  have D_never_falls : Def l.prog w K mg base 34 "never_falls" ["line"] (sp_nofall) := ⟨_, _, ok_nofall (k := 33) F27 Z, b27, k27, PySem.W.mg_of X G a27⟩
  have D_ahead_line : Def l.prog w K mg base 35 "ahead_line" ["paper", "count", "gap"] (sp_aheadl) := ⟨_, _, ok_aheadl (k := 34) F28 Z, b28, k28, PySem.W.mg_of X G a28⟩
  have D_line_shows : Def l.prog w K mg base 36 "line_shows" ["line", "sums", "ahead"] (sp_lshows) := ⟨_, _, ok_lshows (k := 35) F29 Z, b29, k29, PySem.W.mg_of X G a29⟩
  have D_several_shows : Def l.prog w K mg base 37 "several_shows" ["row", "many", "gap", "paper"] (sp_sshows) := ⟨_, _, ok_sshows (k := 36) F30 Z (D_refuse_counts.mono (by decide)) (D_is_of_form.mono (by decide)) (D_never_falls.mono (by decide)) (D_sums_ahead.mono (by decide)) (D_ahead_line.mono (by decide)) (D_line_shows.mono (by decide)), b30, k30, PySem.W.mg_of X G a30⟩
  have D_ring_shows : Def l.prog w K mg base 38 "ring_shows" ["ring", "paper"] (sp_rshows) := ⟨_, _, ok_rshows (k := 37) F31 Z (D_are_whole.mono (by decide)) (D_best_ring_sized.mono (by decide)), b31, k31, PySem.W.mg_of X G a31⟩
  have D_law_reel : Def l.prog w K mg base 39 "_law_reel" ["cell"] (sp_reel) := ⟨_, _, ok_reel (k := 38) F32 Z, b32, k32, PySem.W.mg_of X G a32⟩
  have D_law_take : Def l.prog w K mg base 40 "_law_take" ["reel", "many"] (sp_take) := ⟨_, _, ok_take (k := 39) F33 Z, b33, k33, PySem.W.mg_of X G a33⟩
  have D_law_row : Def l.prog w K mg base 41 "_law_row" ["reel", "most"] (sp_rrow) := ⟨_, _, ok_rrow (k := 40) F34 Z (D_law_take.mono (by decide)), b34, k34, PySem.W.mg_of X G a34⟩
  have D_law_counts : Def l.prog w K mg base 42 "_law_counts" ["reel", "many"] (sp_cnts) := ⟨_, _, ok_cnts (k := 41) F35 Z (D_law_take.mono (by decide)), b35, k35, PySem.W.mg_of X G a35⟩
  have D_law_less : Def l.prog w K mg base 43 "_law_less" ["paper", "place"] (sp_lessV) := ⟨_, _, ok_lessV (k := 42) F36 Z, b36, k36, PySem.W.mg_of X G a36⟩
  have D_law_spots : Def l.prog w K mg base 44 "_law_spots" ["paper"] (sp_spots) := ⟨_, _, ok_spots (k := 43) F37 Z, b37, k37, PySem.W.mg_of X G a37⟩
  have D_law_several_right : Def l.prog w K mg base 45 "_law_several_right" ["reel", "row", "many", "gap"] (sp_sev24) := ⟨_, _, ok_sev24 (k := 44) F38 Z (D_law_take.mono (by decide)) (D_several_paper.mono (by decide)) (D_several_shows.mono (by decide)) (D_law_spots.mono (by decide)) (D_law_less.mono (by decide)) (D_best_apart.mono (by decide)), b38, k38, PySem.W.mg_of X G a38⟩
  have D_law_ring_right : Def l.prog w K mg base 46 "_law_ring_right" ["reel", "ring"] (sp_ring24) := ⟨_, _, ok_ring24 (k := 45) F39 Z (D_law_take.mono (by decide)) (D_best_ring_sized.mono (by decide)) (D_best_ring.mono (by decide)) (D_ring_shows.mono (by decide)) (D_bound_of.mono (by decide)) (D_law_less.mono (by decide)), b39, k39, PySem.W.mg_of X G a39⟩
  exact FnOk.mono (k := 49) (ok_law (k := 46) F40 Z (D_law_reel.mono (by decide)) (D_law_take.mono (by decide)) (D_law_row.mono (by decide)) (D_law_counts.mono (by decide)) (D_paper_of.mono (by decide)) (D_bound_of.mono (by decide)) (D_best_of.mono (by decide)) (D_paper_shows.mono (by decide)) (D_law_less.mono (by decide)) (D_law_several_right.mono (by decide)) (D_law_ring_right.mono (by decide))) (by decide)
theorem walk {l : PySem.W.OpenLaw} {q : Program} {loose : List Str} {XP : (Str → Option Value) → Heap → Prop} {YP : World → Heap → Prop} {d : DefRec} {K : Params → PySem.W.Frag} (hn : l.most = some 63) (hdf : d.params.defaults = [])
    (hY : ∀ (w : World) (h : Heap), YP w h → (K w.params).In h)
    (F : ∀ (w : World) (mg : Str → Option Value) (fa : Addr) (h : Heap), (K w.params).In h → h.Ns mainGlobals mg → mg d.name = some (.ref fa) →
      ∃ fd : FuncData, (∀ (s : Shared) (u : Value), BindsTo s fd ⟨[u], []⟩ [("script", u)]) ∧ ∀ base : Heap, (K w.params).In base → base.Ns mainGlobals mg → FnOk l.prog w (K w.params) mg base CX0 49 fa fd ["script"] (sp_law (K w.params))) :
    PySem.W.WalkO q loose XP YP l.row.toRowW d [] (fun f vs => PySem.call f vs) :=
  L2.walk_of (n := 63) (k := 49) (x := "script") (CX := fun _ => CX0) (sp := fun w => sp_law (K w.params)) hn (by decide) hdf ⟨rfl, by decide, by decide⟩ hY F (fun _ _ a ns hl _ hS => ⟨a, ns, rfl, hS, hl, fun _ => rfl⟩) fun _ _ _ _ _ z => z
end My
open PySem PySem.W PyProof.Rows
noncomputable abbrev My.pw : Program := PySem.Challenge.pw_topstretch_k24_whole_bounds_are_best
noncomputable def My.vw : Program := PySem.W.view PySem.Challenge.pw_topstretch_k24_whole_bounds_are_best [1, 2, 3, 5, 6, 7, 9, 10, 11, 13, 14, 15, 17, 18, 19, 20, 21, 22, 23, 24, 25, 26, 27, 29, 30, 31, 32, 33, 34, 35, 36, 37, 38, 39, 40, 42, 43, 44, 45, 46, 47, 48, 49, 50, 51]
noncomputable def My.look (P : Params) (s : Shared) := ((staticsOk (importedModules My.pw.main.body) (boot_heap P) s.heap && namesBound My.pw s.heap && gensDone s && laidKept (boot_heap P) s.heap), openSeen My.vw ([] : List Str) (importedModules My.pw.main.body) (fun s => xlAt My.vw [] s && recOk (RowW.records (OpenRow.toRowW (OpenLaw.row PySem.Challenge.rw_topstretch_k24_whole_bounds_are_best))) s) true s)
noncomputable def My.good := (true, openGood My.vw ([] : List Str))
lay_quick L2.topRunT PySem.Challenge.pw_topstretch_k24_whole_bounds_are_best
theorem My.left {α : Type} {Yf : Shared → α} {Ya : World → α} (run : ∀ (w : World) (os : OsState), (PySem.W.Fast.tw4652649595001227023 PySem.W.Fast.tw14364793385576792824 PySem.W.Fast.tw1827138224608602426 w 11 (some (.ref 6)) 4086 ⟨L2.bootT w.params, 11, (boot_heap w.params).life, #[], boot_drawn, boot_toks, os⟩ (topStub PySem.W.Fast.tw1827138224608602426)).map (fun s => (My.look w.params s.abs, Yf s.abs)) = some (My.good, Ya w)) :
    LeftO My.pw My.vw ([] : List Str) (fun s => xlAt My.vw [] s && recOk (RowW.records (OpenRow.toRowW (OpenLaw.row PySem.Challenge.rw_topstretch_k24_whole_bounds_are_best))) s) Yf Ya 4086 := L2.LeftO.of_tree2 (by kernel_rfl) (by kernel_rfl) (fun s => by kernel_rfl) (fun w os => by
  have e : (L2.topRunT treeTable My.pw w 11 (some (.ref 6)) 4086 ⟨L2.bootT w.params, 11, (boot_heap w.params).life, #[], boot_drawn, boot_toks, os⟩ (topStub My.pw)) = (PySem.W.Fast.tw4652649595001227023 PySem.W.Fast.tw14364793385576792824 PySem.W.Fast.tw1827138224608602426 w 11 (some (.ref 6)) 4086 ⟨L2.bootT w.params, 11, (boot_heap w.params).life, #[], boot_drawn, boot_toks, os⟩ (topStub PySem.W.Fast.tw1827138224608602426)) := by rw [PySem.W.Fast.te4652649595001227023, PySem.W.Fast.te14364793385576792824, show My.pw = PySem.W.Fast.tw1827138224608602426 from PySem.W.Fast.te1827138224608602426]
  show (L2.topRunT treeTable My.pw w 11 (some (.ref 6)) 4086 ⟨L2.bootT w.params, 11, (boot_heap w.params).life, #[], boot_drawn, boot_toks, os⟩ (topStub My.pw)).map (fun s => (My.look w.params s.abs, Yf s.abs)) = some (My.good, Ya w)
  rw [e]
  exact run w os)
local macro_rules | `(tactic| o_head $H) => `(tactic| refine PySem.W.holds_open (q := My.vw) (loose := ([] : List Str)) (Xt := (fun s => xlAt My.vw [] s && recOk (RowW.records (OpenRow.toRowW (OpenLaw.row PySem.Challenge.rw_topstretch_k24_whole_bounds_are_best))) s)) (XP := XL My.vw []) (Yf := Hook.obs $H) (Ya := Hook.val $H) (YP := Hook.says $H) (N := 4086) ?hl (Hook.of $H) (Hook.keeps $H) (fun s e => xl_of s (Bool.and_eq_true_iff.mp e).1) XL.keeps (by rfl) (by rfl) (by rfl) (fun s e => recFacts_of (Bool.and_eq_true_iff.mp e).2) (by rfl) (by first | assumption | decide +kernel) (by decide +kernel) ⟨rfl, rfl, rfl, rfl, rfl, by decide +kernel⟩ ?hw ?hc)
theorem My.kk (z : False) : PySem.Challenge.rw_topstretch_k24_whole_bounds_are_best.Holds := by
  w_on; o_law; k_head <;> exact z.elim
noncomputable def My.ads : List Nat := [2, 3, 15, 22, 23, 24, 25, 28, 35, 36, 37, 40, 47, 48, 49, 52, 54, 55, 57, 58, 59, 61, 62, 64, 65, 66, 68, 69, 71, 72, 73, 75, 76, 78, 79, 80, 82, 83, 85, 86, 87, 89, 90, 92, 93, 94, 96, 97, 99, 100, 101, 103, 104, 106, 107, 108, 110, 111, 113, 114, 115, 117, 118, 120, 121, 122, 124, 125, 127, 128, 129, 131, 132, 134, 135, 136, 138, 139, 141, 142, 143, 145, 146, 148, 149, 150, 152, 153, 155, 156, 157, 159, 160, 162, 163, 164, 166, 167, 169, 170, 171, 173, 174, 176, 177, 178, 180, 181, 183, 184, 185, 187, 188, 190, 191, 192, 194, 195, 197, 198, 199, 202, 203, 204, 206, 207, 209, 210, 211, 213, 214, 216, 217, 218, 221, 222, 223, 225, 226, 228, 229, 230, 232, 233, 235, 236, 237, 239, 240, 242, 243, 244, 247, 248, 249, 251, 252, 254, 255, 256, 258, 259, 261, 262, 263, 265, 266, 268, 269, 277, 279, 280, 282, 283, 284, 286, 287, 289, 290, 291, 293, 294, 296, 297, 298, 300, 301, 303, 304, 305, 307, 308, 310, 311, 312, 315, 316, 317, 320, 321, 322, 325, 326, 327, 329, 330, 332, 333]
theorem My.ran (w : World) (os : OsState) : (PySem.W.Fast.tw4652649595001227023 PySem.W.Fast.tw14364793385576792824 PySem.W.Fast.tw1827138224608602426 w 11 (some (.ref 6)) 4086 ⟨L2.bootT w.params, 11, (boot_heap w.params).life, #[], boot_drawn, boot_toks, os⟩ (topStub PySem.W.Fast.tw1827138224608602426)).map (fun s => (My.look w.params s.abs, (My.ads).map s.abs.heap.get?)) = some (My.good, (My.kk.heap_39 w.params).map fun p => some p.2) := by kernel_rfl
set_option maxRecDepth 100000 in
set_option maxHeartbeats 0 in
theorem PySem.Challenge.cw_topstretch_k24_whole_bounds_are_best_holds : PySem.Challenge.rw_topstretch_k24_whole_bounds_are_best.Holds := by
  w_on; o_law; o_head (kHook My.kk.heap_39 My.ads (fun _ => by kernel_rfl))
  case hw => w_witness2
  case hl => exact My.left My.ran
  k_fill
  refine My.walk (l := PySem.Challenge.rw_topstretch_k24_whole_bounds_are_best) rfl rfl (fun w h Y => PySem.W.kIn_of Y) ?F
  case F =>
    intro w mg fa h KX G hmg
    refine' My.all_mk KX G hmg ?a0 ?l0 ?c0 ?k0 ?a1 ?l1 ?c1 ?k1 ?a2 ?l2 ?c2 ?k2 ?a3 ?l3 ?c3 ?k3 ?a4 ?l4 ?c4 ?k4 ?a5 ?l5 ?c5 ?k5 ?a6 ?l6 ?c6 ?k6 ?a7 ?l7 ?c7 ?k7 ?a8 ?l8 ?c8 ?k8 ?a9 ?l9 ?c9 ?k9 ?a10 ?l10 ?c10 ?k10 ?a11 ?l11 ?c11 ?k11 ?a12 ?l12 ?c12 ?k12 ?a13 ?l13 ?c13 ?k13 ?a14 ?l14 ?c14 ?k14 ?a15 ?l15 ?c15 ?k15 ?a16 ?l16 ?c16 ?k16 ?a17 ?l17 ?c17 ?k17 ?a18 ?l18 ?c18 ?k18 ?a19 ?l19 ?c19 ?k19 ?a20 ?l20 ?c20 ?k20 ?a21 ?l21 ?c21 ?k21 ?a22 ?l22 ?c22 ?k22 ?a23 ?l23 ?c23 ?k23 ?a24 ?l24 ?c24 ?k24 ?a25 ?l25 ?c25 ?k25 ?a26 ?l26 ?c26 ?k26 ?a27 ?l27 ?c27 ?k27 ?a28 ?l28 ?c28 ?k28 ?a29 ?l29 ?c29 ?k29 ?a30 ?l30 ?c30 ?k30 ?a31 ?l31 ?c31 ?k31 ?a32 ?l32 ?c32 ?k32 ?a33 ?l33 ?c33 ?k33 ?a34 ?l34 ?c34 ?k34 ?a35 ?l35 ?c35 ?k35 ?a36 ?l36 ?c36 ?k36 ?a37 ?l37 ?c37 ?k37 ?a38 ?l38 ?c38 ?k38 ?a39 ?l39 ?c39 ?k39 ?a40 ?l40 ?c40 ?k40 ?z0 ?z1 ?z2 ?z3 ?z4 ?z5 ?z6 ?z7 ?z8 ?z9 ?z10 ?z11 ?z12 ?z13 ?z14 
    (case a0 => k_is); (case l0 => k_is); (case c0 => k_is); (case k0 => k_is)
    (case a1 => k_is); (case l1 => k_is); (case c1 => k_is); (case k1 => k_is)
    (case a2 => k_is); (case l2 => k_is); (case c2 => k_is); (case k2 => k_is)
    (case a3 => k_is); (case l3 => k_is); (case c3 => k_is); (case k3 => k_is)
    (case a4 => k_is); (case l4 => k_is); (case c4 => k_is); (case k4 => k_is)
    (case a5 => k_is); (case l5 => k_is); (case c5 => k_is); (case k5 => k_is)
    (case a6 => k_is); (case l6 => k_is); (case c6 => k_is); (case k6 => k_is)
    (case a7 => k_is); (case l7 => k_is); (case c7 => k_is); (case k7 => k_is)
    (case a8 => k_is); (case l8 => k_is); (case c8 => k_is); (case k8 => k_is)
    (case a9 => k_is); (case l9 => k_is); (case c9 => k_is); (case k9 => k_is)
    (case a10 => k_is); (case l10 => k_is); (case c10 => k_is); (case k10 => k_is)
    (case a11 => k_is); (case l11 => k_is); (case c11 => k_is); (case k11 => k_is)
    (case a12 => k_is); (case l12 => k_is); (case c12 => k_is); (case k12 => k_is)
    (case a13 => k_is); (case l13 => k_is); (case c13 => k_is); (case k13 => k_is)
    (case a14 => k_is); (case l14 => k_is); (case c14 => k_is); (case k14 => k_is)
    (case a15 => k_is); (case l15 => k_is); (case c15 => k_is); (case k15 => k_is)
    (case a16 => k_is); (case l16 => k_is); (case c16 => k_is); (case k16 => k_is)
    (case a17 => k_is); (case l17 => k_is); (case c17 => k_is); (case k17 => k_is)
    (case a18 => k_is); (case l18 => k_is); (case c18 => k_is); (case k18 => k_is)
    (case a19 => k_is); (case l19 => k_is); (case c19 => k_is); (case k19 => k_is)
    (case a20 => k_is); (case l20 => k_is); (case c20 => k_is); (case k20 => k_is)
    (case a21 => k_is); (case l21 => k_is); (case c21 => k_is); (case k21 => k_is)
    (case a22 => k_is); (case l22 => k_is); (case c22 => k_is); (case k22 => k_is)
    (case a23 => k_is); (case l23 => k_is); (case c23 => k_is); (case k23 => k_is)
    (case a24 => k_is); (case l24 => k_is); (case c24 => k_is); (case k24 => k_is)
    (case a25 => k_is); (case l25 => k_is); (case c25 => k_is); (case k25 => k_is)
    (case a26 => k_is); (case l26 => k_is); (case c26 => k_is); (case k26 => k_is)
    (case a27 => k_is); (case l27 => k_is); (case c27 => k_is); (case k27 => k_is)
    (case a28 => k_is); (case l28 => k_is); (case c28 => k_is); (case k28 => k_is)
    (case a29 => k_is); (case l29 => k_is); (case c29 => k_is); (case k29 => k_is)
    (case a30 => k_is); (case l30 => k_is); (case c30 => k_is); (case k30 => k_is)
    (case a31 => k_is); (case l31 => k_is); (case c31 => k_is); (case k31 => k_is)
    (case a32 => k_is); (case l32 => k_is); (case c32 => k_is); (case k32 => k_is)
    (case a33 => k_is); (case l33 => k_is); (case c33 => k_is); (case k33 => k_is)
    (case a34 => k_is); (case l34 => k_is); (case c34 => k_is); (case k34 => k_is)
    (case a35 => k_is); (case l35 => k_is); (case c35 => k_is); (case k35 => k_is)
    (case a36 => k_is); (case l36 => k_is); (case c36 => k_is); (case k36 => k_is)
    (case a37 => k_is); (case l37 => k_is); (case c37 => k_is); (case k37 => k_is)
    (case a38 => k_is); (case l38 => k_is); (case c38 => k_is); (case k38 => k_is)
    (case a39 => k_is); (case l39 => k_is); (case c39 => k_is); (case k39 => k_is)
    (case a40 => k_is); (case l40 => k_is); (case c40 => k_is); (case k40 => k_is)
    (case z0 => k_is)
    (case z1 => k_is)
    (case z2 => k_is)
    (case z3 => k_is)
    (case z4 => k_is)
    (case z5 => k_is)
    (case z6 => k_is)
    (case z7 => k_is)
    (case z8 => k_is)
    (case z9 => k_is)
    (case z10 => k_is)
    (case z11 => k_is)
    (case z12 => k_is)
    (case z13 => k_is)
    (case z14 => k_is)
