import PyProof.Rows.All
import Wide.All
import OpenK.AllK
import Wide.FinOn
import Lean
import PyProof.EqAt
import PyProof.EqKinds
import PyProof.TupleCall
import PySem.Challenge.RW_topstretch_k42_whole_rows_in_any_order
set_option Elab.async false
set_option linter.all false
set_option maxRecDepth 100000
set_option maxHeartbeats 4000000
local macro_rules | `(tactic| omega)=>`(tactic| first | lia | omega +splitDisjunctions)
local macro_rules | `(tactic| walk_at "lr")=>`(tactic| first | exact Or.inl rfl | exact Or.inr rfl)
namespace L2
open PySem PySem.Spec PyProof.Rows
noncomputable abbrev Key:=Sum Int Str
noncomputable def q7f:Key→Value→Bool
 | .inl k,v=>Value.isInt k v
 | .inr x,v=>Value.isStrOf x v
noncomputable def keyH (w:World):Key→Int
 | .inl k=>hashInt k
 | .inr x=>hashStr w x
theorem q00:∀ {k:Key} {v:Value},q7f k v=true→(∃ i t,k=Sum.inl i∧v=Value.int i t)∨(∃ x t,k=Sum.inr x∧v=Value.str x t)
 | .inl i,v,h=>by
  obtain ⟨t,e⟩:=Value.isInt_shape (k:=i) (v:=v) h
  exact .inl ⟨i,t,rfl,e⟩
 | .inr x,v,h=>by
  obtain ⟨t,e⟩:=Value.isStrOf_shape (x:=x) (v:=v) h
  exact .inr ⟨x,t,rfl,e⟩
theorem keyIs_int (i:Int) (t:Tok):q7f (.inl i) (.int i t)=true:=by simp [q7f,Value.isInt]
theorem keyIs_str (x:Str) (t:Tok):q7f (.inr x) (.str x t)=true:=by simp [q7f,Value.isStrOf]
theorem key_ll (a b:Int):decide ((Sum.inl a:Key)=Sum.inl b)=(a == b):=by
 by_cases e:a=b
 ·subst e;simp
 ·have h:¬ (Sum.inl a:Key)=Sum.inl b:=fun q=>e (Sum.inl.inj q)
  rw [decide_eq_false h]
  exact (beq_eq_false_iff_ne.mpr e).symm
theorem key_rr (a b:Str):decide ((Sum.inr a:Key)=Sum.inr b)=decide (a=b):=by
 by_cases e:a=b
 ·subst e;simp
 ·have h:¬ (Sum.inr a:Key)=Sum.inr b:=fun q=>e (Sum.inr.inj q)
  rw [decide_eq_false h,decide_eq_false e]
theorem key_lr (a:Int) (b:Str):decide ((Sum.inl a:Key)=Sum.inr b)=false:=decide_eq_false (fun q=>nomatch q)
theorem key_rl (a:Str) (b:Int):decide ((Sum.inr a:Key)=Sum.inl b)=false:=decide_eq_false (fun q=>nomatch q)
noncomputable def q0D (prog:Program) (w:World):PySem.KeyKind prog w Key where
 is:=q7f
 hash:=keyH w
 inj:=fun v a b ha hb=>by
  rcases q00 ha with ⟨i,t,rfl,rfl⟩ | ⟨x,t,rfl,rfl⟩
  ·rcases q00 hb with ⟨j,u,rfl,e⟩ | ⟨y,u,rfl,e⟩
   ·injection e with e1 _;rw [e1]
   ·exact nomatch e
  ·rcases q00 hb with ⟨j,u,rfl,e⟩ | ⟨y,u,rfl,e⟩
   ·exact nomatch e
   ·injection e with e1 _;rw [e1]
 byValue:=fun k v h=>by
  rcases q00 h with ⟨i,t,rfl,rfl⟩ | ⟨x,t,rfl,rfl⟩ <;> rfl
 pyHash:=fun hv h=>by
  rcases q00 hv with ⟨i,t,rfl,rfl⟩ | ⟨x,t,rfl,rfl⟩
  ·exact wpAny_pyHash_int h
  ·exact wpAny_pyHash_str h
 eqBool:=fun hu hv h=>by
  rcases q00 hu with ⟨i,t,rfl,rfl⟩ | ⟨x,t,rfl,rfl⟩
  ·rcases q00 hv with ⟨j,u,rfl,rfl⟩ | ⟨y,u,rfl,rfl⟩
   ·rw [key_ll] at h;exact wpAny_eqBool_int h
   ·rw [key_lr] at h;exact SeqAt.EqAt.int_str i t y u _ _ _ _ h
  ·rcases q00 hv with ⟨j,u,rfl,rfl⟩ | ⟨y,u,rfl,rfl⟩
   ·rw [key_rl] at h;exact SeqAt.EqAt.str_int x t j u _ _ _ _ h
   ·rw [key_rr] at h;exact wpAny_eqBool_str h
 «strs»:=fun k x t v h=>by
  rcases q00 h with ⟨i,u,rfl,e⟩ | ⟨y,u,rfl,e⟩
  ·exact nomatch e
  ·injection e with e1 _
   subst e1
   cases v <;> rfl
theorem q6Z (prog:Program) (w:World) (i:Int) (t:Tok):(q0D prog w).is (.inl i) (.int i t)=true:=keyIs_int i t
theorem q6Y (prog:Program) (w:World) (x:Str) (t:Tok):(q0D prog w).is (.inr x) (.str x t)=true:=keyIs_str x t
end L2
namespace L2
open PySem PySem.Spec PyProof.Rows
inductive V where
 | non | bl (b:Bool) | int (i:Int) | str (x:Str) | byt (b:Array UInt8) | flt (b:UInt64) | ref (a:Addr) | ty (n:String)
 deriving DecidableEq
noncomputable def RelV:V→Value→Prop
 | .non,u=>u=Value.none
 | .bl b,u=>u=Value.bool b
 | .int i,u=>∃ t,u=Value.int i t
 | .str x,u=>∃ t,u=Value.str x t
 | .byt b,u=>∃ t,u=Value.bytes b t
 | .flt b,u=>∃ t,u=Value.float b t
 | .ref a,u=>u=Value.ref a
 | .ty n,u=>u=Value.type n
noncomputable abbrev Vals:List V→List Value→Prop:=Paired RelV
theorem Vals.length {xs:List V} {us:List Value} (r:Vals xs us):xs.length=us.length:=Paired.length r
theorem Vals.get:∀ {xs:List V} {us:List Value} {i:Nat} {x:V},Vals xs us→xs[i]?=some x→∃ u,us[i]?=some u∧RelV x u
 | _,_,_,_,.nil,e=>by simp at e
 | _,_,0,_,.cons r _,e=>by simp at e;subst e;exact ⟨_,rfl,r⟩
 | _,_,i+1,x,.cons _ t,e=>by
  obtain ⟨u,h1,h2⟩:=Vals.get (i:=i) (x:=x) t (by simpa using e)
  exact ⟨u,by simpa using h1,h2⟩
theorem Vals.set {x:V} {u:Value} (r:RelV x u):∀ {xs:List V} {us:List Value} (i:Nat),Vals xs us→Vals (xs.set i x) (us.set i u)
 | _,_,_,.nil=>.nil
 | _,_,0,.cons _ t=>.cons r t
 | _,_,i+1,.cons q t=>.cons q (Vals.set r i t)
theorem Vals.append:∀ {xs ys:List V} {us ws:List Value},Vals xs us→Vals ys ws→Vals (xs++ys) (us++ws)
 | _,_,_,_,.nil,s=>s
 | _,_,_,_,.cons r t,s=>.cons r (Vals.append t s)
theorem Vals.take:∀ {xs:List V} {us:List Value} (n:Nat),Vals xs us→Vals (xs.take n) (us.take n)
 | _,_,0,_=>.nil
 | _,_,_+1,.nil=>.nil
 | _,_,n+1,.cons r t=>.cons r (Vals.take n t)
theorem Vals.drop:∀ {xs:List V} {us:List Value} (n:Nat),Vals xs us→Vals (xs.drop n) (us.drop n)
 | _,_,0,r=>r
 | _,_,_+1,.nil=>.nil
 | _,_,n+1,.cons _ t=>Vals.drop n t
noncomputable def RelO:Option V→Option Value→Prop
 | some v,some u=>RelV v u
 | none,none=>True
 | _,_=>False
noncomputable def KV {κ:Type}:List (κ×V)→List (κ×Value)→Prop:=Paired fun (p:κ×V) (q:κ×Value)=>p.1=q.1∧RelV p.2 q.2
noncomputable def kV:Key→V
 | .inl i=>.int i
 | .inr x=>.str x
inductive HO where
  | lst (xs:List V)
  | tup (xs:List V)
  | dK (kvs:List (Key×V)) | dT (kvs:List (List Key×V))
  | set (S:Int→Bool) (n:Nat)
  | ins (C dx:Addr) (fs:List (Str×V))
  | own (x:Addr)
  | xd (fs:List (Str×V))
  | met (f x:Addr)
  | rng (lo hi:Int)
  | frz (o:Obj) (u:HO)
  | tbl (ps:Array Value)
  | ext (φ:Heap→Prop)
noncomputable abbrev Hp:=Addr→Option HO
noncomputable def upd (H:Hp) (a:Addr) (o:HO):Hp:=fun b=>if b=a then some o else H b
theorem qA {H:Hp} {a:Addr} {o:HO}:upd H a o a=some o:=by unfold upd;rw [if_pos rfl]
theorem qF {H:Hp} {a b:Addr} {o:HO} (h:b≠a):upd H a o b=H b:=by unfold upd;rw [if_neg h]
theorem q4k {H:Hp} {a:Addr} {o u:HO}:upd (upd H a o) a u=upd H a u:=by
 funext b;unfold upd;split <;> rfl
theorem ne_of {H:Hp} {a b:Addr} {o u:HO} (h:H a=some o) (h':H b=some u) (d:o≠u):a≠b:=by
 intro e;subst e;rw [h] at h';exact d (Option.some.inj h')
theorem qI {H:Hp} {a b:Addr} {o:HO} (h:H a=some o) (h':H b=none):a≠b:=by
 intro e;subst e;rw [h] at h';cases h'
section
variable (P:Program) (w:World)
noncomputable def ObjOk (H:Hp) (h:Heap) (a:Addr):HO→Prop
 | .lst xs=>xs.length≤sizeLine∧∃ (its:List Value) (n:Nat),Vals xs its∧h.get? a=some {cls:=.type "list",data:=.seq its.toArray n}
 | .tup xs=>xs.length≤sizeLine∧∃ its:List Value,Vals xs its∧IsTup h a its.toArray
 | .dK kvs=>kvs.length≤sizeLine∧(a == sysModules)=false∧∃ vs,KV kvs vs∧h.DictOf (q0D P w) a vs
 | .dT kvs=>kvs.length≤sizeLine∧(a == sysModules)=false∧∃ xs:List (List Key×Addr×Value),
   Paired (fun (p:List Key×V) (q:List Key×Addr×Value)=>p.1=q.1∧H q.2.1=some (.tup (p.1.map kV))∧RelV p.2 q.2.2) kvs xs ∧
   ∃ o es ep,h.get? a=some o∧o.ExactDict∧o.data = .dict es ep∧es.toList=xs.map (entryOfKey (tupleKind (q0D P w)))∧(xs.map (·.1)).Nodup
 | .set S n=>h.SetOf (intKind P w) a S n
 | .ins C dx fs=>H dx=some (.own a)∧fs.length≤1000∧dx≠a∧h.get? a=some (PySem.W.instObj C dx) ∧
   ∃ mA,h.Ns1 dx mA∧(∀ f,RelO (fs.lookup f) (mA f))∧PySem.Within mA (fs.map (·.1))
 | .own _=>∃ o,h.get? a=some o
 | .xd fs=>∃ mA,h.Ns1 a mA∧∀ f,RelO (fs.lookup f) (mA f)
 | .rng lo hi=>∃ t u v,h.get? a=some {cls:=.type "range",data:=.fields #[.int lo t,.int hi u,.int 1 v]}
 | .frz o u=>h.get? a=some o∧ObjOk H h a u
 | .tbl ps=>h.get? a=some {cls:=.none,data:=.fields ps}
 | .met f x=>h.get? a=some (PySem.W.methodObj (.ref f) (.ref x))
 | .ext φ=>φ h∧(∃ o,h.get? a=some o)∧∀ h1 h2:Heap,φ h1→(∀ o,h1.get? a=some o→h2.get? a=some o)→φ h2
noncomputable def HOk (H:Hp) (h:Heap):Prop:=∀ a o,H a=some o→ObjOk P w H h a o
end
section
variable {P:Program} {w:World} {H H':Hp} {h h':Heap} {a:Addr} {o:HO}
theorem ObjOk.lt (x:ObjOk P w H h a o):a < h.objs.size:=by
 cases o with
 | lst xs=>obtain ⟨_,_,_,_,e⟩:=x;exact Heap.lt_size e
 | tup xs=>obtain ⟨_,_,_,p⟩:=x;exact p.lt
 | dK kvs=>obtain ⟨_,_,_,_,o,_,_,e,_⟩:=x;exact Heap.lt_size e
 | dT kvs=>obtain ⟨_,_,_,_,o,_,_,e,_⟩:=x;exact Heap.lt_size e
 | set S n=>obtain ⟨o,_,_,_,e,_⟩:=x;exact Heap.lt_size e
 | ins C dx fs=>obtain ⟨_,_,_,e,_⟩:=x;exact Heap.lt_size e
 | own y=>obtain ⟨_,e⟩:=x;exact Heap.lt_size e
 | xd fs=>obtain ⟨_,⟨_,_,_,e,_⟩,_⟩:=x;exact Heap.lt_size e
 | rng lo hi=>obtain ⟨_,_,_,e⟩:=x;exact Heap.lt_size e
 | frz ob u=>obtain ⟨e,_⟩:=x;exact Heap.lt_size e
 | tbl ps=>exact Heap.lt_size (show h.get? a=some _ from x)
 | met f y=>exact Heap.lt_size (show h.get? a=some _ from x)
 | ext φ=>obtain ⟨_,⟨_,e⟩,_⟩:=x;exact Heap.lt_size e
theorem Paired.mapP {α β:Type} {F G:α→β→Prop}:∀ {l₁:List α} {l₂:List β},Paired F l₁ l₂→(∀ a b,F a b→G a b)→Paired G l₁ l₂
 | _,_,.nil,_=>.nil
 | _,_,.cons r t,f=>.cons (f _ _ r) (Paired.mapP t f)
theorem ObjOk.stay (x:ObjOk P w H h a o) (k:∀ b u,(b=a∨H b=some (.own a))→h.get? b=some u→h'.get? b=some u)
  (ho:∀ b,H b=some (.own a)→H' b=some (.own a)) (ht:∀ b xs,H b=some (.tup xs)→H' b=some (.tup xs)):ObjOk P w H' h' a o:=by
 induction o with
 | lst xs=>obtain ⟨z,its,n,r,e⟩:=x;exact ⟨z,its,n,r,k _ _ (.inl rfl) e⟩
 | tup xs=>obtain ⟨z,its,r,ob,e,c⟩:=x;exact ⟨z,its,r,ob,k _ _ (.inl rfl) e,c⟩
 | dK kvs=>obtain ⟨z,y,vs,r,ob,es,ep,e,c⟩:=x;exact ⟨z,y,vs,r,ob,es,ep,k _ _ (.inl rfl) e,c⟩
 | dT kvs =>
  obtain ⟨z,y,xs,r,ob,es,ep,e,c⟩:=x
  exact ⟨z,y,xs,Paired.mapP r fun p q z=>⟨z.1,ht _ _ z.2.1,z.2.2⟩,ob,es,ep,k _ _ (.inl rfl) e,c⟩
 | set S n=>obtain ⟨ob,es,ep,t,e,c⟩:=x;exact ⟨ob,es,ep,t,k _ _ (.inl rfl) e,c⟩
 | ins C dx fs =>
  obtain ⟨d,z,ne,e,mA,⟨od,es,ep,e2,c⟩,r⟩:=x
  exact ⟨ho _ d,z,ne,k _ _ (.inl rfl) e,mA,⟨od,es,ep,k _ _ (.inr d) e2,c⟩,r⟩
 | own y=>obtain ⟨ob,e⟩:=x;exact ⟨ob,k _ _ (.inl rfl) e⟩
 | xd fs=>obtain ⟨mA,⟨od,es,ep,e,c⟩,r⟩:=x;exact ⟨mA,⟨od,es,ep,k _ _ (.inl rfl) e,c⟩,r⟩
 | rng lo hi=>obtain ⟨t,u,v,e⟩:=x;exact ⟨t,u,v,k _ _ (.inl rfl) e⟩
 | frz ob u ih=>obtain ⟨e,q⟩:=x;exact ⟨k _ _ (.inl rfl) e,ih q⟩
 | tbl ps =>
  have e:h.get? a=some {cls:=.none,data:=.fields ps}:=x
  show h'.get? a=some {cls:=.none,data:=.fields ps}
  exact k a _ (.inl rfl) e
 | met f y =>
  have e:h.get? a=some (PySem.W.methodObj (.ref f) (.ref y)):=x
  show h'.get? a=some (PySem.W.methodObj (.ref f) (.ref y))
  exact k a _ (.inl rfl) e
 | ext φ=>obtain ⟨p,⟨o,e⟩,st⟩:=x;exact ⟨st _ _ p fun o q=>k _ _ (.inl rfl) q,⟨o,k _ _ (.inl rfl) e⟩,st⟩
theorem HOk.lt (x:HOk P w H h) (e:H a=some o):a < h.objs.size:=(x a o e).lt
theorem HOk.fresh (x:HOk P w H h) (e:h.objs.size≤a):H a=none:=by
 cases q:H a with
 | none=>rfl
 | some u=>exact absurd (Nat.lt_of_lt_of_le (x.lt q) e) (Nat.lt_irrefl _)
theorem HOk.kept (x:HOk P w H h) (k:∀ b u,h.get? b=some u→h'.get? b=some u):HOk P w H h':=fun a o e =>
 (x a o e).stay (fun b u _ q=>k b u q) (fun _ q=>q) fun _ _ q=>q
theorem HOk.laid (x:HOk P w H h) (k:∀ b u,h.get? b=some u→h'.get? b=some u) (hp:h.objs.size≤a) (new:ObjOk P w (upd H a o) h' a o):HOk P w (upd H a o) h':=fun b u e=>by
 have hn:=x.fresh hp
 by_cases hb:b=a
 ·subst hb;rw [qA] at e;cases e;exact new
 ·rw [qF hb] at e
  exact (x b u e).stay (fun c v _ q=>k c v q) (fun c q=>by rw [qF (qI q hn)];exact q) fun c xs q=>by rw [qF (qI q hn)];exact q
end
noncomputable def Rd (H:Hp) (a:Addr) (u:HO):Prop:=H a=some u∨∃ o,H a=some (.frz o u)
theorem Rd.ok {P:Program} {w:World} {H:Hp} {h:Heap} {a:Addr} {u:HO} (r:Rd H a u) (x:HOk P w H h):ObjOk P w H h a u:=by
 rcases r with r | ⟨o,r⟩
 ·exact x a u r
 ·obtain ⟨_,q⟩:=x a _ r
  exact q
noncomputable def Mut:Option HO→Prop
 | some (.lst _)=>True
 | some (.dK _)=>True
 | some (.dT _)=>True
 | some (.set _ _)=>True
 | some (.ins _ _ _)=>True
 | some (.ext _)=>True
 | _=>False
section
variable {P:Program} {w:World} {H:Hp} {h h':Heap} {x e:Addr} {o':HO}
theorem HOk.write (ok:HOk P w H h) (mu:Mut (H x)) (he:e=x∨H e=some (.own x)) (k:∀ b u,b≠e→h.get? b=some u→h'.get? b=some u) (heo:∃ u,h'.get? e=some u)
  (new:ObjOk P w (upd H x o') h' x o'):HOk P w (upd H x o') h':=fun b u q=>by
 have nown:∀ c y,H c=some (.own y)→c≠x:=fun c y r z=>by subst z;rw [r] at mu;exact mu
 have ntup:∀ c xs,H c=some (.tup xs)→c≠x:=fun c xs r z=>by subst z;rw [r] at mu;exact mu
 by_cases hb:b=x
 ·subst hb;rw [qA] at q;cases q;exact new
 ·rw [qF hb] at q
  by_cases hbe:b=e
  ·have q':H b=some (.own x):=by
    rcases he with z | z
    ·exact absurd (hbe.trans z) hb
    ·rw [hbe];exact z
   rw [q] at q';cases q'
   obtain ⟨v,hv⟩:=heo
   exact ⟨v,by rw [hbe];exact hv⟩
  ·refine (ok b u q).stay (fun c v hc r=>k c v ?_ r) (fun c r=>by rw [qF (nown c b r)];exact r) fun c xs r=>by rw [qF (ntup c xs r)];exact r
   rcases hc with rfl | hc
   ·exact hbe
   ·rintro rfl
    rcases he with z | z
    ·exact nown c b hc z
    ·rw [hc] at z;cases z;exact hb rfl
end
structure Un (fs ex:List Addr) (H H':Hp) (h h':Heap):Prop where
 keep:∀ b o,h.get? b=some o→H b=none→b∉fs→b∉ex→h'.get? b=some o
 slot:∀ b o,h.get? b=some o→H b=none→b∈fs→b∉ex→∃ sl,h'.get? b=some {o with slots:=sl}
 free:∀ b o,h.get? b=some o→H b=none→b∉ex→H' b=none
 there:∀ b o,h.get? b=some o→b∉ex→∃ o',h'.get? b=some o'
 tups:∀ b xs,H b=some (.tup xs)→H' b=some (.tup xs)
 frzs:∀ b o u,H b=some (.frz o u)→H' b=some (.frz o u)
 tbls:∀ b ps,H b=some (.tbl ps)→∃ more,H' b=some (.tbl (ps++more))
section
variable {fs fs' ex ex':List Addr} {H H1 H2:Hp} {h h1 h2 h':Heap} {a x e:Addr} {o:HO}
theorem Un.any (u:Un fs ex H H1 h h1) {b:Addr} {ob:Obj} (q:h.get? b=some ob) (n:H b=none) (hx:b∉ex):∃ sl,h1.get? b=some {ob with slots:=sl}:=by
 by_cases hb:b∈fs
 ·exact u.slot b ob q n hb hx
 ·exact ⟨ob.slots,u.keep b ob q n hb hx⟩
theorem Un.trans (a:Un fs ex H H1 h h1) (b:Un fs ex H1 H2 h1 h2):Un fs ex H H2 h h2 where
 keep:=fun c ob q n hc hx=>b.keep c ob (a.keep c ob q n hc hx) (a.free c ob q n hx) hc hx
 slot:=fun c ob q n hc hx=>by
  obtain ⟨sl,e1⟩:=a.slot c ob q n hc hx
  obtain ⟨sl',e2⟩:=b.slot c _ e1 (a.free c ob q n hx) hc hx
  exact ⟨sl',e2⟩
 free:=fun c ob q n hx=>by
  obtain ⟨o',e1⟩:=a.there c ob q hx
  exact b.free c o' e1 (a.free c ob q n hx) hx
 there:=fun c ob q hx=>by
  obtain ⟨o',e1⟩:=a.there c ob q hx
  exact b.there c o' e1 hx
 tups:=fun c xs q=>b.tups c xs (a.tups c xs q)
 frzs:=fun c ob xs q=>b.frzs c ob xs (a.frzs c ob xs q)
 tbls:=fun c ps q=>by
  obtain ⟨m1,e1⟩:=a.tbls c ps q
  obtain ⟨m2,e2⟩:=b.tbls c _ e1
  exact ⟨m1++m2,by rw [e2,Array.append_assoc]⟩
theorem Un.kept (k:∀ b u,h.get? b=some u→h'.get? b=some u):Un fs ex H H h h' :=
 ⟨fun b ob q _ _ _=>k b ob q,fun b ob q _ _ _=>⟨ob.slots,k b ob q⟩,fun _ _ _ n _=>n,fun b ob q _=>⟨ob,k b ob q⟩,fun _ _ q=>q,fun _ _ _ q=>q,fun _ ps q=>⟨#[],by rw [q];simp⟩⟩
theorem Un.refl:Un fs ex H H h h:=Un.kept fun _ _ q=>q
theorem Un.laid (k:∀ b u,h.get? b=some u→h'.get? b=some u) (hp:h.objs.size≤a) (hn:H a=none):Un fs ex H (upd H a o) h h' where
 keep:=fun b u q _ _ _=>k b u q
 slot:=fun b u q _ _ _=>⟨u.slots,k b u q⟩
 free:=fun b u q n _=>by rw [qF (Nat.ne_of_lt (Nat.lt_of_lt_of_le (Heap.lt_size q) hp))];exact n
 there:=fun b u q _=>⟨u,k b u q⟩
 tups:=fun b xs q=>by rw [qF (qI q hn)];exact q
 frzs:=fun b u xs q=>by rw [qF (qI q hn)];exact q
 tbls:=fun b ps q=>⟨#[],by rw [qF (qI q hn),q];simp⟩
theorem Un.write (mu:Mut (H x)) (he:e=x∨H e=some (.own x)) (k:∀ b u,b≠e→h.get? b=some u→h'.get? b=some u) (heo:∃ u,h'.get? e=some u):Un fs ex H (upd H x o) h h':=by
 have hx:∀ b,H b=none→b≠x:=fun b n z=>by subst z;rw [n] at mu;exact mu
 have hb:∀ b,H b=none→b≠e:=fun b n z=>by
  subst z
  rcases he with r | r
  ·exact hx b n r
  ·rw [n] at r;cases r
 have hm:∀ b u,H b=some u→¬ Mut (some u)→b≠x:=fun b u q nm z=>by subst z;rw [q] at mu;exact nm mu
 refine ⟨fun b u q n _ _=>k b u (hb b n) q,fun b u q n _ _=>⟨u.slots,k b u (hb b n) q⟩,fun b u q n _=>by rw [qF (hx b n)];exact n,fun b u q _=>?_,
  fun b xs q=>by rw [qF (hm b _ q fun z=>z)];exact q,fun b u xs q=>by rw [qF (hm b _ q fun z=>z)];exact q,fun b ps q=>⟨#[],by rw [qF (hm b _ q fun z=>z),q];simp⟩⟩
 by_cases hbe:b=e
 ·subst hbe;exact heo
 ·exact ⟨u,k b u hbe q⟩
theorem Un.mono (u:Un fs ex H H1 h h1) (hs:∀ b∈fs,b∈fs') (hx:∀ b∈ex,b∈ex'):Un fs' ex' H H1 h h1 :=
 ⟨fun b ob q n hb he=>u.keep b ob q n (fun z=>hb (hs b z)) fun z=>he (hx b z),fun _ _ q n _ he=>u.any q n fun z=>he (hx _ z),fun b ob q n he=>u.free b ob q n fun z=>he (hx b z),fun b ob q he=>u.there b ob q fun z=>he (hx b z),u.tups,u.frzs,u.tbls⟩
end
noncomputable def trk (h:Heap) (H:Hp):List Addr:=(List.range h.objs.size).filter fun a=>(H a).isSome
noncomputable def hidT (h:Heap) (H:Hp):Heap:=PySem.W.hideAll h (trk h H)
theorem hidT_size (h:Heap) (H:Hp):(hidT h H).objs.size=h.objs.size:=PySem.W.hideAll_size _ _
theorem hidT_get {h:Heap} {H:Hp} {b:Addr} {o:Obj} (e:h.get? b=some o) (n:H b=none):(hidT h H).get? b=some o :=
 PySem.W.hideAll_get _ e fun hm=>by
  have q:(H b).isSome=true:=(List.mem_filter.mp hm).2
  rw [n] at q;simp at q
theorem of_hidT {h:Heap} {H:Hp} {b:Addr} {o:Obj} (e:(hidT h H).get? b=some o):h.get? b=some o∧H b=none:=by
 have e':h.get? b=some o:=PySem.W.of_hideAll (trk h H) e
 refine ⟨e',?_⟩
 cases q:H b with
 | none=>rfl
 | some x =>
  have hm:b∈trk h H:=List.mem_filter.mpr ⟨List.mem_range.mpr (Heap.lt_size e'),by simp [q]⟩
  have z:(hidT h H).get? b=none:=PySem.W.hideAll_none (trk h H) hm
  rw [z] at e;cases e
end L2
namespace L2
open PySem PySem.Spec PyProof.Rows
structure Mod (K:PySem.W.Frag) (mg:Str→Option Value) (base:Heap):Prop where
 kin:K.In base
 glob:base.Ns mainGlobals mg
 blt:∃ mb,base.Ns builtinsNs mb∧∀ x:Str,x≠"__name__"→mb x=bootBuiltins x
 nolimit:base.NoLimit
structure Cx where
 prog:Program
 w:World
 K:PySem.W.Frag
 mg:Str→Option Value
 base:Heap
 A:Around
 N:List Str
 s₀:Shared
 H₀:Hp
 env:Env
 outer:List Env
 stack:List Env
 ex:List Addr
 fn:Str→Bool
 calm:Bool
 pn:List (Addr×Obj)
 xe:Value→Shared→Prop
noncomputable def frs (l:List Env):List Addr:=l.filterMap (·.frame)
noncomputable abbrev Cx.fs (X:Cx):List Addr:=frs X.outer
noncomputable def Vis (sc:Scope) (x:Str):Prop:=sc.names.lookup x=some .local∨sc.names.lookup x=some .cell∨sc.names.lookup x=some .free
noncomputable def Loc (sc:Scope) (x:Str):Prop:=sc.names.lookup x=some .local∨sc.names.lookup x=some .cell
noncomputable def Look (env:Env) (h:Heap) (m:Str→Option Value) (x:Str) (u:Value):Prop :=
 (env.kindOf x=some .local∧m x=some u)∨((env.kindOf x=some .cell∨env.kindOf x=some .free)∧∃ c,env.cells.lookup x=some c∧h.IsCell c (some u))
structure Cx.Ok (X:Cx):Prop where
 mod:Mod X.K X.mg X.base
 kind:X.env.scope.kind = .function
 glob:X.env.globals=mainGlobals
 blt:X.env.builtins=builtinsNs
 above:X.s₀.heap.objs.size≤X.env.locals
 inj:∀ x y c,X.env.cells.lookup x=some c→X.env.cells.lookup y=some c→x=y
 has:∀ x,(X.env.kindOf x=some .cell∨X.env.kindOf x=some .free)→∃ c,X.env.cells.lookup x=some c
 cab:∀ x c,X.fn x=true→X.env.cells.lookup x=some c→X.s₀.heap.objs.size≤c
 hd:X.calm=true→X.A.handled=none
 frames:X.A.frames=some X.stack
 stk:X.stack=X.outer∨(X.stack=X.env::X.outer∧X.env.frame=some X.env.locals)
 exf:∀ b∈X.ex,b≠X.env.locals∧∀ x c,X.env.cells.lookup x=some c→c≠b
 bs:∀ b o,X.base.get? b=some o→X.s₀.heap.get? b=some o∧X.H₀ b=none
 bsz:X.base.objs.size≤X.s₀.heap.objs.size
 noex:∀ b o,X.base.get? b=some o→b∉X.ex
 exfs:∀ b∈X.ex,b∉X.fs
 funs:X.s₀.heap.FunFrames X.base X.outer
 frf:∀ b∈X.fs,X.H₀ b=none
structure Inv (X:Cx) (pins:List (Addr×Obj)) (σ:List (Option V)) (H:Hp) (s:Shared):Prop where
 ok:X.Ok
 os:s.os=X.s₀.os
 bare:AllBare s.gens
 base:Un X.fs X.ex X.H₀ H X.s₀.heap s.heap
 loc:∃ m,s.heap.Ns X.env.locals m∧∀ (i:Nat) (x:Str) (v:V),X.N[i]?=some x→σ[i]?=some (some v)→Vis X.env.scope x→∃ u,RelV v u∧Look X.env s.heap m x u
 cell:∀ x c,X.env.cells.lookup x=some c→∃ v,s.heap.IsCell c v
 free:H X.env.locals=none
 freeC:∀ x c,X.env.cells.lookup x=some c→H c=none
 pin:∀ p∈X.pn++pins,s.heap.get? p.1=some p.2∧H p.1=none∧p.1≠X.env.locals∧p.1∉X.fs∧∀ v,p.2.data≠.cell v
 hok:HOk X.prog X.w H s.heap
 len:σ.length=X.N.length
section
variable {X:Cx} {pins:List (Addr×Obj)} {σ:List (Option V)} {H H':Hp} {s:Shared} {h':Heap}
theorem Cx.Ok.nofr (ok:X.Ok) {b:Addr} {o:Obj} (e:X.base.get? b=some o):b∉X.fs:=fun hb=>by
 have:=(ok.funs.mem hb).1
 rw [e] at this;cases this
theorem Inv.bs (I:Inv X pins σ H s):∀ b o,X.base.get? b=some o→s.heap.get? b=some o∧H b=none:=fun b o e =>
 ⟨I.base.keep b o (I.ok.bs b o e).1 (I.ok.bs b o e).2 (I.ok.nofr e) (I.ok.noex b o e),I.base.free b o (I.ok.bs b o e).1 (I.ok.bs b o e).2 (I.ok.noex b o e)⟩
theorem Inv.bk (I:Inv X pins σ H s):∀ b o,X.base.get? b=some o→s.heap.get? b=some o:=fun b o e=>(I.bs b o e).1
theorem Inv.mod (I:Inv X pins σ H s):Mod X.K X.mg X.base:=I.ok.mod
theorem Inv.kIn (I:Inv X pins σ H s):X.K.In s.heap:=I.ok.mod.kin.keeps I.bk
theorem Inv.lt (I:Inv X pins σ H s):X.env.locals < s.heap.objs.size:=let ⟨_,hn,_⟩:=I.loc;hn.lt
theorem Inv.sz (I:Inv X pins σ H s):X.s₀.heap.objs.size≤s.heap.objs.size:=Nat.le_trans I.ok.above (Nat.le_of_lt I.lt)
theorem Inv.nofs (I:Inv X pins σ H s) {a:Addr} (h:s.heap.objs.size≤a):a∉X.fs:=fun hb=>by
 obtain ⟨_,o,ho,_⟩:=I.ok.funs.mem hb
 exact absurd (Nat.lt_of_lt_of_le (Heap.lt_size ho) (Nat.le_trans I.sz h)) (Nat.lt_irrefl _)
theorem Inv.cne (I:Inv X pins σ H s):∀ x c,X.env.cells.lookup x=some c→c≠X.env.locals:=fun x c e z=>by
 obtain ⟨v,o,ho,hd⟩:=I.cell x c e
 obtain ⟨m,⟨o',es,ep,ho',hd',_⟩,_⟩:=I.loc
 rw [z,ho'] at ho;cases ho;rw [hd'] at hd;cases hd
theorem Inv.funs (I:Inv X pins σ H s):s.heap.FunFrames X.base X.outer:=by
 have all:∀ (l:List Env),(∀ b∈frs l,b∈X.fs)→X.s₀.heap.FunFrames X.base l→s.heap.FunFrames X.base l:=by
  intro l
  induction l with
  | nil=>intro _ _;trivial
  | cons env r ih =>
   intro hs hl
   obtain ⟨hk,⟨L,o,hf,hn,ho,hd⟩,hr⟩:=hl
   have hL:L∈X.fs:=hs L (by unfold frs;rw [List.filterMap_cons,hf];exact List.mem_cons_self)
   obtain ⟨sl,e⟩:=I.base.slot L o ho (I.ok.frf L hL) hL fun z=>I.ok.exfs L z hL
   exact ⟨hk,⟨L,_,hf,hn,e,hd⟩,ih (fun b hb=>hs b (by unfold frs;rw [List.filterMap_cons,hf];exact List.mem_cons_of_mem _ hb)) hr⟩
 exact all X.outer (fun _ hb=>hb) I.ok.funs
theorem Inv.stack (I:Inv X pins σ H s):s.heap.FunFrames X.base X.stack:=by
 rcases I.ok.stk with e | ⟨e,hf⟩
 ·rw [e];exact I.funs
 ·rw [e]
  obtain ⟨m,hn,_⟩:=I.loc
  refine .cons (by rw [I.ok.kind];decide) hf hn ?_ I.funs
  exact Heap.get?_none_of_le (Nat.le_trans I.ok.bsz I.ok.above)
theorem Inv.stkSub (I:Inv X pins σ H s):∀ b∈frs X.stack,b∈X.env.locals::X.fs:=fun b hb=>by
 rcases I.ok.stk with e | ⟨e,hf⟩
 ·rw [e] at hb;exact List.mem_cons_of_mem _ hb
 ·rw [e] at hb
  unfold frs at hb
  rw [List.filterMap_cons,hf] at hb
  exact hb
theorem Inv.stkFree (I:Inv X pins σ H s):∀ b∈frs X.stack,H b=none:=fun b hb=>by
 rcases List.mem_cons.mp (I.stkSub b hb) with e | hb
 ·rw [e];exact I.free
 ·obtain ⟨_,o,ho,_⟩:=I.ok.funs.mem hb
  exact I.base.free b o ho (I.ok.frf b hb) fun z=>I.ok.exfs b z hb
theorem Inv.step {g':Array GenState} {t':Nat} {d':Drawn} {ch:List Addr} (I:Inv X pins σ H s)
  (hch:∀ b∈ch,(b∈X.ex∨X.s₀.heap.objs.size≤b)∧b≠X.env.locals∧(∀ x c,X.env.cells.lookup x=some c→c≠b)∧∀ p∈X.pn++pins,p.1≠b)
  (keep:∀ b o,b≠X.env.locals→b∉X.fs→b∉ch→s.heap.get? b=some o→H b=none→h'.get? b=some o)
  (slot:∀ b o,b≠X.env.locals→b∈X.fs→b∉ch→s.heap.get? b=some o→H b=none→∃ sl,h'.get? b=some {o with slots:=sl}) (free:∀ b o,b∉ch→s.heap.get? b=some o→H b=none→H' b=none)
  (there:∀ b o,b∉ch→s.heap.get? b=some o→∃ o',h'.get? b=some o')
  (tups:∀ b xs,H b=some (.tup xs)→H' b=some (.tup xs)) (frzs:∀ b o u,H b=some (.frz o u)→H' b=some (.frz o u)) (tbls:∀ b ps,H b=some (.tbl ps)→∃ more,H' b=some (.tbl (ps++more)))
  (ns:∀ m,s.heap.Ns X.env.locals m→h'.Ns X.env.locals m) (hok:HOk X.prog X.w H' h') (hg:AllBare g') :
  Inv X pins σ H' {s with heap:=h',gens:=g',drawn:=d',toks:=t'}:=by
 have neL:∀ b o,X.s₀.heap.get? b=some o→b≠X.env.locals:=fun b o e=>Nat.ne_of_lt (Nat.lt_of_lt_of_le (Heap.lt_size e) I.ok.above)
 have neC:∀ b o,X.s₀.heap.get? b=some o→b∉X.ex→b∉ch:=fun b o e hx hb=>by
  rcases (hch b hb).1 with z | z
  ·exact hx z
  ·exact absurd (Nat.lt_of_lt_of_le (Heap.lt_size e) z) (Nat.lt_irrefl _)
 have cellK:∀ x c,X.env.cells.lookup x=some c→∀ v,s.heap.IsCell c v→h'.IsCell c v:=fun x c e v ⟨o,ho,hd⟩=>by
  have nch:c∉ch:=fun z=>(hch c z).2.2.1 x c e rfl
  by_cases hc:c∈X.fs
  ·obtain ⟨sl,q⟩:=slot c o (I.cne x c e) hc nch ho (I.freeC x c e)
   exact ⟨_,q,hd⟩
  ·exact ⟨o,keep c o (I.cne x c e) hc nch ho (I.freeC x c e),hd⟩
 refine ⟨I.ok,I.os,hg,⟨fun b o e n hb hx=>?_,fun b o e n hb hx=>?_,fun b o e n hx=>?_,fun b o e hx=>?_,fun b xs e=>tups b xs (I.base.tups b xs e),fun b o xs e=>frzs b o xs (I.base.frzs b o xs e),fun b ps e=>?_⟩,?_,fun x c e=>?_,?_,fun x c e=>?_,fun p hp=>?_,hok,I.len⟩
 ·exact keep b o (neL b o e) hb (neC b o e hx) (I.base.keep b o e n hb hx) (I.base.free b o e n hx)
 ·obtain ⟨sl,e1⟩:=I.base.slot b o e n hb hx
  obtain ⟨sl',e2⟩:=slot b _ (neL b o e) hb (neC b o e hx) e1 (I.base.free b o e n hx)
  exact ⟨sl',e2⟩
 ·obtain ⟨o',e1⟩:=I.base.there b o e hx
  exact free b o' (neC b o e hx) e1 (I.base.free b o e n hx)
 ·obtain ⟨o',e1⟩:=I.base.there b o e hx
  exact there b o' (neC b o e hx) e1
 ·obtain ⟨m1,e1⟩:=I.base.tbls b ps e
  obtain ⟨m2,e2⟩:=tbls b _ e1
  exact ⟨m1++m2,by rw [e2,Array.append_assoc]⟩
 ·obtain ⟨m,hn,hl⟩:=I.loc
  refine ⟨m,ns m hn,fun i x v e1 e2 e3=>?_⟩
  obtain ⟨u,r,l⟩:=hl i x v e1 e2 e3
  refine ⟨u,r,?_⟩
  rcases l with l | ⟨k,c,e,z⟩
  ·exact .inl l
  ·exact .inr ⟨k,c,e,cellK x c e _ z⟩
 ·obtain ⟨v,z⟩:=I.cell x c e
  exact ⟨v,cellK x c e v z⟩
 ·obtain ⟨m,⟨o,_,_,ho,_⟩,_⟩:=I.loc
  exact free _ o (fun z=>(hch _ z).2.1 rfl) ho I.free
 ·obtain ⟨v,o,ho,hd⟩:=I.cell x c e
  exact free c o (fun z=>(hch c z).2.2.1 x c e rfl) ho (I.freeC x c e)
 ·obtain ⟨e,n,ne,nf,d⟩:=I.pin p hp
  have nch:p.1∉ch:=fun z=>(hch p.1 z).2.2.2 p hp rfl
  exact ⟨keep p.1 p.2 ne nf nch e n,free p.1 p.2 nch e n,ne,nf,d⟩
theorem Inv.un {t':Nat} (I:Inv X pins σ H s) (u:Un X.fs [] H H' s.heap h') (hok:HOk X.prog X.w H' h'):Inv X pins σ H' {s with heap:=h',toks:=t'}:=by
 obtain ⟨m,⟨o,es,ep,ho,r⟩,_⟩:=id I.loc
 obtain ⟨sl,hL⟩:=u.any ho I.free (by simp)
 exact I.step (g':=s.gens) (d':=s.drawn) (ch:=[]) (fun _ z=>nomatch z) (fun b o _ hb _ e n=>u.keep b o e n hb (by simp)) (fun b o _ hb _ e n=>u.slot b o e n hb (by simp)) (fun b o _ e n=>u.free b o e n (by simp)) (fun b o _ e=>u.there b o e (by simp)) u.tups u.frzs u.tbls (fun m' hm=>by
  obtain ⟨o',es',ep',ho',r'⟩:=hm
  rw [ho] at ho';cases ho'
  exact ⟨_,es',ep',hL,r'⟩) hok I.bare
theorem Inv.call {g':Array GenState} {t':Nat} {d':Drawn} {ch:List Addr} (I:Inv X pins σ H s) (u:Un (frs X.stack) ch H H' s.heap h') (hok:HOk X.prog X.w H' h') (hg:AllBare g')
  (hch:∀ b∈ch,(b∈X.ex∨X.s₀.heap.objs.size≤b)∧b≠X.env.locals∧(∀ x c,X.env.cells.lookup x=some c→c≠b)∧∀ p∈X.pn++pins,p.1≠b) :
  Inv X pins σ H' {s with heap:=h',gens:=g',drawn:=d',toks:=t'}:=by
 obtain ⟨m,⟨o,es,ep,ho,r⟩,_⟩:=id I.loc
 obtain ⟨sl,hL⟩:=u.any ho I.free fun z=>(hch _ z).2.1 rfl
 exact I.step (ch:=ch) hch (fun b o hL hb hc e n=>u.keep b o e n (fun z=>(List.mem_cons.mp (I.stkSub b z)).elim hL hb) hc) (fun b o _ _ hc e n=>u.any e n hc) (fun b o hc e n=>u.free b o e n hc) (fun b o hc e=>u.there b o e hc) u.tups u.frzs u.tbls (fun m' hm=>by
  obtain ⟨o',es',ep',ho',r'⟩:=hm
  rw [ho] at ho';cases ho'
  exact ⟨_,es',ep',hL,r'⟩) hok hg
theorem Inv.turned {t':Nat} {it:Addr} (I:Inv X pins σ H s) (k:∀ b o,b≠it→s.heap.get? b=some o→h'.get? b=some o) (hn:H it=none) (hL:it≠X.env.locals)
  (h1:it∈X.ex∨X.s₀.heap.objs.size≤it) (h2:∀ x c,X.env.cells.lookup x=some c→c≠it) (h3:∀ p∈X.pn++pins,p.1≠it):Inv X pins σ H {s with heap:=h',toks:=t'}:=by
 have nit:∀ b u,H b=some u→b≠it:=fun b u e z=>by rw [z,hn] at e;cases e
 refine I.step (g':=s.gens) (d':=s.drawn) (ch:=[it]) (fun b hb=>?_) (fun b o _ _ hc e _=>k b o (fun z=>hc (by simp [z])) e) (fun b o _ _ hc e _=>⟨o.slots,k b o (fun z=>hc (by simp [z])) e⟩) (fun _ _ _ _ n=>n)
  (fun b o hc e=>⟨o,k b o (fun z=>hc (by simp [z])) e⟩) (fun _ _ e=>e) (fun _ _ _ e=>e) (fun b ps e=>⟨#[],by rw [e];simp⟩) (fun m hm=>?_) (fun b u e=>?_) I.bare
 ·have e:b=it:=by simpa using hb
  subst e
  exact ⟨h1,hL,h2,h3⟩
 ·obtain ⟨o,es,ep,ho,r⟩:=hm
  exact ⟨o,es,ep,k _ o (Ne.symm hL) ho,r⟩
 ·refine (I.hok b u e).stay (fun c v hc q=>k c v ?_ q) (fun _ q=>q) fun _ _ q=>q
  rcases hc with z | z
  ·rw [z];exact nit b u e
  ·exact nit c _ z
theorem Inv.tok (I:Inv X pins σ H s) (t:Nat):Inv X pins σ H {s with toks:=t}:=I.un (h':=s.heap) (t':=t) Un.refl I.hok
theorem Inv.kept {t':Nat} (I:Inv X pins σ H s) (k:∀ b u,s.heap.get? b=some u→h'.get? b=some u):Inv X pins σ H {s with heap:=h',toks:=t'}:=I.un (Un.kept k) (I.hok.kept k)
theorem Inv.laid {a:Addr} {o:HO} {t':Nat} (I:Inv X pins σ H s) (k:∀ b u,s.heap.get? b=some u→h'.get? b=some u) (hp:s.heap.objs.size≤a) (new:ObjOk X.prog X.w (upd H a o) h' a o) :
  Inv X pins σ (upd H a o) {s with heap:=h',toks:=t'}:=I.un (Un.laid k hp (I.hok.fresh hp)) (I.hok.laid k hp new)
theorem Inv.write {x e:Addr} {o:HO} {t':Nat} (I:Inv X pins σ H s) (mu:Mut (H x)) (he:e=x∨H e=some (.own x)) (k:∀ b u,b≠e→s.heap.get? b=some u→h'.get? b=some u) (heo:∃ u,h'.get? e=some u)
  (new:ObjOk X.prog X.w (upd H x o) h' x o):Inv X pins σ (upd H x o) {s with heap:=h',toks:=t'}:=I.un (Un.write mu he k heo) (I.hok.write mu he k heo new)
theorem Inv.pins_of {pins':List (Addr×Obj)} (I:Inv X pins σ H s) (h:∀ p∈pins',s.heap.get? p.1=some p.2∧H p.1=none∧p.1≠X.env.locals∧p.1∉X.fs∧∀ v,p.2.data≠.cell v):Inv X pins' σ H s :=
 ⟨I.ok,I.os,I.bare,I.base,I.loc,I.cell,I.free,I.freeC,fun p hp=>(List.mem_append.mp hp).elim (fun z=>I.pin p (List.mem_append_left _ z)) (h p),I.hok,I.len⟩
theorem q5A {N:List Str} (hN:N.Nodup) {i j:Nat} {x:Str} (a:N[i]?=some x) (b:N[j]?=some x):i=j:=by
 obtain ⟨h1,e1⟩:=List.getElem?_eq_some_iff.mp a
 obtain ⟨h2,e2⟩:=List.getElem?_eq_some_iff.mp b
 exact (List.getElem_inj hN).mp (e1.trans e2.symm)
theorem q5T {M:Model} {A:Around} {E:Value→Shared→Prop} {i:Nat} {x:Str} {v:V} {u:Value} {Q:Unit→Shared→Prop} (I:Inv X pins σ H s) (hN:X.N.Nodup) (hi:X.N[i]?=some x) (hx:Loc X.env.scope x) (r:RelV v u)
  (h:∀ s',Inv X pins (σ.set i (some v)) H s'→(∃ a,Heap.SameBut a s.heap s'.heap∧(a=X.env.locals∨X.env.cells.lookup x=some a))→Q () s') (hf:X.fn x=true∨X.env.scope.names.lookup x=some .local:=by first | exact .inl rfl | exact .inr rfl | assumption):wpAny M A (storeName X.env x u) Q E s:=by
 obtain ⟨m,hn,hl⟩:=id I.loc
 have hcls:(X.env.scope.kind == .class || (X.env.scope.kind == .module && X.env.locals != X.env.globals))=false:=by rw [I.ok.kind];rfl
 have hiσ:i < σ.length:=by rw [I.len];exact (List.getElem?_eq_some_iff.mp hi).1
 have cne:=I.cne
 have tracked:∀ {a:Addr} {h':Heap},(∃ o,s.heap.get? a=some o∧H a=none)→Heap.SameBut a s.heap h'→HOk X.prog X.w H h':=fun {a h'} ha hs b ob e=>by
  obtain ⟨_,_,hfree⟩:=ha
  refine (I.hok b ob e).stay (fun c w' hc q=>(hs.2 c ?_).trans q) (fun _ q=>q) fun _ _ q=>q
  rintro rfl
  rcases hc with rfl | hc
  ·rw [hfree] at e;cases e
  ·rw [hfree] at hc;cases hc
 rcases hx with hk | hk
 ·refine wpAny_storeName_local hk hn (fun h' hn' hs=>?_) hcls
  obtain ⟨oL,_,_,hoL,_⟩:=id hn
  refine h _ ⟨I.ok,I.os,I.bare,⟨fun b o e n hb hx=>?_,fun b o e n hb hx=>?_,I.base.free,fun b o e hx=>?_,I.base.tups,I.base.frzs,I.base.tbls⟩,⟨_,hn',fun j y v' e1 e2 e3=>?_⟩,fun y c e=>?_,I.free,I.freeC,fun p hp=>?_,tracked ⟨oL,hoL,I.free⟩ hs,by simpa using I.len⟩ ⟨_,hs,.inl rfl⟩
  ·exact (hs.2 b (Nat.ne_of_lt (Nat.lt_of_lt_of_le (Heap.lt_size e) I.ok.above))).trans (I.base.keep b o e n hb hx)
  ·obtain ⟨sl,e1⟩:=I.base.slot b o e n hb hx
   exact ⟨sl,(hs.2 b (Nat.ne_of_lt (Nat.lt_of_lt_of_le (Heap.lt_size e) I.ok.above))).trans e1⟩
  ·obtain ⟨o',e1⟩:=I.base.there b o e hx
   exact ⟨o',(hs.2 b (Nat.ne_of_lt (Nat.lt_of_lt_of_le (Heap.lt_size e) I.ok.above))).trans e1⟩
  ·by_cases hj:j=i
   ·subst hj
    rw [hi] at e1;cases e1
    rw [List.getElem?_set_self hiσ] at e2
    cases e2
    exact ⟨u,r,.inl ⟨hk,by simp⟩⟩
   ·rw [List.getElem?_set_ne (Ne.symm hj)] at e2
    obtain ⟨u',r',q⟩:=hl j y v' e1 e2 e3
    refine ⟨u',r',?_⟩
    rcases q with ⟨k,e⟩ | ⟨k,c,e,z⟩
    ·refine .inl ⟨k,?_⟩
     have:y≠x:=fun e=>hj (q5A hN e1 (e▸hi))
     simp [this,e]
    ·exact .inr ⟨k,c,e,z.sameBut hs (cne y c e)⟩
  ·obtain ⟨w',z⟩:=I.cell y c e
   exact ⟨w',z.sameBut hs (cne y c e)⟩
  ·obtain ⟨e,n,ne,nf,d⟩:=I.pin p hp
   exact ⟨(hs.2 p.1 ne).trans e,n,ne,nf,d⟩
 ·have hfn:X.fn x=true:=by
   rcases hf with z | z
   ·exact z
   ·rw [z] at hk;cases hk
  obtain ⟨c,hc⟩:=I.ok.has x (.inl hk)
  obtain ⟨w',z⟩:=I.cell x c hc
  refine wpAny_storeName_cell I.ok.kind hk hc z (fun h' hc' hs=>?_)
  obtain ⟨oc,hoc,hocd⟩:=id z
  refine h {s with heap:=h'} ⟨I.ok,I.os,I.bare,⟨fun b o e n hb hx=>?_,fun b o e n hb hx=>?_,I.base.free,fun b o e hx=>?_,I.base.tups,I.base.frzs,I.base.tbls⟩,⟨m,hn.sameBut hs (Ne.symm (cne x c hc)),fun j y v' e1 e2 e3=>?_⟩,fun y c' e=>?_,I.free,I.freeC,fun p hp=>?_,tracked ⟨oc,hoc,I.freeC x c hc⟩ hs,by simpa using I.len⟩ ⟨c,hs,.inr hc⟩
  ·exact (hs.2 b (Nat.ne_of_lt (Nat.lt_of_lt_of_le (Heap.lt_size e) (I.ok.cab x c hfn hc)))).trans (I.base.keep b o e n hb hx)
  ·obtain ⟨sl,e1⟩:=I.base.slot b o e n hb hx
   exact ⟨sl,(hs.2 b (Nat.ne_of_lt (Nat.lt_of_lt_of_le (Heap.lt_size e) (I.ok.cab x c hfn hc)))).trans e1⟩
  ·obtain ⟨o',e1⟩:=I.base.there b o e hx
   exact ⟨o',(hs.2 b (Nat.ne_of_lt (Nat.lt_of_lt_of_le (Heap.lt_size e) (I.ok.cab x c hfn hc)))).trans e1⟩
  ·by_cases hj:j=i
   ·subst hj
    rw [hi] at e1;cases e1
    rw [List.getElem?_set_self hiσ] at e2
    cases e2
    exact ⟨u,r,.inr ⟨.inl hk,c,hc,hc'⟩⟩
   ·rw [List.getElem?_set_ne (Ne.symm hj)] at e2
    obtain ⟨u',r',q⟩:=hl j y v' e1 e2 e3
    refine ⟨u',r',?_⟩
    rcases q with q | ⟨k,c',e,z'⟩
    ·exact .inl q
    ·refine .inr ⟨k,c',e,z'.sameBut hs ?_⟩
     rintro rfl
     exact hj (q5A hN e1 (I.ok.inj _ _ _ e hc▸hi))
  ·by_cases hcc:c'=c
   ·subst hcc;exact ⟨_,hc'⟩
   ·obtain ⟨w2,z2⟩:=I.cell y c' e
    exact ⟨w2,z2.sameBut hs hcc⟩
  ·obtain ⟨e,n,ne,nf,d⟩:=I.pin p hp
   refine ⟨(hs.2 p.1 ?_).trans e,n,ne,nf,d⟩
   intro q
   rw [q,hoc] at e
   have q':oc=p.2:=Option.some.inj e
   exact d w' (by rw [← q'];exact hocd)
theorem q28 {M:Model} {A:Around} {E:Value→Shared→Prop} {i:Nat} {x:Str} {v:V} {u:Value} {Q:Unit→Shared→Prop} (I:Inv X pins σ H s) (hN:X.N.Nodup) (hi:X.N[i]?=some x) (hx:Loc X.env.scope x) (r:RelV v u)
  (h:∀ s',Inv X pins (σ.set i (some v)) H s'→Q () s') (hf:X.fn x=true∨X.env.scope.names.lookup x=some .local:=by first | exact .inl rfl | exact .inr rfl | assumption):wpAny M A (storeName X.env x u) Q E s :=
 q5T I hN hi hx r (fun s' I' _=>h s' I') hf
theorem Inv.call' {s':Shared} {ch:List Addr} (I:Inv X pins σ H s) (ho:s'.os=s.os) (u:Un (frs X.stack) ch H H' s.heap s'.heap) (hok:HOk X.prog X.w H' s'.heap) (hg:AllBare s'.gens)
  (hch:∀ b∈ch,(b∈X.ex∨X.s₀.heap.objs.size≤b)∧b≠X.env.locals∧(∀ x c,X.env.cells.lookup x=some c→c≠b)∧∀ p∈X.pn++pins,p.1≠b):Inv X pins σ H' s':=by
 obtain ⟨h',g',d',t',o'⟩:=s'
 have e:o'=s.os:=ho
 subst e
 exact I.call (g':=g') (t':=t') (d':=d') u hok hg hch
end
noncomputable abbrev XK:=Value→Option Addr→Hp→Prop
noncomputable abbrev St:=List (Option V)
noncomputable abbrev VK:=V→Hp→Prop
noncomputable abbrev TE:=St→Hp→VK→Prop
noncomputable abbrev TT:=St→Hp→(Bool→Hp→Prop)→Prop
noncomputable abbrev TA:=St→Hp→(List V→Hp→Prop)→Prop
structure Ends where
 nx:St→Hp→Prop
 rt:VK
 bk:St→Hp→Prop:=fun _ _=>False
 ct:St→Hp→Prop:=fun _ _=>False
noncomputable abbrev TS:=Ends→St→Hp→Prop
noncomputable def EP (X:Cx) (pins:List (Addr×Obj)) (σ:St) (Q:VK) (u:Value) (s':Shared):Prop:=∃ v H',Inv X pins σ H' s'∧RelV v u∧Q v H'
noncomputable def TP (X:Cx) (pins:List (Addr×Obj)) (σ:St) (Q:Bool→Hp→Prop) (b:Bool) (s':Shared):Prop:=∃ H',Inv X pins σ H' s'∧Q b H'
noncomputable def AP (X:Cx) (pins:List (Addr×Obj)) (σ:St) (Q:List V→Hp→Prop) (us:List Value) (s':Shared):Prop:=∃ vs H',Inv X pins σ H' s'∧Vals vs us∧Q vs H'
noncomputable def SP (X:Cx) (pins:List (Addr×Obj)) (D:Ends) (f:Flow) (s':Shared):Prop :=
 match f with
 | .next=>∃ σ' H',Inv X pins σ' H' s'∧D.nx σ' H'
 | .brk=>∃ σ' H',Inv X pins σ' H' s'∧D.bk σ' H'
 | .cont=>∃ σ' H',Inv X pins σ' H' s'∧D.ct σ' H'
 | .ret u=>∃ v σ' H',Inv X pins σ' H' s'∧RelV v u∧D.rt v H'
noncomputable def PE (X:Cx) (e:Expr) (t:TE):Prop :=
 ∀ (pins:List (Addr×Obj)) (s:Shared) (σ:St) (H:Hp) (Q:VK),Inv X pins σ H s→t σ H Q→wpAny (model X.prog X.w) X.A (eval e X.env) (EP X pins σ Q) X.xe s
noncomputable def PT (X:Cx) (e:Expr) (t:TT):Prop :=
 ∀ (pins:List (Addr×Obj)) (s:Shared) (σ:St) (H:Hp) (Q:Bool→Hp→Prop),Inv X pins σ H s→t σ H Q→wpAny (model X.prog X.w) X.A (isTrue e X.env (eval e X.env)) (TP X pins σ Q) X.xe s
noncomputable def PW (X:Cx) (e:Expr) (t:TT):Prop :=
 ∀ (whole:Sem Value) (pins:List (Addr×Obj)) (s:Shared) (σ:St) (H:Hp) (Q:Bool→Hp→Prop),Inv X pins σ H s→t σ H Q→wpAny (model X.prog X.w) X.A (isTrue e X.env whole) (TP X pins σ Q) X.xe s
theorem PW.pt {X:Cx} {e:Expr} {t:TT} (h:PW X e t):PT X e t:=h _
noncomputable def PA (X:Cx) (es:List Expr) (t:TA):Prop :=
 ∀ (pos:Pos) (pins:List (Addr×Obj)) (s:Shared) (σ:St) (H:Hp) (Q:List V→Hp→Prop),Inv X pins σ H s→t σ H Q→wpAny (model X.prog X.w) X.A (spliced (backTo pos (starEach es X.env))) (AP X pins σ Q) X.xe s
noncomputable def PS (X:Cx) (st:Stmt) (t:TS):Prop :=
 ∀ (pins:List (Addr×Obj)) (s:Shared) (σ:St) (H:Hp) (D:Ends),Inv X pins σ H s→t D σ H→wpAny (model X.prog X.w) X.A (exec st X.env) (SP X pins D) X.xe s
noncomputable def PSs (X:Cx) (st:List Stmt) (t:TS):Prop :=
 ∀ (pins:List (Addr×Obj)) (s:Shared) (σ:St) (H:Hp) (D:Ends),Inv X pins σ H s→t D σ H→wpAny (model X.prog X.w) X.A (execs st X.env) (SP X pins D) X.xe s
theorem thn {α:Type} {t:Sem α} {Q Q':α→Shared→Prop} {M:Model} {A:Around} {E:Value→Shared→Prop} {s:Shared} (h:wpAny M A t Q E s) (hQ:∀ a s,Q a s→Q' a s):wpAny M A t Q' E s:=wpAny_mono h hQ fun _ _ x=>x
end L2
namespace L2
open PySem PySem.Spec PyProof.Rows
section
variable {X:Cx}
theorem bin {a b:Expr} {ta tb:TE} (ha:PE X a ta) (hb:PE X b tb) {pins:List (Addr×Obj)} {s:Shared} {σ:St} {H:Hp} {R:V→V→Hp→Prop} (I:Inv X pins σ H s) (h:ta σ H fun x H1=>tb σ H1 fun y H2=>R x y H2)
  {α:Type} {Q:α→Shared→Prop} {f:Value→Value→Sem α}
  (hf:∀ v u s2 x y H2,Inv X pins σ H2 s2→RelV x v→RelV y u→R x y H2→wpAny (model X.prog X.w) X.A (f v u) Q X.xe s2) :
  wpAny (model X.prog X.w) X.A (eval a X.env) (fun v s₁=>wpAny (model X.prog X.w) X.A (eval b X.env) (fun u s₂=>wpAny (model X.prog X.w) X.A (f v u) Q X.xe s₂) X.xe s₁) X.xe s:=by
 refine thn (ha pins s σ H _ I h) fun v s1 ⟨x,H1,I1,r1,q1⟩=>?_
 refine thn (hb pins s1 σ H1 _ I1 q1) fun u s2 ⟨y,H2,I2,r2,q2⟩=>?_
 exact hf v u s2 x y H2 I2 r1 r2 q2
noncomputable def tVar (i:Nat):TE:=fun σ H Q=>∃ v,σ[i]?=some (some v)∧Q v H
noncomputable def tC (v:V):TE:=fun _ H Q=>Q v H
theorem q2r {i:Nat} {x:Str} {pos:Pos} (hN:X.N[i]?=some x) (hv:Vis X.env.scope x) (hd:(x == ("__debug__" : Str))=false:=by decide) (hcd:(x == ("__classdict__" : Str))=false:=by decide):PE X (.Name x pos) (tVar i):=by
 intro pins s σ H Q I h
 obtain ⟨v,e,h⟩:=h
 obtain ⟨m,hn,hl⟩:=I.loc
 obtain ⟨u,r,l⟩:=hl i x v hN e hv
 have fin:EP X pins σ Q u s:=⟨v,H,I,r,h⟩
 rcases l with ⟨hk,hm⟩ | ⟨hk,c,hc,hcell⟩
 ·exact wpAny_Name (wpAny_loadName_local I.ok.kind hk hn hm fin) hd
 ·rcases hk with hk | hk
  ·exact wpAny_Name (wpAny_loadName_cell I.ok.kind hk hc hcell fin) hd
  ·exact wpAny_Name (wpAny_loadName_free I.ok.kind hk hc hcell fin hcd) hd
theorem qE {i j pos}:PE X (.Constant (.int i) j pos) (tC (.int i)):=fun _ _ _ H _ I h=>wpAny_Constant_int ⟨.int i,H,I.tok _,⟨_,rfl⟩,h⟩
theorem q5h {b j pos}:PE X (.Constant (.bool b) j pos) (tC (.bl b)):=fun _ _ _ H _ I h=>Constant_bool ⟨.bl b,H,I,rfl,h⟩
theorem qj {j pos}:PE X (.Constant .none j pos) (tC .non):=fun _ _ _ H _ I h=>Constant_none ⟨.non,H,I,rfl,h⟩
theorem qR {x j pos}:PE X (.Constant (.str x) j pos) (tC (.str x)):=fun _ _ _ H _ I h=>Calls.Constant_str ⟨.str x,H,I.tok _,⟨_,rfl⟩,h⟩
noncomputable def Gl (X:Cx) (x:Str):Prop:=X.env.kindOf x=some .globalImplicit
theorem q45 {E:Value→Shared→Prop} {pins:List (Addr×Obj)} {s:Shared} {σ:St} {H:Hp} {x:Str} {u:Value} {pos:Pos} {Q:Value→Shared→Prop} (I:Inv X pins σ H s) (hg:Gl X x) (hm:X.mg x=some u) (h:Q u s)
  (hd:(x == ("__debug__" : Str))=false:=by decide):wpAny (model X.prog X.w) X.A (eval (.Name x pos) X.env) Q E s :=
 Calls.Name_function_global I.ok.kind hg (Calls.loadGlobal_global (by rw [I.ok.glob];exact I.mod.glob.keeps I.bk) hm h) hd
theorem q3H {E:Value→Shared→Prop} {pins:List (Addr×Obj)} {s:Shared} {σ:St} {H:Hp} {x:Str} {u:Value} {pos:Pos} {Q:Value→Shared→Prop} (I:Inv X pins σ H s) (hg:Gl X x) (hm:X.mg x=none) (hv:bootBuiltins x=some u) (h:Q u s)
  (hn:x≠"__name__":=by decide) (hd:(x == ("__debug__" : Str))=false:=by decide):wpAny (model X.prog X.w) X.A (eval (.Name x pos) X.env) Q E s:=by
 obtain ⟨mb,h1,h2⟩:=I.mod.blt
 exact Calls.Name_function_global I.ok.kind hg (Calls.loadGlobal_builtin (by rw [I.ok.glob];exact I.mod.glob.keeps I.bk) hm (by rw [I.ok.blt];exact h1.keeps I.bk) ((h2 x hn).trans hv) h) hd
theorem q0c {x:Str} {v:V} {u:Value} {pos:Pos} (hg:Gl X x) (hm:X.mg x=some u) (r:RelV v u) (hd:(x == ("__debug__" : Str))=false:=by decide):PE X (.Name x pos) (tC v) :=
 fun _ _ _ H _ I h=>q45 I hg hm ⟨v,H,I,r,h⟩ hd
theorem q58 {x:Str} {v:V} {u:Value} {pos:Pos} (hg:Gl X x) (hm:X.mg x=none) (hv:bootBuiltins x=some u) (r:RelV v u) (hn:x≠"__name__":=by decide) (hd:(x == ("__debug__" : Str))=false:=by decide):PE X (.Name x pos) (tC v) :=
 fun _ _ _ H _ I h=>q3H I hg hm hv ⟨v,H,I,r,h⟩ hn hd
variable {a b:Expr} {ta tb:TE} {pos:Pos}
noncomputable def PC (X:Cx) (op:CmpOp) (a b:Expr) (t:TE):Prop :=
 ∀ (pins:List (Addr×Obj)) (s:Shared) (σ:St) (H:Hp) (Q:VK),Inv X pins σ H s→t σ H Q →
  wpAny (model X.prog X.w) X.A (eval a X.env) (fun v s₁=>wpAny (model X.prog X.w) X.A (eval b X.env) (fun u s₂=>wpAny (model X.prog X.w) X.A (compareOp op v u) (EP X pins σ Q) X.xe s₂) X.xe s₁) X.xe s
noncomputable def tB (t:TE):TT:=fun σ H Q=>t σ H fun x H1=>∃ c,x = .bl c∧Q c H1
theorem pt_cmp {op:CmpOp} {t:TE} (h:PC X op a b t) (h1:behindInMarks op b=false:=by first | exact nobehind _ (by decide) (by decide) | rfl):PT X (.Compare a [op] [b] pos) (tB t):=by
 intro pins s σ H Q I hw
 refine wpAny_isTrue_Compare1 (thn (h pins s σ H _ I hw) fun v s1 h1=>thn h1 fun u s2 h2=>thn h2 fun c s3 ⟨x,H1,I1,r1,q1⟩=>?_) h1
 obtain ⟨d,rfl,q⟩:=q1
 cases r1
 exact wpAny_truthy_bool ⟨H1,I1,q⟩
theorem q1o {e:Expr} {t:TE} (h:PE X e t) (he:∀ whole,isTrue e X.env whole=(do let v ← whole;standAt e.pos;holding [v] (truthy v)):=by intro _;rfl):PT X e (tB t):=by
 intro pins s σ H Q I hw
 refine isTrue_plain (thn (h pins s σ H _ I hw) fun v s1 ⟨x,H1,I1,r1,q1⟩=>?_) (he _)
 obtain ⟨d,rfl,q⟩:=q1
 cases r1
 exact wpAny_truthy_bool ⟨H1,I1,q⟩
variable {tA tB':TT} {rest:List Expr}
noncomputable def tAnd (t u:TT):TT:=fun σ H Q=>t σ H fun c H1=>if c=true then u σ H1 Q else Q false H1
noncomputable def tOr (t u:TT):TT:=fun σ H Q=>t σ H fun c H1=>if c=true then Q true H1 else u σ H1 Q
noncomputable def tNot (t:TT):TT:=fun σ H Q=>t σ H fun c H1=>Q (!c) H1
theorem q36 (ha:PT X a tA):PW X (.BoolOp .And [a] pos) tA:=by
 intro wh pins s σ H Q I h
 refine isTrue_and (thn (ha pins s σ H Q I h) fun c s1 e=>?_)
 cases c with
 | true=>exact isTrue_and_nil e
 | false=>exact e
theorem q21 (ha:PT X a tA):PW X (.BoolOp .Or [a] pos) tA:=by
 intro wh pins s σ H Q I h
 refine isTrue_or (thn (ha pins s σ H Q I h) fun c s1 e=>?_)
 cases c with
 | false=>exact isTrue_or_nil e
 | true=>exact e
theorem q4Y (ha:PT X a tA) (hb:PW X (.BoolOp .And (b::rest) pos) tB'):PW X (.BoolOp .And (a::b::rest) pos) (tAnd tA tB'):=by
 intro wh pins s σ H Q I h
 refine isTrue_and (thn (ha pins s σ H _ I h) fun c s1 ⟨H1,I1,q1⟩=>?_)
 cases c with
 | true=>exact hb wh pins s1 σ H1 Q I1 q1
 | false=>exact ⟨H1,I1,q1⟩
theorem q35 (ha:PT X a tA) (hb:PW X (.BoolOp .Or (b::rest) pos) tB'):PW X (.BoolOp .Or (a::b::rest) pos) (tOr tA tB'):=by
 intro wh pins s σ H Q I h
 refine isTrue_or (thn (ha pins s σ H _ I h) fun c s1 ⟨H1,I1,q1⟩=>?_)
 cases c with
 | true=>exact ⟨H1,I1,q1⟩
 | false=>exact hb wh pins s1 σ H1 Q I1 q1
theorem q0I (ha:PT X a tA):PT X (.UnaryOp .Not a pos) (tNot tA):=by
 intro pins s σ H Q I h
 exact isTrue_not (ha pins s σ H (fun c H1=>Q (!c) H1) I h)
noncomputable def tAndV (ta tb:TE):TE:=fun σ H Q=>ta σ H fun x H1=>∃ c,x = .bl c∧if c=true then tb σ H1 Q else Q (.bl false) H1
noncomputable def tOrV (ta tb:TE):TE:=fun σ H Q=>ta σ H fun x H1=>∃ c,x = .bl c∧if c=true then Q (.bl true) H1 else tb σ H1 Q
noncomputable def tNotV (ta:TE):TE:=fun σ H Q=>ta σ H fun x H1=>∃ c,x = .bl c∧Q (.bl (!c)) H1
theorem pe_one {op} {t:TE} (h:PE X a t):PE X (.BoolOp op [a] pos) t:=fun pins s σ H Q I hw=>BoolOp_one (h pins s σ H Q I hw)
theorem pe_and (ha:PE X a ta) (hb:PE X (.BoolOp .And (b::rest) pos) tb):PE X (.BoolOp .And (a::b::rest) pos) (tAndV ta tb):=by
 intro pins s σ H Q I h
 refine BoolOp_and (thn (ha pins s σ H _ I h) fun v s1 ⟨x,H1,I1,r1,q1⟩=>?_)
 obtain ⟨c,rfl,q1⟩:=q1
 cases r1
 refine wpAny_truthy_bool ?_
 cases c with
 | true=>exact hb pins s1 σ H1 Q I1 q1
 | false=>exact ⟨.bl false,H1,I1,rfl,q1⟩
theorem pe_or (ha:PE X a ta) (hb:PE X (.BoolOp .Or (b::rest) pos) tb):PE X (.BoolOp .Or (a::b::rest) pos) (tOrV ta tb):=by
 intro pins s σ H Q I h
 refine BoolOp_or (thn (ha pins s σ H _ I h) fun v s1 ⟨x,H1,I1,r1,q1⟩=>?_)
 obtain ⟨c,rfl,q1⟩:=q1
 cases r1
 refine wpAny_truthy_bool ?_
 cases c with
 | false=>exact hb pins s1 σ H1 Q I1 q1
 | true=>exact ⟨.bl true,H1,I1,rfl,q1⟩
theorem pe_not (ha:PE X a ta):PE X (.UnaryOp .Not a pos) (tNotV ta):=by
 intro pins s σ H Q I h
 refine UnaryOp_ (thn (ha pins s σ H _ I h) fun v s1 ⟨x,H1,I1,r1,q1⟩=>?_)
 obtain ⟨c,rfl,q1⟩:=q1
 cases r1
 exact not_of (wpAny_truthy_bool ⟨.bl (!c),H1,I1,rfl,q1⟩)
noncomputable def tIf (t:TT) (ta tb:TE):TE:=fun σ H Q=>t σ H fun c H1=>if c=true then ta σ H1 Q else tb σ H1 Q
theorem q6x {c:Expr} (hc:PT X c tA) (ha:PE X a ta) (hb:PE X b tb):PE X (.IfExp c a b pos) (tIf tA ta tb):=by
 intro pins s σ H Q I h
 refine wpAny_IfExp (thn (hc pins s σ H _ I h) fun d s1 ⟨H1,I1,q1⟩=>?_)
 cases d with
 | true=>exact ha pins s1 σ H1 Q I1 q1
 | false=>exact hb pins s1 σ H1 Q I1 q1
end
end L2
namespace L2
open PySem PySem.Spec PyProof.Rows
noncomputable def SqL (K:PySem.W.Frag) (H:Hp) (a:Addr) (xs:List V):Prop :=
 Rd H a (.lst xs) ∨
  ∃ (o:Obj) (its:Array Value) (n:Nat),K.lookup a=some o∧o.cls = .type "list"∧o.dict=none∧o.data = .seq its n∧its.size≤sizeLine∧Vals xs its.toList
noncomputable def SqT (K:PySem.W.Frag) (H:Hp) (a:Addr) (xs:List V):Prop :=
 Rd H a (.tup xs) ∨
  ∃ (o:Obj) (its:Array Value) (n:Nat),K.lookup a=some o∧o.cls = .type "tuple"∧o.data = .seq its n∧its.size≤sizeLine∧Vals xs its.toList
noncomputable def absV:Value→Option V
 | .none=>some .non
 | .bool b=>some (.bl b)
 | .int i _=>some (.int i)
 | .str x _=>some (.str x)
 | .bytes b _=>some (.byt b)
 | .float b _=>some (.flt b)
 | .ref a=>some (.ref a)
 | .type n=>some (.ty n)
 | _=>none
theorem RelV.abs {x:V} {u:Value} (r:RelV x u):absV u=some x:=by
 cases x with
 | non=>cases r;rfl
 | bl _=>cases r;rfl
 | int _=>obtain ⟨t,rfl⟩:=r;rfl
 | str _=>obtain ⟨t,rfl⟩:=r;rfl
 | byt _=>obtain ⟨t,rfl⟩:=r;rfl
 | flt _=>obtain ⟨t,rfl⟩:=r;rfl
 | ref _=>cases r;rfl
 | ty _=>cases r;rfl
theorem RelV.inj {x y:V} {u:Value} (r:RelV x u) (q:RelV y u):x=y:=Option.some.inj (r.abs.symm.trans q.abs)
theorem Vals.inj:∀ {xs ys:List V} {us:List Value},Vals xs us→Vals ys us→xs=ys
 | _,_,_,.nil,.nil=>rfl
 | _,_,_,.cons r t,.cons r' t'=>by rw [r.inj r',Vals.inj t t']
section
variable {X:Cx} {pins:List (Addr×Obj)} {σ:St} {H:Hp} {s:Shared} {a:Addr} {xs ys:List V}
theorem SqL.of {K:PySem.W.Frag} (h:H a=some (.lst xs)):SqL K H a xs:=.inl (.inl h)
theorem SqT.of {K:PySem.W.Frag} (h:H a=some (.tup xs)):SqT K H a xs:=.inl (.inl h)
theorem Inv.list (I:Inv X pins σ H s) (h:SqL X.K H a xs):∃ its:List Value,Vals xs its∧PlainL s.heap a its.toArray∧xs.length≤sizeLine:=by
 rcases h with h | ⟨o,its,n,hk,hc,hd,hs,hz,r⟩
 ·obtain ⟨z,its,n,r,e⟩:=h.ok I.hok
  exact ⟨its,r,⟨_,n,e,rfl,rfl,rfl⟩,z⟩
 ·refine ⟨its.toList,r,⟨o,n,I.kIn a o hk,hc,hd,by simpa using hs⟩,?_⟩
  have e:=r.length
  simp only [Array.length_toList] at e
  omega
theorem Inv.tuple (I:Inv X pins σ H s) (h:SqT X.K H a xs):∃ its:List Value,Vals xs its∧IsTup s.heap a its.toArray∧xs.length≤sizeLine:=by
 rcases h with h | ⟨o,its,n,hk,hc,hs,hz,r⟩
 ·obtain ⟨z,its,r,p⟩:=h.ok I.hok
  exact ⟨its,r,p,z⟩
 ·refine ⟨its.toList,r,⟨o,I.kIn a o hk,hc,n,by simpa using hs⟩,?_⟩
  have e:=r.length
  simp only [Array.length_toList] at e
  omega
theorem Inv.list_inj (I:Inv X pins σ H s) (h:SqL X.K H a xs) (h':SqL X.K H a ys):xs=ys:=by
 obtain ⟨its,r,⟨o,n,e,_,_,d⟩,_⟩:=I.list h
 obtain ⟨its',r',⟨o',n',e',_,_,d'⟩,_⟩:=I.list h'
 rw [e] at e';cases e'
 rw [d] at d'
 injection d' with d1 _
 have:its=its':=by simpa using congrArg Array.toList d1
 subst this
 exact r.inj r'
theorem Inv.tuple_inj (I:Inv X pins σ H s) (h:SqT X.K H a xs) (h':SqT X.K H a ys):xs=ys:=by
 obtain ⟨its,r,⟨o,e,_,n,d⟩,_⟩:=I.tuple h
 obtain ⟨its',r',⟨o',e',_,n',d'⟩,_⟩:=I.tuple h'
 rw [e] at e';cases e'
 rw [d] at d'
 injection d' with d1 _
 have:its=its':=by simpa using congrArg Array.toList d1
 subst this
 exact r.inj r'
end
noncomputable abbrev Cx.wish (X:Cx) (E:Value→Shared→Prop):Cx:={X with xe:=E}
noncomputable abbrev Cx.nox (X:Cx):Cx:=X.wish fun _ _=>False
theorem Cx.Ok.wish {X:Cx} (ok:X.Ok) (E:Value→Shared→Prop):(X.wish E).Ok :=
 ⟨ok.mod,ok.kind,ok.glob,ok.blt,ok.above,ok.inj,ok.has,ok.cab,ok.hd,ok.frames,ok.stk,ok.exf,ok.bs,ok.bsz,ok.noex,ok.exfs,ok.funs,ok.frf⟩
theorem Cx.Ok.unwish {X:Cx} {E:Value→Shared→Prop} (ok:(X.wish E).Ok):X.Ok :=
 ⟨ok.mod,ok.kind,ok.glob,ok.blt,ok.above,ok.inj,ok.has,ok.cab,ok.hd,ok.frames,ok.stk,ok.exf,ok.bs,ok.bsz,ok.noex,ok.exfs,ok.funs,ok.frf⟩
section
variable {X:Cx} {pins:List (Addr×Obj)} {σ:St} {H:Hp} {s:Shared} {E:Value→Shared→Prop}
theorem Inv.wish (I:Inv X pins σ H s) (E:Value→Shared→Prop):Inv (X.wish E) pins σ H s:=⟨I.ok.wish E,I.os,I.bare,I.base,I.loc,I.cell,I.free,I.freeC,I.pin,I.hok,I.len⟩
theorem Inv.unwish (I:Inv (X.wish E) pins σ H s):Inv X pins σ H s:=⟨I.ok.unwish,I.os,I.bare,I.base,I.loc,I.cell,I.free,I.freeC,I.pin,I.hok,I.len⟩
theorem SP.unwish {D:Ends} {f:Flow} {s':Shared} (h:SP (X.wish E) pins D f s'):SP X pins D f s':=by
 cases f with
 | next=>obtain ⟨σ',H',I,q⟩:=h;exact ⟨σ',H',I.unwish,q⟩
 | brk=>obtain ⟨σ',H',I,q⟩:=h;exact ⟨σ',H',I.unwish,q⟩
 | cont=>obtain ⟨σ',H',I,q⟩:=h;exact ⟨σ',H',I.unwish,q⟩
 | ret u=>obtain ⟨v,σ',H',I,r,q⟩:=h;exact ⟨v,σ',H',I.unwish,r,q⟩
theorem PSs.nox {st:List Stmt} {t:TS} (h:PSs X.nox st t):PSs X st t:=fun pins s σ H D I hw =>
 wpAny_mono (h pins s σ H D (I.wish _) hw) (fun _ _ q=>q.unwish) fun _ _ z=>False.elim z
end
section
variable {X:Cx} {st:Stmt} {rest:List Stmt} {t u:TS} {e:Expr} {te:TE} {pos:Pos}
noncomputable def tNext:TS:=fun D σ H=>D.nx σ H
noncomputable def tSeq (t u:TS):TS:=fun D σ H=>t {D with nx:=u D} σ H
theorem qP:PSs X [] tNext:=fun _ _ σ H _ I h=>wpAny_execs_nil ⟨σ,H,I,h⟩
theorem qB (h1:PS X st t) (h2:PSs X rest u):PSs X (st::rest) (tSeq t u):=by
 intro pins s σ H D I h
 refine wpAny_execs_cons (thn (h1 pins s σ H {D with nx:=u D} I h) fun f s1 q=>?_)
 cases f with
 | next =>
  obtain ⟨σ',H',I',q⟩:=q
  exact h2 pins s1 σ' H' D I' q
 | ret v=>exact q
 | brk=>exact q
 | cont=>exact q
theorem qD (h1:PS X st t):PSs X [st] t:=by
 intro pins s σ H D I h
 refine wpAny_execs_cons (thn (h1 pins s σ H D I h) fun f s1 q=>?_)
 cases f with
 | next=>exact wpAny_execs_nil q
 | ret v=>exact q
 | brk=>exact q
 | cont=>exact q
theorem Inv.quiet {pins:List (Addr×Obj)} {σ:St} {H:Hp} {s:Shared} (I:Inv X pins σ H s):interactive X.env=false:=by simp [interactive,I.ok.kind]
noncomputable def tDrop (te:TE):TS:=fun D σ H=>te σ H fun _ H1=>D.nx σ H1
theorem qo (he:PE X e te) (hs:swapsWith e none pos.line X.env=pure false:=by rfl):PS X (.Expr e pos) (tDrop te):=by
 intro pins s σ H D I h
 exact wpAny_Expr_any (thn (he pins s σ H _ I h) fun v s1 ⟨x,H1,I1,r1,q1⟩=>⟨σ,H1,I1,q1⟩) I.quiet hs
noncomputable def tRet (te:TE):TS:=fun D σ H=>te σ H D.rt
theorem qL (he:PE X e te):PS X (.Return (some e) pos) (tRet te):=by
 intro pins s σ H D I h
 exact wpAny_Return_some (thn (he pins s σ H _ I h) fun v s1 ⟨x,H1,I1,r1,q1⟩=>⟨x,σ,H1,I1,r1,q1⟩)
noncomputable def tIfS (c:TT) (t u:TS):TS:=fun D σ H=>c σ H fun b H1=>if b=true then t D σ H1 else u D σ H1
theorem qZ {c:Expr} {a b:List Stmt} {tc:TT} (hc:PT X c tc) (ha:PSs X a t) (hb:PSs X b u):PS X (.If c a b pos) (tIfS tc t u):=by
 intro pins s σ H D I h
 refine wpAny_If (thn (hc pins s σ H _ I h) fun d s1 ⟨H1,I1,q1⟩=>?_)
 cases d with
 | true=>exact ha pins s1 σ H1 D I1 q1
 | false=>exact hb pins s1 σ H1 D I1 q1
noncomputable def tNever:TS:=fun _ _ _=>False
theorem q0G:PS X st tNever:=fun _ _ _ _ _ _ h=>h.elim
theorem q0L {sts:List Stmt}:PSs X sts tNever:=fun _ _ _ _ _ _ h=>h.elim
end
noncomputable abbrev TG:=V→St→Hp→(St→Hp→Prop)→Prop
noncomputable abbrev TGs:=List V→St→Hp→(St→Hp→Prop)→Prop
noncomputable def PG (X:Cx) (target:Expr) (t:TG):Prop :=
 ∀ (pins:List (Addr×Obj)) (s:Shared) (σ:St) (H:Hp) (v:V) (u:Value) (Q:St→Hp→Prop),Inv X pins σ H s→RelV v u→t v σ H Q →
  wpAny (model X.prog X.w) X.A (assign target X.env u) (fun _ s'=>∃ σ' H',Inv X pins σ' H' s'∧Q σ' H') X.xe s
noncomputable def PGs (X:Cx) (ts:List Expr) (t:TGs):Prop :=
 ∀ (pins:List (Addr×Obj)) (s:Shared) (σ:St) (H:Hp) (vs:List V) (us:List Value) (Q:St→Hp→Prop),Inv X pins σ H s→Vals vs us→t vs σ H Q →
  wpAny (model X.prog X.w) X.A (assignInOrder ((assignEach ts X.env).map (·.2)) us) (fun _ s'=>∃ σ' H',Inv X pins σ' H' s'∧Q σ' H') X.xe s
noncomputable abbrev TSet:=V→V→V→Hp→(Hp→Prop)→Prop
noncomputable def PSet (X:Cx) (t:TSet):Prop :=
 ∀ (pins:List (Addr×Obj)) (s:Shared) (σ:St) (H:Hp) (o i v:V) (ov iv u:Value) (Q:Hp→Prop),Inv X pins σ H s→RelV o ov→RelV i iv→RelV v u→t o i v H Q →
  wpAny (model X.prog X.w) X.A (setItem ov iv u) (fun _ s'=>∃ H',Inv X pins σ H' s'∧Q H') X.xe s
noncomputable abbrev TIp:=V→V→Hp→VK→Prop
noncomputable def PIp (X:Cx) (op:Operator) (t:TIp):Prop :=
 ∀ (pins:List (Addr×Obj)) (s:Shared) (σ:St) (H:Hp) (x y:V) (v u:Value) (Q:VK),Inv X pins σ H s→RelV x v→RelV y u→t x y H Q →
  wpAny (model X.prog X.w) X.A (inplaceOp op v u) (EP X pins σ Q) X.xe s
section
variable {X:Cx} {pos:Pos}
noncomputable def q7m (i:Nat):TG:=fun v σ H Q=>Q (σ.set i (some v)) H
theorem qi {i:Nat} {x:Str} (hN:X.N.Nodup) (hi:X.N[i]?=some x) (hx:Loc X.env.scope x) (hf:X.fn x=true∨X.env.scope.names.lookup x=some .local:=by first | exact .inl rfl | exact .inr rfl | assumption):PG X (.Name x pos) (q7m i):=by
 intro pins s σ H v u Q I r h
 exact wpAny_assign_Name (q28 I hN hi hx r (fun s' I'=>⟨_,H,I',h⟩) hf)
noncomputable def gNil:TGs:=fun vs σ H Q=>vs=[]∧Q σ H
noncomputable def gCons (t:TG) (u:TGs):TGs:=fun vs σ H Q=>∃ v r,vs=v::r∧t v σ H fun σ' H'=>u r σ' H' Q
theorem pgs_nil:PGs X [] gNil:=by
 intro pins s σ H vs us Q I r h
 obtain ⟨e,h⟩:=h
 subst e
 cases r
 exact assignInOrder_nil ⟨σ,H,I,h⟩
theorem q3a {e:Expr} {es:List Expr} {t:TG} {u:TGs} (h1:PG X e t) (h2:PGs X es u)
  (hs:(assignEach (e::es) X.env).map (·.2)=assign e X.env::(assignEach es X.env).map (·.2):=by rfl):PGs X (e::es) (gCons t u):=by
 intro pins s σ H vs us Q I r h
 obtain ⟨v,vr,e1,h⟩:=h
 subst e1
 cases r with
 | cons r rr =>
  rw [hs]
  refine assignInOrder_cons (thn (h1 pins s σ H _ _ _ I r h) fun _ s1 ⟨σ1,H1,I1,q1⟩=>?_)
  exact h2 pins s1 σ1 H1 _ _ Q I1 rr q1
noncomputable def gTup (K:PySem.W.Frag) (n:Nat) (t:TGs):TG:=fun v σ H Q=>∃ a xs,v = .ref a∧SqT K H a xs∧xs.length=n∧t xs σ H Q
theorem pg_tup {es:List Expr} {k:Nat} {t:TGs} {n:Nat} (hc:X.calm=true) (h:PGs X es t)
  (hn:(assignEach es X.env).length=n:=by rfl) (hst:(assignEach es X.env).findIdx? (·.1)=none:=by rfl):PG X (.Tuple es k pos) (gTup X.K n t):=by
 intro pins s σ H v u Q I r hw
 obtain ⟨a,xs,e1,hq,hl,hw⟩:=hw
 subst e1
 cases r
 obtain ⟨its,rv,ht,hz⟩:=I.tuple hq
 refine assign_Tuple_tuple (I.ok.hd hc) ht (by simp [hn,← hl,rv.length]) hst fun h' hx=>?_
 have I1:Inv X pins σ H {s with heap:=h'}:=I.kept (t':=s.toks) fun b o e=>hx b o (Nat.ne_of_lt (Heap.lt_size e)) e
 exact h pins _ σ H xs _ Q I1 (by simpa using rv) hw
noncomputable def gSub (to ti:TE) (t:TSet):TG:=fun v σ H Q=>to σ H fun o H1=>ti σ H1 fun i H2=>t o i v H2 fun H3=>Q σ H3
theorem pg_sub {o i:Expr} {to ti:TE} {t:TSet} (ho:PE X o to) (hi:PE X i ti) (hs:PSet X t)
  (ha:∀ v,assign (.Subscript o i pos) X.env v=(do
   let ov ← holding [v] (eval o X.env)
   let iv ← holding [v,ov] (eval i X.env)
   standAt pos
   holding [v,ov,iv] (setItem ov iv v)
   release [v,ov,iv] []):=by intro _;rfl):PG X (.Subscript o i pos) (gSub to ti t):=by
 intro pins s σ H v u Q I r h
 rw [ha]
 refine wpAny_bind (wpAny_holding (thn (ho pins s σ H _ I h) fun ov s1 ⟨x,H1,I1,r1,q1⟩=>?_))
 refine wpAny_bind (wpAny_holding (thn (hi pins s1 σ H1 _ I1 q1) fun iv s2 ⟨y,H2,I2,r2,q2⟩=>?_))
 refine wpAny_bind (wpAny_standAt (wpAny_bind (wpAny_holding (thn (hs pins s2 σ H2 x y v ov iv u _ I2 r1 r2 r q2) fun _ s3 ⟨H3,I3,q3⟩=>?_))))
 exact wpAny_release ⟨σ,H3,I3,q3⟩
noncomputable def tAsg (te:TE) (g:TG):TS:=fun D σ H=>te σ H fun x H1=>g x σ H1 D.nx
theorem ps_asg {tg e:Expr} {te:TE} {g:TG} (he:PE X e te) (hg:PG X tg g) (hs:swapsWithSole [tg] e pos.line X.env=pure false:=by rfl) (hw:swappedStores [tg] e X.env=pure none:=by rfl)
  (h1:(assignEach [tg] X.env).map (·.2)=[assign tg X.env]:=by rfl):PS X (.Assign [tg] e pos) (tAsg te g):=by
 intro pins s σ H D I h
 refine wpAny_Assign_stores (thn (he pins s σ H _ I h) fun v s1 ⟨x,H1,I1,r1,q1⟩=>?_) hs hw
 rw [h1]
 exact thn (hg pins s1 σ H1 x v _ I1 r1 q1) fun _ s2 q=>q
theorem qQ {i:Nat} {x:Str} {e:Expr} {te:TE} {pos':Pos} (hN:X.N.Nodup) (hi:X.N[i]?=some x) (hx:Loc X.env.scope x) (he:PE X e te) (hs:swapsWith e (some (.Name x pos')) pos.line X.env=pure false:=by rfl) (hf:X.fn x=true∨X.env.scope.names.lookup x=some .local:=by first | exact .inl rfl | exact .inr rfl | assumption) :
  PS X (.Assign [.Name x pos'] e pos) (tAsg te (q7m i)):=by
 intro pins s σ H D I h
 refine wpAny_Assign_Name (thn (he pins s σ H _ I h) fun v s1 ⟨y,H1,I1,r1,q1⟩=>?_) hs
 exact q28 I1 hN hi hx r1 (fun s2 I2=>⟨_,H1,I2,q1⟩) hf
noncomputable def tPar (i j:Nat) (ta:TA):TS:=fun D σ H=>ta σ H fun vs H1=>∃ v w,vs=[v,w]∧D.nx ((σ.set i (some v)).set j (some w)) H1
theorem ps_par {i j:Nat} {x y:Str} {a b:Expr} {ta:TA} {px py pt:Pos} {kt k2 pt2} (hc:X.calm=true) (hN:X.N.Nodup) (hi:X.N[i]?=some x) (hj:X.N[j]?=some y) (hij:i≠j)
  (hx:X.env.scope.names.lookup x=some .local) (hy:X.env.scope.names.lookup y=some .local) (ha:PA X [a,b] ta)
  (hw:swappedStores [.Tuple [.Name x px,.Name y py] kt pt] (.Tuple [a,b] k2 pt2) X.env=pure (some [x,y]))
  (hs:swapsWithSole [.Tuple [.Name x px,.Name y py] kt pt] (.Tuple [a,b] k2 pt2) pos.line X.env=pure false:=by rfl) :
  PS X (.Assign [.Tuple [.Name x px,.Name y py] kt pt] (.Tuple [a,b] k2 pt2) pos) (tPar i j ta):=by
 intro pins s σ H D I h
 rw [exec_Assign_arm]
 refine wpAny_bind (wpAny_standAt ?_)
 rw [hs]
 refine wpAny_bind (wpAny_pure ?_)
 rw [if_neg (by decide)]
 refine wpAny_bind (Tuple_ (thn (ha _ pins s σ H _ I h) fun us s1 ⟨vs,H1,I1,r1,q1⟩=>?_))
 obtain ⟨v,w,e1,q1⟩:=q1
 subst e1
 obtain ⟨u1,u2,rfl,rv,rw'⟩:∃ u1 u2,us=[u1,u2]∧RelV v u1∧RelV w u2:=by
  cases r1 with
  | cons p q =>
   cases q with
   | cons p' q' =>
    cases q'
    exact ⟨_,_,rfl,p,p'⟩
 refine wpAny_newObj_type ?_ (by show 2≤sizeLine;decide)
 have I2:Inv X pins σ H1 {s1 with heap:=s1.heap.push {cls:=.type "tuple",data:=.seq [u1,u2].toArray}}:=I1.kept (t':=s1.toks) fun b o e=>Heap.get?_push_of_some _ e
 rw [hw]
 refine wpAny_bind (wpAny_pure ?_)
 show wpAny (model X.prog X.w) X.A (do rule "assign.swapped-stores";let items ← unpackItems (.ref s1.heap.objs.size) 2 none;assignInOrder [fun v=>bindName X.env y v,fun v=>bindName X.env x v] items.reverse;pure Flow.next) _ _ _
 refine wpAny_bind (wpAny_rule (wpAny_bind (unpackItems_tuple (items:=#[u1,u2]) (I.ok.hd hc) (IsTup.new s1.heap _) fun h' hx'=>?_)))
 have I3:=I2.kept (h':=h') (t':=s1.toks) fun b o e=>hx' b o (Nat.ne_of_lt (Heap.lt_size e)) e
 show wpAny _ _ (assignInOrder [fun v=>bindName X.env y v,fun v=>bindName X.env x v] [u2,u1] >>= fun _=>pure Flow.next) _ _ _
 refine wpAny_bind (assignInOrder_cons (wpAny_bindName (q28 I3 hN hj (.inl hy) rw' (fun s2 I4=>?_) (.inr hy))))
 refine assignInOrder_cons (wpAny_bindName (q28 I4 hN hi (.inl hx) rv (fun s3 I5=>assignInOrder_nil (wpAny_pure ?_)) (.inr hx)))
 rw [List.set_comm _ _ (Ne.symm hij)] at I5
 exact ⟨_,H1,I5,q1⟩
noncomputable def tAug (i:Nat) (te:TE) (ti:TIp):TS:=fun D σ H=>∃ x,σ[i]?=some (some x)∧te σ H fun y H1=>ti x y H1 fun z H2=>D.nx (σ.set i (some z)) H2
theorem q3u {i:Nat} {x:Str} {e:Expr} {te:TE} {op:Operator} {ti:TIp} {pos':Pos} (hN:X.N.Nodup) (hi:X.N[i]?=some x) (hx:Loc X.env.scope x) (he:PE X e te) (ho:PIp X op ti) (hf:X.fn x=true∨X.env.scope.names.lookup x=some .local:=by first | exact .inl rfl | exact .inr rfl | assumption) :
  PS X (.AugAssign (.Name x pos') op e pos) (tAug i te ti):=by
 intro pins s σ H D I h
 obtain ⟨v,e1,h⟩:=h
 obtain ⟨m,hn,hl⟩:=I.loc
 have vis:Vis X.env.scope x:=by rcases hx with k | k;exact .inl k;exact .inr (.inl k)
 obtain ⟨u,r,l⟩:=hl i x v hi e1 vis
 refine wpAny_AugAssign_Name ?_
 have go:wpAny (model X.prog X.w) X.A (eval e X.env) (fun w s₂=>wpAny (model X.prog X.w) X.A (inplaceOp op u w) (fun r s₃=>wpAny (model X.prog X.w) X.A (storeName X.env x r) (fun _=>SP X pins D .next) X.xe s₃) X.xe s₂) X.xe s:=by
  refine thn (he pins s σ H _ I h) fun w s1 ⟨y,H1,I1,r1,q1⟩=>?_
  refine thn (ho pins s1 σ H1 v y u w _ I1 r r1 q1) fun z s2 ⟨zv,H2,I2,r2,q2⟩=>?_
  exact q28 I2 hN hi hx r2 (fun s3 I3=>⟨_,H2,I3,q2⟩) hf
 rcases l with ⟨hk,hm⟩ | ⟨hk,c,hc,hcell⟩
 ·exact wpAny_loadName_local I.ok.kind hk hn hm go
 ·rcases hk with hk | hk
  ·exact wpAny_loadName_cell I.ok.kind hk hc hcell go
  ·rcases hx with k | k
   ·have:X.env.scope.names.lookup x=some .free:=hk
    rw [k] at this;cases this
   ·have:X.env.scope.names.lookup x=some .free:=hk
    rw [k] at this;cases this
noncomputable def ipI (f:Int→Int→Int):TIp:=fun x y H Q=>∃ i j,x = .int i∧y = .int j∧Q (.int (f i j)) H
theorem q4e:PIp X .Add (ipI fun i j=>i+j):=by
 intro pins s σ H x y v u Q I r1 r2 h
 obtain ⟨i,j,e1,e2,q⟩:=h
 subst e1;subst e2
 obtain ⟨t,rfl⟩:=r1
 obtain ⟨t',rfl⟩:=r2
 exact iadd_int ⟨.int _,H,I.tok _,⟨_,rfl⟩,q⟩
theorem ip_sub:PIp X .Sub (ipI fun i j=>i-j):=by
 intro pins s σ H x y v u Q I r1 r2 h
 obtain ⟨i,j,e1,e2,q⟩:=h
 subst e1;subst e2
 obtain ⟨t,rfl⟩:=r1
 obtain ⟨t',rfl⟩:=r2
 exact isub_int ⟨.int _,H,I.tok _,⟨_,rfl⟩,q⟩
end
section
variable {X:Cx} {pos:Pos}
noncomputable def tWhile (c:TT) (tb:TS):TS:=fun D σ H=>∃ W:Nat→St→Hp→Prop,(∃ m,W m σ H)∧∀ m σ H,W m σ H →
 c σ H fun b H1=>if b=true then ∃ N:St→Hp→Prop,(∀ σ' H',N σ' H'→∃ m',m' < m∧W m' σ' H')∧tb {D with nx:=N,ct:=N,bk:=D.nx} σ H1 else D.nx σ H1
theorem q57 {c:Expr} {body:List Stmt} {tc:TT} {tb:TS} (hp:PassesOwn (model X.prog X.w) X.A X.env X.xe) (hc:PT X c tc) (hb:PSs X body tb):PS X (.While c body [] pos) (tWhile tc tb):=by
 intro pins s σ H D I h
 obtain ⟨W,⟨m0,w0⟩,turn⟩:=h
 refine wpAny_While (codeAny_whileLoop (fun n s'=>∃ σ' H',Inv X pins σ' H' s'∧W n σ' H') ?_ m0 ⟨σ,H,I,w0⟩)
 rintro n s1 ⟨σ1,H1,I1,w1⟩
 refine wpAny_passesOwn hp (thn (hc pins s1 σ1 H1 _ I1 (turn n σ1 H1 w1)) fun b s2 ⟨H2,I2,q2⟩=>?_)
 cases b with
 | true =>
  obtain ⟨N,hN,q2⟩:=q2
  rw [if_pos rfl]
  refine wpAny_passesOwn hp (thn (hb pins s2 σ1 H2 _ I2 q2) fun f s3 q3=>?_)
  cases f with
  | next =>
   obtain ⟨σ3,H3,I3,n3⟩:=q3
   obtain ⟨m',hm,w3⟩:=hN σ3 H3 n3
   exact ⟨m',hm,σ3,H3,I3,w3⟩
  | cont =>
   obtain ⟨σ3,H3,I3,n3⟩:=q3
   obtain ⟨m',hm,w3⟩:=hN σ3 H3 n3
   exact ⟨m',hm,σ3,H3,I3,w3⟩
  | brk=>exact q3
  | ret v=>exact q3
 | false =>
  rw [if_neg Bool.false_ne_true]
  exact wpAny_execs_nil ⟨σ1,H2,I2,q2⟩
end
structure It where
 go:Nat→Hp→Prop
 yld:Nat→Hp→V→Hp→Prop
 stop:Nat→Hp→Prop
noncomputable def FpOk (X:Cx) (pins:List (Addr×Obj)) (H:Hp) (b:Addr):Prop :=
 H b=none∧b≠X.env.locals∧b∉X.fs∧(b∈X.ex∨X.s₀.heap.objs.size≤b)∧(∀ x c,X.env.cells.lookup x=some c→c≠b)∧∀ p∈X.pn++pins,p.1≠b
theorem Inv.fpOk {X:Cx} {pins:List (Addr×Obj)} {σ:St} {H H':Hp} {s:Shared} {b:Addr} (I:Inv X pins σ H s) (hb:s.heap.objs.size≤b) (hn:H' b=none):FpOk X pins H' b:=by
 refine ⟨hn,Nat.ne_of_gt (Nat.lt_of_lt_of_le I.lt hb),I.nofs hb,.inr (Nat.le_trans I.sz hb),fun x c e z=>?_,fun p hp z=>?_⟩
 ·obtain ⟨v,q⟩:=I.cell x c e
  exact absurd (Nat.lt_of_lt_of_le q.lt (by rw [z];exact hb)) (Nat.lt_irrefl _)
 ·exact absurd (Nat.lt_of_lt_of_le (Heap.lt_size (I.pin p hp).1) (by rw [z];exact hb)) (Nat.lt_irrefl _)
structure Turn (P:Program) (w:World) (K:PySem.W.Frag) (tg:Expr) (J:It) (fp:List Addr) (it:Addr) (tn:Nat→Heap→Prop):Prop where
 mem:it∈fp
 obj:∀ i h,tn i h→∀ b∈fp,∃ o,h.get? b=some o∧∀ v,o.data≠.cell v
 keep:∀ i h h',tn i h→(∀ b∈fp,∀ o,h.get? b=some o→h'.get? b=some o)→tn i h'
 item:∀ (X:Cx),X.prog=P→X.w=w→X.K=K→X.calm=true→∀ (i:Nat) (pins:List (Addr×Obj)) (s:Shared) (σ:St) (H:Hp) (E:Value→Shared→Prop),Inv X pins σ H s→(∀ b∈fp,FpOk X pins H b)→tn i s.heap→J.go i H →
  wpAny (model P w) X.A (pyNext (.ref it)) (fun r s1=>∃ u,r=some u ∧
   wpAny (model P w) X.A (letOwnedTupleGo tg (.ref it) u) (fun _ s2=>∃ x H',Inv X pins σ H' s2∧RelV x u∧J.yld i H x H'∧tn (i+1) s2.heap∧∀ b∈fp,H' b=none) E s1) E s
 done:∀ (X:Cx),X.prog=P→X.w=w→X.K=K→X.calm=true→∀ (i:Nat) (pins:List (Addr×Obj)) (s:Shared) (σ:St) (H:Hp) (E:Value→Shared→Prop),Inv X pins σ H s→(∀ b∈fp,FpOk X pins H b)→tn i s.heap→J.stop i H →
  wpAny (model P w) X.A (pyNext (.ref it)) (fun r s1=>r=none∧Inv X pins σ H s1) E s
 self:∀ (A:Around) (i:Nat) (s:Shared) (Q:Value→Shared→Prop) (E:Value→Shared→Prop),tn i s.heap→Q (.ref it) s→wpAny (model P w) A (pyIter (.ref it)) Q E s
noncomputable abbrev TI:=St→Hp→(It→Hp→Prop)→Prop
noncomputable def PIE (X:Cx) (pins:List (Addr×Obj)) (σ:St) (tg:Expr) (R:It→Hp→Prop) (itv:Value) (s2:Shared):Prop :=
 ∃ (it:Addr) (fp:List Addr) (tn:Nat→Heap→Prop) (J:It) (H':Hp),itv = .ref it∧Inv X pins σ H' s2∧Turn X.prog X.w X.K tg J fp it tn∧tn 0 s2.heap∧(∀ b∈fp,FpOk X pins H' b)∧R J H'
noncomputable def PI (X:Cx) (tg iter:Expr) (wi:TI):Prop :=
 ∀ (pins:List (Addr×Obj)) (s:Shared) (σ:St) (H:Hp) (R:It→Hp→Prop),Inv X pins σ H s→wi σ H R →
  wpAny (model X.prog X.w) X.A (eval iter X.env) (fun v s1=>wpAny (model X.prog X.w) X.A (pyIter v) (PIE X pins σ tg R) X.xe s1) X.xe s
theorem q7i {M:Model} {A:Around} {E:Value→Shared→Prop} {s:Shared} {tg:Expr} {it:Addr} {u:Value} {o:Obj} {n:String} {vs:Array Value} {Q:Unit→Shared→Prop} (ho:s.heap.get? it=some o) (hc:o.cls = .type n) (hd:o.data = .fields vs)
  (hn:["enumerate","zip","dict_itemiterator","dict_reverseitemiterator","odict_iterator","itertools.zip_longest","itertools.pairwise"].contains n=false) (hQ:Q () s):wpAny M A (letOwnedTupleGo tg (.ref it) u) Q E s:=by
 unfold letOwnedTupleGo
 cases tg <;> first
  | exact wpAny_pure hQ
  | (cases u <;> first
    | exact wpAny_pure hQ
    | (refine wpAny_bind (wpAny_load ho ?_)
       rw [hc,hd]
       show wpAny M A (if (["enumerate","zip","dict_itemiterator","dict_reverseitemiterator","odict_iterator","itertools.zip_longest","itertools.pairwise"].contains n && vs[0]? == some (rawInt _))=true then _ else _) Q E s
       rw [if_neg (by intro h;rw [hn,Bool.false_and] at h;cases h)]
       exact wpAny_pure hQ))
noncomputable def Itl (K:PySem.W.Frag) (a:Addr):It :=
 ⟨fun i H=>∃ xs x,SqL K H a xs∧xs[i]?=some x,fun i H x H'=>H'=H∧∀ xs,SqL K H a xs→xs[i]?=some x,fun i H=>∃ xs,SqL K H a xs∧xs.length≤i⟩
noncomputable def Itr (lo:Int) (n:Nat):It:=⟨fun i _=>i < n,fun i H x H'=>H'=H∧x = .int (lo+i),fun i _=>n≤i⟩
theorem turn_list {P:Program} {w:World} {K:PySem.W.Frag} {tg:Expr} (a it:Addr):Turn P w K tg (Itl K a) [it] it (fun i h=>h.IsListIter it a i) where
 mem:=by simp
 obj:=fun i h st b hb=>by
  have e:b=it:=by simpa using hb
  subst e
  obtain ⟨o,e,c,d⟩:=st
  exact ⟨o,e,fun v z=>by rw [d] at z;cases z⟩
 keep:=fun i h h' st k=>st.at fun o e=>k it (by simp) o e
 item:=by
  intro X hP hw hK hc i pins s σ H E I hf st hg
  subst hP hw hK
  obtain ⟨xs,x,hq,hx⟩:=hg
  obtain ⟨its,rv,p,hz⟩:=I.list hq
  obtain ⟨u,hu,ru⟩:=rv.get hx
  obtain ⟨f0,f1,f2,f3,f4,f5⟩:=hf it (by simp)
  refine wpAny_pyNext_list_item st p.isList (x:=u) (by simpa using hu) fun h' st' sb=>?_
  have I1:Inv X pins σ H {s with heap:=h'}:=I.turned (t':=s.toks) (fun b o hb e=>(sb.2 b hb).trans e) f0 f1 f3 f4 f5
  obtain ⟨o,e,c,d⟩:=id st'
  exact ⟨u,rfl,q7i (s:={s with heap:=h'}) e c d (by decide) ⟨x,H,I1,ru,⟨rfl,fun ys hy=>by rw [I.list_inj hy hq];exact hx⟩,st',fun b hb=>(hf b hb).1⟩⟩
 done:=by
  intro X hP hw hK hc i pins s σ H E I hf st hg
  subst hP hw hK
  obtain ⟨xs,hq,hx⟩:=hg
  obtain ⟨its,rv,p,hz⟩:=I.list hq
  obtain ⟨f0,f1,f2,f3,f4,f5⟩:=hf it (by simp)
  have hl:=rv.length
  exact wpAny_pyNext_list_end (I.ok.hd hc) st p.isList (by simp;omega) fun h' eb=>⟨rfl,I.turned (t':=s.toks) (fun b o hb e=>eb b o hb e) f0 f1 f3 f4 f5⟩
 self:=fun _ _ _ _ _ st h=>wpAny_pyIter_listiter st h
theorem q7G {P:Program} {w:World} {K:PySem.W.Frag} {tg:Expr} (it:Addr) (lo:Int) (n:Nat):Turn P w K tg (Itr lo n) [it] it (fun i h=>IsRangeIter h it (lo+(i:Nat)*1) ((n:Int)-(i:Nat)) 1) where
 mem:=by simp
 obj:=fun i h st b hb=>by
  have e:b=it:=by simpa using hb
  subst e
  exact ⟨_,st,fun v z=>by
   have z':Data.fields _=Data.cell v:=z
   cases z'⟩
 keep:=fun i h h' st k=>k it (by simp) _ st
 item:=by
  intro X hP hw hK hc i pins s σ H E I hf st hg
  subst hP hw hK
  obtain ⟨f0,f1,f2,f3,f4,f5⟩:=hf it (by simp)
  have W:=Walks.range (prog:=X.prog) (w:=X.w) (I.ok.hd hc) it lo 1 n
  refine W.item i s _ _ hg st fun v h' tk hv st' kk=>?_
  obtain ⟨t,rfl⟩:=hv
  have I1:Inv X pins σ H {s with heap:=h',toks:=tk}:=I.turned (fun b o hb e=>kk b o (by simpa using hb) e) f0 f1 f3 f4 f5
  refine ⟨_,rfl,q7i (s:={s with heap:=h',toks:=tk}) (n:="range_iterator") st' rfl rfl (by decide) ⟨.int (lo+i),H,I1,⟨t,?_⟩,⟨rfl,rfl⟩,st',fun b hb=>(hf b hb).1⟩⟩
  rw [Int.mul_one]
 done:=by
  intro X hP hw hK hc i pins s σ H E I hf st hg
  subst hP hw hK
  obtain ⟨f0,f1,f2,f3,f4,f5⟩:=hf it (by simp)
  exact wpAny_pyNext_range_end (I.ok.hd hc) st (by have:n≤i:=hg;omega) fun h' eb=>⟨rfl,I.turned (t':=s.toks) (fun b o hb e=>eb b o hb e) f0 f1 f3 f4 f5⟩
 self:=fun _ _ _ _ _ st h=>wpAny_pyIter_rangeiter st h
end L2
namespace L2
open PySem PySem.Spec PyProof.Rows
section
variable {X:Cx} {tg:Expr}
noncomputable def iList (K:PySem.W.Frag) (tl:TE):TI:=fun σ H R=>tl σ H fun x H1=>∃ a,x = .ref a∧(∃ xs,SqL K H1 a xs)∧R (Itl K a) H1
theorem pi_list {l:Expr} {tl:TE} (hl:PE X l tl):PI X tg l (iList X.K tl):=by
 intro pins s σ H R I h
 refine thn (hl pins s σ H _ I h) fun v s1 ⟨x,H1,I1,r1,q1⟩=>?_
 obtain ⟨a,e,⟨xs,hq⟩,q⟩:=q1
 subst e
 cases r1
 obtain ⟨its,rv,p,hz⟩:=I1.list hq
 refine wpAny_pyIter_list p.isList ?_
 refine ⟨s1.heap.objs.size,[s1.heap.objs.size],_,_,H1,rfl,I1.kept (t':=s1.toks) fun b o e=>Heap.get?_push_of_some _ e,turn_list a _,⟨_,Heap.get?_push_size _ rfl,rfl,rfl⟩,fun b hb=>?_,q⟩
 have e:b=s1.heap.objs.size:=by simpa using hb
 subst e
 exact I1.fpOk (Nat.le_refl _) (I1.hok.fresh (Nat.le_refl _))
theorem q6w {pins:List (Addr×Obj)} {σ:St} {H:Hp} {s:Shared} {R:It→Hp→Prop} {E:Value→Shared→Prop} {lo hi:Int} {t u v:Tok} {tk:Nat} (I:Inv X pins σ H s) (h1 : -(2 ^ 62)≤lo) (h2:lo < 2 ^ 62) (h3 : -(2 ^ 62)≤hi) (h4:hi < 2 ^ 62)
  (q:R (Itr lo (hi-lo).toNat) H):wpAny (model X.prog X.w) X.A (pyIter (.ref s.heap.objs.size)) (PIE X pins σ tg R) E {s with heap:=s.heap.push {cls:=.type "range",data:=.fields #[.int lo t,.int hi u,.int 1 v]},toks:=tk}:=by
 refine wpAny_pyIter_range (IsRange.new ..) (small_one h1 h2 h3 h4) ?_
 have I1:Inv X pins σ H {s with heap:=s.heap.push {cls:=.type "range",data:=.fields #[.int lo t,.int hi u,.int 1 v]},toks:=tk}:=I.kept fun b o e=>Heap.get?_push_of_some _ e
 refine ⟨(s.heap.push {cls:=.type "range",data:=.fields #[.int lo t,.int hi u,.int 1 v]}).objs.size,[(s.heap.push {cls:=.type "range",data:=.fields #[.int lo t,.int hi u,.int 1 v]}).objs.size],_,_,H,rfl,
  I1.kept (t':=tk) fun b o e=>Heap.get?_push_of_some _ e,q7G _ lo (hi-lo).toNat,?_,fun b hb=>?_,q⟩
 ·have e1:lo+((0:Nat):Int)*1=lo:=by simp
  have e2:(((hi-lo).toNat:Nat):Int)-((0:Nat):Int)=Builtin.Range.rangeSize lo hi 1:=by rw [rangeSize_one];split <;> omega
  show IsRangeIter _ _ (lo+((0:Nat):Int)*1) ((((hi-lo).toNat:Nat):Int)-((0:Nat):Int)) 1
  rw [e1,e2]
  exact Heap.get?_push_size _ rfl
 ·have e:b=(s.heap.push {cls:=.type "range",data:=.fields #[.int lo t,.int hi u,.int 1 v]}).objs.size:=by simpa using hb
  subst e
  exact I1.fpOk (Nat.le_refl _) (I1.hok.fresh (Nat.le_refl _))
noncomputable def iRng1 (ta:TA):TI:=fun σ H R=>ta σ H fun vs H1=>∃ j:Int,vs=[.int j]∧-(2 ^ 62)≤j∧j < 2 ^ 62∧R (Itr 0 j.toNat) H1
noncomputable def iRng2 (ta:TA):TI:=fun σ H R=>ta σ H fun vs H1=>∃ i j:Int,vs=[.int i,.int j]∧(-(2 ^ 62)≤i∧i < 2 ^ 62∧-(2 ^ 62)≤j∧j < 2 ^ 62)∧R (Itr i (j-i).toNat) H1
theorem q22 {a:Expr} {ta:TA} {p pos:Pos} (hg:Gl X "range") (hm:X.mg "range" = none) (ha:PA X [a] ta) (hs:starEach [a] X.env=[(false,eval a X.env)]:=by rfl):PI X tg (.Call (.Name "range" p) [a] [] pos) (iRng1 ta):=by
 intro pins s σ H R I h
 refine Call_ (q3H I hg hm boot_range (PyProof.Rows.callWith_type1 (thn (ha pos pins s σ H _ I h) fun us s1 ⟨vs,H1,I1,r1,q1⟩=>?_) hs rfl))
 obtain ⟨j,e,q1,q2,q⟩:=q1
 subst e
 cases r1 with
 | cons r rr =>
  cases rr
  obtain ⟨t,rfl⟩:=r
  exact call_range_1 (q6w I1 (by omega) (by omega) q1 q2 (by simpa using q))
theorem q3w {a b:Expr} {ta:TA} {p pos:Pos} (hg:Gl X "range") (hm:X.mg "range" = none) (ha:PA X [a,b] ta) (hs:starEach [a,b] X.env=[(false,eval a X.env),(false,eval b X.env)]:=by rfl) (hs2:starEach [b] X.env=[(false,eval b X.env)]:=by rfl) :
  PI X tg (.Call (.Name "range" p) [a,b] [] pos) (iRng2 ta):=by
 intro pins s σ H R I h
 refine Call_ (q3H I hg hm boot_range (PyProof.Rows.callWith_type1 (thn (ha pos pins s σ H _ I h) fun us s1 ⟨vs,H1,I1,r1,q1⟩=>?_) (by rw [hs,hs2]) (by rw [hs2];rfl)))
 obtain ⟨i,j,e,⟨q1,q2,q3,q4⟩,q⟩:=q1
 subst e
 cases r1 with
 | cons r rr =>
  cases rr with
  | cons r' rr =>
   cases rr
   obtain ⟨t,rfl⟩:=r
   obtain ⟨t',rfl⟩:=r'
   exact call_range_2 (q6w I1 q1 q2 q3 q4 q)
noncomputable def tFor (wi:TI) (g:TG) (tb:TS):TS:=fun D σ H=>wi σ H fun J H1=>∃ W:Nat→Nat→St→Hp→Prop,(∃ m,W 0 m σ H1)∧∀ i m σ H,W i m σ H →
 (J.stop i H∧D.nx σ H)∨(J.go i H∧∃ N:St→Hp→Prop,(∀ σ' H',N σ' H'→∃ m',m' < m∧W (i+1) m' σ' H')∧∀ x H',J.yld i H x H'→g x σ H' fun σ2 H2=>tb {D with nx:=N,ct:=N,bk:=D.nx} σ2 H2)
noncomputable def q5g (fp:List Addr) (h:Heap):List (Addr×Obj):=fp.filterMap fun b=>(h.get? b).map fun o=>(b,o)
theorem q1S {fp:List Addr} {h:Heap} {b:Addr} {o:Obj} (hb:b∈fp) (e:h.get? b=some o):(b,o)∈q5g fp h:=List.mem_filterMap.mpr ⟨b,hb,by rw [e];rfl⟩
theorem of_pinsAt {fp:List Addr} {h:Heap} {p:Addr×Obj} (hp:p∈q5g fp h):p.1∈fp∧h.get? p.1=some p.2:=by
 obtain ⟨b,hb,e⟩:=List.mem_filterMap.mp hp
 cases q:h.get? b with
 | none=>rw [q] at e;cases e
 | some o =>
  rw [q] at e
  have e':(b,o)=p:=Option.some.inj e
  subst e'
  exact ⟨hb,q⟩
theorem Inv.pinned {pins:List (Addr×Obj)} {σ:St} {H:Hp} {s:Shared} {fp:List Addr} (I:Inv X pins σ H s) (hf:∀ b∈fp,FpOk X pins H b) (ho:∀ b∈fp,∃ o,s.heap.get? b=some o∧∀ v,o.data≠.cell v):Inv X (pins++q5g fp s.heap) σ H s :=
 I.pins_of fun p hp=>(List.mem_append.mp hp).elim (fun z=>I.pin p (List.mem_append_right _ z)) fun z=>by
  obtain ⟨hb,e⟩:=of_pinsAt z
  obtain ⟨f0,f1,f2,_⟩:=hf p.1 hb
  obtain ⟨o,e',d⟩:=ho p.1 hb
  rw [e] at e';cases e'
  exact ⟨e,f0,f1,f2,d⟩
theorem Inv.unpinned {pins pl:List (Addr×Obj)} {σ:St} {H:Hp} {s:Shared} (I:Inv X (pins++pl) σ H s):Inv X pins σ H s:=I.pins_of fun p hp=>I.pin p (List.mem_append_right _ (List.mem_append_left _ hp))
theorem q18 {iter:Expr} {body:List Stmt} {wi:TI} {g:TG} {tb:TS} {pos:Pos} (hp:PassesOwn (model X.prog X.w) X.A X.env X.xe) (hc:X.calm=true) (hi:PI X tg iter wi) (hg:PG X tg g) (hb:PSs X body tb)
  (hs:∀ x,foldedSetIterable iter X.env x=pure x:=by intro _;rfl):PS X (.For tg iter body [] pos) (tFor wi g tb):=by
 intro pins s σ H D I h
 refine wpAny_For (thn (hi pins s σ H _ I h) fun v s1 h1=>thn h1 fun itv s2 h2=>?_) hs
 obtain ⟨it,fp,tn,J,H2,e,I2,T,st2,f2,W,⟨m0,w0⟩,turn⟩:=h2
 subst e
 have stat:∀ {H':Hp},(∀ b∈fp,H' b=none)→∀ b∈fp,FpOk X pins H' b:=fun hn b hb=>⟨hn b hb,(f2 b hb).2⟩
 refine codeAny_forLoop_any (fun n s'=>∃ i σ' H',Inv X pins σ' H' s'∧tn i s'.heap∧(∀ b∈fp,H' b=none)∧W i n σ' H') ?_ m0 ⟨0,σ,H2,I2,st2,fun b hb=>(f2 b hb).1,w0⟩
 rintro n s3 ⟨i,σ3,H3,I3,st3,fr3,w3⟩
 rcases turn i n σ3 H3 w3 with ⟨stop,qn⟩ | ⟨go,N,hN,step⟩
 ·refine wpAny_passesOwn hp (thn (T.done X rfl rfl rfl hc i pins s3 σ3 H3 X.xe I3 (stat fr3) st3 stop) fun r s4 ⟨hr,I4⟩=>?_)
  subst hr
  exact wpAny_execs_nil ⟨σ3,H3,I4,qn⟩
 ·refine wpAny_passesOwn hp (thn (T.item X rfl rfl rfl hc i pins s3 σ3 H3 X.xe I3 (stat fr3) st3 go) fun r s4 ⟨u,hr,h4⟩=>?_)
  subst hr
  refine wpAny_passesOwn hp (thn h4 fun _ s5 ⟨x,H5,I5,r5,y5,st5,fr5⟩=>?_)
  have I5':=I5.pinned (stat fr5) (T.obj _ _ st5)
  refine wpAny_passesOwn hp (thn (hg _ s5 σ3 H5 x u _ I5' r5 (step x H5 y5)) fun _ s6 ⟨σ6,H6,I6,q6⟩=>?_)
  refine wpAny_passesOwn hp (thn (hb _ s6 σ6 H6 _ I6 q6) fun f s7 q7=>?_)
  have again:∀ {σ7:St} {H7:Hp},Inv X (pins++q5g fp s5.heap) σ7 H7 s7→N σ7 H7→∃ m,m < n∧∃ i σ' H',Inv X pins σ' H' s7∧tn i s7.heap∧(∀ b∈fp,H' b=none)∧W i m σ' H':=fun {σ7 H7} I7 n7=>by
   obtain ⟨m',hm,w7⟩:=hN σ7 H7 n7
   refine ⟨m',hm,i+1,σ7,H7,I7.unpinned,T.keep _ _ _ st5 fun b hb o e=>(I7.pin (b,o) (List.mem_append_right _ (List.mem_append_right _ (q1S hb e)))).1,fun b hb=>?_,w7⟩
   obtain ⟨o,e,d⟩:=T.obj _ _ st5 b hb
   exact (I7.pin (b,o) (List.mem_append_right _ (List.mem_append_right _ (q1S hb e)))).2.1
  cases f with
  | next=>obtain ⟨σ7,H7,I7,n7⟩:=q7;exact again I7 n7
  | cont=>obtain ⟨σ7,H7,I7,n7⟩:=q7;exact again I7 n7
  | brk=>obtain ⟨σ7,H7,I7,q7⟩:=q7;exact ⟨σ7,H7,I7.unpinned,q7⟩
  | ret v=>obtain ⟨x7,σ7,H7,I7,r7,q7⟩:=q7;exact ⟨x7,σ7,H7,I7.unpinned,r7,q7⟩
end
theorem q2Q {K:PySem.W.Frag} {a:Addr} {xs:List V} {g:TG} {tb:TS} {D:Ends} {σ:St} {H:Hp} (Pv:Nat→St→Hp→Prop) (h0:Pv 0 σ H) (hl:∀ i σ H,i≤xs.length→Pv i σ H→SqL K H a xs)
  (hs:∀ i x σ H,xs[i]?=some x→Pv i σ H→g x σ H fun σ2 H2=>tb {D with nx:=Pv (i+1),ct:=Pv (i+1),bk:=D.nx} σ2 H2) (hd:∀ σ H,Pv xs.length σ H→D.nx σ H) :
  ∃ W:Nat→Nat→St→Hp→Prop,(∃ m,W 0 m σ H)∧∀ i m σ H,W i m σ H →
   ((Itl K a).stop i H∧D.nx σ H)∨((Itl K a).go i H∧∃ N:St→Hp→Prop,(∀ σ' H',N σ' H'→∃ m',m' < m∧W (i+1) m' σ' H')∧∀ x H',(Itl K a).yld i H x H'→g x σ H' fun σ2 H2=>tb {D with nx:=N,ct:=N,bk:=D.nx} σ2 H2):=by
 refine ⟨fun i m σ H=>m=xs.length-i∧i≤xs.length∧Pv i σ H,⟨xs.length,by simp,Nat.zero_le _,h0⟩,?_⟩
 rintro i m σ H ⟨rfl,hi,p⟩
 have q:=hl i σ H hi p
 by_cases hlt:i < xs.length
 ·refine .inr ⟨⟨xs,xs[i],q,by simp [hlt]⟩,Pv (i+1),fun σ' H' p'=>⟨xs.length-(i+1),by omega,rfl,hlt,p'⟩,fun x H' y=>?_⟩
  obtain ⟨e,y⟩:=y
  subst e
  exact hs i x σ _ (y xs q) p
 ·have e:i=xs.length:=by omega
  subst e
  exact .inl ⟨⟨xs,q,Nat.le_refl _⟩,hd σ H p⟩
theorem q27 {lo:Int} {n:Nat} {g:TG} {tb:TS} {D:Ends} {σ:St} {H:Hp} (Pv:Nat→St→Hp→Prop) (h0:Pv 0 σ H)
  (hs:∀ i σ H,i < n→Pv i σ H→g (.int (lo+i)) σ H fun σ2 H2=>tb {D with nx:=Pv (i+1),ct:=Pv (i+1),bk:=D.nx} σ2 H2) (hd:∀ σ H,Pv n σ H→D.nx σ H) :
  ∃ W:Nat→Nat→St→Hp→Prop,(∃ m,W 0 m σ H)∧∀ i m σ H,W i m σ H →
   ((Itr lo n).stop i H∧D.nx σ H)∨((Itr lo n).go i H∧∃ N:St→Hp→Prop,(∀ σ' H',N σ' H'→∃ m',m' < m∧W (i+1) m' σ' H')∧∀ x H',(Itr lo n).yld i H x H'→g x σ H' fun σ2 H2=>tb {D with nx:=N,ct:=N,bk:=D.nx} σ2 H2):=by
 refine ⟨fun i m σ H=>m=n-i∧i≤n∧Pv i σ H,⟨n,by simp,Nat.zero_le _,h0⟩,?_⟩
 rintro i m σ H ⟨rfl,hi,p⟩
 by_cases hlt:i < n
 ·refine .inr ⟨hlt,Pv (i+1),fun σ' H' p'=>⟨n-(i+1),by omega,rfl,hlt,p'⟩,fun x H' y=>?_⟩
  obtain ⟨e,y⟩:=y
  subst e y
  exact hs i σ _ hlt p
 ·have e:i=n:=by omega
  subst e
  exact .inl ⟨Nat.le_refl _,hd σ H p⟩
end L2
namespace L2
open PySem PySem.Spec PyProof.Rows
noncomputable abbrev R2:=V→V→Hp→VK→Prop
noncomputable def OpR (X:Cx) (f:Value→Value→Sem Value) (r:R2):Prop :=
 ∀ (pins:List (Addr×Obj)) (s:Shared) (σ:St) (H:Hp) (x y:V) (v u:Value) (Q:VK),Inv X pins σ H s→RelV x v→RelV y u→r x y H Q →
  wpAny (model X.prog X.w) X.A (f v u) (EP X pins σ Q) X.xe s
noncomputable def UnR (X:Cx) (f:Value→Sem Value) (r:V→Hp→VK→Prop):Prop :=
 ∀ (pins:List (Addr×Obj)) (s:Shared) (σ:St) (H:Hp) (x:V) (v:Value) (Q:VK),Inv X pins σ H s→RelV x v→r x H Q →
  wpAny (model X.prog X.w) X.A (f v) (EP X pins σ Q) X.xe s
noncomputable def q1k (X:Cx) (f:Value) (r:List V→Hp→VK→Prop):Prop :=
 ∀ (pins:List (Addr×Obj)) (s:Shared) (σ:St) (H:Hp) (xs:List V) (us:List Value) (Q:VK),Inv X pins σ H s→Vals xs us→r xs H Q →
  wpAny (model X.prog X.w) X.A (call f us) (EP X pins σ Q) X.xe s
noncomputable def TruR (X:Cx) (r:V→Hp→(Bool→Hp→Prop)→Prop):Prop :=
 ∀ (pins:List (Addr×Obj)) (s:Shared) (σ:St) (H:Hp) (x:V) (v:Value) (Q:Bool→Hp→Prop),Inv X pins σ H s→RelV x v→r x H Q →
  wpAny (model X.prog X.w) X.A (truthy v) (TP X pins σ Q) X.xe s
noncomputable def tOp (r:R2) (ta tb:TE):TE:=fun σ H Q=>ta σ H fun x H1=>tb σ H1 fun y H2=>r x y H2 Q
noncomputable def tUn (r:V→Hp→VK→Prop) (ta:TE):TE:=fun σ H Q=>ta σ H fun x H1=>r x H1 Q
noncomputable def rI (C:Int→Int→Prop) (g:Int→Int→V):R2:=fun x y H Q=>∃ i j,x = .int i∧y = .int j∧C i j∧Q (g i j) H
noncomputable def rI0 (g:Int→Int→V):R2:=fun x y H Q=>∃ i j,x = .int i∧y = .int j∧Q (g i j) H
noncomputable def rU (g:Int→V):V→Hp→VK→Prop:=fun x H Q=>∃ i,x = .int i∧Q (g i) H
section
variable {X:Cx} {a b c:Expr} {ta tb tc:TE} {pos:Pos}
theorem binT (ha:PE X a ta) (hb:PE X b tb) {pins:List (Addr×Obj)} {s:Shared} {σ:St} {H:Hp} {R:V→V→Hp→Prop} (I:Inv X pins σ H s)
  (h:ta σ H fun x H1=>tb σ H1 fun y H2=>R x y H2) {Q:Value→Shared→Prop} {f:Value→Value→Sem Value}
  (hf:∀ v u s2 x y H2,Inv X pins σ H2 s2→RelV x v→RelV y u→R x y H2→wpAny (model X.prog X.w) X.A (f v u) Q X.xe s2) :
  wpAny (model X.prog X.w) X.A (eval a X.env) (fun v s₁=>wpAny (model X.prog X.w) X.A (eval b X.env) (fun u s₂=>wpAny (model X.prog X.w) X.A (f v u) Q X.xe s₂) X.xe s₁) X.xe s:=by
 refine thn (ha pins s σ H _ I h) fun v s1 ⟨x,H1,I1,r1,q1⟩=>?_
 refine thn (hb pins s1 σ H1 _ I1 q1) fun u s2 ⟨y,H2,I2,r2,q2⟩=>?_
 exact hf v u s2 x y H2 I2 r1 r2 q2
theorem qU {op:Operator} {r:R2} (ho:OpR X (binaryOp op) r) (ha:PE X a ta) (hb:PE X b tb):PE X (.BinOp a op b pos) (tOp r ta tb):=by
 intro pins s σ H Q I h
 exact wpAny_BinOp (binT ha hb I h fun v u s2 x y H2 I2 rx ry q=>ho pins s2 σ H2 x y v u Q I2 rx ry q)
theorem q3K {op:UnaryOp} {r:V→Hp→VK→Prop} (ho:UnR X (unaryOp op) r) (ha:PE X a ta):PE X (.UnaryOp op a pos) (tUn r ta):=by
 intro pins s σ H Q I h
 exact UnaryOp_ (thn (ha pins s σ H _ I h) fun v s1 ⟨x,H1,I1,r1,q1⟩=>ho pins s1 σ H1 x v Q I1 r1 q1)
theorem opI {f:Value→Value→Sem Value} {C:Int→Int→Prop} {g:Int→Int→Int}
  (rule:∀ (i j:Int) (t u:Tok) (s:Shared) (Q:Value→Shared→Prop) (E:Value→Shared→Prop),C i j→Q (.int (g i j) s.toks) {s with toks:=s.toks+1}→wpAny (model X.prog X.w) X.A (f (.int i t) (.int j u)) Q E s) :
  OpR X f (rI C fun i j=>.int (g i j)):=by
 intro pins s σ H x y v u Q I rx ry h
 obtain ⟨i,j,rfl,rfl,hc,q⟩:=h
 obtain ⟨t,rfl⟩:=rx
 obtain ⟨t',rfl⟩:=ry
 exact rule i j t t' s _ _ hc ⟨.int (g i j),H,I.tok _,⟨_,rfl⟩,q⟩
theorem opI0 {f:Value→Value→Sem Value} {g:Int→Int→Int}
  (rule:∀ (i j:Int) (t u:Tok) (s:Shared) (Q:Value→Shared→Prop) (E:Value→Shared→Prop),Q (.int (g i j) s.toks) {s with toks:=s.toks+1}→wpAny (model X.prog X.w) X.A (f (.int i t) (.int j u)) Q E s) :
  OpR X f (rI0 fun i j=>.int (g i j)):=by
 intro pins s σ H x y v u Q I rx ry h
 obtain ⟨i,j,rfl,rfl,q⟩:=h
 obtain ⟨t,rfl⟩:=rx
 obtain ⟨t',rfl⟩:=ry
 exact rule i j t t' s _ _ ⟨.int (g i j),H,I.tok _,⟨_,rfl⟩,q⟩
theorem opB0 {f:Value→Value→Sem Value} {g:Int→Int→Bool}
  (rule:∀ (i j:Int) (t u:Tok) (s:Shared) (Q:Value→Shared→Prop) (E:Value→Shared→Prop),Q (.bool (g i j)) s→wpAny (model X.prog X.w) X.A (f (.int i t) (.int j u)) Q E s) :
  OpR X f (rI0 fun i j=>.bl (g i j)):=by
 intro pins s σ H x y v u Q I rx ry h
 obtain ⟨i,j,rfl,rfl,q⟩:=h
 obtain ⟨t,rfl⟩:=rx
 obtain ⟨t',rfl⟩:=ry
 exact rule i j t t' s _ _ ⟨.bl (g i j),H,I,rfl,q⟩
noncomputable def CDiv (i j:Int):Prop:=0 < j∧j < 1073741824
noncomputable def CPow (i j:Int):Prop:=0≤j∧j≤1000000∧i.natAbs < 2 ^ 64
noncomputable def CMul (i j:Int):Prop:=(-(2 ^ 64) < i∧i < 2 ^ 64)∨(-(2 ^ 64) < j∧j < 2 ^ 64)
theorem CMul.ok {i j:Int} (h:CMul i j):IntMulOk i j:=by
 rcases h with ⟨h1,h2⟩ | ⟨h1,h2⟩
 ·exact .of_left (intBits_le_64 h1 h2)
 ·exact .of_right (intBits_le_64 h1 h2)
theorem qf:OpR X (binaryOp .Add) (rI0 fun i j=>.int (i+j)):=opI0 fun _ _ _ _ _ _ _ q=>add_int q
theorem q0J:OpR X (binaryOp .Sub) (rI0 fun i j=>.int (i-j)):=opI0 fun _ _ _ _ _ _ _ q=>sub_int q
theorem q4a:OpR X (binaryOp .Mult) (rI CMul fun i j=>.int (i*j)):=opI fun _ _ _ _ _ _ _ hc q=>mul_int q hc.ok
theorem q2Z:OpR X (binaryOp .FloorDiv) (rI CDiv fun i j=>.int (i/j)):=opI fun i j _ _ _ _ _ hc q=>by
 have h1:(0:Int) < j:=hc.1
 have h2:j < 1073741824:=hc.2
 exact floordiv_int (by omega) (by rw [Int.fdiv_eq_ediv_of_nonneg i (by omega)];exact q) (.inl (PyProof.noPylong_small (by omega)))
theorem qr:OpR X (binaryOp .Mod) (rI (fun _ j=>0 < j) fun i j=>.int (i%j)):=opI fun i j _ _ _ _ _ hc q=>by
 have h1:(0:Int) < j:=hc
 exact mod_int' (by omega) (by rw [Int.fmod_eq_emod_of_nonneg i (by omega)];exact q)
theorem op_pow:OpR X (binaryOp .Pow) (rI CPow fun i j=>.int (i ^ j.toNat)):=opI fun _ _ _ _ _ _ _ hc q=>pow_int_small hc.1 hc.2.1 hc.2.2 q
theorem unI {f:Value→Sem Value} {g:Int→Int}
  (rule:∀ (i:Int) (t:Tok) (s:Shared) (Q:Value→Shared→Prop) (E:Value→Shared→Prop),Q (.int (g i) s.toks) {s with toks:=s.toks+1}→wpAny (model X.prog X.w) X.A (f (.int i t)) Q E s) :
  UnR X f (rU fun i=>.int (g i)):=by
 intro pins s σ H x v Q I rx h
 obtain ⟨i,rfl,q⟩:=h
 obtain ⟨t,rfl⟩:=rx
 exact rule i t s _ _ ⟨.int (g i),H,I.tok _,⟨_,rfl⟩,q⟩
theorem q1l:UnR X (unaryOp .USub) (rU fun i=>.int (-i)):=unI fun _ _ _ _ _ q=>neg_int q
end
noncomputable def scal:V→V→Bool
 | .non,.non=>true | .non,.int _=>true | .int _,.non=>true | .non,.bl _=>true | .bl _,.non=>true | .non,.str _=>true | .str _,.non=>true
 | .int _,.int _=>true | .bl _,.bl _=>true | .str _,.str _=>true | .byt _,.byt _=>true
 | .int _,.str _=>true | .str _,.int _=>true | .bl _,.str _=>true | .str _,.bl _=>true
 | _,_=>false
noncomputable def rEq:R2:=fun x y H Q=>scal x y=true∧Q (.bl (decide (x=y))) H
noncomputable def rNe:R2:=fun x y H Q=>scal x y=true∧Q (.bl (!decide (x=y))) H
theorem dec_int {i j:Int}:decide (V.int i=V.int j)=(i == j):=by
 rw [Bool.eq_iff_iff]
 simp
theorem dec_bl {i j:Bool}:decide (V.bl i=V.bl j)=(i == j):=by
 rw [Bool.eq_iff_iff]
 simp
theorem dec_str {i j:Str}:decide (V.str i=V.str j)=(i == j):=by
 rw [Bool.eq_iff_iff]
 simp
theorem dec_byt {i j:Array UInt8}:decide (V.byt i=V.byt j)=(i.toList == j.toList):=by
 rw [Bool.eq_iff_iff]
 cases i
 cases j
 simp
section
variable {X:Cx} {a b c:Expr} {ta tb tc:TE} {pos:Pos}
theorem ql {pins:List (Addr×Obj)} {σ:St} {H:Hp} {s:Shared} {Q:VK} {k k':Bool} (I:Inv X pins σ H s) (q:Q (.bl k) H) (e:k=k'):EP X pins σ Q (.bool k') s:=by
 subst e
 exact ⟨.bl k,H,I,rfl,q⟩
theorem q0C:OpR X (compareOp .Eq) rEq:=by
 intro pins s σ H x y v u Q I rx ry h
 obtain ⟨hs,q⟩:=h
 cases x with
 | non =>
  cases rx
  cases y with
  | non=>cases ry;exact PySem.EqNone.eq_none_none (ql I q (by simp))
  | bl j=>cases ry;exact PySem.EqNone.eq_none_bool (ql I q (by simp))
  | int j=>obtain ⟨t',rfl⟩:=ry;exact PySem.EqNone.eq_none_int (ql I q (by simp))
  | str j=>obtain ⟨t',rfl⟩:=ry;exact PySem.EqNone.eq_none_str (ql I q (by simp))
  | _=>exact absurd (show false=true from hs) Bool.false_ne_true
 | bl i =>
  cases rx
  cases y with
  | non=>cases ry;exact PySem.EqNone.eq_bool_none (ql I q (by simp))
  | bl j=>cases ry;exact eq_bool (ql I q dec_bl)
  | str j=>obtain ⟨t',rfl⟩:=ry;exact PySem.EqMixed.eq_bool_str (ql I q (by simp))
  | _=>exact absurd (show false=true from hs) Bool.false_ne_true
 | int i =>
  obtain ⟨t,rfl⟩:=rx
  cases y with
  | non=>cases ry;exact PySem.EqNone.eq_int_none (ql I q (by simp))
  | int j=>obtain ⟨t',rfl⟩:=ry;exact eq_int (ql I q dec_int)
  | str j=>obtain ⟨t',rfl⟩:=ry;exact PySem.EqMixed.eq_int_str (ql I q (by simp))
  | _=>exact absurd (show false=true from hs) Bool.false_ne_true
 | str i =>
  obtain ⟨t,rfl⟩:=rx
  cases y with
  | non=>cases ry;exact PySem.EqNone.eq_str_none (ql I q (by simp))
  | bl j=>cases ry;exact PySem.EqMixed.eq_str_bool (ql I q (by simp))
  | int j=>obtain ⟨t',rfl⟩:=ry;exact PySem.EqMixed.eq_str_int (ql I q (by simp))
  | str j=>obtain ⟨t',rfl⟩:=ry;exact eq_str (ql I q dec_str)
  | _=>exact absurd (show false=true from hs) Bool.false_ne_true
 | byt i =>
  obtain ⟨t,rfl⟩:=rx
  cases y with
  | byt j=>obtain ⟨t',rfl⟩:=ry;exact PySem.W.eq_bytes (ql I q dec_byt)
  | _=>exact absurd (show false=true from hs) Bool.false_ne_true
 | _=>cases y <;> exact absurd (show false=true from hs) Bool.false_ne_true
theorem q5i:OpR X (compareOp .NotEq) rNe:=by
 intro pins s σ H x y v u Q I rx ry h
 obtain ⟨hs,q⟩:=h
 cases x with
 | non =>
  cases rx
  cases y with
  | non=>cases ry;exact PySem.EqNone.ne_none_none (ql I q (by simp))
  | bl j=>cases ry;exact PySem.EqNone.ne_none_bool (ql I q (by simp))
  | int j=>obtain ⟨t',rfl⟩:=ry;exact PySem.EqNone.ne_none_int (ql I q (by simp))
  | str j=>obtain ⟨t',rfl⟩:=ry;exact PySem.EqNone.ne_none_str (ql I q (by simp))
  | _=>exact absurd (show false=true from hs) Bool.false_ne_true
 | bl i =>
  cases rx
  cases y with
  | non=>cases ry;exact PySem.EqNone.ne_bool_none (ql I q (by simp))
  | bl j=>cases ry;exact ne_bool (ql I q (congrArg not dec_bl))
  | str j=>obtain ⟨t',rfl⟩:=ry;exact PySem.EqMixed.ne_bool_str (ql I q (by simp))
  | _=>exact absurd (show false=true from hs) Bool.false_ne_true
 | int i =>
  obtain ⟨t,rfl⟩:=rx
  cases y with
  | non=>cases ry;exact PySem.EqNone.ne_int_none (ql I q (by simp))
  | int j=>obtain ⟨t',rfl⟩:=ry;exact ne_int (ql I q (congrArg not dec_int))
  | str j=>obtain ⟨t',rfl⟩:=ry;exact PySem.EqMixed.ne_int_str (ql I q (by simp))
  | _=>exact absurd (show false=true from hs) Bool.false_ne_true
 | str i =>
  obtain ⟨t,rfl⟩:=rx
  cases y with
  | non=>cases ry;exact PySem.EqNone.ne_str_none (ql I q (by simp))
  | bl j=>cases ry;exact PySem.EqMixed.ne_str_bool (ql I q (by simp))
  | int j=>obtain ⟨t',rfl⟩:=ry;exact PySem.EqMixed.ne_str_int (ql I q (by simp))
  | str j=>obtain ⟨t',rfl⟩:=ry;exact ne_str (ql I q (congrArg not dec_str))
  | _=>exact absurd (show false=true from hs) Bool.false_ne_true
 | byt i =>
  obtain ⟨t,rfl⟩:=rx
  cases y with
  | byt j=>obtain ⟨t',rfl⟩:=ry;exact PySem.W.ne_bytes (ql I q (congrArg not dec_byt))
  | _=>exact absurd (show false=true from hs) Bool.false_ne_true
 | _=>cases y <;> exact absurd (show false=true from hs) Bool.false_ne_true
theorem q1q:OpR X (compareOp .Lt) (rI0 fun i j=>.bl (decide (i < j))):=opB0 fun _ _ _ _ _ _ _ q=>lt_int q
theorem q40:OpR X (compareOp .LtE) (rI0 fun i j=>.bl (decide (i≤j))):=opB0 fun _ _ _ _ _ _ _ q=>le_int q
theorem q4K:OpR X (compareOp .Gt) (rI0 fun i j=>.bl (decide (j < i))):=opB0 fun _ _ _ _ _ _ _ q=>gt_int q
theorem op_ge:OpR X (compareOp .GtE) (rI0 fun i j=>.bl (decide (j≤i))):=opB0 fun _ _ _ _ _ _ _ q=>ge_int q
theorem op_in_str:OpR X (compareOp .In) (fun x y H Q=>∃ i j,x = .str i∧y = .str j∧Q (.bl (!(Builtin.Str.occurrences j i 0 j.length 1).isEmpty)) H):=by
 intro pins s σ H x y v u Q I rx ry h
 obtain ⟨i,j,rfl,rfl,q⟩:=h
 obtain ⟨t,rfl⟩:=rx
 obtain ⟨t',rfl⟩:=ry
 exact in_str (ql I q rfl)
theorem q1B:OpR X (compareOp .Is) (fun x y H Q=>y = .non∧Q (.bl (decide (x = .non))) H):=by
 intro pins s σ H x y v u Q I rx ry h
 obtain ⟨rfl,q⟩:=h
 cases ry
 refine is_none_gen (ql I q ?_)
 cases x <;> first
  | (cases rx;rfl)
  | (obtain ⟨t,rfl⟩:=rx;rfl)
theorem q3z:OpR X (compareOp .IsNot) (fun x y H Q=>y = .non∧Q (.bl (!decide (x = .non))) H):=by
 intro pins s σ H x y v u Q I rx ry h
 obtain ⟨rfl,q⟩:=h
 cases ry
 refine isnot_none_gen (ql I q ?_)
 cases x <;> first
  | (cases rx;rfl)
  | (obtain ⟨t,rfl⟩:=rx;rfl)
theorem qT (b:Expr) {op:CmpOp} (h:op≠.In:=by decide) (h2:op≠.NotIn:=by decide):behindInMarks op b=false:=by
 have e1:(op == CmpOp.In)=false:=by cases op <;> first | rfl | exact absurd rfl h
 have e2:(op == CmpOp.NotIn)=false:=by cases op <;> first | rfl | exact absurd rfl h2
 cases b <;> simp [behindInMarks,e1,e2]
theorem q2Y {op:CmpOp} {r:R2} (ho:OpR X (compareOp op) r) (ha:PE X a ta) (hb:PE X b tb) (hm:behindInMarks op b=false):PE X (.Compare a [op] [b] pos) (tOp r ta tb):=by
 intro pins s σ H Q I h
 exact wpAny_Compare1 (binT ha hb I h fun v u s2 x y H2 I2 rx ry q=>ho pins s2 σ H2 x y v u Q I2 rx ry q) hm
noncomputable def tTest (t:TE):TT:=fun σ H Q=>t σ H fun x H'=>∃ k,x = .bl k∧Q k H'
theorem qO {op:CmpOp} {r:R2} (ho:OpR X (compareOp op) r) (ha:PE X a ta) (hb:PE X b tb) (hm:behindInMarks op b=false):PT X (.Compare a [op] [b] pos) (tTest (tOp r ta tb)):=by
 intro pins s σ H Q I h
 refine wpAny_isTrue_Compare1 (thn (ha pins s σ H _ I h) fun v s1 ⟨x,H1,I1,r1,q1⟩=>thn (hb pins s1 σ H1 _ I1 q1) fun u s2 ⟨y,H2,I2,r2,q2⟩ =>
  thn (ho pins s2 σ H2 x y v u _ I2 r1 r2 q2) fun c s3 ⟨z,H3,I3,r3,k,e,q3⟩=>?_) hm
 subst e
 cases r3
 exact wpAny_truthy_bool ⟨H3,I3,q3⟩
noncomputable def tChain (r r':R2) (ta tb tc:TE):TE:=fun σ H Q=>ta σ H fun x H1=>tb σ H1 fun y H2=>r x y H2 fun z H3=>∃ k,z = .bl k ∧
 (if k=true then tc σ H3 fun w' H4=>r' y w' H4 Q else Q (.bl false) H3)
theorem q3Y {op op':CmpOp} {r r':R2} (ho:OpR X (compareOp op) r) (ho':OpR X (compareOp op') r') (ha:PE X a ta) (hb:PE X b tb) (hc:PE X c tc)
  (hm:lastMarks [op,op'] [b,c]=false:=by with_unfolding_all rfl):PT X (.Compare a [op,op'] [b,c] pos) (tTest (tChain r r' ta tb tc)):=by
 intro pins s σ H Q I h
 refine isTrue_chain (thn (ha pins s σ H _ I h) fun v s1 ⟨x,H1,I1,r1,q1⟩=>test_link (thn (hb pins s1 σ H1 _ I1 q1) fun u s2 ⟨y,H2,I2,r2,q2⟩ =>
  thn (ho pins s2 σ H2 x y v u _ I2 r1 r2 q2) fun d s3 ⟨z,H3,I3,r3,k,e,q3⟩=>?_)) hm
 subst e
 cases r3
 refine wpAny_truthy_bool ?_
 cases k with
 | false =>
  obtain ⟨k',e',q'⟩:=q3
  cases e'
  exact ite_ff ⟨H3,I3,q'⟩
 | true =>
  refine ite_tt (test_last (thn (hc pins s3 σ H3 _ I3 q3) fun w' s4 ⟨z',H4,I4,r4,q4⟩=>thn (ho' pins s4 σ H4 y z' u w' _ I4 r2 r4 q4) fun d' s5 ⟨z2,H5,I5,r5,k2,e2,q5⟩=>?_))
  subst e2
  cases r5
  exact wpAny_truthy_bool ⟨H5,I5,q5⟩
noncomputable def TruV (K:PySem.W.Frag) (x:V) (H:Hp) (k:Bool):Prop :=
 match x with
 | .non=>k=false
 | .bl b=>k=b
 | .int i=>k=(i != 0)
 | .str y=>y.length≤sizeLine∧k=((y.length:Int) != 0)
 | .byt y=>y.size≤sizeLine∧k=((y.size:Int) != 0)
 | .ref p=>(∃ xs,SqL K H p xs∧k = !xs.isEmpty)∨(∃ xs,SqT K H p xs∧k = !xs.isEmpty)∨∃ kvs,H p=some (.dK kvs)∧k = !kvs.isEmpty
 | _=>False
theorem q7h {κ:Type} {kvs:List (κ×V)} {vs:List (κ×Value)} (r:KV kvs vs):(!vs.isEmpty) = !kvs.isEmpty:=by
 cases r <;> rfl
theorem q4d {xs:List V} {its:List Value} (r:Vals xs its):(!its.toArray.isEmpty) = !xs.isEmpty:=by
 cases r <;> simp
theorem q43:(sizeLine:Nat) < 2 ^ 63:=by rw [sizeLine_eq];decide
theorem tru_ok:TruR X (fun x H Q=>∃ k,TruV X.K x H k∧Q k H):=by
 intro pins s σ H x v Q I rx h
 obtain ⟨k,e,q⟩:=h
 have hl:=q43
 have hs:sizeLine=16777216:=sizeLine_eq
 cases x with
 | non =>
  cases rx
  have e':k=false:=e
  subst e'
  exact truthy_none ⟨H,I,q⟩
 | bl b =>
  cases rx
  have e':k=b:=e
  subst e'
  exact wpAny_truthy_bool ⟨H,I,q⟩
 | int i =>
  obtain ⟨t,rfl⟩:=rx
  have e':k=(i != 0):=e
  subst e'
  exact PySem.P.truthy_int ⟨H,I,q⟩
 | str y =>
  obtain ⟨t,rfl⟩:=rx
  obtain ⟨hy,e'⟩:y.length≤sizeLine∧k=((y.length:Int) != 0):=e
  subst e'
  exact PySem.P.truthy_str (by omega) ⟨H,I.tok _,q⟩
 | byt y =>
  obtain ⟨t,rfl⟩:=rx
  obtain ⟨hy,e'⟩:y.size≤sizeLine∧k=((y.size:Int) != 0):=e
  subst e'
  exact PySem.W.truthy_bytes (by omega) ⟨H,I.tok _,q⟩
 | ref p =>
  cases rx
  have e':(∃ xs,SqL X.K H p xs∧k = !xs.isEmpty)∨(∃ xs,SqT X.K H p xs∧k = !xs.isEmpty)∨∃ kvs,H p=some (.dK kvs)∧k = !kvs.isEmpty:=e
  rcases e' with ⟨xs,hx,e'⟩ | ⟨xs,hx,e'⟩ | ⟨kvs,hx,e'⟩
  ·subst e'
   obtain ⟨its,r,pl,hz⟩:=I.list hx
   have hlen:=r.length
   exact wpAny_truthy_list pl.isList (by simp only [List.size_toArray];omega) ⟨H,I.tok _,by rw [q4d r];exact q⟩
  ·subst e'
   obtain ⟨its,r,pl,hz⟩:=I.tuple hx
   have hlen:=r.length
   exact truthy_tuple pl (by simp only [List.size_toArray];omega) ⟨H,I.tok _,by rw [q4d r];exact q⟩
  ·subst e'
   obtain ⟨hz,hS,vs,r,m⟩:kvs.length≤sizeLine∧(p == sysModules)=false∧∃ vs,KV kvs vs∧s.heap.DictOf (q0D X.prog X.w) p vs:=I.hok p _ hx
   have hlen:kvs.length=vs.length:=Paired.length r
   exact wpAny_truthy_dict hS m (by omega) ⟨H,I.tok _,by rw [q7h r];exact q⟩
 | _=>exact (show False from e).elim
theorem q2O (ha:PE X a ta) (he:∀ whole,isTrue a X.env whole=(do let v ← whole;standAt a.pos;holding [v] (truthy v))) :
  PT X a (fun σ H Q=>ta σ H fun x H'=>∃ k,TruV X.K x H' k∧Q k H'):=by
 intro pins s σ H Q I h
 exact isTrue_plain (thn (ha pins s σ H _ I h) fun v s1 ⟨x,H1,I1,r1,q1⟩=>tru_ok pins s1 σ H1 x v Q I1 r1 q1) (he _)
theorem qy:OpR X (binaryOp .Add) (fun x y H Q=>∃ i j,x = .str i∧y = .str j∧i.length+j.length≤sizeLine∧Q (.str (i++j)) H):=by
 intro pins s σ H x y v u Q I rx ry h
 obtain ⟨i,j,rfl,rfl,hz,q⟩:=h
 obtain ⟨t,rfl⟩:=rx
 obtain ⟨t',rfl⟩:=ry
 exact add_str (fun t' tk=>⟨.str (i++j),H,I.tok _,⟨_,rfl⟩,q⟩) hz
theorem q2T {x:V} {us:List Value} (r:Vals [x] us):∃ u,us=[u]∧RelV x u:=by
 cases r with
 | cons r1 r2=>cases r2;exact ⟨_,rfl,r1⟩
theorem vals2 {x y:V} {us:List Value} (r:Vals [x,y] us):∃ u w',us=[u,w']∧RelV x u∧RelV y w':=by
 cases r with
 | cons r1 r2 =>
  cases r2 with
  | cons r3 r4=>cases r4;exact ⟨_,_,rfl,r1,r3⟩
theorem q7D:q1k X (.builtin "abs") (fun xs H Q=>∃ i,xs=[.int i]∧Q (.int (if i < 0 then -i else i)) H):=by
 intro pins s σ H xs us Q I r h
 obtain ⟨i,rfl,q⟩:=h
 obtain ⟨u,rfl,t,rfl⟩:=q2T r
 exact call_abs_int fun u tk=>⟨.int (if i < 0 then -i else i),H,I.tok _,⟨_,rfl⟩,q⟩
theorem q4C (hc:X.calm=true):q1k X (.builtin "max") (fun xs H Q=>∃ i j,xs=[.int i,.int j]∧Q (.int (if j > i then j else i)) H):=by
 intro pins s σ H xs us Q I r h
 obtain ⟨i,j,rfl,q⟩:=h
 obtain ⟨u,w',rfl,⟨t,rfl⟩,⟨t',rfl⟩⟩:=vals2 r
 refine max_two_ints (I.ok.hd hc) fun h' tk k=>⟨_,H,I.kept k,?_,q⟩
 by_cases hj:j > i
 ·rw [if_pos hj,if_pos hj];exact ⟨_,rfl⟩
 ·rw [if_neg hj,if_neg hj];exact ⟨_,rfl⟩
theorem q65 (hc:X.calm=true):q1k X (.builtin "min") (fun xs H Q=>∃ i j,xs=[.int i,.int j]∧Q (.int (if j < i then j else i)) H):=by
 intro pins s σ H xs us Q I r h
 obtain ⟨i,j,rfl,q⟩:=h
 obtain ⟨u,w',rfl,⟨t,rfl⟩,⟨t',rfl⟩⟩:=vals2 r
 refine min_two_ints (I.ok.hd hc) fun h' tk k=>⟨_,H,I.kept k,?_,q⟩
 by_cases hj:j < i
 ·rw [if_pos hj,if_pos hj];exact ⟨_,rfl⟩
 ·rw [if_neg hj,if_neg hj];exact ⟨_,rfl⟩
theorem q4D:q1k X (.type "int") (fun xs H Q=>(∃ i,xs=[.int i]∧Q (.int i) H)∨∃ k,xs=[.bl k]∧Q (.int (if k then 1 else 0)) H):=by
 intro pins s σ H xs us Q I r h
 rcases h with ⟨i,rfl,q⟩ | ⟨k,rfl,q⟩
 ·obtain ⟨u,rfl,t,rfl⟩:=q2T r
  exact call_int_int ⟨.int i,H,I,⟨_,rfl⟩,q⟩
 ·obtain ⟨u,rfl,r1⟩:=q2T r
  cases r1
  exact call_int_bool ⟨.int (if k then 1 else 0),H,I.tok _,⟨_,rfl⟩,q⟩
theorem qu:q1k X (.type "str") (fun xs H Q=>∃ i,xs=[.int i]∧i.natAbs.log2 < 1920∧Q (.str (toString i)) H):=by
 intro pins s σ H xs us Q I r h
 obtain ⟨i,rfl,hz,q⟩:=h
 obtain ⟨u,rfl,t,rfl⟩:=q2T r
 exact PySem.P.str_of_int hz ⟨.str _,H,I.tok _,⟨_,rfl⟩,q⟩
end
end L2
namespace L2
open PySem PySem.Spec PyProof.Rows
structure ObjM (h:Heap) (x dx C:Addr) (mA:Str→Option Value):Prop where
 obj:h.get? x=some (PySem.W.instObj C dx)
 ns:h.Ns1 dx mA
 ne:dx≠x
theorem lookIn_ns {h:Heap} {dx:Addr} {mA:Str→Option Value} (n:h.Ns1 dx mA):∃ od,h.get? dx=some od∧∀ name,PySem.W.lookIn name od=some (mA name):=by
 obtain ⟨o,es,ep,ho,hd,hk,_,hm⟩:=n
 refine ⟨o,ho,fun name=>?_⟩
 have e:=hm name
 unfold nsFind findBy at e
 rw [← Array.find?_toList] at e
 unfold PySem.W.lookIn
 rw [hd]
 dsimp only
 split
 ·rename_i y q
  rw [q] at e
  exact congrArg some e
 ·rename_i q
  rw [q] at e
  have a:es.toList.any (·.refKey)=false:=by
   rw [List.any_eq_false]
   intro y hy
   obtain ⟨z,t,hkey⟩:=hk y (Array.mem_toList_iff.mp hy)
   simp [DictEntry.refKey,hkey]
  have a':¬ es.toList.any (·.refKey)=true:=by rw [a];exact Bool.false_ne_true
  rw [if_neg a']
  exact congrArg some e
theorem ObjM.look {h:Heap} {x dx C:Addr} {mA:Str→Option Value} (I:ObjM h x dx C mA):∃ od,PySem.W.InstAt h x (PySem.W.instObj C dx) C (some od)∧∀ name,PySem.W.lookIn name od=some (mA name) :=
 let ⟨od,ho,hl⟩:=lookIn_ns I.ns
 ⟨od,⟨I.obj,rfl,rfl,ho⟩,hl⟩
section
variable {prog:Program} {w:World} {A:Around} {E:Value→Shared→Prop} {s:Shared} {K:PySem.W.Frag} {x dx C f:Addr} {mA:Str→Option Value} {name:Str} {v:Value}
theorem get_map {expr:Bool} {Q:Value→Shared→Prop} (X:K.In s.heap) (I:ObjM s.heap x dx C mA) (hg:PySem.W.plainGet K C name=true) (hh:PySem.W.hasDictIn K C=true)
  (ha:PySem.W.findIn K (.ref C) name=some none) (hv:mA name=some v) (hv':PySem.W.handedIn v=true) (h:Q v {s with toks:=s.toks+1}) :
  wpAny (model prog w) A (getAttr (.ref x) name expr) Q E s:=by
 obtain ⟨od,J,hl⟩:=I.look
 exact PySem.W.get_value X J (PySem.W.plainGet_of hg).1 (PySem.W.findObj_own hh ha rfl (by rw [hl,hv])) hv' h
theorem get_meth {pl:Sem Bool} {Q:Value×List Value→Shared→Prop} (X:K.In s.heap) (I:ObjM s.heap x dx C mA) (hg:PySem.W.plainGet K C name=true)
  (hf:PySem.W.findIn K (.ref C) name=some (some (.ref f))) (ht:PySem.W.isFn K (.ref f)=true) (hv:mA name=none) (h:Q (.ref f,[.ref x]) s) :
  wpAny (model prog w) A (getMethod (.ref x) name pl) Q E s:=by
 obtain ⟨od,J,hl⟩:=I.look
 exact PySem.W.method_fn X J (PySem.W.plainGet_of hg).1 (PySem.W.plainGet_of hg).2 hf (beq_iff_eq.mp ht) (by show (PySem.W.lookIn name od).map (·.isSome)=some false;rw [hl,hv];rfl) h
theorem set_map {ns:List Str} {Q:Unit→Shared→Prop} (X:K.In s.heap) (I:ObjM s.heap x dx C mA)
  (hs:PySem.W.findIn K (.ref C) "__setattr__" = some (some (.builtin "object.__setattr__"))) (hp:PySem.W.plainOver K C=true) (ht:PySem.W.takerIn K C name=some none) (hh:PySem.W.hasDictIn K C=true)
  (hw:PySem.Within mA ns) (hsz:ns.length≤sizeLine)
  (h:∀ h',ObjM h' x dx C (fun y=>if y=name then some v else mA y)→Heap.SameBut dx s.heap h'→Q () {s with heap:=h',toks:=s.toks+2}) :
  wpAny (model prog w) A (setAttr (.ref x) name v) Q E s:=by
 obtain ⟨od,J,hl⟩:=I.look
 refine PySem.W.set_plain X J hs (PySem.W.osa_open (s:={s with toks:=s.toks+1}) (r:=none) X J hp ht fun b=>?_)
 obtain ⟨cd,hc,hd'⟩:=PySem.W.any_some hh
 have hx:s.heap.get? x=some ⟨.ref C,some dx,.plain,#[]⟩:=I.obj
 refine wpAny_bind (wpAny_pure (wpAny_bind (wpAny_bind (wpAny_loadPart hx (wpAny_bind (PySem.W.Looks.here (s:={s with toks:=s.toks+1}) (PySem.W.looks_clsIn X hc) ?_))))))
 rw [hd']
 refine wpAny_pure (a:=some dx) (wpAny_bind (wpAny_pure (wpAny_bind ?_)))
 refine wpAny_nsSet1 (s:={s with toks:=s.toks+1}) I.ns fun h' hn2 hs2=>?_
 obtain ⟨oD,esD,epD,hoD,hdD,hcD⟩:=hn2.count (PySem.Within.cons name v hw)
 refine wpAny_bind (wpAny_lookBehind hoD (by rw [hdD];exact pastItsLine_dict (Nat.le_trans hcD (by rw [List.length_cons];omega))) ?_)
 exact wpAny_pure (h _ ⟨(hs2.2 _ (Ne.symm I.ne)).trans I.obj,hn2,I.ne⟩ hs2)
theorem make_map {R:Result→Shared→Prop} {vs:List Value} {kw:List (Str×Value)} (X:K.In s.heap) (hm:PySem.W.makesIn K C=true)
  (hi:PySem.W.findIn K (.ref C) "__init__" = some (some (.ref f))) (hf:PySem.W.typeIn K (.ref f)=some (.type "function"))
  (h:codeAny (model prog w) (A.under (.builtin "type.__call__" ⟨.ref C::vs,kw⟩)) (.call (.ref f) ⟨.ref (s.heap.objs.size+1)::vs,kw⟩) (PySem.W.InitBack (s.heap.objs.size+1) R)
   {s with heap:=(s.heap.push PySem.W.emptyDict).push (PySem.W.instObj C s.heap.objs.size)}) :
  codeAny (model prog w) A (.call (.ref C) ⟨vs,kw⟩) R s:=by
 obtain ⟨hh,g,d,t,os⟩:=s
 exact PySem.W.make_core (PySem.W.makes_of X hm) (PySem.W.looks_findIn X hi) (fun self=>PySem.W.bind_fn X self hf) (.inl rfl) h
end
noncomputable def putF (f:Str) (v:V):List (Str×V)→List (Str×V)
 | []=>[(f,v)]
 | (g,x)::r=>if g=f then (g,v)::r else (g,x)::putF f v r
theorem q42 (f g:Str) (v:V):∀ fs:List (Str×V),(putF f v fs).lookup g=if g=f then some v else fs.lookup g
 | []=>by
  show List.lookup g [(f,v)]=_
  by_cases h:g=f
  ·have hb:(g == f)=true:=beq_iff_eq.mpr h
   simp only [List.lookup,hb,if_pos h]
  ·have hb:(g == f)=false:=beq_eq_false_iff_ne.mpr h
   simp only [List.lookup,hb,if_neg h]
 | (k,x)::r=>by
  have ih:=q42 f g v r
  rw [show putF f v ((k,x)::r)=(if k=f then (k,v)::r else (k,x)::putF f v r) from rfl]
  by_cases hk:k=f
  ·rw [if_pos hk]
   by_cases h:g=k
   ·have hb:(g == k)=true:=beq_iff_eq.mpr h
    simp only [List.lookup,hb,if_pos (h.trans hk)]
   ·have hb:(g == k)=false:=beq_eq_false_iff_ne.mpr h
    simp only [List.lookup,hb,if_neg (fun e:g=f=>h (e.trans hk.symm))]
  ·rw [if_neg hk]
   by_cases h:g=k
   ·have hb:(g == k)=true:=beq_iff_eq.mpr h
    simp only [List.lookup,hb,if_neg (fun e:g=f=>hk (h.symm.trans e))]
   ·have hb:(g == k)=false:=beq_eq_false_iff_ne.mpr h
    simp only [List.lookup,hb]
    exact ih
theorem q46 (f:Str) (v:V):∀ fs:List (Str×V),f∈(putF f v fs).map (·.1)∧∀ g,g∈fs.map (·.1)→g∈(putF f v fs).map (·.1)
 | []=>⟨by simp [putF],fun g h=>by simp at h⟩
 | (k,x)::r=>by
  obtain ⟨i1,i2⟩:=q46 f v r
  rw [show putF f v ((k,x)::r)=(if k=f then (k,v)::r else (k,x)::putF f v r) from rfl]
  by_cases hk:k=f
  ·rw [if_pos hk]
   subst hk
   exact ⟨by simp,fun g h=>by simpa using h⟩
  ·rw [if_neg hk]
   refine ⟨?_,fun g h=>?_⟩
   ·rw [List.map_cons]
    exact List.mem_cons_of_mem _ i1
   ·rw [List.map_cons] at h ⊢
    rcases List.mem_cons.mp h with e | e
    ·exact List.mem_cons.mpr (.inl e)
    ·exact List.mem_cons_of_mem _ (i2 g e)
theorem q44 (f:Str) (v:V):∀ fs:List (Str×V),(putF f v fs).length≤fs.length+1
 | []=>by simp [putF]
 | (k,x)::r=>by
  have ih:=q44 f v r
  rw [show putF f v ((k,x)::r)=(if k=f then (k,v)::r else (k,x)::putF f v r) from rfl]
  by_cases hk:k=f
  ·rw [if_pos hk,List.length_cons,List.length_cons];omega
  ·rw [if_neg hk,List.length_cons,List.length_cons];omega
theorem RelO.some_of {v:V} {o:Option Value} (r:RelO (some v) o):∃ u,o=some u∧RelV v u:=by
 cases o with
 | none=>exact (show False from r).elim
 | some u=>exact ⟨u,rfl,r⟩
theorem RelO.none_of {o:Option Value} (r:RelO none o):o=none:=by
 cases o with
 | none=>rfl
 | some u=>exact (show False from r).elim
theorem handed_of {v:V} {u:Value} (r:RelV v u):PySem.W.handedIn u=true:=by
 cases v with
 | non=>cases (show u=Value.none from r);rfl
 | bl b=>cases (show u=Value.bool b from r);rfl
 | int i=>obtain ⟨t,e⟩:=(show ∃ t,u=Value.int i t from r);cases e;rfl
 | str x=>obtain ⟨t,e⟩:=(show ∃ t,u=Value.str x t from r);cases e;rfl
 | byt b=>obtain ⟨t,e⟩:=(show ∃ t,u=Value.bytes b t from r);cases e;rfl
 | flt b=>obtain ⟨t,e⟩:=(show ∃ t,u=Value.float b t from r);cases e;rfl
 | ref a=>cases (show u=Value.ref a from r);rfl
 | ty n=>cases (show u=Value.type n from r);rfl
section
variable {P:Program} {w:World} {H H':Hp} {h h':Heap} {a C dx:Addr} {fs fs':List (Str×V)}
theorem q5G (hok:HOk P w H h) (e:H a=some (.ins C dx fs)):∃ mA,ObjM h a dx C mA∧(∀ f,RelO (fs.lookup f) (mA f))∧PySem.Within mA (fs.map (·.1))∧fs.length≤1000∧H dx=some (.own a):=by
 obtain ⟨d,z,ne,ob,mA,n,r,q⟩:=(show ObjOk P w H h a (.ins C dx fs) from hok a _ e)
 exact ⟨mA,⟨ob,n,ne⟩,r,q,z,d⟩
end
structure Cls (K:PySem.W.Frag) (C:Addr):Prop where
 pg:PySem.W.plainGet K C Str.empty=true
 hd:PySem.W.hasDictIn K C=true
 po:PySem.W.plainOver K C=true
 sa:PySem.W.findIn K (.ref C) "__setattr__" = some (some (.builtin "object.__setattr__"))
theorem Cls.get {K:PySem.W.Frag} {C:Addr} (c:Cls K C) (f:Str):PySem.W.plainGet K C f=true:=c.pg
noncomputable def NoAttr (K:PySem.W.Frag) (C:Addr) (f:Str):Prop:=PySem.W.findIn K (.ref C) f=some none
theorem NoAttr.taker {K:PySem.W.Frag} {C:Addr} {f:Str} (n:NoAttr K C f):PySem.W.takerIn K C f=some none:=by
 unfold PySem.W.takerIn
 rw [show PySem.W.findIn K (.ref C) f=some none from n]
 rfl
structure Con (K:PySem.W.Frag) (C:Addr) (f:Str) (v:V) (u:Value):Prop where
 at_:PySem.W.findIn K (.ref C) f=some (some u)
 rel:RelV v u
 get:PySem.W.specialIn K u "__get__" = some none
 cp:PySem.W.copiedNames.contains f=false
structure Meth (K:PySem.W.Frag) (C:Addr) (m:Str) (f:Addr):Prop where
 at_:PySem.W.findIn K (.ref C) m=some (some (.ref f))
 fn:PySem.W.isFn K (.ref f)=true
 kp:PySem.W.keepIn K (.ref f)=true
section
variable {X:Cx} {pins:List (Addr×Obj)} {σ:St} {H:Hp} {s:Shared} {a C dx:Addr} {fs:List (Str×V)} {f:Str} {v:V} {A:Around} {E:Value→Shared→Prop}
theorem q7j {b:Bool} {Q:Value→Shared→Prop} (I:Inv X pins σ H s) (e:H a=some (.ins C dx fs)) (c:Cls X.K C) (n:NoAttr X.K C f) (l:fs.lookup f=some v)
  (h:∀ u s',Inv X pins σ H s'→RelV v u→Q u s'):wpAny (model X.prog X.w) A (getAttr (.ref a) f b) Q E s:=by
 obtain ⟨mA,O,r,_,_,_⟩:=q5G I.hok e
 obtain ⟨u,hu,ru⟩:=RelO.some_of (v:=v) (o:=mA f) (by rw [← l];exact r f)
 exact get_map I.kIn O (c.get f) c.hd n hu (handed_of ru) (h u _ (I.tok _) ru)
theorem q39 {m:Str} {g:Addr} {pl:Sem Bool} {Q:Value×List Value→Shared→Prop} (I:Inv X pins σ H s) (e:H a=some (.ins C dx fs)) (c:Cls X.K C) (k:Meth X.K C m g) (l:fs.lookup m=none)
  (h:Q (.ref g,[.ref a]) s):wpAny (model X.prog X.w) A (getMethod (.ref a) m pl) Q E s:=by
 obtain ⟨mA,O,r,_,_,_⟩:=q5G I.hok e
 have hn:mA m=none:=RelO.none_of (by rw [← l];exact r m)
 exact get_meth I.kIn O (c.get m) k.at_ k.fn hn h
theorem q7L {y:V} {u:Value} {Q:Unit→Shared→Prop} (I:Inv X pins σ H s) (e:H a=some (.ins C dx fs)) (c:Cls X.K C) (n:NoAttr X.K C f) (hl:fs.length < 1000) (ry:RelV y u)
  (h:∀ s',Inv X pins σ (upd H a (.ins C dx (putF f y fs))) s'→Q () s'):wpAny (model X.prog X.w) A (setAttr (.ref a) f u) Q E s:=by
 obtain ⟨mA,O,r,wi,_,ho⟩:=q5G I.hok e
 have hz:(fs.map (·.1)).length≤sizeLine:=by rw [List.length_map,sizeLine_eq];omega
 refine set_map I.kIn O c.sa c.po n.taker c.hd wi hz fun h' O' sb=>h _ ?_
 have hd:∃ o,h'.get? dx=some o:=let ⟨o,_,_,e',_⟩:=O'.ns;⟨o,e'⟩
 refine I.write (x:=a) (e:=dx) (by rw [e];exact True.intro) (.inr ho) (fun b q hb z=>(sb.2 b hb).trans z) hd ?_
 refine ⟨by rw [qF O.ne];exact ho,?_,O.ne,O'.obj,_,O'.ns,fun g=>?_,fun g hg=>?_⟩
 ·have:=q44 f y fs;omega
 ·show RelO ((putF f y fs).lookup g) (if g=f then some u else mA g)
  rw [q42]
  by_cases q:g=f
  ·rw [if_pos q,if_pos q];exact ry
  ·rw [if_neg q,if_neg q];exact r g
 ·by_cases q:g=f
  ·rw [q];exact (q46 f y fs).1
  ·refine (q46 f y fs).2 g (wi g fun z=>hg ?_)
   show (if g=f then some u else mA g)=none
   rw [if_neg q];exact z
theorem Inv.made (I:Inv X pins σ H s):Inv X pins σ (upd (upd H s.heap.objs.size (.own (s.heap.objs.size+1))) (s.heap.objs.size+1) (.ins C s.heap.objs.size []))
  {s with heap:=(s.heap.push PySem.W.emptyDict).push (PySem.W.instObj C s.heap.objs.size)}:=by
 have e1:(s.heap.push PySem.W.emptyDict).get? s.heap.objs.size=some PySem.W.emptyDict:=Heap.get?_push_size s.heap rfl
 have e2:((s.heap.push PySem.W.emptyDict).push (PySem.W.instObj C s.heap.objs.size)).get? (s.heap.objs.size+1)=some (PySem.W.instObj C s.heap.objs.size):=by
  have:=Heap.get?_push_size (s.heap.push PySem.W.emptyDict) (o:=PySem.W.instObj C s.heap.objs.size) rfl
  rwa [Heap.size_push] at this
 have e3:(s.heap.push PySem.W.emptyDict).Ns s.heap.objs.size (fun _=>none):=⟨PySem.W.emptyDict,#[],_,e1,rfl,(fun e he=>absurd he (by simp)),fun _=>rfl⟩
 have I1:=I.laid (a:=s.heap.objs.size) (o:=.own (s.heap.objs.size+1)) (h':=s.heap.push PySem.W.emptyDict) (t':=s.toks) (fun b u q=>Heap.get?_push_of_some _ q) (Nat.le_refl _) ⟨_,e1⟩
 refine I1.laid (a:=s.heap.objs.size+1) (o:=.ins C s.heap.objs.size []) (t':=s.toks) (fun b u q=>Heap.get?_push_of_some _ q) (Nat.le_of_eq (Heap.size_push _ _)) ?_
 have ne:s.heap.objs.size≠s.heap.objs.size+1:=Nat.ne_of_lt (Nat.lt_succ_self _)
 refine ⟨by rw [qF ne,qA],Nat.zero_le _,ne,e2,fun _=>none,(Heap.Ns1.of_empty e3).at fun o q=>Heap.get?_push_of_some _ q,fun _=>True.intro,fun y hy=>absurd rfl hy⟩
theorem attr_of {prog:Program} {w:World} {env:Env} {e:Expr} {f:Str} {pos:Pos} {s:Shared} {Q:Value→Shared→Prop} (hb:attributeBase e f env (eval e env)=eval e env)
  (h:wpAny (model prog w) A (eval e env) (fun o s₁=>wpAny (model prog w) A (getAttr o f true) Q E s₁) E s):wpAny (model prog w) A (eval (.Attribute e f pos) env) Q E s :=
 Attribute_any_ h (by rw [arm_eval_Attribute,hb])
end
noncomputable def tFld (K:PySem.W.Frag) (ta:TE) (f:Str):TE:=fun σ H Q=>ta σ H fun x H1=>∃ a C dx fs v,x = .ref a∧H1 a=some (.ins C dx fs)∧Cls K C∧NoAttr K C f∧fs.lookup f=some v∧Q v H1
noncomputable def sFld (K:PySem.W.Frag) (ta tv:TE) (f:Str):TS:=fun D σ H=>tv σ H fun y H1=>ta σ H1 fun x H2=>∃ a C dx fs,x = .ref a∧H2 a=some (.ins C dx fs)∧Cls K C∧NoAttr K C f∧fs.length < 1000 ∧
 D.nx σ (upd H2 a (.ins C dx (putF f y fs)))
section
variable {X:Cx} {o e value:Expr} {f:Str} {pos pos' tpos:Pos} {ta tv:TE}
theorem pe_fld (he:PE X e ta) (hb:attributeBase e f X.env (eval e X.env)=eval e X.env):PE X (.Attribute e f pos) (tFld X.K ta f):=by
 intro pins s σ H Q I h
 refine attr_of hb (thn (he pins s σ H _ I h) fun u s1 ⟨x,H1,I1,rx,a,C,dx,fs,v,ex,ea,c,n,l,q⟩=>?_)
 subst ex
 obtain rfl:u=Value.ref a:=rx
 exact q7j I1 ea c n l fun u' s2 I2 ru=>⟨v,H1,I2,ru,q⟩
theorem ps_fld (ha:PE X o ta) (hv:PE X value tv) (hs:swapsWith value (some (.Attribute o f pos')) pos.line X.env=pure false):PS X (.Assign [.Attribute o f pos'] value pos) (sFld X.K ta tv f):=by
 intro pins s σ H D I h
 refine plainObj_wpAny_Assign_Attribute (thn (hv pins s σ H _ I h) fun u s1 ⟨y,H1,I1,ry,q⟩=>thn (ha pins s1 σ H1 _ I1 q) fun ov s2 ⟨x,H2,I2,rx,a,C,dx,fs,ex,ea,c,n,l,q2⟩=>?_) hs
 subst ex
 obtain rfl:ov=Value.ref a:=rx
 exact q7L I2 ea c n l ry fun s3 I3=>⟨σ,_,I3,q2⟩
theorem methcall_of {pl:Sem Bool} {m:Str} {apos:Pos} {args:List Expr} {pins:List (Addr×Obj)} {s:Shared} {σ:St} {H:Hp} {Q:Value→Shared→Prop} {te:TE} (he:PE X e te) (I:Inv X pins σ H s)
  (h:te σ H fun x H1=>∃ a C dx fs g,x = .ref a∧H1 a=some (.ins C dx fs)∧Cls X.K C∧Meth X.K C m g∧fs.lookup m=none ∧
   ∀ s1,Inv X pins σ H1 s1→wpAny (model X.prog X.w) X.A (callWith pos (.ref g) [.ref a] (backTo pos (starEach args X.env)) (backToKw pos (keywordEach [] X.env))) Q X.xe s1)
  (ht:eval (.Call (.Attribute e m apos) args [] pos) X.env=(do
   let ov ← eval e X.env
   standAt apos.atName
   let (f,first) ← holding [ov] (getMethod ov m pl)
   callWith pos f first (backTo pos (starEach args X.env)) (backToKw pos (keywordEach [] X.env)))) :
  wpAny (model X.prog X.w) X.A (eval (.Call (.Attribute e m apos) args [] pos) X.env) Q X.xe s:=by
 refine PySem.W.methodCall_KW (pl:=pl) (thn (he pins s σ H _ I h) fun u s1 ⟨x,H1,I1,rx,a,C,dx,fs,g,ex,ea,c,k,l,q⟩=>?_) ht
 subst ex
 obtain rfl:u=Value.ref a:=rx
 exact q39 I1 ea c k l (q s1 I1)
end
section
variable {X:Cx} {pins:List (Addr×Obj)} {σ:St} {H:Hp} {s:Shared} {A:Around} {E:Value→Shared→Prop} {Q:Value→Shared→Prop} {c:Value} {b:Bool}
inductive TyOf (K:PySem.W.Frag) (H:Hp):V→Value→Prop where
 | non:TyOf K H .non (.type "NoneType")
 | bl (x:Bool):TyOf K H (.bl x) (.type "bool")
 | int (i:Int):TyOf K H (.int i) (.type "int")
 | str (x:Str):TyOf K H (.str x) (.type "str")
 | flt (x:UInt64):TyOf K H (.flt x) (.type "float")
 | lst {a:Addr} {xs:List V} (e:H a=some (.lst xs)):TyOf K H (.ref a) (.type "list")
 | frz {a:Addr} {o:Obj} {xs:List V} (e:H a=some (.frz o (.lst xs))):TyOf K H (.ref a) (.type "list")
 | tup {a:Addr} {xs:List V} (e:H a=some (.tup xs)):TyOf K H (.ref a) (.type "tuple")
 | dK {a:Addr} {kvs:List (Key×V)} (e:H a=some (.dK kvs)):TyOf K H (.ref a) (.type "dict")
 | dT {a:Addr} {kvs:List (List Key×V)} (e:H a=some (.dT kvs)):TyOf K H (.ref a) (.type "dict")
 | ins {a C dx:Addr} {fs:List (Str×V)} (e:H a=some (.ins C dx fs)) (cl:Cls K C) (ha:PySem.W.findIn K (.ref C) "__class__" = some (some (.builtin "object.__class__")))
   (hn:PySem.W.specialIn K (.builtin "object.__class__") "__get__" = some (some (.builtin "getset_descriptor.__get__"))) (htk:PySem.W.takesIn K (.builtin "object.__class__")=some true)
   (hm:PySem.W.mroIn K C (.type "object")=some true):TyOf K H (.ref a) (.ref C)
theorem isinst_ok {x:V} {u t:Value} (I:Inv X pins σ H s) (rx:RelV x u) (ty:TyOf X.K H x t) (e:PySem.W.kitOne X.K t c=some b) (h:∀ tk,Q (.bool b) {s with toks:=tk}) :
  wpAny (model X.prog X.w) A (call (.builtin "isinstance") [u,c]) Q E s:=by
 cases ty with
 | non=>cases (show u=Value.none from rx);exact PySem.W.kia_one PySem.W.kitx_none I.kIn True.intro e (fun z=>nomatch z) h
 | bl y=>cases (show u=Value.bool y from rx);exact PySem.W.kia_one PySem.W.kitx_bool I.kIn True.intro e (fun z=>nomatch z) h
 | int i=>obtain ⟨t,q⟩:=(show ∃ t,u=Value.int i t from rx);cases q;exact PySem.W.kia_one PySem.W.kitx_int I.kIn True.intro e (fun z=>nomatch z) h
 | str y=>obtain ⟨t,q⟩:=(show ∃ t,u=Value.str y t from rx);cases q;exact PySem.W.kia_one PySem.W.kitx_str I.kIn True.intro e (fun z=>nomatch z) h
 | flt y=>obtain ⟨t,q⟩:=(show ∃ t,u=Value.float y t from rx);cases q;exact PySem.W.kia_one PySem.W.kitx_float I.kIn True.intro e (fun z=>nomatch z) h
 | @lst a xs ea =>
  cases (show u=Value.ref a from rx)
  obtain ⟨_,_,n,_,h1⟩:=(show ObjOk X.prog X.w H s.heap a (.lst xs) from I.hok a _ ea)
  exact PySem.W.kia_one PySem.W.kitx_list I.kIn ⟨_,h1,rfl⟩ e (fun z=>nomatch z) h
 | @frz a ob xs ea =>
  cases (show u=Value.ref a from rx)
  obtain ⟨_,_,_,n,_,h1⟩:=(show ObjOk X.prog X.w H s.heap a (.frz ob (.lst xs)) from I.hok a _ ea)
  exact PySem.W.kia_one PySem.W.kitx_list I.kIn ⟨_,h1,rfl⟩ e (fun z=>nomatch z) h
 | @tup a xs ea =>
  cases (show u=Value.ref a from rx)
  obtain ⟨_,_,_,p⟩:=(show ObjOk X.prog X.w H s.heap a (.tup xs) from I.hok a _ ea)
  obtain ⟨o,h1,h2,_⟩:=p
  exact PySem.W.kia_one PySem.W.kitx_tuple I.kIn ⟨o,h1,h2⟩ e (fun z=>nomatch z) h
 | @dK a kvs ea =>
  cases (show u=Value.ref a from rx)
  obtain ⟨_,_,vs,_,p⟩:=(show ObjOk X.prog X.w H s.heap a (.dK kvs) from I.hok a _ ea)
  obtain ⟨o,es,ep,h1,h2,_⟩:=p
  exact PySem.W.kia_one PySem.W.kitx_dict I.kIn ⟨o,h1,h2.1⟩ e (fun z=>nomatch z) h
 | @dT a kvs ea =>
  cases (show u=Value.ref a from rx)
  obtain ⟨_,_,xs,_,o,es,ep,h1,h2,_⟩:=(show ObjOk X.prog X.w H s.heap a (.dT kvs) from I.hok a _ ea)
  exact PySem.W.kia_one PySem.W.kitx_dict I.kIn ⟨o,h1,h2.1⟩ e (fun z=>nomatch z) h
 | @ins a C dx fs ea cl ha hn htk hm =>
  cases (show u=Value.ref a from rx)
  obtain ⟨mA,O,_⟩:=q5G I.hok ea
  obtain ⟨od,J,_⟩:=O.look
  exact PySem.W.kia_one (PySem.W.kitx_own (cl.get _) cl.hd ha hn htk hm) I.kIn J e (fun z=>nomatch z) h
end
end L2
namespace L2
open PySem PySem.Spec PyProof.Rows
structure Room (k:Nat) (A:Around):Prop where
 hd:A.handled=none
 dp:A.depth+3*k+5 < recursionLimit
 un:A.units+16*k+200 < cLine
theorem Room.mono {j k:Nat} {A:Around} (r:Room k A) (h:j≤k):Room j A:=⟨r.hd,by have:=r.dp;omega,by have:=r.un;omega⟩
theorem Room.deeper {k:Nat} {A:Around} (r:Room (k+1) A) (env:Env):Room k (A.deeper env) :=
 ⟨r.hd,by have:=r.dp;show A.depth+1+3*k+5 < _;omega,by have:=r.un;show A.units+3+16*k+200 < _;omega⟩
theorem Room.in1 {k:Nat} {A:Around} (r:Room (k+1) A):Room k A.in1 :=
 ⟨r.hd,by have:=r.dp;show A.depth+3*k+5 < _;omega,by have:=r.un;show A.units+1+16*k+200 < _;omega⟩
theorem q7c {A:Around} {C:Addr} {us:List Value} {kw:List (Str×Value)}:(A.under (.builtin "type.__call__" ⟨.ref C::us,kw⟩)).depth=A.depth+1:=by
 first | rfl | simp [Around.under,Code.weight,Code.isCreation,Code.isGuard,Code.isCaller,Code.frames,Code.isFrame,guardIds]
theorem q7b {A:Around} {C:Addr} {us:List Value} {kw:List (Str×Value)}:(A.under (.builtin "type.__call__" ⟨.ref C::us,kw⟩)).units=A.units+1:=by
 first | rfl | simp [Around.under,Code.cUnits,Code.frames,Code.isFrame]
theorem Room.make {k:Nat} {A:Around} (r:Room (k+1) A) (C:Addr) (us:List Value) (kw:List (Str×Value)):Room k (A.under (.builtin "type.__call__" ⟨.ref C::us,kw⟩)) :=
 ⟨r.hd,by have:=r.dp;rw [q7c];omega,by have:=r.un;rw [q7b];omega⟩
theorem Room.depth {k:Nat} {A:Around} (r:Room k A):A.depth < recursionLimit:=by have:=r.dp;omega
theorem Room.units {k:Nat} {A:Around} (r:Room k A):A.units+64 < cLine:=by have:=r.un;omega
noncomputable def tNil:TA:=fun _ H Q=>Q [] H
noncomputable def tCons (ta:TE) (tr:TA):TA:=fun σ H Q=>ta σ H fun x H1=>tr σ H1 fun xs H2=>Q (x::xs) H2
section
variable {X:Cx} {e:Expr} {es:List Expr} {te:TE} {t:TA} {pos:Pos}
theorem qC:PA X [] tNil:=fun _ _ _ _ H Q I h=>Calls.spliced_nil ⟨[],H,I,.nil,h⟩
theorem q0 (ha:PE X e te) (hr:PA X es t) (hs:starEach (e::es) X.env=(false,eval e X.env)::starEach es X.env:=by rfl):PA X (e::es) (tCons te t):=by
 intro pos pins s σ H Q I h
 rw [hs]
 show wpAny _ _ (spliced ((false,eval e X.env)::backTo pos (starEach es X.env))) _ _ s
 refine Calls.spliced_cons (thn (ha pins s σ H _ I h) fun u s1 ⟨x,H1,I1,r1,q1⟩=>?_)
 exact thn (hr pos pins s1 σ H1 _ I1 q1) fun us s2 ⟨xs,H2,I2,r2,q2⟩=>⟨x::xs,H2,I2,.cons r1 r2,q2⟩
noncomputable def tTup (t:TA):TE:=fun σ H Q=>t σ H fun xs H1=>xs.length≤sizeLine∧∀ p,H1 p=none→Q (.ref p) (upd H1 p (.tup xs))
noncomputable def tLst (t:TA):TE:=fun σ H Q=>t σ H fun xs H1=>xs.length≤sizeLine∧∀ p,H1 p=none→Q (.ref p) (upd H1 p (.lst xs))
theorem qp {x1} (h:PA X es t):PE X (.Tuple es x1 pos) (tTup t):=by
 intro pins s σ H Q I hq
 refine wpAny_Tuple_spliced (thn (h pos pins s σ H _ I hq) fun us s1 ⟨xs,H1,I1,r,z,q⟩=>⟨by rw [← r.length];exact z,?_⟩)
 have hf:H1 s1.heap.objs.size=none:=I1.hok.fresh (Nat.le_refl _)
 refine ⟨.ref s1.heap.objs.size,upd H1 s1.heap.objs.size (.tup xs),I1.laid (t':=s1.toks) (fun b u e=>Heap.get?_push_of_some _ e) (Nat.le_refl _) ?_,rfl,q _ hf⟩
 exact ⟨z,us,r,⟨_,Heap.get?_push_size _ rfl,rfl,_,rfl⟩⟩
theorem qc (h:PA X es t):PE X (.List es pos) (tLst t):=by
 intro pins s σ H Q I hq
 refine wpAny_List_spliced (thn (h pos pins s σ H _ I hq) fun us s1 ⟨xs,H1,I1,r,z,q⟩=>⟨by rw [← r.length];exact z,?_⟩)
 have hf:H1 s1.heap.objs.size=none:=I1.hok.fresh (Nat.le_refl _)
 refine ⟨.ref s1.heap.objs.size,upd H1 s1.heap.objs.size (.lst xs),I1.laid (t':=s1.toks) (fun b u e=>Heap.get?_push_of_some _ e) (Nat.le_refl _) ?_,rfl,q _ hf⟩
 exact ⟨z,us,0,r,Heap.get?_push_size _ rfl⟩
end
noncomputable abbrev Sp:=List V→Hp→VK→XK→Prop
noncomputable abbrev CXT:=List Env→Hp→Shared→XK→Value→Shared→Prop
structure Env0 (P:Program) (w:World) (K:PySem.W.Frag) (mg:Str→Option Value) (base:Heap) (A:Around) (outer:List Env) (s:Shared) (H:Hp):Prop where
 frames:A.frames=some outer
 mod:Mod K mg base
 bs:∀ b o,base.get? b=some o→s.heap.get? b=some o∧H b=none
 bsz:base.objs.size≤s.heap.objs.size
 funs:s.heap.FunFrames base outer
 frf:∀ b∈frs outer,H b=none
 hok:HOk P w H s.heap
 bare:AllBare s.gens
noncomputable def CE (outer:List Env) (P:Program) (w:World) (H:Hp) (s:Shared) (Q:VK) (u:Value) (s':Shared):Prop :=
 ∃ v H',s'.os=s.os∧AllBare s'.gens∧Un (frs outer) [] H H' s.heap s'.heap∧HOk P w H' s'.heap∧RelV v u∧Q v H'
noncomputable def CR (CX:CXT) (outer:List Env) (P:Program) (w:World) (H:Hp) (s:Shared) (Q:VK) (E:XK) (r:Result) (s':Shared):Prop :=
 match r with
 | .ok (.ret u)=>CE outer P w H s Q u s'
 | .ok _=>False
 | .error e=>CX outer H s E e s'
structure FnOk (P:Program) (w:World) (K:PySem.W.Frag) (mg:Str→Option Value) (base:Heap) (CX:CXT) (k:Nat) (f:Addr) (fd:FuncData) (ps:List Str) (sp:Sp):Prop where
 len:∀ vs H Q E,sp vs H Q E→vs.length=ps.length
 run:∀ (A:Around) (outer:List Env) (s:Shared) (H:Hp) (args:Args) (us:List Value) (vs:List V) (Q:VK) (E:XK),Room k A→Env0 P w K mg base A outer s H→BindsTo s fd args (ps.zip us)→Vals vs us→sp vs H Q E →
  codeAny (model P w) A (.call (.ref f) args) (CR CX outer P w H s Q E) s
theorem FnOk.mono {P:Program} {w:World} {K:PySem.W.Frag} {mg:Str→Option Value} {base:Heap} {CX:CXT} {j k:Nat} {f:Addr} {fd:FuncData} {ps:List Str} {sp:Sp} (F:FnOk P w K mg base CX j f fd ps sp) (h:j≤k) :
  FnOk P w K mg base CX k f fd ps sp:=⟨F.len,fun A outer s H args us vs Q E hr=>F.run A outer s H args us vs Q E (hr.mono h)⟩
theorem FnOk.imp {P:Program} {w:World} {K:PySem.W.Frag} {mg:Str→Option Value} {base:Heap} {CX:CXT} {k:Nat} {f:Addr} {fd:FuncData} {ps:List Str} {sp sp':Sp} (F:FnOk P w K mg base CX k f fd ps sp)
  (h:∀ vs H Q E,sp' vs H Q E→sp vs H Q E):FnOk P w K mg base CX k f fd ps sp' :=
 ⟨fun vs H Q E q=>F.len vs H Q E (h _ _ _ _ q),fun A outer s H args us vs Q E hr he hb hv hs=>F.run A outer s H args us vs Q E hr he hb hv (h _ _ _ _ hs)⟩
theorem Env0.make {P:Program} {w:World} {K:PySem.W.Frag} {mg:Str→Option Value} {base:Heap} {A:Around} {outer:List Env} {s:Shared} {H:Hp} (e:Env0 P w K mg base A outer s H) (C:Addr) (us:List Value) (kw:List (Str×Value)) :
  Env0 P w K mg base (A.under (.builtin "type.__call__" ⟨.ref C::us,kw⟩)) outer s H:=⟨by first | exact e.frames | (simpa [Around.under,Code.envs,Code.isFrame,pushEnvs] using e.frames),e.mod,e.bs,e.bsz,e.funs,e.frf,e.hok,e.bare⟩
theorem Env0.in1 {P:Program} {w:World} {K:PySem.W.Frag} {mg:Str→Option Value} {base:Heap} {A:Around} {outer:List Env} {s:Shared} {H:Hp} (e:Env0 P w K mg base A outer s H) :
  Env0 P w K mg base A.in1 outer s H:=⟨e.frames,e.mod,e.bs,e.bsz,e.funs,e.frf,e.hok,e.bare⟩
section
variable {X:Cx} {pins:List (Addr×Obj)} {σ:St} {H:Hp} {s s':Shared}
theorem Inv.env0 (I:Inv X pins σ H s):Env0 X.prog X.w X.K X.mg X.base X.A X.stack s H :=
 ⟨I.ok.frames,I.ok.mod,I.bs,Nat.le_trans I.ok.bsz I.sz,I.stack,I.stkFree,I.hok,I.bare⟩
theorem Inv.after {Q:VK} {u:Value} (I:Inv X pins σ H s) (h:CE X.stack X.prog X.w H s Q u s'):EP X pins σ Q u s':=by
 obtain ⟨v,H',os,bare,un,hok,r,q⟩:=h
 obtain ⟨hh,g,d,t,os'⟩:=s'
 obtain rfl:os'=s.os:=os
 exact ⟨v,H',I.call (h':=hh) (g':=g) (d':=d) (t':=t) (ch:=[]) un hok bare (fun b z=>absurd z (by simp)),r,q⟩
end
noncomputable def tCall (sp:Sp) (dvs:List V) (E:XK) (t:TA):TE:=fun σ H Q=>t σ H fun vs H1=>sp (vs++dvs) H1 Q E
noncomputable def tMeth (C:Addr) (m:Str) (sp:Sp) (dvs:List V) (E:XK) (ta:TE) (t:TA):TE:=fun σ H Q=>ta σ H fun x H1=>∃ a dx fs,x = .ref a∧H1 a=some (.ins C dx fs)∧fs.lookup m=none ∧
 t σ H1 fun vs H2=>sp (x::(vs++dvs)) H2 Q E
noncomputable def tMake (C:Addr) (sp:Sp) (dvs:List V) (E:XK) (t:TA):TE:=fun σ H Q=>t σ H fun vs H1=>∀ x dx,H1 x=none→H1 dx=none→dx≠x →
 sp (.ref x::(vs++dvs)) (upd (upd H1 dx (.own x)) x (.ins C dx [])) (fun v H2=>v = .non∧Q (.ref x) H2) E
noncomputable def Binds (K:PySem.W.Frag) (fd:FuncData) (ps:List Str) (ds:List Value):Prop :=
 ∀ (s:Shared) (us:List Value),K.In s.heap→(us++ds).length=ps.length→BindsTo s fd ⟨us,[]⟩ (ps.zip (us++ds))
theorem Binds.all {K:PySem.W.Frag} {fd:FuncData} {ps:List Str} (h:∀ us:List Value,us.length=ps.length→bindArgs fd ⟨us,[]⟩=pure (ps.zip us)):Binds K fd ps []:=fun s us _ hl=>by
 rw [List.append_nil] at hl ⊢
 exact .of_eq (h us hl)
noncomputable def q1p (CX:CXT) (X:Cx) (E:XK):Prop:=∀ (pins:List (Addr×Obj)) (σ:St) (H:Hp) (s:Shared) (e:Value) (s':Shared),Inv X pins σ H s→CX X.stack H s E e s'→X.xe e s'
section
variable {X:Cx} {CX:CXT} {k:Nat} {f C:Addr} {fd:FuncData} {ps:List Str} {sp:Sp} {dvs:List V} {ds:List Value} {E:XK} {x m:Str} {p pos apos:Pos} {e o:Expr} {es:List Expr} {ta:TE} {t:TA}
theorem run_fn {pins:List (Addr×Obj)} {σ:St} {H:Hp} {s:Shared} {Q:VK} {us:List Value} {vs:List V} (F:FnOk X.prog X.w X.K X.mg X.base CX k f fd ps sp) (hr:Room k X.A) (hb:Binds X.K fd ps ds) (hd:Vals dvs ds) (hx:q1p CX X E)
  (I:Inv X pins σ H s) (r:Vals vs us) (h:sp (vs++dvs) H Q E):wpAny (model X.prog X.w) X.A (call (.ref f) us) (EP X pins σ Q) X.xe s:=by
 have r2:Vals (vs++dvs) (us++ds):=r.append hd
 have hl:(us++ds).length=ps.length:=by rw [← r2.length];exact F.len _ _ _ _ h
 refine wpAny_call (codeAny_mono (F.run X.A X.stack s H ⟨us,[]⟩ (us++ds) (vs++dvs) Q E hr I.env0 (hb s us I.kIn hl) r2 h) fun r s' hq=>?_)
 cases r with
 | error e=>exact hx pins σ H s e s' I hq
 | ok fl =>
  cases fl with
  | ret u=>exact I.after hq
  | next=>exact False.elim hq
  | brk=>exact False.elim hq
  | cont=>exact False.elim hq
theorem pe_call (F:FnOk X.prog X.w X.K X.mg X.base CX k f fd ps sp) (hr:Room k X.A) (hg:Gl X x) (hm:X.mg x=some (.ref f)) (hk:PySem.W.keepIn X.K (.ref f)=true) (hb:Binds X.K fd ps ds) (hd:Vals dvs ds) (hx:q1p CX X E)
  (ha:PA X (e::es) t) (hdb:(x == ("__debug__" : Str))=false:=by decide) (he:starEach (e::es) X.env=(false,eval e X.env)::starEach es X.env:=by rfl) (hpl:(backTo pos (starEach es X.env)).any (·.1)=false:=by rfl) :
  PE X (.Call (.Name x p) (e::es) [] pos) (tCall sp dvs E t):=by
 intro pins s σ H Q I h
 refine wpAny_Call_Name_kw (q45 I hg hm ?_ hdb)
 refine PySem.W.callWith_K (h₀:=X.base) I.ok.mod.kin hk (thn (ha pos pins s σ H _ I h) fun us s1 ⟨vs,H1,I1,r,q⟩=>⟨I1.kIn,?_⟩) he hpl
 exact run_fn F hr hb hd hx I1 r q
theorem pe_meth {pl:Sem Bool} (he:PE X o ta) (c:Cls X.K C) (hm:Meth X.K C m f) (F:FnOk X.prog X.w X.K X.mg X.base CX k f fd ps sp) (hr:Room k X.A) (hb:Binds X.K fd ps ds) (hd:Vals dvs ds) (hx:q1p CX X E) (ha:PA X (e::es) t)
  (hst:starEach (e::es) X.env=(false,eval e X.env)::starEach es X.env:=by rfl) (hpl:(backTo pos (starEach es X.env)).any (·.1)=false:=by rfl)
  (ht:eval (.Call (.Attribute o m apos) (e::es) [] pos) X.env=(do
   let ov ← eval o X.env
   standAt apos.atName
   let (f,first) ← holding [ov] (getMethod ov m pl)
   callWith pos f first (backTo pos (starEach (e::es) X.env)) (backToKw pos (keywordEach [] X.env))):=by rfl) :
  PE X (.Call (.Attribute o m apos) (e::es) [] pos) (tMeth C m sp dvs E ta t):=by
 intro pins s σ H Q I h
 refine PySem.W.methodCall_KW (pl:=pl) (thn (he pins s σ H _ I h) fun u s1 ⟨x,H1,I1,rx,a,dx,fs,ex,ea,l,q⟩=>?_) ht
 subst ex
 obtain rfl:u=Value.ref a:=rx
 refine q39 I1 ea c hm l ?_
 refine PySem.W.callWith_K (first:=[.ref a]) (h₀:=X.base) I.ok.mod.kin hm.kp (thn (ha pos pins s1 σ H1 _ I1 q) fun us s2 ⟨vs,H2,I2,r,q2⟩=>⟨I2.kIn,?_⟩) hst hpl
 exact run_fn (us:=.ref a::us) (vs:=.ref a::vs) F hr hb hd hx I2 (.cons rfl r) q2
theorem pe_meth0 {pl:Sem Bool} (he:PE X o ta) (c:Cls X.K C) (hm:Meth X.K C m f) (F:FnOk X.prog X.w X.K X.mg X.base CX k f fd ps sp) (hr:Room k X.A) (hb:Binds X.K fd ps ds) (hd:Vals dvs ds) (hx:q1p CX X E)
  (ht:eval (.Call (.Attribute o m apos) [] [] pos) X.env=(do
   let ov ← eval o X.env
   standAt apos.atName
   let (f,first) ← holding [ov] (getMethod ov m pl)
   callWith pos f first (backTo pos (starEach [] X.env)) (backToKw pos (keywordEach [] X.env))):=by rfl) :
  PE X (.Call (.Attribute o m apos) [] [] pos) (tMeth C m sp dvs E ta tNil):=by
 intro pins s σ H Q I h
 refine PySem.W.methodCall_KW (pl:=pl) (thn (he pins s σ H _ I h) fun u s1 ⟨x,H1,I1,rx,a,dx,fs,ex,ea,l,q⟩=>?_) ht
 subst ex
 obtain rfl:u=Value.ref a:=rx
 refine q39 I1 ea c hm l ?_
 exact PySem.W.callWith_K0 (first:=[.ref a]) I1.kIn hm.kp (run_fn (us:=[.ref a]) (vs:=[.ref a]) F hr hb hd hx I1 (.cons rfl .nil) q)
structure Mk (K:PySem.W.Frag) (C f:Addr):Prop where
 makes:PySem.W.makesIn K C=true
 init:PySem.W.findIn K (.ref C) "__init__" = some (some (.ref f))
 fn:PySem.W.isFn K (.ref f)=true
 kp:PySem.W.keepIn K (.ref C)=true
theorem run_make {pins:List (Addr×Obj)} {σ:St} {H:Hp} {s:Shared} {Q:VK} {us:List Value} {vs:List V} (M:Mk X.K C f) (F:FnOk X.prog X.w X.K X.mg X.base CX k f fd ps sp) (hr:Room (k+1) X.A) (hb:Binds X.K fd ps ds) (hd:Vals dvs ds)
  (hx:q1p CX X E) (I:Inv X pins σ H s) (r:Vals vs us)
  (h:∀ x dx,H x=none→H dx=none→dx≠x→sp (.ref x::(vs++dvs)) (upd (upd H dx (.own x)) x (.ins C dx [])) (fun v H2=>v = .non∧Q (.ref x) H2) E) :
  wpAny (model X.prog X.w) X.A (call (.ref C) us) (EP X pins σ Q) X.xe s:=by
 have hq:=h (s.heap.objs.size+1) s.heap.objs.size (I.hok.fresh (Nat.le_succ _)) (I.hok.fresh (Nat.le_refl _)) (Nat.ne_of_lt (Nat.lt_succ_self _))
 have I2:=Inv.made (C:=C) I
 have r2:Vals (V.ref (s.heap.objs.size+1)::(vs++dvs)) (Value.ref (s.heap.objs.size+1)::(us++ds)):=.cons rfl (r.append hd)
 have hl:(Value.ref (s.heap.objs.size+1)::us++ds).length=ps.length:=by
  have e:=r2.length
  rw [F.len _ _ _ _ hq] at e
  exact e.symm
 refine wpAny_call (make_map (f:=f) I.kIn M.makes M.init (beq_iff_eq.mp M.fn) (codeAny_mono (F.run _ X.stack _ _ ⟨Value.ref (s.heap.objs.size+1)::us,[]⟩ (Value.ref (s.heap.objs.size+1)::(us++ds)) _ _ E (hr.make C us [])
  (I2.env0.make C us []) (hb _ (Value.ref (s.heap.objs.size+1)::us) I2.kIn hl) r2 hq) fun r s' hq'=>?_))
 cases r with
 | error e=>exact hx pins σ _ _ e s' I2 hq'
 | ok fl =>
  cases fl with
  | ret u =>
   obtain ⟨v,H',I3,rv,ev,q3⟩:=I2.after hq'
   subst ev
   exact ⟨rv,⟨V.ref (s.heap.objs.size+1),H',I3,rfl,q3⟩⟩
  | next=>exact False.elim hq'
  | brk=>exact False.elim hq'
  | cont=>exact False.elim hq'
theorem pe_make0 (M:Mk X.K C f) (F:FnOk X.prog X.w X.K X.mg X.base CX k f fd ps sp) (hr:Room (k+1) X.A) (hg:Gl X x) (hm:X.mg x=some (.ref C)) (hb:Binds X.K fd ps ds) (hd:Vals dvs ds) (hx:q1p CX X E)
  (hdb:(x == ("__debug__" : Str))=false:=by decide):PE X (.Call (.Name x p) [] [] pos) (tMake C sp dvs E tNil):=by
 intro pins s σ H Q I h
 refine wpAny_Call_Name_kw (q45 I hg hm ?_ hdb)
 exact PySem.W.callWith_K0 I.kIn M.kp (run_make (us:=[]) M F hr hb hd hx I .nil h)
end
noncomputable def PK (X:Cx) (kws:List Keyword) (t:TA):Prop :=
 ∀ (pos:Pos) (pins:List (Addr×Obj)) (s:Shared) (σ:St) (H:Hp) (Q:List V→Hp→Prop),Inv X pins σ H s→t σ H Q→wpAny (model X.prog X.w) X.A (evalAll ((backToKw pos (keywordEach kws X.env)).map (·.2))) (AP X pins σ Q) X.xe s
section
variable {X:Cx} {CX:CXT} {k:Nat} {f C:Addr} {fd:FuncData} {ps ks:List Str} {sp:Sp} {E:XK} {x m:Str} {p pos apos kpos:Pos} {e o:Expr} {es:List Expr} {kws:List Keyword} {te ta:TE} {t tk:TA} {nm:Option Str}
theorem pk_nil:PK X [] tNil:=fun _ _ _ _ H Q I h=>wpAny_evalAll_nil ⟨[],H,I,.nil,h⟩
theorem pk_cons (ha:PE X e te) (hr:PK X kws t):PK X (⟨nm,e,kpos⟩::kws) (tCons te t):=by
 intro pos pins s σ H Q I h
 show wpAny _ _ (evalAll ((do let v ← eval e X.env;standAt pos;pure v)::(backToKw pos (keywordEach kws X.env)).map (·.2))) _ _ s
 refine wpAny_evalAll_cons (wpAny_bind (thn (ha pins s σ H _ I h) fun u s1 ⟨x,H1,I1,r1,q1⟩=>wpAny_bind (wpAny_standAt (wpAny_pure ?_))))
 exact thn (hr pos pins s1 σ H1 _ I1 q1) fun us s2 ⟨xs,H2,I2,r2,q2⟩=>⟨x::xs,H2,I2,.cons r1 r2,q2⟩
structure KBinds (K:PySem.W.Frag) (fd:FuncData) (ps ks:List Str) (g:List Value→List Value→List Value) (gV:List V→List V→List V):Prop where
 to:∀ (s:Shared) (us ws:List Value),K.In s.heap→(g us ws).length=ps.length→BindsTo s fd ⟨us,ks.zip ws⟩ (ps.zip (g us ws))
 rel:∀ {vs:List V} {us:List Value} {zs:List V} {ws:List Value},Vals vs us→Vals zs ws→Vals (gV vs zs) (g us ws)
variable {g:List Value→List Value→List Value} {gV:List V→List V→List V}
end
structure FnScope (N P:List Str) (sc:Scope):Prop where
 kind:sc.kind = .function
 co:sc.isCoroutine=false
 gen:sc.isGenerator=false
 nd:N.Nodup
 pre:N.take P.length=P
 par:∀ x∈P,sc.names.lookup x=some .local∨sc.names.lookup x=some .cell
 nofree:∀ y∈sc.names,y.2≠.free
theorem q67 {kindOf:Str→Option NameKind} {x:Str}:∀ {binds:List (Str×Value)} {m:Str→Option Value},(∀ v,(x,v)∉binds)→bindL kindOf binds m x=m x
 | [],_,_=>rfl
 | (n,v)::r,m,h=>by
  unfold bindL
  rw [q67 fun w hw=>h w (List.mem_cons_of_mem _ hw)]
  split
  ·have:x≠n:=by rintro rfl;exact h v List.mem_cons_self
   simp [this]
  ·rfl
theorem q69 {kindOf:Str→Option NameKind} {x:Str}:∀ {binds:List (Str×Value)} {m:Str→Option Value},(∀ v,(x,v)∉binds)→bindC kindOf binds m x=m x
 | [],_,_=>rfl
 | (n,v)::r,m,h=>by
  unfold bindC
  rw [q69 fun w hw=>h w (List.mem_cons_of_mem _ hw)]
  split
  ·rfl
  ·have:x≠n:=by rintro rfl;exact h v List.mem_cons_self
   simp [this]
theorem q68 {kindOf:Str→Option NameKind} {x:Str} {v:Value}:∀ {P:List Str} {vs:List Value} {i:Nat} {m:Str→Option Value},P.Nodup→P[i]?=some x→vs[i]?=some v→kindOf x=some .local →
  bindL kindOf (P.zip vs) m x=some v
 | [],_,_,_,_,h,_,_=>by simp at h
 | _::_,[],_,_,_,_,h,_=>by simp at h
 | p::P,w::vs,0,m,nd,h1,h2,hk=>by
  simp at h1 h2;subst h1;subst h2
  show bindL kindOf ((p,w)::P.zip vs) m p=_
  unfold bindL
  rw [q67 fun v hv=>(List.nodup_cons.mp nd).1 (List.of_mem_zip hv).1,if_pos hk]
  simp
 | p::P,w::vs,i+1,m,nd,h1,h2,hk=>by
  show bindL kindOf ((p,w)::P.zip vs) m x=_
  unfold bindL
  exact q68 (i:=i) (List.nodup_cons.mp nd).2 (by simpa using h1) (by simpa using h2) hk
theorem q6A {kindOf:Str→Option NameKind} {x:Str} {v:Value}:∀ {P:List Str} {vs:List Value} {i:Nat} {m:Str→Option Value},P.Nodup→P[i]?=some x→vs[i]?=some v→kindOf x≠some .local →
  bindC kindOf (P.zip vs) m x=some v
 | [],_,_,_,_,h,_,_=>by simp at h
 | _::_,[],_,_,_,_,h,_=>by simp at h
 | p::P,w::vs,0,m,nd,h1,h2,hk=>by
  simp at h1 h2;subst h1;subst h2
  show bindC kindOf ((p,w)::P.zip vs) m p=_
  unfold bindC
  rw [q69 fun v hv=>(List.nodup_cons.mp nd).1 (List.of_mem_zip hv).1,if_neg hk]
  simp
 | p::P,w::vs,i+1,m,nd,h1,h2,hk=>by
  show bindC kindOf ((p,w)::P.zip vs) m x=_
  unfold bindC
  exact q6A (i:=i) (List.nodup_cons.mp nd).2 (by simpa using h1) (by simpa using h2) hk
noncomputable def q4p (N:List Str) (vs:List V):St:=vs.map some++List.replicate (N.length-vs.length) none
noncomputable def cxOf (CX:CXT) (P:Program) (w:World) (K:PySem.W.Frag) (mg:Str→Option Value) (base:Heap) (N:List Str) (qual:Str) (scope:Scope) (f:Addr) (cd:Value) (A:Around) (outer:List Env) (s:Shared) (H:Hp) (E:XK):Cx where
 prog:=P
 w:=w
 K:=K
 mg:=mg
 base:=base
 A:=A.deeper (envOfC qual scope s.heap.objs.size f cd)
 N:=N
 s₀:=s
 H₀:=H
 env:=envOfC qual scope s.heap.objs.size f cd
 outer:=outer
 stack:=envOfC qual scope s.heap.objs.size f cd::outer
 ex:=[]
 calm:=true
 fn:=fun _=>true
 pn:=[]
 xe:=fun e s'=>wpAny (model P w) (A.deeper (envOfC qual scope s.heap.objs.size f cd)) (leaving (envOfC qual scope s.heap.objs.size f cd) e) (fun _ s''=>CX outer H s E e s'') (fun e' s''=>CX outer H s E e' s'') s'
theorem q7A {sc:Scope} {n:Nat} {x:Str} (h:sc.names.lookup x=some .cell):∃ c,(cellsFrom n sc.names []).lookup x=some c:=by
 have q:=PySem.W.cellsFrom_some sc.names n [] (.inl h)
 exact Option.isSome_iff_exists.mp q
theorem inv_start {CX:CXT} {P:Program} {w:World} {K:PySem.W.Frag} {mg:Str→Option Value} {base:Heap} {N ps:List Str} {qual:Str} {scope:Scope} {f:Addr} {cd:Value} {A:Around} {outer:List Env} {s s1:Shared} {H:Hp} {E:XK} {us:List Value} {vs:List V}
  (S:FnScope N ps scope) (hd:A.handled=none) (e0:Env0 P w K mg base A outer s H) (hl:vs.length=ps.length) (r:Vals vs us)
  (x:InCallC s s.heap.objs.size (bindL (envOfC qual scope s.heap.objs.size f cd).kindOf (ps.zip us) fun _=>none) (cellsFrom (s.heap.objs.size+1) scope.names []) (bindC (envOfC qual scope s.heap.objs.size f cd).kindOf (ps.zip us) fun _=>none) s1) :
  Inv (cxOf CX P w K mg base N qual scope f cd A outer s H E) [] (q4p N vs) H s1:=by
 have hpl:ps.length≤N.length:=by have:=congrArg List.length S.pre;rw [List.length_take] at this;omega
 obtain ⟨h1,tk,rfl,hk⟩:=x.done
 have noA:∀ b:Addr,b∉(cxOf CX P w K mg base N qual scope f cd A outer s H E).ex:=fun b z=>absurd (show b∈([]:List Addr) from z) (by simp)
 refine ⟨⟨e0.mod,S.kind,rfl,rfl,Nat.le_refl _,fun y z c h1 h2=>?_,fun y hy=>?_,fun y c _ h=>?_,fun _=>hd,Around.frames_deeper e0.frames,.inr ⟨rfl,rfl⟩,fun b z=>absurd z (noA b),e0.bs,e0.bsz,fun b _ _=>noA b,fun b z=>absurd z (noA b),e0.funs,e0.frf⟩,
  rfl,e0.bare,Un.kept hk,⟨_,x.toInCall.ns,fun i y v h1 h2 h3=>?_⟩,fun y c h=>⟨_,x.cell y c h⟩,e0.hok.fresh (Nat.le_refl _),fun y c h=>?_,fun p hp=>absurd (show p∈([]:List (Addr×Obj)) from hp) (by simp),e0.hok.kept hk,?_⟩
 ·exact name_of_addr x.apart (PySem.mem_of_lookup h1) (PySem.mem_of_lookup h2)
 ·have hy:scope.names.lookup y=some .cell∨scope.names.lookup y=some .free:=hy
  rcases hy with hy | hy
  ·exact q7A hy
  ·exact absurd rfl (S.nofree _ (PySem.mem_of_lookup hy))
 ·exact Nat.le_of_lt (x.above y c (PySem.mem_of_lookup h))
 ·have hi:i < vs.length:=by
   unfold q4p at h2
   by_cases hi:i < vs.length
   ·exact hi
   ·rw [List.getElem?_append_right (by simpa using hi)] at h2
    rw [List.getElem?_replicate] at h2
    split at h2 <;> cases h2
  have ha:vs[i]?=some v:=by
   unfold q4p at h2
   rw [List.getElem?_append_left (by simpa using hi),List.getElem?_map] at h2
   cases e:vs[i]? with
   | none=>rw [e] at h2;cases h2
   | some a=>rw [e] at h2;cases h2;rfl
  obtain ⟨u,hu,rv⟩:=r.get ha
  have hp:ps[i]?=some y:=by
   rw [← S.pre,List.getElem?_take_of_lt (by omega)];exact h1
  have ndP:ps.Nodup:=by rw [← S.pre];exact S.nd.sublist (List.take_sublist _ _)
  refine ⟨u,rv,?_⟩
  rcases S.par y (List.mem_of_getElem? hp) with k | k
  ·exact .inl ⟨k,q68 ndP hp hu k⟩
  ·obtain ⟨c,e⟩:=q7A (n:=s.heap.objs.size+1) k
   refine .inr ⟨.inl k,c,e,?_⟩
   have q:=x.cell y c e
   rw [q6A ndP hp hu (by show scope.names.lookup y≠_;rw [k];decide)] at q
   exact q
 ·exact e0.hok.fresh (Nat.le_of_lt (x.above y c (PySem.mem_of_lookup h)))
 ·unfold q4p
  show _=N.length
  rw [List.length_append,List.length_map,List.length_replicate]
  omega
theorem fn_of {CX:CXT} {P:Program} {w:World} {K:PySem.W.Frag} {mg:Str→Option Value} {base:Heap} {k:Nat} {f:Addr} {name qual:Str} {params:Arguments} {body:List Stmt} {scope:Scope} {dV kV doc pm cdv ct oc:Value} {an od:Option Addr}
  {osl:Array (Option Value)} {N ps:List Str} {sp:Sp} (lk:K.lookup f=some ⟨oc,od,.func (PySem.W.fnOf name qual params body scope dV kV doc pm an cdv ct),osl⟩) (hcd:PySem.W.codeIn K cdv qual=true) (S:FnScope N ps scope)
  (len:∀ vs H Q E,sp vs H Q E→vs.length=ps.length)
  (hbody:∀ (A:Around) (outer:List Env) (s:Shared) (H:Hp) (vs:List V) (Q:VK) (E:XK),Room k (A.deeper (envOfC qual scope s.heap.objs.size f cdv))→sp vs H Q E →
   ∃ t,PSs (cxOf CX P w K mg base N qual scope f cdv A outer s H E) body t∧t {nx:=fun _ H'=>Q .non H',rt:=Q} (q4p N vs) H) :
  FnOk P w K mg base CX (k+1) f (PySem.W.fnOf name qual params body scope dV kV doc pm an cdv ct) ps sp:=by
 refine ⟨len,fun A outer s H args us vs Q E hr e0 hb r hsp=>?_⟩
 have hl:=len _ _ _ _ hsp
 have KX:K.In s.heap:=e0.mod.kin.keeps fun b o e=>(e0.bs b o e).1
 have lim:s.heap.NoLimit:=e0.mod.nolimit.keeps fun b o e=>(e0.bs b o e).1
 have hkind:∀ y∈ps.zip us,scope.names.lookup y.1=some .local∨(scope.names.lookup y.1=some .cell∧((cellsFrom (s.heap.objs.size+1) scope.names []).lookup y.1).isSome=true):=fun ⟨n,v⟩ hy=>by
  rcases S.par n (List.of_mem_zip hy).1 with q | q
  ·exact .inl q
  ·exact .inr ⟨q,PySem.W.cellsFrom_some _ _ _ (.inl q)⟩
 refine codeAny_call_function hr.depth (KX _ _ lk) rfl S.co S.gen rfl (PySem.W.codeRec_of KX hcd) (hb _ _ _ _ ?_)
 refine wpAny_newFunctionEnv_cells S.kind hkind fun env he s1 x=>?_
 subst he
 refine ⟨lim.keeps x.toInCall.keep,codeAny_func ?_⟩
 obtain ⟨t,ht,hq⟩:=hbody A outer s H vs Q E (hr.deeper _) hsp
 have I:Inv (cxOf CX P w K mg base N qual scope f cdv A outer s H E) [] (q4p N vs) H s1:=inv_start S hr.hd e0 hl r x
 refine wpAny_mono (ht [] s1 (q4p N vs) H _ I hq) (fun fl s' hs=>?_) fun e s' hs=>hs
 have fin:∀ {σ':St} {H':Hp} {v:V} {u:Value},Inv (cxOf CX P w K mg base N qual scope f cdv A outer s H E) [] σ' H' s'→RelV v u→Q v H'→CE outer P w H s Q u s' :=
  fun {σ' H' v u} J rv q=>⟨v,H',J.os,J.bare,J.base,J.hok,rv,q⟩
 cases fl with
 | ret u =>
  obtain ⟨v,σ',H',J,rv,q⟩:=hs
  exact fin J rv q
 | next =>
  obtain ⟨σ',H',J,q⟩:=hs
  exact fin (v:=V.non) (u:=Value.none) J rfl q
 | brk =>
  obtain ⟨_,_,_,q⟩:=hs
  exact False.elim q
 | cont =>
  obtain ⟨_,_,_,q⟩:=hs
  exact False.elim q
end L2
namespace L2
open PySem PySem.Spec PyProof.Rows
section
variable {X:Cx} {x:Str} {p pos:Pos} {e:Expr} {es:List Expr} {t:TA} {id T:String} {r:List V→Hp→VK→Prop}
noncomputable def tCB (r:List V→Hp→VK→Prop) (t:TA):TE:=fun σ H Q=>t σ H fun vs H1=>r vs H1 Q
theorem qV (hc:q1k X (.builtin id) r) (hg:Gl X x) (hm:X.mg x=none) (hv:bootBuiltins x=some (.builtin id)) (ha:PA X (e::es) t) (hn:x≠"__name__":=by decide) (hdb:(x == ("__debug__" : Str))=false:=by decide)
  (he:starEach (e::es) X.env=(false,eval e X.env)::starEach es X.env:=by rfl) (hpl:(backTo pos (starEach es X.env)).any (·.1)=false:=by rfl):PE X (.Call (.Name x p) (e::es) [] pos) (tCB r t):=by
 intro pins s σ H Q I h
 refine wpAny_Call_Name_kw (q3H I hg hm hv ?_ hn hdb)
 exact PyProof.Rows.callWith_builtin1 (thn (ha pos pins s σ H _ I h) fun us s1 ⟨vs,H1,I1,r1,q1⟩=>hc pins s1 σ H1 vs us Q I1 r1 q1) he hpl
theorem qd (hc:q1k X (.type T) r) (hg:Gl X x) (hm:X.mg x=none) (hv:bootBuiltins x=some (.type T)) (ha:PA X (e::es) t) (hn:x≠"__name__":=by decide) (hdb:(x == ("__debug__" : Str))=false:=by decide)
  (he:starEach (e::es) X.env=(false,eval e X.env)::starEach es X.env:=by rfl) (hpl:(backTo pos (starEach es X.env)).any (·.1)=false:=by rfl):PE X (.Call (.Name x p) (e::es) [] pos) (tCB r t):=by
 intro pins s σ H Q I h
 refine wpAny_Call_Name_kw (q3H I hg hm hv ?_ hn hdb)
 exact PyProof.Rows.callWith_type1 (thn (ha pos pins s σ H _ I h) fun us s1 ⟨vs,H1,I1,r1,q1⟩=>hc pins s1 σ H1 vs us Q I1 r1 q1) he hpl
end
end L2
namespace HT
open PySem PyProof.Rows
noncomputable def lexLt:List Int→List Int→Bool
 | [],[]=>false
 | [],_::_=>true
 | _::_,[]=>false
 | x::xs,y::ys=>if x=y then lexLt xs ys else decide (x < y)
theorem lexLt_cons (x y:Int) (xs ys:List Int):lexLt (x::xs) (y::ys)=if x=y then lexLt xs ys else decide (x < y):=rfl
theorem lexLt_nil_nil:lexLt [] []=false:=rfl
theorem q4L (y:Int) (ys:List Int):lexLt [] (y::ys)=true:=rfl
theorem q4M (x:Int) (xs:List Int):lexLt (x::xs) []=false:=rfl
theorem eqAt_int (A:Around) (s:Shared) (a:Int) (t:Tok) (c:Int) (u:Tok):∃ e,SeqAt.EqAt A s (.int a t) (.int c u) e∧(e=true↔a=c) :=
 ⟨(a == c),SeqAt.EqAt.int_int a t c u,by simp⟩
theorem rcLt_int (A:Around) (s:Shared) (a:Int) (t:Tok) (c:Int) (u:Tok) (prog:Program) (w:World) (E:Value→Shared→Prop) (Q:Value→Shared→Prop) (h:Q (.bool (decide (a < c))) s) :
  wpAny (model prog w) A (richCompare .Lt (.int a t) (.int c u)) Q E s :=
 (PyProof.Rows.lt_int h:wpAny (model prog w) A (compareOp .Lt (.int a t) (.int c u)) Q E s)
section
open PySem.SeqAt
open PySem.AutoSeq1 (wpAny_loadPart')
open PySem.MeetsSeq PySem.MeetsSeq2 PySem.MeetsSeq3
theorem q4o (l b:Addr) (items items2:Array Value) (n n2:Nat) (dd dd2:Option Addr) (sl sl2:Array (Option Value)) (ns ms:List Int) (hi:IntsAre items.toList ns) (hj:IntsAre items2.toList ms) :
  Meets (Builtin.«tuple.__lt__» ⟨[.ref l,.ref b],[]⟩)
   (fun _ R s=>s.heap.get? l=some {cls:=.type "tuple",dict:=dd,data:=.seq items n,slots:=sl}∧s.heap.get? b=some {cls:=.type "tuple",dict:=dd2,data:=.seq items2 n2,slots:=sl2} ∧
    R (.ok (.ret (.bool (lexLt ns ms)))) s) :=
 .of_wp fun prog w A R s h=>by
  obtain ⟨hp,g,d,tk,os⟩:=s;obtain ⟨hl,hb,h⟩:=h
  have f2:=AutoSeq1.sub_tuple_tuple
  have z1:items.size=ns.length:=by rw [← hi.length];simp
  have z2:items2.size=ms.length:=by rw [← hj.length];simp
  wp_walk using wpAny_loadPart' hl,wpAny_loadPart' hb,wpAny_forIn_list _ (fun rest b s'=>b.1=none∧s'=⟨hp,g,d,tk,os⟩∧∃ (vs ws:List Value) (ns' ms':List Int),rest=vs.zip ws ∧
   IntsAre vs ns'∧IntsAre ws ms'∧ns'.length+items2.size=ms'.length+items.size∧R (.ok (.ret (.bool (lexLt ns' ms')))) ⟨hp,g,d,tk,os⟩) _
  case turn =>
   rintro ⟨y,x⟩ rest b s' ⟨hb',rfl,vs,ws,ns',ms',hz,hvi,hwi,hlen,hR⟩
   cases hvi with
   | nil=>rw [List.zip_nil_left] at hz;cases hz
   | cons a t hvi' =>
    cases hwi with
    | nil=>rw [List.zip_nil_right] at hz;cases hz
    | cons c u hwi' =>
     rw [List.zip_cons_cons] at hz
     injection hz with hyx hrest
     injection hyx with hy hx
     subst hy hx
     rw [lexLt_cons] at hR
     simp only [List.length_cons] at hlen
     obtain ⟨e,he,hiff⟩:=eqAt_int A.in1 ⟨hp,g,d,tk,os⟩ a t c u
     refine wpAny_bind (he prog w _ _ ?_)
     cases e with
     | true =>
      rw [if_pos (hiff.mp rfl)] at hR
      wp_walk
      exact ⟨rfl,rfl,_,_,_,_,hrest,hvi',hwi',by omega,hR⟩
     | false =>
      rw [if_neg (fun q=>absurd (hiff.mpr q) Bool.false_ne_true)] at hR
      have hri:=rcLt_int A.in1 ⟨hp,g,d,tk,os⟩ a t c u prog w
      wp_walk using hri
      exact ⟨_,rfl,by simpa using hR⟩
  case fin =>
   rintro ⟨b1,b2⟩ s' ⟨hb',rfl,vs,ws,ns',ms',hz,hvi,hwi,hlen,hR⟩
   simp only at hb'
   subst hb'
   have hv:lexLt ns' ms'=decide (items.size < items2.size):=by
    cases hvi with
    | nil =>
     cases hwi with
     | nil =>
      simp only [List.length_nil] at hlen
      rw [lexLt_nil_nil]
      exact (decide_eq_false (by omega)).symm
     | cons c u hw =>
      simp only [List.length_nil,List.length_cons] at hlen
      rw [q4L]
      exact (decide_eq_true (by omega)).symm
    | cons a t hv =>
     cases hwi with
     | nil =>
      simp only [List.length_nil,List.length_cons] at hlen
      rw [q4M]
      exact (decide_eq_false (by omega)).symm
     | cons c u hw =>
      rw [List.zip_cons_cons] at hz
      cases hz
   rw [hv] at hR
   wp_walk
   exact ⟨_,rfl,by simpa [Builtin.Tuple.tupleCompareSizes] using hR⟩
  case h =>
   exact ⟨rfl,rfl,items.toList,items2.toList,ns,ms,rfl,hi,hj,by omega,h⟩
end
section
variable {prog:Program} {w:World} {A:Around} {E:Value→Shared→Prop} {s:Shared}
theorem lt_tupInts {l b:Addr} {items items2:Array Value} {ns ms:List Int} {Q:Value→Shared→Prop} (hl:IsTup s.heap l items) (hb:IsTup s.heap b items2) (hi:IntsAre items.toList ns) (hj:IntsAre items2.toList ms)
  (hu:A.units < cLine) (h:Q (.bool (lexLt ns ms)) s):wpAny (model prog w) A (compareOp .Lt (.ref l) (.ref b)) Q E s:=by
 obtain ⟨⟨cls,dd,data,sl⟩,ho,hc,n,hd⟩:=id hl
 obtain ⟨⟨cls2,dd2,data2,sl2⟩,ho2,hc2,n2,hd2⟩:=id hb
 simp only at hc hd hc2 hd2
 subst hc hd hc2 hd2
 exact richCompare_meets_room (op:=.Lt) ⟨_,ho,rfl⟩ ⟨_,ho2,rfl⟩ PySem.F.slot_tuple_lt PySem.F.entry_tuple_lt (PySem.F.args_tuple_lt_2 _ _) (q4o l b items items2 n n2 dd dd2 sl sl2 ns ms hi hj)
  ⟨ho,ho2,show Value.bool (lexLt ns ms)≠Value.notImplemented∧Q (.bool (lexLt ns ms)) s from ⟨(fun x=>nomatch x),h⟩⟩ hu
noncomputable def sIx (n d:Nat):Option Int→Nat
 | none=>d
 | some v=>if v < 0 then (v+(n:Int)).toNat else min v.toNat n
theorem sIx_none (n d:Nat):sIx n d none=d:=rfl
theorem sIx_nat (n d k:Nat):sIx n d (some (k:Int))=min k n:=by
 show (if (k:Int) < 0 then ((k:Int)+(n:Int)).toNat else min (k:Int).toNat n)=min k n
 rw [if_neg (by omega),Int.toNat_natCast]
end
end HT
namespace L2
open PySem PySem.Spec PyProof.Rows
noncomputable abbrev TO:=St→Hp→(Option Int→Hp→Prop)→Prop
noncomputable def PO (X:Cx) (e:Option Expr) (t:TO):Prop :=
 ∀ (pins:List (Addr×Obj)) (s:Shared) (σ:St) (H:Hp) (Q:Option Int→Hp→Prop),Inv X pins σ H s→t σ H Q →
  wpAny (model X.prog X.w) X.A (evalPart e X.env) (fun u s'=>∃ o H',Inv X pins σ H' s'∧IsPart u o∧Q o H') X.xe s
noncomputable def tNoPart:TO:=fun _ H Q=>Q none H
noncomputable def tPart (t:TE):TO:=fun σ H Q=>t σ H fun x H1=>∃ i,x = .int i∧Q (some i) H1
theorem q38 {ns:List Int}:∀ {us:List Value},Vals (ns.map V.int) us→IntsAre us ns:=by
 induction ns with
 | nil=>intro us r;rw [List.map_nil] at r;cases r;exact .nil
 | cons n ns ih =>
  intro us r
  rw [List.map_cons] at r
  cases r with
  | cons r1 r2 =>
   obtain ⟨t,e⟩:=r1
   subst e
   exact .cons n t (ih r2)
section
variable {X:Cx} {e:Expr} {te:TE} {lo hi:Option Expr} {tl th:TO} {pos p2:Pos}
theorem q2X:PO X none tNoPart:=by
 intro pins s σ H Q I h
 rw [evalPart_none]
 exact wpAny_pure ⟨none,H,I,.none,h⟩
theorem q1g (h:PE X e te):PO X (some e) (tPart te):=by
 intro pins s σ H Q I hw
 rw [evalPart_some]
 refine thn (h pins s σ H _ I hw) fun u s1 ⟨x,H1,I1,r1,q1⟩=>?_
 obtain ⟨i,rfl,q⟩:=q1
 obtain ⟨t,rfl⟩:=r1
 exact ⟨some i,H1,I1,.int i t,q⟩
noncomputable def SlR (X:Cx) (r:V→Option Int→Option Int→Hp→VK→Prop):Prop :=
 ∀ (pins:List (Addr×Obj)) (s:Shared) (σ:St) (H:Hp) (x:V) (v vl vu:Value) (lo hi:Option Int) (sl:Addr) (Q:VK),Inv X pins σ H s→RelV x v→s.heap.IsSliceOf sl vl vu .none→IsPart vl lo→IsPart vu hi→r x lo hi H Q →
  ∃ T id,typeLookup (.type T) "__getitem__" = pure (some (.builtin id))∧s.TypeIs v T∧wpAny (model X.prog X.w) X.A (getItem v (.ref sl)) (EP X pins σ Q) X.xe s
noncomputable def tSl (r:V→Option Int→Option Int→Hp→VK→Prop) (te:TE) (tl th:TO):TE:=fun σ H Q=>te σ H fun x H1=>tl σ H1 fun l H2=>th σ H2 fun u H3=>r x l u H3 Q
theorem q1A {r:V→Option Int→Option Int→Hp→VK→Prop} (hr:SlR X r) (he:PE X e te) (hl:PO X lo tl) (hu:PO X hi th):PE X (.Subscript e (.Slice lo hi none p2) pos) (tSl r te tl th):=by
 intro pins s σ H Q I h
 refine Subscript_ (thn (he pins s σ H _ I h) fun v s1 ⟨x,H1,I1,r1,q1⟩=>?_)
 refine wpAny_Slice (thn (hl pins s1 σ H1 _ I1 q1) fun vl s2 ⟨l,H2,I2,pl,q2⟩=>thn (hu pins s2 σ H2 _ I2 q2) fun vu s3 ⟨u,H3,I3,pu,q3⟩=>?_)
 rw [evalPart_none]
 refine wpAny_pure ?_
 have I4:Inv X pins σ H3 {s3 with heap:=s3.heap.push {cls:=.type "slice",data:=.fields #[vl,vu,.none]}}:=I3.kept (t':=s3.toks) fun b ob q=>Heap.get?_push_of_some _ q
 obtain ⟨T,id,hT,ht,hg⟩:=hr pins {s3 with heap:=s3.heap.push {cls:=.type "slice",data:=.fields #[vl,vu,.none]}} σ H3 x v vl vu l u s3.heap.objs.size Q I4 r1 (Heap.IsSliceOf.new ..) pl pu q3
 show wpAny (model X.prog X.w) X.A (subscriptTail e (.Slice lo hi none p2) v (.ref s3.heap.objs.size)) (EP X pins σ Q) X.xe {s3 with heap:=s3.heap.push {cls:=.type "slice",data:=.fields #[vl,vu,.none]}}
 exact tail_any (ops:=[.ref s3.heap.objs.size,v]) ht hT hg (by with_unfolding_all rfl)
noncomputable def cutV (xs:List V) (lo hi:Option Int):List V:=(xs.drop (HT.sIx xs.length 0 lo)).take (HT.sIx xs.length xs.length hi-HT.sIx xs.length 0 lo)
theorem q4B (xs:List V) (lo hi:Option Int):(cutV xs lo hi).length≤xs.length:=by
 unfold cutV
 rw [List.length_take,List.length_drop]
 omega
end
end L2
namespace L2
open PySem PySem.Spec PyProof.Rows
noncomputable def ixN (n:Nat) (i:Int):Option Nat:=if 0≤i then (if i < n then some i.toNat else none) else if -(n:Int)≤i then some (i+n).toNat else none
noncomputable def atI {α:Type} (xs:List α) (i:Int):Option α:=(ixN xs.length i).bind fun j=>xs[j]?
theorem ixN_seq {n:Nat} {i:Int} {j:Nat} (h:ixN n i=some j):seqIndex? i n=some j∧j < n∧-(n:Int)≤i∧i < n:=by
 unfold ixN at h
 by_cases h0:0≤i
 ·rw [if_pos h0] at h
  by_cases h1:i < n
  ·rw [if_pos h1] at h
   have e:i.toNat=j:=Option.some.inj h
   exact ⟨by rw [seqIndex_of h0 h1,e],by omega,by omega,h1⟩
  ·rw [if_neg h1] at h;cases h
 ·rw [if_neg h0] at h
  by_cases h1 : -(n:Int)≤i
  ·rw [if_pos h1] at h
   have e:(i+n).toNat=j:=Option.some.inj h
   exact ⟨by rw [seqIndex_neg (by omega) h1,e],by omega,h1,by omega⟩
  ·rw [if_neg h1] at h;cases h
theorem q6i {α:Type} {xs:List α} {i:Int} {v:α} (h:atI xs i=some v):∃ j,seqIndex? i xs.length=some j∧xs[j]?=some v∧j < xs.length∧-(xs.length:Int)≤i∧i < xs.length:=by
 unfold atI at h
 cases e:ixN xs.length i with
 | none=>rw [e] at h;cases h
 | some j =>
  rw [e] at h
  obtain ⟨h1,h2,h3,h4⟩:=ixN_seq e
  exact ⟨j,h1,h,h2,h3,h4⟩
theorem qq {α:Type} {xs:List α} {j:Nat} {v:α} (h:xs[j]?=some v):atI xs (j:Int)=some v:=by
 have hj:j < xs.length:=(List.getElem?_eq_some_iff.mp h).1
 have e:ixN xs.length (j:Int)=some j:=by
  unfold ixN
  rw [if_pos (by omega),if_pos (by omega)];simp
 unfold atI;rw [e];exact h
theorem q2z {α:Type} (xs:List α) (v:α):atI (xs++[v]) (-1)=some v:=by
 have hl:(xs++[v]).length=xs.length+1:=by simp
 have e:ixN (xs++[v]).length (-1)=some xs.length:=by
  unfold ixN
  rw [hl,if_neg (by decide),if_pos (by omega)]
  congr 1
  omega
 unfold atI
 rw [e]
 show (xs++[v])[xs.length]?=some v
 simp
noncomputable def PlainIx (b:Expr):Prop:=∀ o i,subscripted b false o i=operate [o,i] (getItem o i)
noncomputable def IxR (X:Cx) (r:R2):Prop :=
 ∀ (value slice:Expr) (pins:List (Addr×Obj)) (s:Shared) (σ:St) (H:Hp) (x y:V) (v u:Value) (Q:VK),Inv X pins σ H s→RelV x v→RelV y u→r x y H Q →
  subscripted slice false v u=operate [v,u] (getItem v u)→wpAny (model X.prog X.w) X.A (subscriptTail value slice v u) (EP X pins σ Q) X.xe s
noncomputable def MtR (X:Cx) (id:String) (r:V→List V→Hp→VK→Prop):Prop :=
 ∀ (pins:List (Addr×Obj)) (s:Shared) (σ:St) (H:Hp) (x:V) (xs:List V) (v:Value) (us:List Value) (Q:VK),Inv X pins σ H s→RelV x v→Vals xs us→r x xs H Q →
  wpAny (model X.prog X.w) X.A (call (.builtin id) (v::us)) (EP X pins σ Q) X.xe s
section
variable {X:Cx} {a b:Expr} {ta tb:TE} {pos:Pos}
theorem qJ {r:R2} (hr:IxR X r) (ha:PE X a ta) (hb:PE X b tb) (hs:PlainIx b):PE X (.Subscript a b pos) (tOp r ta tb):=by
 intro pins s σ H Q I h
 exact Subscript_ (binT ha hb I h fun v u s2 x y H2 I2 rx ry q=>hr a b pins s2 σ H2 x y v u Q I2 rx ry q (hs _ _))
noncomputable def rIxL (K:PySem.W.Frag):R2:=fun x y H Q=>∃ p xs i v,x = .ref p∧y = .int i∧SqL K H p xs∧atI xs i=some v∧Q v H
noncomputable def rIxT (K:PySem.W.Frag):R2:=fun x y H Q=>∃ p xs i v,x = .ref p∧y = .int i∧SqT K H p xs∧atI xs i=some v∧Q v H
noncomputable def rIxS:R2:=fun x y H Q=>∃ z i c,x = .str z∧y = .int i∧z.length≤sizeLine∧atI z.cps.toList i=some c∧Q (.str ⟨#[c]⟩) H
theorem ix_list:IxR X (rIxL X.K):=by
 intro value slice pins s σ H x y v u Q I rx ry h hs
 obtain ⟨p,xs,i,z,rfl,rfl,hq,he,q⟩:=h
 cases rx
 obtain ⟨t,rfl⟩:=ry
 obtain ⟨its,r,pl,hz⟩:=I.list hq
 obtain ⟨j,h1,h2,h3,h4,h5⟩:=q6i he
 obtain ⟨w,ew,rw'⟩:=r.get h2
 have hl:=r.length
 have hn:=q43
 have fin:EP X pins σ Q w s:=⟨z,H,I,rw',q⟩
 by_cases h0:0≤i
 ·have hj:i.toNat=j:=by
   rw [seqIndex_of h0 h5] at h1
   exact Option.some.inj h1
  exact item_listR pl.isList h0 (by omega) (by rw [hj];simpa using ew) fin hs
 ·have hj:(i+(its.toArray.size:Int)).toNat=j:=by
   rw [seqIndex_neg (by omega) h4] at h1
   rw [List.size_toArray,← hl]
   exact Option.some.inj h1
  exact subscriptTail_builtinR (x:=w) pl.isList.typeIs slot_list_getitem.lookup
   (wpAny_getItem_list_neg (Q:=fun r s'=>r=w∧EP X pins σ Q r s') pl.isList (by omega) (by rw [List.size_toArray] <;> omega) (by omega) (by rw [hj];simpa using ew) ⟨rfl,fin⟩) hs
theorem ix_tup:IxR X (rIxT X.K):=by
 intro value slice pins s σ H x y v u Q I rx ry h hs
 obtain ⟨p,xs,i,z,rfl,rfl,hq,he,q⟩:=h
 cases rx
 obtain ⟨t,rfl⟩:=ry
 obtain ⟨its,r,pl,hz⟩:=I.tuple hq
 obtain ⟨j,h1,h2,h3,h4,h5⟩:=q6i he
 obtain ⟨w,ew,rw'⟩:=r.get h2
 have hl:=r.length
 have hn:=q43
 have fin:EP X pins σ Q w s:=⟨z,H,I,rw',q⟩
 exact subscriptTail_builtinR (x:=w) pl.typeIs slot_tuple_getitem.lookup
  (getItem_tuple (j:=j) (Q:=fun r s'=>r=w∧EP X pins σ Q r s') pl (by omega) (by omega) (by rw [List.size_toArray,← hl];exact h1) (by simpa using ew) ⟨rfl,fin⟩) hs
theorem ix_str:IxR X rIxS:=by
 intro value slice pins s σ H x y v u Q I rx ry h hs
 obtain ⟨z,i,c,rfl,rfl,hz,he,q⟩:=h
 obtain ⟨t,rfl⟩:=rx
 obtain ⟨t',rfl⟩:=ry
 obtain ⟨j,h1,h2,h3,h4,h5⟩:=q6i he
 have hl:z.cps.toList.length=z.length:=by simp [Str.length]
 rw [hl] at h1 h4 h5
 have hn:=q43
 exact tail_any (typeIs_str s z t) slot_str_getitem.lookup (getItem_str (c:=c) (by
  have e1:decide (i < -(2 ^ 63:Int))=false:=decide_eq_false (by omega)
  have e2:decide (i ≥ 2 ^ 63)=false:=decide_eq_false (by omega)
  rw [e1,e2,Bool.or_false]) (by rw [h1];simpa using h2) ⟨.str ⟨#[c]⟩,H,I.tok _,⟨_,rfl⟩,q⟩) hs
theorem q7a (its:List Value) (n j:Nat) (u:Value):Obj.mapSeq (·.setIfInBounds j u) {cls:=.type "list",data:=.seq its.toArray n}={cls:=.type "list",data:=.seq (its.set j u).toArray n}:=by
 simp [Obj.mapSeq]
theorem Inv.lst {pins:List (Addr×Obj)} {σ:St} {H:Hp} {s:Shared} {p:Addr} {xs:List V} (I:Inv X pins σ H s) (h:H p=some (.lst xs)) :
  ∃ (its:List Value) (n:Nat),Vals xs its∧s.heap.get? p=some {cls:=.type "list",data:=.seq its.toArray n}∧xs.length≤sizeLine:=by
 obtain ⟨z,its,n,r,e⟩:=I.hok p _ h
 exact ⟨its,n,r,e,z⟩
theorem Inv.lstUpd {pins:List (Addr×Obj)} {σ:St} {H:Hp} {s:Shared} {p:Addr} {xs ys:List V} {its its':List Value} {n n':Nat} {f:Obj→Obj} (I:Inv X pins σ H s) (h:H p=some (.lst xs))
  (ho:s.heap.get? p=some {cls:=.type "list",data:=.seq its.toArray n}) (hf:f {cls:=.type "list",data:=.seq its.toArray n}={cls:=.type "list",data:=.seq its'.toArray n'}) (r:Vals ys its') (hz:ys.length≤sizeLine) (t:Nat) :
  Inv X pins σ (upd H p (.lst ys)) {s with heap:=s.heap.update p f,toks:=t}:=by
 have e:(s.heap.update p f).get? p=some {cls:=.type "list",data:=.seq its'.toArray n'}:=by
  rw [Heap.get?_update_self f ho (by rw [hf] <;> rfl),hf]
 refine I.write (x:=p) (e:=p) (by rw [h];trivial) (.inl rfl) (fun b u hb q=>(Heap.get?_update_other _ _ (Ne.symm hb)).trans q) ⟨_,e⟩ ?_
 exact ⟨hz,its',n',r,e⟩
noncomputable def rSetL:V→V→V→Hp→(Hp→Prop)→Prop:=fun o i v H Q=>∃ p xs k j,o = .ref p∧i = .int k∧H p=some (.lst xs)∧ixN xs.length k=some j∧Q (upd H p (.lst (xs.set j v)))
theorem q6t:PSet X rSetL:=by
 intro pins s σ H o i v ov iv u Q I ro ri rv h
 obtain ⟨p,xs,k,j,rfl,rfl,hp,hj,q⟩:=h
 cases ro
 obtain ⟨t,rfl⟩:=ri
 obtain ⟨its,n,r,ho,hz⟩:=I.lst hp
 obtain ⟨h1,h2,h3,h4⟩:=ixN_seq hj
 have hl:=r.length
 have hn:=q43
 have I':Inv X pins σ (upd H p (.lst (xs.set j v))) {s with heap:=s.heap.update p (Obj.mapSeq (·.setIfInBounds j u))} :=
  I.lstUpd hp ho (q7a its n j u) (r.set rv j) (by rw [List.length_set];exact hz) s.toks
 by_cases h0:0≤k
 ·have hk:k.toNat=j:=by
   rw [seqIndex_of h0 h4] at h1
   exact Option.some.inj h1
  exact PySem.W.ki_setAt ho h0 (by omega) (by rw [List.size_toArray,← hl];exact h4) (by rw [hk];exact ⟨_,I',q⟩)
 ·have hk:(k+(its.toArray.size:Int)).toNat=j:=by
   rw [seqIndex_neg (by omega) h3] at h1
   rw [List.size_toArray,← hl]
   exact Option.some.inj h1
  exact PySem.W.ki_setBack ho (by omega) (by rw [List.size_toArray,← hl];exact h3) (by omega) (by rw [hk];exact ⟨_,I',q⟩)
theorem q5U (lo hi:Option Int) (n:Nat):(sliceBounds lo hi none n).1=((HT.sIx n 0 lo:Nat):Int)∧(sliceBounds lo hi none n).2.1=((HT.sIx n n hi:Nat):Int)∧(sliceBounds lo hi none n).2.2=1:=by
 refine ⟨?_,?_,rfl⟩
 ·cases lo with
  | none=>simp [sliceBounds,HT.sIx]
  | some i =>
   simp only [sliceBounds,HT.sIx,Option.getD_none,show (1:Int) > 0 by decide,if_true]
   by_cases h:i < 0
   ·simp only [h,if_true] <;> omega
   ·simp only [h,if_false] <;> omega
 ·cases hi with
  | none=>simp [sliceBounds,HT.sIx]
  | some i =>
   simp only [sliceBounds,HT.sIx,Option.getD_none,show (1:Int) > 0 by decide,if_true]
   by_cases h:i < 0
   ·simp only [h,if_true] <;> omega
   ·simp only [h,if_false] <;> omega
theorem q53 (its:List Value) (lo hi:Option Int):slicePick its.toArray lo hi none=((its.drop (HT.sIx its.length 0 lo)).take (HT.sIx its.length its.length hi-HT.sIx its.length 0 lo)).toArray:=by
 obtain ⟨h1,h2,h3⟩:=q5U lo hi its.toArray.size
 unfold slicePick
 rw [h1,h2,h3]
 simp only [sliceRange_one,pick_run,List.size_toArray] <;> rfl
noncomputable def rSlL (K:PySem.W.Frag):V→Option Int→Option Int→Hp→VK→Prop:=fun x lo hi H Q=>∃ a xs,x = .ref a∧SqL K H a xs∧∀ p,H p=none→Q (.ref p) (upd H p (.lst (cutV xs lo hi)))
theorem sl_list:SlR X (rSlL X.K):=by
 intro pins s σ H x v vl vu lo hi sl Q I rx hs pl pu h
 obtain ⟨a,xs,rfl,hx,q⟩:=h
 cases rx
 obtain ⟨its,r,ht,hz⟩:=I.list hx
 have hlen:=r.length
 refine ⟨"list",_,slot_list_getitem.lookup,ht.isList.typeIs,?_⟩
 refine wpAny_getItem_list_slice ht.isList hs pl pu .none (by simp) ?_ (by rw [List.size_toArray] <;> omega)
 rw [q53,← hlen]
 refine ⟨.ref s.heap.objs.size,_,I.laid (t':=s.toks) (o:=.lst (cutV xs lo hi)) (fun b ob q=>Heap.get?_push_of_some _ q) (Nat.le_refl _) ?_,rfl,q _ (I.hok.fresh (Nat.le_refl _))⟩
 exact ⟨Nat.le_trans (q4B xs lo hi) hz,_,0,(r.drop (HT.sIx xs.length 0 lo)).take (HT.sIx xs.length xs.length hi-HT.sIx xs.length 0 lo),Heap.get?_push_size _ rfl⟩
noncomputable def q4N:V→Bool
 | .non=>true
 | .bl _=>true
 | .int _=>true
 | .str _=>true
 | _=>false
noncomputable def eqV:V→V→Bool
 | .non,.non=>true
 | .bl a,.bl b=>a == b
 | .bl a,.int b=>(if a then 1 else 0) == b
 | .int a,.bl b=>a == (if b then 1 else 0)
 | .int a,.int b=>a == b
 | .str a,.str b=>a == b
 | _,_=>false
theorem eqAt_V {A:Around} {s:Shared} {y x:V} {u v:Value} (ry:RelV y u) (rx:RelV x v) (fy:q4N y=true) (fx:q4N x=true):SeqAt.EqAt A s u v (eqV y x):=by
 cases y with
 | non =>
  cases ry
  cases x with
  | non=>cases rx;exact SeqAt.EqAt.same _
  | bl b=>cases rx;exact SeqAt.EqAt.none_bool b
  | int b=>obtain ⟨t,rfl⟩:=rx;exact SeqAt.EqAt.none_int b t
  | str b=>obtain ⟨t,rfl⟩:=rx;exact SeqAt.EqAt.none_str b t
  | _=>exact absurd (show false=true from fx) Bool.false_ne_true
 | bl a =>
  cases ry
  cases x with
  | non=>cases rx;exact SeqAt.EqAt.bool_none a
  | bl b=>cases rx;exact SeqAt.EqAt.bool_bool a b
  | int b=>obtain ⟨t,rfl⟩:=rx;exact SeqAt.EqAt.bool_int a b t
  | str b=>obtain ⟨t,rfl⟩:=rx;exact SeqAt.EqAt.bool_str a b t
  | _=>exact absurd (show false=true from fx) Bool.false_ne_true
 | int a =>
  obtain ⟨t',rfl⟩:=ry
  cases x with
  | non=>cases rx;exact SeqAt.EqAt.int_none a t'
  | bl b=>cases rx;exact SeqAt.EqAt.int_bool a t' b
  | int b=>obtain ⟨t,rfl⟩:=rx;exact SeqAt.EqAt.int_int a t' b t
  | str b=>obtain ⟨t,rfl⟩:=rx;exact SeqAt.EqAt.int_str a t' b t
  | _=>exact absurd (show false=true from fx) Bool.false_ne_true
 | str a =>
  obtain ⟨t',rfl⟩:=ry
  cases x with
  | non=>cases rx;exact SeqAt.EqAt.str_none a t'
  | bl b=>cases rx;exact SeqAt.EqAt.str_bool a t' b
  | int b=>obtain ⟨t,rfl⟩:=rx;exact SeqAt.EqAt.str_int a t' b t
  | str b=>obtain ⟨t,rfl⟩:=rx;exact SeqAt.EqAt.str_str a t' b t
  | _=>exact absurd (show false=true from fx) Bool.false_ne_true
 | _=>exact absurd (show false=true from fy) Bool.false_ne_true
noncomputable def eqU (x:V) (u:Value):Bool:=match u with
 | .none=>eqV .non x
 | .bool b=>eqV (.bl b) x
 | .int i _=>eqV (.int i) x
 | .str z _=>eqV (.str z) x
 | _=>false
theorem eqU_of {x y:V} {u:Value} (r:RelV y u) (f:q4N y=true):eqU x u=eqV y x:=by
 cases y with
 | non=>cases r;rfl
 | bl b=>cases r;rfl
 | int i=>obtain ⟨t,rfl⟩:=r;rfl
 | str z=>obtain ⟨t,rfl⟩:=r;rfl
 | _=>exact absurd (show false=true from f) Bool.false_ne_true
theorem q6j {x:V}:∀ {xs:List V} {us:List Value},Vals xs us→xs.all q4N=true→us.any (eqU x)=xs.any fun y=>eqV y x
 | _,_,.nil,_=>rfl
 | y::xs,u::us,.cons r t,f=>by
  rw [List.all_cons,Bool.and_eq_true] at f
  rw [List.any_cons,List.any_cons,eqU_of r f.1,q6j t f.2]
theorem q5B {A:Around} {s:Shared} {x:V} {v:Value} (rx:RelV x v) (fx:q4N x=true):∀ {xs:List V} {us:List Value},Vals xs us→xs.all q4N=true→∀ u∈us,SeqAt.EqAt A s u v (eqU x u)
 | _,_,.nil,_=>fun u hu=>by cases hu
 | y::xs,u::us,.cons r t,f=>fun u' hu=>by
  rw [List.all_cons,Bool.and_eq_true] at f
  rcases List.mem_cons.mp hu with rfl | hu
  ·rw [eqU_of r f.1];exact eqAt_V r rx f.1 fx
  ·exact q5B rx fx t f.2 u' hu
noncomputable def inV (x:V) (xs:List V):Bool:=xs.any fun y=>eqV y x
noncomputable def rIn (K:PySem.W.Frag) (neg:Bool):R2:=fun x y H Q=>∃ p xs,y = .ref p∧(SqL K H p xs∨SqT K H p xs)∧q4N x=true∧xs.all q4N=true∧Q (.bl (if neg then !inV x xs else inV x xs)) H
theorem q41:OpR X (compareOp .In) (rIn X.K false):=by
 intro pins s σ H x y v u Q I rx ry h
 obtain ⟨p,xs,rfl,hq,fx,fs,q⟩:=h
 cases ry
 rcases hq with hq | hq
 ·obtain ⟨its,r,pl,hz⟩:=I.list hq
  refine SeqAt.in_listAt (eqU x) pl.isList (fun w hw=>q5B rx fx r fs w (by simpa using hw)) ⟨.bl _,H,I,rfl,?_⟩
  rw [show its.toArray.any (eqU x)=its.any (eqU x) by simp,q6j r fs]
  exact q
 ·obtain ⟨its,r,pl,hz⟩:=I.tuple hq
  refine SeqAt.in_tupleAt (eqU x) pl (fun w hw=>q5B rx fx r fs w (by simpa using hw)) ⟨.bl _,H,I,rfl,?_⟩
  rw [show its.toArray.any (eqU x)=its.any (eqU x) by simp,q6j r fs]
  exact q
theorem q3J:q1k X (.builtin "len") (fun xs H Q=>∃ p ys,xs=[.ref p]∧(SqL X.K H p ys∨SqT X.K H p ys)∧Q (.int ys.length) H):=by
 intro pins s σ H xs us Q I r h
 obtain ⟨p,ys,rfl,hq,q⟩:=h
 obtain ⟨u,rfl,rx⟩:=q2T r
 cases rx
 have hn:=q43
 rcases hq with hq | hq
 ·obtain ⟨its,r',pl,hz⟩:=I.list hq
  have hlen:=r'.length
  exact Calls.call_len_list pl.isList (by simp only [List.size_toArray] <;> omega) ⟨.int ys.length,H,I.tok _,⟨s.toks+1,by rw [List.size_toArray,hlen]⟩,q⟩
 ·obtain ⟨its,r',pl,hz⟩:=I.tuple hq
  have hlen:=r'.length
  exact len_tuple pl (by simp only [List.size_toArray] <;> omega) ⟨.int ys.length,H,I.tok _,⟨s.toks+1,by rw [List.size_toArray,hlen]⟩,q⟩
theorem q3I:q1k X (.builtin "len") (fun xs H Q=>∃ z,xs=[.str z]∧z.length≤sizeLine∧Q (.int z.length) H):=by
 intro pins s σ H xs us Q I r h
 obtain ⟨z,rfl,hz,q⟩:=h
 obtain ⟨u,rfl,t,rfl⟩:=q2T r
 have hn:=q43
 exact len_str (by omega) ⟨.int z.length,H,I.tok _,⟨_,rfl⟩,q⟩
theorem q66:q1k X (.type "list") (fun xs H Q=>∃ p ys,xs=[.ref p]∧(SqL X.K H p ys∨SqT X.K H p ys)∧∀ l,H l=none→Q (.ref l) (upd H l (.lst ys))):=by
 intro pins s σ H xs us Q I r h
 obtain ⟨p,ys,rfl,hq,q⟩:=h
 obtain ⟨u,rfl,rx⟩:=q2T r
 cases rx
 have fin:∀ (its:List Value),Vals ys its→ys.length≤sizeLine→∀ (h':Heap) (c':Nat),(∀ b o',s.heap.get? b=some o'→h'.get? b=some o') →
   h'.get? s.heap.objs.size=some {cls:=.type "list",dict:=none,data:=.seq its.toArray c',slots:=#[]}→EP X pins σ Q (.ref s.heap.objs.size) {s with heap:=h'}:=fun its r' hz h' c' kp e =>
  ⟨.ref s.heap.objs.size,_,I.laid (t':=s.toks) kp (Nat.le_refl _) (show ObjOk X.prog X.w _ h' _ (.lst ys) from ⟨hz,its,c',r',e⟩),rfl,q _ (I.hok.fresh (Nat.le_refl _))⟩
 rcases hq with hq | hq
 ·obtain ⟨its,r',pl,hz⟩:=I.list hq
  have hlen:=r'.length
  obtain ⟨o,ho,hc,n,hd⟩:=pl.isList
  exact call_list_seq p (.inl rfl) ho hc hd (fun h' c' kp e=>fin its r' hz h' c' kp e) (by simp only [List.size_toArray] <;> omega)
 ·obtain ⟨its,r',pl,hz⟩:=I.tuple hq
  have hlen:=r'.length
  obtain ⟨o,ho,hc,n,hd⟩:=pl
  exact call_list_seq p (.inr rfl) ho hc hd (fun h' c' kp e=>fin its r' hz h' c' kp e) (by simp only [List.size_toArray] <;> omega)
noncomputable def tyV (K:PySem.W.Frag) (T:String) (x:V) (H:Hp):Prop:=match x with
 | .str _=>T = "str"
 | .int _=>T = "int"
 | .ref p=>(T = "list"∧∃ xs,SqL K H p xs)∨(T = "tuple"∧∃ o,K.lookup p=some o∧o.cls = .type "tuple"∧o.dict=none) ∨
   (T = "dict"∧((∃ kvs,H p=some (.dK kvs))∨∃ kvs,H p=some (.dT kvs)))∨(T = "set"∧∃ S n,H p=some (.set S n))
 | _=>False
theorem tyV_is {pins:List (Addr×Obj)} {σ:St} {H:Hp} {s:Shared} {T:String} {x:V} {v:Value} (I:Inv X pins σ H s) (r:RelV x v) (ty:tyV X.K T x H) :
  s.TypeIs v T∧∀ a,v = .ref a→∃ ob,s.heap.get? a=some ob∧ob.dict=none:=by
 cases x with
 | str z =>
  obtain ⟨t,rfl⟩:=r
  cases (show T = "str" from ty)
  exact ⟨typeIs_str s z t,fun _ e=>nomatch e⟩
 | int i =>
  obtain ⟨t,rfl⟩:=r
  cases (show T = "int" from ty)
  exact ⟨typeIs_int s i t,fun _ e=>nomatch e⟩
 | ref p =>
  cases r
  rcases ty with ⟨rfl,xs,hq⟩ | ⟨rfl,o,hk,hc,hd⟩ | ⟨rfl,hk⟩ | ⟨rfl,S,n,hk⟩
  ·obtain ⟨its,_,pl,_⟩:=I.list hq
   refine ⟨pl.isList.typeIs,fun a e=>?_⟩
   cases e
   obtain ⟨o,n,e,c,hd,_⟩:=pl
   exact ⟨o,e,hd⟩
  ·refine ⟨⟨o,I.kIn p o hk,hc⟩,fun a e=>?_⟩
   cases e
   exact ⟨o,I.kIn _ o hk,hd⟩
  ·have z:∃ o,s.heap.get? p=some o∧o.ExactDict:=by
    rcases hk with ⟨kvs,hk⟩ | ⟨kvs,hk⟩
    ·obtain ⟨_,_,_,_,o,_,_,e,ex,_⟩:=I.hok p _ hk
     exact ⟨o,e,ex⟩
    ·obtain ⟨_,_,_,_,o,_,_,e,ex,_⟩:=I.hok p _ hk
     exact ⟨o,e,ex⟩
   obtain ⟨o,e,ex⟩:=z
   refine ⟨⟨o,e,ex.1⟩,fun a e2=>?_⟩
   cases e2
   exact ⟨o,e,ex.2.1⟩
  ·obtain ⟨o,_,_,_,e,ex,_⟩:=I.hok p _ hk
   refine ⟨⟨o,e,ex.1⟩,fun a e2=>?_⟩
   cases e2
   exact ⟨o,e,ex.2.1⟩
 | _=>exact False.elim ty
noncomputable def tBM0 (K:PySem.W.Frag) (T:String) (r:V→List V→Hp→VK→Prop) (to:TE):TE:=fun σ H Q=>to σ H fun x H1=>tyV K T x H1∧r x [] H1 Q
noncomputable def tBM (K:PySem.W.Frag) (T:String) (r:V→List V→Hp→VK→Prop) (to:TE) (t:TA):TE:=fun σ H Q=>to σ H fun x H1=>tyV K T x H1∧t σ H1 fun xs H2=>r x xs H2 Q
variable {o e:Expr} {es:List Expr} {to:TE} {t:TA} {name:Str} {apos cpos:Pos} {T id:String} {r:V→List V→Hp→VK→Prop}
theorem pe_bm0 (pa:PlainAttrs T) (slot:Slot T name id) (hty:typeOf (.builtin id)=pure (.type "method_descriptor")) (hm:MtR X id r) (ho:PE X o to)
  (hbase:attributeBase o name X.env (eval o X.env)=eval o X.env:=by rfl) (hline:(apos.endLine == cpos.line)=true:=by rfl):PE X (.Call (.Attribute o name apos) [] [] cpos) (tBM0 X.K T r to):=by
 intro pins s σ H Q I h
 refine wpAny_Call_method0_late hbase hline (thn (ho pins s σ H _ I h) fun v s1 ⟨x,H1,I1,r1,ty,q1⟩=>?_)
 obtain ⟨h1,h2⟩:=tyV_is I1 r1 ty
 exact ⟨T,id,pa,slot,hty,h1,h2,Calls.callWith_builtin rfl (PySem.evalArgs_none (hm pins s1 σ H1 x [] v [] Q I1 r1 .nil q1))⟩
theorem q7P (pa:PlainAttrs T) (slot:Slot T name id) (hty:typeOf (.builtin id)=pure (.type "method_descriptor")) (hm:MtR X id r) (ho:PE X o to) (ha:PA X (e::es) t)
  (hbase:attributeBase o name X.env (eval o X.env)=eval o X.env:=by rfl)
  (hfew:((backTo cpos (starEach (e::es) X.env)).all (fun x=>!x.1) && (backToKw cpos (keywordEach [] X.env)).all (fun x=>x.1.isSome)
   && decide ((e::es).length+([]:List Keyword).length+(if ([]:List Keyword).isEmpty then 0 else 1) < 30))=true:=by rfl)
  (hline:(apos.endLine == cpos.line)=true:=by rfl) (hs:starEach (e::es) X.env=(false,eval e X.env)::starEach es X.env:=by rfl) (hplain:(backTo cpos (starEach es X.env)).any (·.1)=false:=by rfl) :
  PE X (.Call (.Attribute o name apos) (e::es) [] cpos) (tBM X.K T r to t):=by
 intro pins s σ H Q I h
 refine wpAny_Call_method_late hbase hfew hline rfl (thn (ho pins s σ H _ I h) fun v s1 ⟨x,H1,I1,r1,ty,q1⟩=>?_)
 obtain ⟨h1,h2⟩:=tyV_is I1 r1 ty
 refine ⟨T,id,pa,slot,hty,h1,h2,?_⟩
 have hA:=ha cpos pins s1 σ H1 _ I1 q1
 rw [hs] at hA ⊢
 refine Calls.callWith_builtin (by show (false || (backTo cpos (starEach es X.env)).any (·.1))=false;rw [hplain] <;> rfl) (Calls.evalArgs_plain ?_)
 exact thn hA fun us s2 ⟨vs,H2,I2,r2,q2⟩=>hm pins s2 σ H2 x vs v us Q I2 r1 r2 q2
end
end L2
namespace L2
open PySem PySem.Spec PyProof.Rows
noncomputable def MtM (X:Cx) (id:String) (r:V→List V→Hp→VK→Prop):Prop :=
 ∀ (pins:List (Addr×Obj)) (s:Shared) (σ:St) (H:Hp) (x:V) (xs:List V) (v:Value) (us:List Value) (Q:VK),Inv X pins σ H s→RelV x v→Vals xs us→r x xs H Q →
  wpAny (model X.prog X.w) X.A (call (.builtin id) (v::us)) (EP X pins σ Q) X.xe s
theorem Vals.one:∀ {x:V} {us:List Value},Vals [x] us→∃ u,us=[u]∧RelV x u
 | _,_,.cons r .nil=>⟨_,rfl,r⟩
theorem Vals.zero:∀ {us:List Value},Vals [] us→us=[]
 | _,.nil=>rfl
theorem Vals.dropLast {xs:List V} {us:List Value} (h:Vals xs us):Vals xs.dropLast us.dropLast:=by
 induction h with
 | nil=>exact .nil
 | cons r t ih =>
  cases t with
  | nil=>exact .nil
  | cons q t'=>exact .cons r ih
theorem Vals.eraseIdx:∀ {xs:List V} {us:List Value} (i:Nat),Vals xs us→Vals (xs.eraseIdx i) (us.eraseIdx i)
 | _,_,_,.nil=>.nil
 | _,_,0,.cons _ t=>t
 | _,_,i+1,.cons r t=>.cons r (Vals.eraseIdx i t)
theorem Vals.reverse {xs:List V} {us:List Value} (h:Vals xs us):Vals xs.reverse us.reverse:=by
 induction h with
 | nil=>exact .nil
 | cons r t ih=>rw [List.reverse_cons,List.reverse_cons];exact Vals.append ih (.cons r .nil)
theorem Vals.rep {xs:List V} {us:List Value} (h:Vals xs us):∀ k:Nat,Vals (List.replicate k xs).flatten (List.replicate k us).flatten
 | 0=>.nil
 | k+1=>by
  rw [List.replicate_succ,List.replicate_succ,List.flatten_cons,List.flatten_cons]
  exact Vals.append h (Vals.rep h k)
theorem q7n {α:Type} (l:List α):l.eraseIdx (l.length-1)=l.dropLast:=by
 induction l with
 | nil=>rfl
 | cons a r ih =>
  cases r with
  | nil=>rfl
  | cons b r =>
   have e:(a::b::r).length-1=((b::r).length-1)+1:=by
    have h1:(a::b::r).length=r.length+2:=rfl
    have h2:(b::r).length=r.length+1:=rfl
    omega
   rw [e,List.eraseIdx_cons_succ,ih]
   all_goals rfl
theorem q5t {α:Type}:∀ (l:List α) (i:Nat),(l.eraseIdx i).length≤l.length
 | [],_=>Nat.le_refl _
 | _::_,0=>Nat.le_succ _
 | _::r,i+1=>Nat.succ_le_succ (q5t r i)
theorem q5x (its:List Value):∀ (k:Nat) (acc:List Value),
  List.foldl (fun x1 x2=>x1++x2) acc.toArray (List.replicate k its.toArray)=(acc++(List.replicate k its).flatten).toArray
 | 0,acc=>by simp
 | k+1,acc=>by
  have e:acc.toArray++its.toArray=(acc++its).toArray:=by simp
  have e2:(acc++its)++(List.replicate k its).flatten=acc++(List.replicate (k+1) its).flatten:=by
   rw [List.replicate_succ,List.flatten_cons,List.append_assoc]
  rw [← e2,← q5x its k (acc++its),← e,List.replicate_succ,List.foldl_cons]
section
variable {X:Cx} {pins:List (Addr×Obj)} {σ:St} {H:Hp} {s:Shared} {l b:Addr} {xs ys zs:List V}
theorem Inv.lset {its its':List Value} {n:Nat} {f:Array Value→Array Value} {t':Nat} (I:Inv X pins σ H s) (hH:H l=some (.lst xs))
  (e:s.heap.get? l=some {cls:=.type "list",data:=.seq its.toArray n}) (hf:f its.toArray=its'.toArray) (hv:Vals ys its') (hz:ys.length≤sizeLine) :
  Inv X pins σ (upd H l (.lst ys)) {s with heap:=s.heap.update l (Obj.mapSeq f),toks:=t'}:=by
 have q:=PySem.IsL.update e f
 rw [hf] at q
 refine I.write (x:=l) (e:=l) (by rw [hH];exact trivial) (.inl rfl) (fun b' u hb hu=>(Heap.get?_update_other s.heap (Obj.mapSeq f) (Ne.symm hb)).trans hu) ⟨_,q⟩ ?_
 exact ⟨hz,its',_,hv,q⟩
theorem Inv.lnew {its:List Value} {t':Nat} (I:Inv X pins σ H s) (hv:Vals ys its) (hz:ys.length≤sizeLine) :
  Inv X pins σ (upd H s.heap.objs.size (.lst ys)) {s with heap:=s.heap.push {cls:=.type "list",data:=.seq its.toArray},toks:=t'} :=
 I.laid (fun _ _ q=>Heap.get?_push_of_some _ q) (Nat.le_refl _) ⟨hz,its,0,hv,Heap.get?_push_size _ rfl⟩
theorem Inv.fresh (I:Inv X pins σ H s):H s.heap.objs.size=none:=I.hok.fresh (Nat.le_refl _)
theorem Inv.lstM (I:Inv X pins σ H s) (hH:H l=some (.lst xs)):xs.length≤sizeLine∧∃ (its:List Value) (n:Nat),Vals xs its∧xs.length=its.length∧s.heap.get? l=some {cls:=.type "list",data:=.seq its.toArray n}:=by
 obtain ⟨z,its,n,r,e⟩:=I.hok l _ hH
 exact ⟨z,its,n,r,r.length,e⟩
theorem q59 {n:Nat} (h:n≤sizeLine):Builtin.List.listTooLong n=false:=by
 unfold Builtin.List.listTooLong
 exact decide_eq_false (by omega)
end
section
variable {X:Cx}
noncomputable def rAppend:V→List V→Hp→VK→Prop:=fun x vs H Q=>∃ l xs y,x = .ref l∧vs=[y]∧H l=some (.lst xs)∧xs.length < sizeLine∧Q .non (upd H l (.lst (xs++[y])))
theorem q02:MtM X "list.append" rAppend:=by
 intro pins s σ H x vs v us Q I rx rv h
 obtain ⟨l,xs,y,rfl,rfl,hH,hz,q⟩:=h
 cases rx
 obtain ⟨u,rfl,ru⟩:=rv.one
 obtain ⟨z,its,n,r,hl,e⟩:=I.lstM hH
 refine call_meets F.slot_list_append ⟨_,e,rfl⟩ F.entry_list_append (F.args_list_append_2 _ _) (PySem.list_append l its.toArray n u (by rw [List.size_toArray];omega)) ⟨e,?_⟩
 refine ⟨.non,_,I.lset (its':=its++[u]) hH e (by simp) (r.append (.cons ru .nil)) ?_,rfl,q⟩
 rw [List.length_append,List.length_singleton]
 omega
noncomputable def rExtend:V→List V→Hp→VK→Prop:=fun x vs H Q=>∃ l b xs zs,x = .ref l∧vs=[.ref b]∧H l=some (.lst xs)∧H b=some (.lst zs)∧xs.length+zs.length≤sizeLine∧Q .non (upd H l (.lst (xs++zs)))
theorem mt_extend:MtM X "list.extend" rExtend:=by
 intro pins s σ H x vs v us Q I rx rv h
 obtain ⟨l,b,xs,zs,rfl,rfl,hH,hB,hz,q⟩:=h
 cases rx
 obtain ⟨u,rfl,ru⟩:=rv.one
 cases ru
 obtain ⟨z,its,n,r,hl,e⟩:=I.lstM hH
 obtain ⟨z2,its2,n2,r2,hl2,e2⟩:=I.lstM hB
 have hsz:its.toArray.size+its2.toArray.size≤sizeLine:=by rw [List.size_toArray,List.size_toArray];omega
 have hlong:¬ (!its.toArray.isEmpty && Builtin.List.listTooLong (its.toArray.size+its2.toArray.size))=true:=by
  rw [q59 hsz,Bool.and_false]
  exact Bool.false_ne_true
 refine call_meets F.slot_list_extend ⟨_,e,rfl⟩ F.entry_list_extend (F.args_list_extend_2 _ _)
  (AutoSeq1.list_extend_list_list_0 l its.toArray n b its2.toArray n2 hlong (by rw [List.size_toArray];omega) (by omega)) ⟨e,e2,?_⟩
 refine ⟨.non,_,I.lset (its':=its++its2) hH e (by simp) (r.append r2) ?_,rfl,q⟩
 rw [List.length_append]
 omega
noncomputable def rPop:V→List V→Hp→VK→Prop:=fun x vs H Q=>∃ l xs y,x = .ref l∧vs=[]∧H l=some (.lst xs)∧xs[xs.length-1]?=some y∧Q y (upd H l (.lst xs.dropLast))
theorem q5o:MtM X "list.pop" rPop:=by
 intro pins s σ H x vs v us Q I rx rv h
 obtain ⟨l,xs,y,rfl,rfl,hH,hy,q⟩:=h
 cases rx
 have hus:=rv.zero
 subst hus
 obtain ⟨z,its,n,r,hl,e⟩:=I.lstM hH
 obtain ⟨u,hu,ru⟩:=r.get hy
 have hy':its.toArray[its.toArray.size-1]?=some u:=by
  show its.toArray[its.length-1]?=some u
  rw [← Array.getElem?_toList,← hl]
  exact hu
 refine call_meets F.slot_list_pop ⟨_,e,rfl⟩ F.entry_list_pop (F.args_list_pop_1 _) (MeetsSeq.list_pop_last l its.toArray n u hy' (by rw [List.size_toArray];omega)) ⟨e,?_⟩
 refine ⟨y,_,I.lset (its':=its.dropLast) hH e ?_ r.dropLast ?_,ru,q⟩
 ·show its.toArray.eraseIdxIfInBounds (its.toArray.size-1)=its.dropLast.toArray
  rw [List.size_toArray,List.eraseIdxIfInBounds_toArray,q7n]
 ·rw [List.length_dropLast]
  omega
noncomputable def rPopAt:V→List V→Hp→VK→Prop:=fun x vs H Q=>∃ l xs i k y,x = .ref l∧vs=[.int i]∧H l=some (.lst xs)∧-(2 ^ 63)≤i∧i < 2 ^ 63∧seqIndex? i xs.length=some k∧xs[k]?=some y∧Q y (upd H l (.lst (xs.eraseIdx k)))
theorem mt_popAt:MtM X "list.pop" rPopAt:=by
 intro pins s σ H x vs v us Q I rx rv h
 obtain ⟨l,xs,i,k,y,rfl,rfl,hH,h1,h2,hk,hy,q⟩:=h
 cases rx
 obtain ⟨u,rfl,ru⟩:=rv.one
 obtain ⟨t,rfl⟩:=ru
 obtain ⟨z,its,n,r,hl,e⟩:=I.lstM hH
 obtain ⟨w,hw,rw'⟩:=r.get hy
 refine call_meets F.slot_list_pop ⟨_,e,rfl⟩ F.entry_list_pop (F.args_list_pop_2 _ _)
  (MeetsSeq.list_pop_at l its.toArray n i t k w (fitsIndex_both h1 h2) (by rw [List.size_toArray,← hl];exact hk) (by rw [← Array.getElem?_toList];exact hw) (by rw [List.size_toArray];omega)) ⟨e,?_⟩
 refine ⟨y,_,I.lset (its':=its.eraseIdx k) hH e ?_ (r.eraseIdx k) ?_,rw',q⟩
 ·show its.toArray.eraseIdxIfInBounds k=(its.eraseIdx k).toArray
  rw [List.eraseIdxIfInBounds_toArray]
 ·have:=q5t xs k
  omega
noncomputable def rCat:R2:=fun x y H Q=>∃ l b xs zs,x = .ref l∧y = .ref b∧H l=some (.lst xs)∧H b=some (.lst zs)∧xs.length+zs.length≤sizeLine∧∀ p,H p=none→Q (.ref p) (upd H p (.lst (xs++zs)))
theorem q2S:OpR X (binaryOp .Add) rCat:=by
 intro pins s σ H x y v u Q I rx ry h
 obtain ⟨l,b,xs,zs,rfl,rfl,hH,hB,hz,q⟩:=h
 cases rx
 cases ry
 obtain ⟨z,its,n,r,hl,e⟩:=I.lstM hH
 obtain ⟨z2,its2,n2,r2,hl2,e2⟩:=I.lstM hB
 refine PySem.P.add_list e e2 ?_ (by rw [List.size_toArray,List.size_toArray];omega)
 have ea:its.toArray++its2.toArray=(its++its2).toArray:=by simp
 rw [ea]
 exact ⟨.ref _,_,I.lnew (t':=s.toks) (r.append r2) (by rw [List.length_append];omega),rfl,q _ I.fresh⟩
noncomputable def rRep:R2:=fun x y H Q=>∃ l k xs,x = .ref l∧y = .int k∧H l=some (.lst xs)∧-(2 ^ 63)≤k∧k < 2 ^ 63∧xs.length*k.toNat≤sizeLine ∧
 ∀ p,H p=none→Q (.ref p) (upd H p (.lst (List.replicate k.toNat xs).flatten))
theorem len_rep {α:Type} (xs:List α) (k:Nat):(List.replicate k xs).flatten.length=k*xs.length:=by
 induction k with
 | zero=>simp
 | succ k ih=>rw [List.replicate_succ,List.flatten_cons,List.length_append,ih,Nat.succ_mul,Nat.add_comm]
theorem op_rep:OpR X (binaryOp .Mult) rRep:=by
 intro pins s σ H x y v u Q I rx ry h
 obtain ⟨l,k,xs,rfl,rfl,hH,h1,h2,hz,q⟩:=h
 cases rx
 obtain ⟨t,rfl⟩:=ry
 obtain ⟨z,its,n,r,hl,e⟩:=I.lstM hH
 have hlen:its.toArray.size*k.toNat≤sizeLine:=by rw [List.size_toArray,← hl];exact hz
 have hcap:¬ its.toArray.size*k.toNat > (2 ^ 63-1)/8:=by
  have:(sizeLine:Nat)≤(2 ^ 63-1)/8:=by decide
  omega
 have hfit:¬ (!Builtin.List.listFitsIndex k)=true:=by
  rw [fitsIndex_both h1 h2]
  exact Bool.false_ne_true
 have hlong:¬ Builtin.List.listTooLong (its.toArray.size*k.toNat)=true:=by
  rw [q59 hlen]
  exact Bool.false_ne_true
 have hnew:List.foldl (fun x1 x2=>x1++x2) #[] (List.replicate (if its.toArray.isEmpty=true then 0 else k.toNat) its.toArray)=(List.replicate k.toNat its).flatten.toArray:=by
  have f0:∀ m:Nat,List.foldl (fun x1 x2=>x1++x2) #[] (List.replicate m its.toArray)=(List.replicate m its).flatten.toArray:=fun m=>by
   have:=q5x its m []
   rw [List.nil_append] at this
   exact this
  rw [f0]
  cases its with
  | nil=>simp
  | cons a r'=>rw [if_neg (by simp)]
 refine wpAny_binaryOp_repeat_ref (T:="list") (U:="int") (by decide) ⟨_,e,rfl⟩ (fun s'=>typeIs_int s' k t) noFill_list_mul F.fills_int_mul F.slot_int_rmul repeat_list F.slot_int_index.lookup
  (call_meets F.slot_int_rmul (typeIs_int s k t) F.entry_int_rmul (F.args_int_rmul_2 _ _) (int___rmul___int_list k t l its.toArray n)
   ⟨e,rfl,⟨_,e,rfl⟩,call_meets F.slot_list_mul ⟨_,e,rfl⟩ F.entry_list_mul (F.args_list_mul_2 _ _) (AutoListH.list___mul___list_int_3 l its.toArray n k t hfit hcap hlong) ⟨e,?_⟩⟩)
 rw [hnew]
 exact ⟨.ref _,_,I.lnew (t':=s.toks) (r.rep k.toNat) (by rw [len_rep,Nat.mul_comm];exact hz),rfl,q _ I.fresh⟩
end
section
variable {prog:Program} {w:World} {A:Around} {E:Value→Shared→Prop} {s:Shared}
end
section
variable {X:Cx}
end
end L2
namespace Att
open PySem PySem.W PySem.Calls PyProof.Rows
theorem q47 {P:Params} {h:Heap}:∀ (ns:List Int) (vs:List Value),WellAll P h vs (ns.map WData.int)→IntsAre vs ns:=by
 intro ns
 induction ns with
 | nil =>
  intro vs w
  rw [List.map_nil] at w
  cases w
  exact .nil
 | cons n ns ih =>
  intro vs w
  rw [List.map_cons] at w
  cases w with
  | cons a b =>
   cases a
   exact .cons _ _ (ih _ b)
theorem script_of {l:OpenLaw} {n:Nat} (hn:l.most=some n) {P:Params} {h:Heap} {args:List WData} {vals:List Value}
  (hpre:l.row.toRowW.claim.pre args=true) (hwl:WellAll P h vals args) :
  ∃ a vs ns,vals=[Value.ref a]∧args=[WData.list (ns.map WData.int)]∧h.get? a=some {cls:=.type "list",data:=.seq vs.toArray}∧IntsAre vs ns∧ns.length≤n:=by
 have hsh:WShape.hasAll [] args [.list .int]=true:=(pre_splitW hpre).1
 have hc:l.pre.holds [] {args:=args}=true:=(pre_splitW hpre).2
 obtain ⟨d,r,rfl,h1,h2⟩:=hasAllW_cons hsh
 obtain rfl:=hasAllW_nil h2
 obtain ⟨xs,rfl,h3⟩:=hasW_list h1
 obtain ⟨ns,rfl⟩:=items_int h3
 have hlen:ns.length≤n:=by
  unfold OpenLaw.pre at hc
  have h4:(WTm.not (.lt (.lit (.int (n:Int))) (.len (.arg 0)))).holds [] {args:=[.list (ns.map .int)]}=true:=by
   have h4:=(holds_andW hc).1
   rw [hn] at h4
   exact h4
  have h5:=condW_of h4 (w_not (w_lt w_lit (w_len_list (w_arg rfl))))
  rw [List.length_map] at h5
  refine Nat.le_of_not_lt fun q=>?_
  have q':(n:Int) < ((ns.length:Nat):Int):=by omega
  first
   | (rw [decide_eq_true q'] at h5;exact absurd h5 (by decide))
   | (simp at h5;omega)
 cases hwl with
 | cons w1 w2 =>
  cases w2
  cases w1 with
  | list ho hall=>exact ⟨_,_,ns,rfl,rfl,ho,q47 ns _ hall,hlen⟩
theorem post_true (l:OpenLaw) (args:List WData):l.row.toRowW.claim.post args (.bool true) args=true :=
 postW_of (r:=l.row.toRowW) (X:=(true == true))
  (show WShape.has [] (.bool true) .bool=true by first | rfl | decide | simp [WShape.has,WShape.arms,WShape.armsAll])
  (show (WTm.eq .res (.lit (.bool true))).value [] {args:=args,res:=some (.bool true),after:=args}=some (.bool (true == true)) from w_eq_bool (w_res rfl) w_lit) rfl
theorem attach_call {l:OpenLaw} {n:Nat} {q:Program} {loose:List Str} {XP:(Str→Option Value)→Heap→Prop} {YP:World→Heap→Prop} {d:DefRec}
  (hn:l.most=some n) (hdf:d.params.defaults=[])
  (call:∀ (w:World) (s₀ s₁:Shared) (mg mb:Str→Option Value) (fa:Addr) (o:Obj) (pm cd doc:Value) (a:Addr) (vs:List Value) (ns:List Int),
   Ground q loose [] XP w s₀ mg mb s₁.heap→YP w s₁.heap →
   s₁.heap.get? fa=some o→o.data = .func (docDef d.name d.params d.body d.scope pm cd doc)→s₁.heap.CodeRec cd d.name→mg d.name=some (.ref fa) →
   s₁.heap.get? a=some {cls:=.type "list",data:=.seq vs.toArray}→IntsAre vs ns→ns.length≤n→s₁.gens = #[] →
   codeAny (model l.prog w) callerA (.call (.ref fa) ⟨[.ref a],[]⟩) (fun r s'=>r = .ok (.ret (.bool true))∧OldK s₁.heap s'.heap∧s'.os=s₁.os∧AllBare s'.gens) s₁) :
  WalkO q loose XP YP l.row.toRowW d [] (fun f vs=>PySem.call f vs):=by
 intro w s₀ s₁ mg mb G Y fa o pm cd doc dV kV ho hd hcd hD hmg hg args vals as hpre hlay hrd hwl hlo
 obtain rfl:dV = .none:=Dflts.none hD hdf
 obtain rfl:kV = .none:=Dflts.noKw hD
 obtain ⟨a,vs,ns,rfl,rfl,hobj,hints,hlen⟩:=script_of hn hpre hwl
 refine enter_call (codeAny_mono (call w s₀ s₁ mg mb fa o pm cd doc a vs ns G Y ho (fd_plain hd) hcd hmg hobj hints hlen hg) fun r s' hq=>?_)
 obtain ⟨rfl,h2,h3,h4⟩:=hq
 exact ⟨.inl ⟨.bool true,.bool true,[],rfl,fun _=>rfl,.bool true,post_true l _,fun _=>⟨List.Pairwise.nil,fun _ hm=>(nomatch hm)⟩⟩,h2,h3,h4⟩
section
variable {prog:Program} {w:World} {A:Around} {E:Value→Shared→Prop} {s:Shared} {K:Frag}
end
end Att
namespace L2
open PySem PySem.Spec PyProof.Rows
theorem q5R:∀ {vs:List Value} {ns:List Int},IntsAre vs ns→Vals (ns.map V.int) vs
 | _,_,.nil=>.nil
 | _,_,.cons n t h=>.cons ⟨t,rfl⟩ (q5R h)
noncomputable def Only (H:Hp):Prop:=∀ b,H b=none∨∃ o xs,H b=some (.frz o (.lst xs))
theorem law_call {P:Program} {w:World} {K:PySem.W.Frag} {mg mb:Str→Option Value} {CX:CXT} {k:Nat} {fa a:Addr} {fd:FuncData} {x:Str} {sp:Sp} {s₁:Shared} {vs:List Value} {ns:List Int}
  (KX:K.In s₁.heap) (hns:s₁.heap.Ns mainGlobals mg) (hb:s₁.heap.Ns builtinsNs mb) (hbb:∀ x:Str,x≠"__name__"→mb x=bootBuiltins x) (hlim:s₁.heap.NoLimit) (hg:s₁.gens = #[])
  (ha:s₁.heap.get? a=some {cls:=.type "list",data:=.seq vs.toArray}) (hi:IntsAre vs ns) (hl:ns.length≤sizeLine) (hr:Room k callerA)
  (F:∀ base:Heap,K.In base→base.Ns mainGlobals mg→FnOk P w K mg base CX k fa fd [x] sp) (hbind:∀ (s:Shared) (u:Value),BindsTo s fd ⟨[u],[]⟩ [(x,u)])
  (hsp:∀ H:Hp,Only H→SqL K H a (ns.map V.int)→sp [.ref a] H (fun v _=>v = .bl true) fun _ _ _=>False)
  (hCX:∀ H e s',CX [] H s₁ (fun _ _ _=>False) e s'→False) :
  codeAny (model P w) callerA (.call (.ref fa) ⟨[.ref a],[]⟩) (fun r s'=>r = .ok (.ret (.bool true))∧OldK s₁.heap s'.heap∧s'.os=s₁.os∧AllBare s'.gens) s₁:=by
 have rv:=q5R hi
 have lenV:=hi.length
 have core:∀ H:Hp,Only H→SqL K H a (ns.map V.int)→HOk P w H s₁.heap→(∀ b,H b≠none→b=a)→(H a≠none→K.lookup a=none) →
   codeAny (model P w) callerA (.call (.ref fa) ⟨[.ref a],[]⟩) (fun r s'=>r = .ok (.ret (.bool true))∧OldK s₁.heap s'.heap∧s'.os=s₁.os∧AllBare s'.gens) s₁:=by
  intro H hO hS hok hA hK
  have base_of:∀ {b:Addr} {o:Obj},s₁.heap.get? b=some o→H b=none→(hidT s₁.heap H).get? b=some o:=fun e n=>hidT_get e n
  have noA:∀ {b:Addr} {o:Obj} {es:Array DictEntry} {ep:Nat},s₁.heap.get? b=some o→o.data = .dict es ep→H b=none:=fun {b o es ep} e d=>by
   cases q:H b with
   | none=>rfl
   | some u =>
    have e':b=a:=hA b (by rw [q];simp)
    subst e'
    rw [ha] at e;cases e
    have d':Data.seq vs.toArray _=Data.dict es ep:=d
    cases d'
  have nsK:∀ {b:Addr} {m:Str→Option Value},s₁.heap.Ns b m→(hidT s₁.heap H).Ns b m:=fun {b m} ⟨o,es,ep,e,d,r⟩=>⟨o,es,ep,base_of e (noA e d),d,r⟩
  have hKb:K.In (hidT s₁.heap H):=fun b o e=>base_of (KX b o e) (by
   cases q:H b with
   | none=>rfl
   | some u =>
    have e':b=a:=hA b (by rw [q];simp)
    subst e'
    rw [hK (by rw [q];simp)] at e;cases e)
  have hM:Mod K mg (hidT s₁.heap H):=⟨hKb,nsK hns,⟨mb,nsK hb,hbb⟩,let ⟨mc,h1,h2⟩:=hlim;⟨mc,nsK h1,h2⟩⟩
  have e0:Env0 P w K mg (hidT s₁.heap H) callerA [] s₁ H:=⟨rfl,hM,fun b o e=>of_hidT e,Nat.le_of_eq (hidT_size _ _),trivial,fun b hb=>absurd (show b∈([]:List Addr) from hb) (by simp),hok,.of_eq hg⟩
  refine codeAny_mono ((F _ hKb (nsK hns)).run callerA [] s₁ H ⟨[.ref a],[]⟩ [.ref a] [.ref a] _ _ hr e0 (hbind s₁ (.ref a)) (.cons rfl .nil) (hsp H hO hS)) fun r s' h=>?_
  cases r with
  | error e=>exact (hCX H e s' h).elim
  | ok fl =>
   cases fl with
   | next=>exact False.elim h
   | brk=>exact False.elim h
   | cont=>exact False.elim h
   | ret u =>
    obtain ⟨v,H',os,bare,un,hok',r',q⟩:=h
    have q':v = .bl true:=q
    subst q'
    obtain rfl:u=Value.bool true:=r'
    refine ⟨rfl,OldK.of_keep fun b o e=>?_,os,bare⟩
    cases q:H b with
    | none=>exact un.keep b o e q (by intro z;exact absurd (show b∈([]:List Addr) from z) (by simp)) (by simp)
    | some u =>
     rcases hO b with z | ⟨ob,xs,z⟩
     ·rw [q] at z;cases z
     ·have z2:=un.frzs b ob _ z
      obtain ⟨e1,_⟩:=hok b _ z
      obtain ⟨e2,_⟩:=hok' b _ z2
      rw [e] at e1;cases e1
      exact e2
 cases hk:K.lookup a with
 | some o =>
  have e:=KX a o hk
  rw [ha] at e
  cases e
  refine core (fun _=>none) (fun _=>.inl rfl) (.inr ⟨_,vs.toArray,_,hk,rfl,rfl,rfl,by rw [List.size_toArray,lenV];exact hl,by simpa using rv⟩) (fun b u z=>by have z':(none:Option HO)=some u:=z;cases z') (fun b z=>absurd rfl z) fun z=>absurd rfl z
 | none =>
  refine core (fun b=>if b=a then some (.frz {cls:=.type "list",data:=.seq vs.toArray} (.lst (ns.map V.int))) else none) (fun b=>?_) (.inl (.inr ⟨{cls:=.type "list",data:=.seq vs.toArray},if_pos rfl⟩)) (fun b u z=>?_) (fun b z=>?_) fun _=>hk
  ·by_cases hb:b=a
   ·exact .inr ⟨_,_,if_pos hb⟩
   ·exact .inl (if_neg hb)
  ·by_cases hb:b=a
   ·have z':=(if_pos hb).symm.trans z
    cases z'
    subst hb
    exact ⟨ha,by rw [List.length_map];exact hl,vs,_,rv,ha⟩
   ·have z':=(if_neg hb).symm.trans z
    cases z'
  ·by_cases hb:b=a
   ·exact hb
   ·exact absurd (if_neg hb) z
end L2
namespace L2
open PySem PySem.Spec PyProof.Rows
theorem walk_of {l:PySem.W.OpenLaw} {n k:Nat} {q:Program} {loose:List Str} {XP:(Str→Option Value)→Heap→Prop} {YP:World→Heap→Prop} {d:DefRec} {K:Params→PySem.W.Frag} {CX:World→CXT} {sp:World→Sp} {x:Str}
  (hn:l.most=some n) (hn2:n≤sizeLine) (hdf:d.params.defaults=[]) (hr:Room k callerA)
  (hY:∀ (w:World) (h:Heap),YP w h→(K w.params).In h)
  (F:∀ (w:World) (mg:Str→Option Value) (fa:Addr) (h:Heap),(K w.params).In h→h.Ns mainGlobals mg→mg d.name=some (.ref fa) →
   ∃ fd:FuncData,(∀ (s:Shared) (u:Value),BindsTo s fd ⟨[u],[]⟩ [(x,u)]) ∧
    ∀ base:Heap,(K w.params).In base→base.Ns mainGlobals mg→FnOk l.prog w (K w.params) mg base (CX w) k fa fd [x] (sp w))
  (hsp:∀ (w:World) (H:Hp) (a:Addr) (ns:List Int),ns.length≤n→Only H→SqL (K w.params) H a (ns.map V.int)→sp w [.ref a] H (fun v _=>v = .bl true) fun _ _ _=>False)
  (hCX:∀ (w:World) (H:Hp) (s:Shared) (e:Value) (s':Shared),CX w [] H s (fun _ _ _=>False) e s'→False) :
  PySem.W.WalkO q loose XP YP l.row.toRowW d [] (fun f vs=>PySem.call f vs):=by
 refine Att.attach_call hn hdf fun w s₀ s₁ mg mb fa o pm cd doc a vs ns G Y ho hd hcd hmg hobj hints hlen hg=>?_
 have KX:=hY w _ Y
 obtain ⟨fd,hb,hF⟩:=F w mg fa _ KX G.T.g hmg
 exact law_call KX G.T.g G.T.b G.T.builtins G.T.nolimit hg hobj hints (Nat.le_trans hlen hn2) hr hF hb (fun H hO hS=>hsp w H a ns hlen hO hS) fun H e s'=>hCX w H s₁ e s'
end L2
namespace L2
open PySem PySem.Spec PyProof.Rows
noncomputable def q1i (s:Stmt):Arguments:=match s with
 | .FunctionDef _ a _ _ _ _ _ _ _ _=>a
 | _=>{posonlyargs:=[],args:=[],vararg:=none,kwonlyargs:=[],kw_defaults:=[],kwarg:=none,defaults:=[]}
noncomputable def q0t (s:Stmt):List Stmt:=match s with
 | .FunctionDef _ _ b _ _ _ _ _ _ _=>b
 | _=>[]
noncomputable def qH (s:Stmt):Scope:=match s with
 | .FunctionDef _ _ _ _ _ _ sc _ _ _=>sc
 | _=>{kind:=.function,names:=[],isGenerator:=false,isCoroutine:=false}
noncomputable abbrev CX0:CXT:=fun _ _ _ _ _ _=>False
noncomputable abbrev E0:XK:=fun _ _ _=>False
theorem pass0 {X:Cx}:q1p CX0 X E0:=fun _ _ _ _ _ _ _ h=>h.elim
structure Fun (K:PySem.W.Frag) (x qual:Str) (st:Stmt) (f:Addr) (fd:FuncData):Prop where
 ex:∃ (oc:Value) (od:Option Addr) (kV doc pm:Value) (an:Option Addr) (cdv ct:Value) (osl:Array (Option Value)),
  fd=PySem.W.fnOf x qual (q1i st) (q0t st) (qH st) .none kV doc pm an cdv ct∧K.lookup f=some ⟨oc,od,.func fd,osl⟩∧PySem.W.codeIn K cdv qual=true
 kp:PySem.W.keepIn K (.ref f)=true
section
variable {P:Program} {w:World} {K:PySem.W.Frag} {mg:Str→Option Value} {base:Heap}
theorem Fun.ok {x qual:Str} {st:Stmt} {f:Addr} {fd:FuncData} {N ps:List Str} {k:Nat} {sp:Sp} (F:Fun K x qual st f fd) (S:FnScope N ps (qH st)) (len:∀ vs H Q E,sp vs H Q E→vs.length=ps.length)
  (hbody:∀ (cdv:Value) (A:Around) (outer:List Env) (s:Shared) (H:Hp) (vs:List V) (Q:VK) (E:XK),Room k (A.deeper (envOfC qual (qH st) s.heap.objs.size f cdv))→sp vs H Q E →
   ∃ t,PSs (cxOf CX0 P w K mg base N qual (qH st) f cdv A outer s H E).nox (q0t st) t∧t {nx:=fun _ H'=>Q .non H',rt:=Q} (q4p N vs) H):FnOk P w K mg base CX0 (k+1) f fd ps sp:=by
 obtain ⟨oc,od,kV,doc,pm,an,cdv,ct,osl,rfl,lk,hcd⟩:=F.ex
 refine fn_of lk hcd S len fun A outer s H vs Q E hr hsp=>?_
 obtain ⟨t,h,q⟩:=hbody cdv A outer s H vs Q E hr hsp
 exact ⟨t,h.nox,q⟩
theorem Fun.binds {x qual:Str} {st:Stmt} {f:Addr} {fd:FuncData} {ps:List Str} (F:Fun K x qual st f fd)
  (h:∀ (kV doc pm:Value) (an:Option Addr) (cdv ct:Value) (us:List Value),us.length=ps.length→bindArgs (PySem.W.fnOf x qual (q1i st) (q0t st) (qH st) .none kV doc pm an cdv ct) ⟨us,[]⟩=pure (ps.zip us)):Binds K fd ps []:=by
 obtain ⟨oc,od,kV,doc,pm,an,cdv,ct,osl,rfl,lk,hcd⟩:=F.ex
 exact .all (h kV doc pm an cdv ct)
theorem qX {x qual:Str} {st:Stmt} {f:Addr} {oc:Value} {od an:Option Addr} {osl:Array (Option Value)} {kV doc pm cdv ct:Value} (l:K.lookup f=some ⟨oc,od,.func (PySem.W.fnOf x qual (q1i st) (q0t st) (qH st) .none kV doc pm an cdv ct),osl⟩)
  (c:PySem.W.codeIn K cdv qual=true) (k:PySem.W.keepIn K (.ref f)=true):Fun K x qual st f (PySem.W.fnOf x qual (q1i st) (q0t st) (qH st) .none kV doc pm an cdv ct):=⟨⟨oc,od,kV,doc,pm,an,cdv,ct,osl,rfl,l,c⟩,k⟩
end
theorem q0l {A:Around} {k:Nat} (hr:Room k A):A.units+1 < cLine:=Nat.lt_of_le_of_lt (Nat.add_le_add_left (by decide:1≤64) _) hr.units
section
variable {X:Cx}
theorem pv (i:Nat) {x:Str} {pos:Pos} (hN:X.N[i]?=some x:=by rfl) (hv:Vis X.env.scope x:=by first | exact Or.inl rfl | exact Or.inr (Or.inl rfl) | exact Or.inr (Or.inr rfl)) (hd:(x == ("__debug__" : Str))=false:=by decide)
  (hcd:(x == ("__classdict__" : Str))=false:=by decide):PE X (.Name x pos) (tVar i):=q2r hN hv hd hcd
end
theorem iteF {A B:Prop} (h:B):if false=true then A else B:=by
 rw [if_neg Bool.false_ne_true]
 exact h
theorem iteT {A B:Prop} (h:A):if true=true then A else B:=by
 rw [if_pos rfl]
 exact h
noncomputable def Same (H H':Hp):Prop:=∀ b o,H b=some o→H' b=some o
theorem Same.refl (H:Hp):Same H H:=fun _ _ h=>h
theorem Same.trans {H H1 H2:Hp} (a:Same H H1) (b:Same H1 H2):Same H H2:=fun c o h=>b c o (a c o h)
theorem Same.free {H H':Hp} (e:Same H H') {l:Addr} (h:H' l=Option.none):H l=Option.none:=by
 cases q:H l with
 | none=>rfl
 | some o =>
  rw [e l o q] at h
  cases h
end L2
section
namespace L2
open PySem PySem.Spec PyProof.Rows
section
variable {κ:Type} [DecidableEq κ]
noncomputable def valV (kvs:List (κ×V)) (k:κ):Option V:=(kvs.find? fun kv=>decide (kv.1=k)).map (·.2)
noncomputable def putK (kvs:List (κ×V)) (k:κ) (v:V):List (κ×V) :=
 if (kvs.any fun kv=>decide (kv.1=k))=true then kvs.map (fun kv=>if kv.1=k then (kv.1,v) else kv) else kvs++[(k,v)]
theorem q4i {p:κ×V} {r:List (κ×V)} {k:κ} (e:p.1=k):valV (p::r) k=some p.2:=by simp [valV,List.find?_cons,e]
theorem q4j {p:κ×V} {r:List (κ×V)} {k:κ} (e:¬ p.1=k):valV (p::r) k=valV r k:=by simp [valV,List.find?_cons,e]
theorem q6k (k:κ):∀ kvs:List (κ×V),(kvs.any fun kv=>decide (kv.1=k))=(valV kvs k).isSome
 | []=>rfl
 | p::r=>by
  rw [List.any_cons]
  by_cases e:p.1=k
  ·simp only [q4i e,decide_eq_true e,Bool.true_or,Option.isSome_some]
  ·rw [q4j e,decide_eq_false e,Bool.false_or];exact q6k k r
theorem q2a (kvs:List (κ×V)) (k:κ) (v:V):(putK kvs k v).length≤kvs.length+1:=by
 unfold putK
 split
 ·rw [List.length_map];omega
 ·rw [List.length_append,List.length_cons,List.length_nil];omega
theorem RelO.isSome_eq {o:Option V} {u:Option Value} (r:RelO o u):o.isSome=u.isSome:=by
 cases o with
 | none=>cases u with
  | none=>rfl
  | some _=>exact (show False from r).elim
 | some _=>cases u with
  | none=>exact (show False from r).elim
  | some _=>rfl
theorem KV.val {kvs:List (κ×V)} {vs:List (κ×Value)} (r:KV kvs vs) (k:κ):RelO (valV kvs k) (valueAt vs k):=by
 unfold KV at r
 induction r with
 | nil=>exact True.intro
 | @cons p q ps qs h t ih =>
  obtain ⟨h1,h2⟩:=h
  by_cases e:p.1=k
  ·have e':q.1=k:=h1.symm.trans e
   have b:valueAt (q::qs) k=some q.2:=by simp [valueAt,List.find?_cons,e']
   rw [q4i e,b];exact h2
  ·have e':¬ q.1=k:=fun z=>e (h1.trans z)
   have b:valueAt (q::qs) k=valueAt qs k:=by simp [valueAt,List.find?_cons,e']
   rw [q4j e,b];exact ih
theorem KV.any {kvs:List (κ×V)} {vs:List (κ×Value)} (r:KV kvs vs) (k:κ):(kvs.any fun kv=>decide (kv.1=k))=vs.any fun kv=>decide (kv.1=k):=by
 unfold KV at r
 induction r with
 | nil=>rfl
 | cons h t ih=>rw [List.any_cons,List.any_cons,ih,h.1]
theorem KV.repl {kvs:List (κ×V)} {vs:List (κ×Value)} (r:KV kvs vs) (k:κ) {y:V} {u:Value} (ry:RelV y u) :
  KV (kvs.map fun kv=>if kv.1=k then (kv.1,y) else kv) (vs.map fun kv=>if kv.1=k then (kv.1,u) else kv):=by
 unfold KV at r ⊢
 induction r with
 | nil=>exact .nil
 | @cons p q ps qs h t ih =>
  rw [List.map_cons,List.map_cons]
  refine .cons ?_ ih
  obtain ⟨h1,h2⟩:=h
  by_cases e:p.1=k
  ·rw [if_pos e,if_pos (h1.symm.trans e)];exact ⟨h1,ry⟩
  ·rw [if_neg e,if_neg (fun z=>e (h1.trans z))];exact ⟨h1,h2⟩
theorem KV.put {kvs:List (κ×V)} {vs:List (κ×Value)} (r:KV kvs vs) (k:κ) {y:V} {u:Value} (ry:RelV y u):KV (putK kvs k y) (stored vs k u):=by
 unfold putK stored
 rw [r.any k]
 by_cases e:(vs.any fun kv=>decide (kv.1=k))=true
 ·rw [if_pos e,if_pos e];exact r.repl k ry
 ·rw [if_neg e,if_neg e];exact Paired.snoc r ⟨rfl,ry⟩
theorem KV.length {kvs:List (κ×V)} {vs:List (κ×Value)} (r:KV kvs vs):kvs.length=vs.length:=Paired.length r
end
theorem kV_is {P:Program} {w:World} {k:Key} {u:Value} (r:RelV (kV k) u):(q0D P w).is k u=true:=by
 cases k with
 | inl i=>obtain ⟨t,e⟩:=(show ∃ t,u=Value.int i t from r);subst e;exact q6Z P w i t
 | inr x=>obtain ⟨t,e⟩:=(show ∃ t,u=Value.str x t from r);subst e;exact q6Y P w x t
theorem q5v {P:Program} {w:World}:∀ {ks:List Key} {us:List Value},Vals (ks.map kV) us→ItemsAre (q0D P w) ks us
 | [],_,r=>by rw [List.map_nil] at r;cases r;exact .nil
 | k::ks,_,r=>by
  rw [List.map_cons] at r
  cases r with
  | cons h t=>exact .cons (kV_is h) (q5v t)
noncomputable abbrev KT (H:Hp):List (List Key×V)→List (List Key×Addr×Value)→Prop:=Paired fun p q=>p.1=q.1∧H q.2.1=some (.tup (p.1.map kV))∧RelV p.2 q.2.2
theorem KT.val {H:Hp} {kvs:List (List Key×V)} {xs:List (List Key×Addr×Value)} (r:KT H kvs xs) (k:List Key):RelO (valV kvs k) ((atKey xs k).map (·.2)):=by
 induction r with
 | nil=>exact True.intro
 | @cons p q ps qs h t ih =>
  obtain ⟨h1,_,h2⟩:=h
  by_cases e:p.1=k
  ·have e':q.1=k:=h1.symm.trans e
   have b:atKey (q::qs) k=some q.2:=by simp [atKey,List.find?_cons,e']
   rw [q4i e,b];exact h2
  ·have e':¬ q.1=k:=fun z=>e (h1.trans z)
   have b:atKey (q::qs) k=atKey qs k:=by simp [atKey,List.find?_cons,e']
   rw [q4j e,b];exact ih
theorem KT.repl {H:Hp} {kvs:List (List Key×V)} {xs:List (List Key×Addr×Value)} (r:KT H kvs xs) (k:List Key) {y:V} {u:Value} (ry:RelV y u) :
  KT H (kvs.map fun kv=>if kv.1=k then (kv.1,y) else kv) (xs.map (putAt k u)):=by
 induction r with
 | nil=>exact .nil
 | @cons p q ps qs h t ih =>
  rw [List.map_cons,List.map_cons]
  refine .cons ?_ ih
  obtain ⟨h1,h2,h3⟩:=h
  unfold putAt
  by_cases e:p.1=k
  ·rw [if_pos e,if_pos (h1.symm.trans e)];exact ⟨h1,h2,ry⟩
  ·rw [if_neg e,if_neg (fun z=>e (h1.trans z))];exact ⟨h1,h2,h3⟩
theorem KT.put {H:Hp} {kvs:List (List Key×V)} {xs:List (List Key×Addr×Value)} (r:KT H kvs xs) (k:List Key) {b:Addr} {y:V} {u:Value} (hb:H b=some (.tup (k.map kV))) (ry:RelV y u) :
  KT H (putK kvs k y) (storedH xs k b u):=by
 have e:(kvs.any fun kv=>decide (kv.1=k))=(atKey xs k).isSome:=by
  rw [q6k,(r.val k).isSome_eq,Option.isSome_map]
 unfold putK storedH
 rw [e]
 by_cases q:(atKey xs k).isSome=true
 ·rw [if_pos q,if_pos q];exact r.repl k ry
 ·rw [if_neg q,if_neg q];exact Paired.snoc r ⟨rfl,hb,ry⟩
theorem KT.keeps {H H':Hp} {kvs:List (List Key×V)} {xs:List (List Key×Addr×Value)} (r:KT H kvs xs) (ht:∀ b ys,H b=some (.tup ys)→H' b=some (.tup ys)):KT H' kvs xs :=
 Paired.mapP r fun _ _ z=>⟨z.1,ht _ _ z.2.1,z.2.2⟩
section
variable {P:Program} {w:World} {H:Hp} {h:Heap} {a:Addr}
theorem rd_of {u:HO} (ok:HOk P w H h) (e:Rd H a u):ObjOk P w H h a u:=e.ok ok
theorem dk_rd {kvs:List (Key×V)} (ok:HOk P w H h) (e:Rd H a (.dK kvs)):kvs.length≤sizeLine∧(a == sysModules)=false∧∃ vs,KV kvs vs∧h.DictOf (q0D P w) a vs :=
 show ObjOk P w H h a (.dK kvs) from rd_of ok e
theorem dk_of {kvs:List (Key×V)} (ok:HOk P w H h) (e:H a=some (.dK kvs)):kvs.length≤sizeLine∧(a == sysModules)=false∧∃ vs,KV kvs vs∧h.DictOf (q0D P w) a vs:=dk_rd ok (.inl e)
theorem key_of {ks:List Key} (ok:HOk P w H h) (e:H a=some (.tup (ks.map kV))):(tupleKind (q0D P w)).is h ks a:=by
 obtain ⟨_,its,r,o,h1,h2,n,h3⟩:=(show ObjOk P w H h a (.tup (ks.map kV)) from ok a _ e)
 exact ⟨o,its.toArray,n,h1,h2,h3,by simpa using q5v r⟩
theorem dt_rd {kvs:List (List Key×V)} (ok:HOk P w H h) (e:Rd H a (.dT kvs)):kvs.length≤sizeLine∧(a == sysModules)=false ∧
  ∃ xs,KT H kvs xs∧h.DictOfH (tupleKind (q0D P w)) a xs:=by
 obtain ⟨z,y,xs,r,o,es,ep,h1,h2,h3,h4,h5⟩:=(show ObjOk P w H h a (.dT kvs) from rd_of ok e)
 refine ⟨z,y,xs,r,o,es,ep,h1,h2,h3,h4,fun x hx=>?_,h5⟩
 have all:∀ {l:List (List Key×V)} {m:List (List Key×Addr×Value)},KT H l m→∀ x∈m,(tupleKind (q0D P w)).is h x.1 x.2.1:=by
  intro l m q
  induction q with
  | nil=>intro x hx;exact nomatch hx
  | @cons p q ps qs hq t ih =>
   intro x hx
   rcases List.mem_cons.mp hx with e | hx
   ·subst e
    exact key_of ok (by rw [← hq.1];exact hq.2.1)
   ·exact ih x hx
 exact all r x hx
theorem dt_of {kvs:List (List Key×V)} (ok:HOk P w H h) (e:H a=some (.dT kvs)):kvs.length≤sizeLine∧(a == sysModules)=false ∧
  ∃ xs,KT H kvs xs∧h.DictOfH (tupleKind (q0D P w)) a xs:=dt_rd ok (.inl e)
end
noncomputable def DGet (H:Hp) (a:Addr) (y:V) (r:Option V):Prop :=
 (∃ kvs k,Rd H a (.dK kvs)∧y=kV k∧r=valV kvs k)∨∃ kvs k b,Rd H a (.dT kvs)∧y = .ref b∧H b=some (.tup (k.map kV))∧r=valV kvs k
noncomputable def DPut (H:Hp) (a:Addr) (y v:V) (H':Hp):Prop :=
 (∃ kvs k,H a=some (.dK kvs)∧y=kV k∧kvs.length < sizeLine∧H'=upd H a (.dK (putK kvs k v))) ∨
 ∃ kvs k b,H a=some (.dT kvs)∧y = .ref b∧H b=some (.tup (k.map kV))∧kvs.length < sizeLine∧H'=upd H a (.dT (putK kvs k v))
theorem DGet.k {H:Hp} {a:Addr} {kvs:List (Key×V)} {k:Key} (e:H a=some (.dK kvs)):DGet H a (kV k) (valV kvs k):=.inl ⟨kvs,k,.inl e,rfl,rfl⟩
theorem DPut.k {H:Hp} {a:Addr} {kvs:List (Key×V)} {k:Key} {v:V} (e:H a=some (.dK kvs)) (hl:kvs.length < sizeLine):DPut H a (kV k) v (upd H a (.dK (putK kvs k v))):=.inl ⟨kvs,k,e,rfl,hl,rfl⟩
section
variable {X:Cx} {pins:List (Addr×Obj)} {σ:St} {H:Hp} {s:Shared} {a:Addr} {y v:V} {u r:Value} {o:Option V} {A:Around} {E:Value→Shared→Prop}
theorem Inv.big (I:Inv X pins σ H s):sysModules < s.heap.objs.size:=by
 have h:mainGlobals < s.heap.objs.size:=(I.mod.glob.keeps I.bk).lt
 exact Nat.lt_trans (by decide) h
theorem d_getItem {Q:Value→Shared→Prop} (hu:A.units+1 < cLine) (I:Inv X pins σ H s) (g:DGet H a y (some v)) (ry:RelV y u) (h:∀ w' s',Inv X pins σ H s'→RelV v w'→Q w' s') :
  wpAny (model X.prog X.w) A (getItem (.ref a) u) Q E s:=by
 rcases g with ⟨kvs,k,e,ey,l⟩ | ⟨kvs,k,b,e,ey,eb,l⟩
 ·subst ey
  obtain ⟨z,hd,vs,rel,dd⟩:=dk_rd I.hok e
  obtain ⟨w',hw,rw'⟩:=RelO.some_of (v:=v) (o:=valueAt vs k) (by rw [l];exact rel.val k)
  exact wpAny_getItem_of (kV_is ry) dd.mapOf hw (h w' _ (I.tok _) rw')
 ·subst ey
  cases (show u=Value.ref b from ry)
  obtain ⟨z,hd,xs,rel,dd⟩:=dt_rd I.hok e
  obtain ⟨w',hw,rw'⟩:=RelO.some_of (v:=v) (o:=(atKey xs k).map (·.2)) (by rw [l];exact rel.val k)
  obtain ⟨p,hp,hp2⟩:=Option.map_eq_some_iff.mp hw
  refine wpAny_getItem_heap (tupleKind_room_in1 hu) (key_of I.hok eb) dd hp ?_
  rw [hp2]
  exact h w' _ (I.tok _) rw'
theorem q6g {h':Heap} {t':Nat} {ob:HO} (I:Inv X pins σ H s) (mu:Mut (H a)) (hs:Heap.SameBut a s.heap h') (he:∃ q,h'.get? a=some q) (new:ObjOk X.prog X.w (upd H a ob) h' a ob) :
  Inv X pins σ (upd H a ob) {s with heap:=h',toks:=t'} :=
 I.write (x:=a) (e:=a) mu (.inl rfl) (fun b q hb z=>(hs.2 b hb).trans z) he new
theorem dk_new {P:Program} {w:World} {H':Hp} {h':Heap} {kvs:List (Key×V)} {vs:List (Key×Value)} (z:kvs.length≤sizeLine) (hd:(a == sysModules)=false) (rel:KV kvs vs) (dd:h'.DictOf (q0D P w) a vs) :
  ObjOk P w H' h' a (.dK kvs):=⟨z,hd,vs,rel,dd⟩
theorem d_setItem {H':Hp} {Q:Unit→Shared→Prop} (hu:A.units+1 < cLine) (I:Inv X pins σ H s) (g:DPut H a y v H') (ry:RelV y u) (rv:RelV v r) (h:∀ s',Inv X pins σ H' s'→Q () s') :
  wpAny (model X.prog X.w) A (setItem (.ref a) u r) Q E s:=by
 rcases g with ⟨kvs,k,e,ey,l,eH⟩ | ⟨kvs,k,b,e,ey,eb,l,eH⟩
 ·subst ey eH
  obtain ⟨z,hd,vs,rel,dd⟩:=dk_of I.hok e
  have hz:vs.length≤sizeLine:=by rw [← rel.length];exact z
  have hl:(putK kvs k v).length≤sizeLine:=by have:=q2a kvs k v;omega
  refine wpAny_setItem_pairs (hsz:=hz) (kV_is ry) dd fun h' dd' hs=>h _ ?_
  have he:∃ q,h'.get? a=some q:=let ⟨q,_,_,hq,_⟩:=dd';⟨q,hq⟩
  exact q6g I (by rw [e];exact True.intro) hs he (dk_new hl hd (rel.put k rv) dd')
 ·subst ey eH
  cases (show u=Value.ref b from ry)
  obtain ⟨z,hd,xs,rel,dd⟩:=dt_of I.hok e
  have hz:xs.length≤sizeLine:=by rw [← Paired.length rel];exact z
  have hl:(putK kvs k v).length≤sizeLine:=by have:=q2a kvs k v;omega
  refine wpAny_setItem_heap (hsz:=hz) (tupleKind_room_in1 hu) (key_of I.hok eb) dd fun h' dd' hs=>h _ ?_
  obtain ⟨q,es,ep,hq,h2,h3,h4,_,h5⟩:=dd'
  refine q6g I (by rw [e];exact True.intro) hs ⟨q,hq⟩ ⟨hl,hd,_,(rel.put k eb rv).keeps fun c ys ec=>?_,q,es,ep,hq,h2,h3,h4,h5⟩
  rw [qF (ne_of ec e (fun z=>nomatch z))]
  exact ec
end
section
variable {X:Cx} {pins:List (Addr×Obj)} {σ:St} {H:Hp} {s:Shared} {a:Addr} {kvs:List (Key×V)} {k:Key} {u:Value} {A:Around} {E:Value→Shared→Prop}
end
noncomputable def NoSl (i:Expr):Prop:=∀ ov iv,subscripted i false ov iv=operate [ov,iv] (getItem ov iv)
theorem subD_of {prog:Program} {w:World} {A:Around} {E:Value→Shared→Prop} {s:Shared} {env:Env} {value slice:Expr} {pos:Pos} {T id:String} {Q:Value→Shared→Prop}
  (hl:typeLookup (.type T) "__getitem__" = pure (some (.builtin id))) (hs:NoSl slice)
  (h:wpAny (model prog w) A (eval value env) (fun o s₁=>wpAny (model prog w) A (eval slice env) (fun i s₂=>s₂.TypeIs o T∧wpAny (model prog w) A (getItem o i) Q E s₂) E s₁) E s) :
  wpAny (model prog w) A (eval (.Subscript value slice pos) env) Q E s:=by
 refine Subscript_ (wpAny_mono h (fun o s₁ h₁=>wpAny_mono h₁ (fun i s₂ h₂=>?_) fun _ _ x=>x) fun _ _ x=>x)
 obtain ⟨hT,h₂⟩:=h₂
 unfold subscriptTail
 refine wpAny_bind ?_
 rw [getitemInPython_of_ne hT.not_modules]
 refine wpAny_bind (wpAny_specialOf hT hl ?_)
 have fin:wpAny (model prog w) A (subscripted slice false o i) (fun r s₃=>wpAny (model prog w) A (letTemporaryGo value o r >>= fun _=>pure r) Q E s₃) E s₂:=by
  rw [hs o i]
  exact wpAny_operating (wpAny_mono h₂ (fun r s₃ h₃=>wpAny_bind (wpAny_letTemporaryGo (wpAny_pure h₃))) fun _ _ x=>x)
 first
  | exact wpAny_pure (wpAny_bind fin)
  | exact wpAny_bind (wpAny_pure (wpAny_bind fin))
  | exact wpAny_bind fin
theorem q6f {X:Cx} {pins:List (Addr×Obj)} {σ:St} {H:Hp} {s:Shared} {a:Addr} {y:V} {o:Option V} (I:Inv X pins σ H s) (g:DGet H a y o):s.TypeIs (.ref a) "dict":=by
 rcases g with ⟨kvs,k,e,_,_⟩ | ⟨kvs,k,b,e,_,_,_⟩
 ·obtain ⟨_,_,vs,_,dd⟩:=dk_rd I.hok e
  exact dd.typeIs
 ·obtain ⟨_,_,xs,_,dd⟩:=dt_rd I.hok e
  exact dd.typeIs
noncomputable def tDGet (td ty:TE):TE:=fun σ H Q=>td σ H fun x H1=>ty σ H1 fun y H2=>∃ a v,x = .ref a∧DGet H2 a y (some v)∧Q v H2
noncomputable def sDPut (td ty tv:TE):TS:=fun D σ H=>tv σ H fun v H1=>td σ H1 fun x H2=>ty σ H2 fun y H3=>∃ a H4,x = .ref a∧DPut H3 a y v H4∧D.nx σ H4
section
variable {X:Cx} {o i e value:Expr} {pos pos' tpos:Pos} {td ty tv:TE}
theorem q04 (hu:X.A.units+1 < cLine) (ho:PE X o td) (hi:PE X i ty) (hs:NoSl i):PE X (.Subscript o i pos) (tDGet td ty):=by
 intro pins s σ H Q I h
 refine subD_of PySem.F.slot_dict_getitem.lookup hs (thn (ho pins s σ H _ I h) fun u s1 ⟨x,H1,I1,rx,q1⟩=>thn (hi pins s1 σ H1 _ I1 q1) fun iv s2 ⟨y,H2,I2,ry,a,v,ex,g,q2⟩=>?_)
 subst ex
 obtain rfl:u=Value.ref a:=rx
 exact ⟨q6f I2 g,d_getItem hu I2 g ry fun w' s3 I3 rw'=>⟨v,H2,I3,rw',q2⟩⟩
theorem q37 (hu:X.A.units+1 < cLine) (ho:PE X o td) (hi:PE X i ty) (hv:PE X value tv) (hs:swapsWith value (some (.Subscript o i pos')) pos.line X.env=pure false) :
  PS X (.Assign [.Subscript o i pos'] value pos) (sDPut td ty tv):=by
 intro pins s σ H D I h
 refine wpAny_Assign_Subscript (thn (hv pins s σ H _ I h) fun r s1 ⟨v,H1,I1,rv,q1⟩=>thn (ho pins s1 σ H1 _ I1 q1) fun u s2 ⟨x,H2,I2,rx,q2⟩=>thn (hi pins s2 σ H2 _ I2 q2) fun iv s3 ⟨y,H3,I3,ry,a,H4,ex,g,q3⟩=>?_) hs
 subst ex
 obtain rfl:u=Value.ref a:=rx
 exact d_setItem hu I3 g ry rv fun s4 I4=>⟨σ,H4,I4,q3⟩
end
theorem dk_empty {P:Program} {w:World} {H:Hp} (h:Heap) (hb:sysModules < h.objs.size):ObjOk P w H (h.push {cls:=.type "dict",data:=.dict #[]}) h.objs.size (.dK []) :=
 ⟨Nat.zero_le _,beq_eq_false_iff_ne.mpr (Ne.symm (Nat.ne_of_lt hb)),[],.nil,Heap.DictOf.new h⟩
section
variable {X:Cx} {pos:Pos}
end
noncomputable def tPairs:List (TE×TE)→St→Hp→(List (V×V)→Hp→Prop)→Prop
 | [],_,H,Q=>Q [] H
 | (tk,tv)::r,σ,H,Q=>tk σ H fun x H1=>tv σ H1 fun y H2=>tPairs r σ H2 fun ps H3=>Q ((x,y)::ps) H3
noncomputable abbrev VV:List (V×V)→List (Value×Value)→Prop:=Paired fun p q=>RelV p.1 q.1∧RelV p.2 q.2
noncomputable def PPs (X:Cx) (pos:Pos) (keys:List (Option Expr)) (values:List Expr) (trs:List (TE×TE)):Prop :=
 ∀ (pins:List (Addr×Obj)) (s:Shared) (σ:St) (H:Hp) (Q:List (V×V)→Hp→Prop),Inv X pins σ H s→tPairs trs σ H Q →
  wpAny (model X.prog X.w) X.A (evalPairs (pairTrees keys values X.env pos)) (fun vs s'=>∃ ps H',Inv X pins σ H' s'∧VV ps vs∧Q ps H') X.xe s
theorem q6S {X:Cx} {pos:Pos}:PPs X pos [] [] []:=fun pins s σ H Q I h=>pairTrees_nil_walk ⟨[],H,I,.nil,h⟩
theorem q19 {X:Cx} {pos:Pos} {k v:Expr} {ks:List (Option Expr)} {vs:List Expr} {tk tv:TE} {trs:List (TE×TE)} (hk:PE X k tk) (hv:PE X v tv) (hr:PPs X pos ks vs trs) :
  PPs X pos (some k::ks) (v::vs) ((tk,tv)::trs):=fun pins s σ H Q I h =>
 pairTrees_cons_walk (thn (hk pins s σ H _ I h) fun u s1 ⟨x,H1,I1,rx,q1⟩=>thn (hv pins s1 σ H1 _ I1 q1) fun w2 s2 ⟨y,H2,I2,ry,q2⟩ =>
  thn (hr pins s2 σ H2 _ I2 q2) fun ws s3 ⟨ps,H3,I3,rel,q3⟩=>⟨(x,y)::ps,H3,I3,.cons ⟨rx,ry⟩ rel,q3⟩)
noncomputable def q1R (kvs more:List (Key×V)):List (Key×V):=more.foldl (fun acc kv=>putK acc kv.1 kv.2) kvs
theorem KV.merge:∀ {more:List (Key×V)} {rs:List (Key×Value)} {kvs:List (Key×V)} {vs:List (Key×Value)},KV more rs→KV kvs vs→KV (q1R kvs more) (merged vs rs):=by
 intro more rs kvs vs r
 unfold KV at r
 induction r generalizing kvs vs with
 | nil=>intro q;exact q
 | @cons p q ps qs h t ih =>
  intro r0
  have e:KV (putK kvs p.1 p.2) (stored vs q.1 q.2):=by
   have:=r0.put p.1 h.2
   rw [← h.1];exact this
  exact ih e
theorem q2s:∀ (more kvs:List (Key×V)),(q1R kvs more).length≤kvs.length+more.length
 | [],kvs=>by show kvs.length≤kvs.length+0;omega
 | p::r,kvs=>by
  have h1:=q2s r (putK kvs p.1 p.2)
  have h2:=q2a kvs p.1 p.2
  show (q1R (putK kvs p.1 p.2) r).length≤_
  rw [List.length_cons];omega
theorem q4h {P:Program} {w:World}:∀ {kvs:List (Key×V)} {ws:List (Value×Value)},VV (kvs.map fun kv=>(kV kv.1,kv.2)) ws→∃ rs,Carries (q0D P w) ws rs∧KV kvs rs
 | [],_,r=>by rw [List.map_nil] at r;cases r;exact ⟨[],True.intro,.nil⟩
 | p::kvs,_,r=>by
  rw [List.map_cons] at r
  cases r with
  | @cons a b as bs h t =>
   obtain ⟨rs,c,q⟩:=q4h (P:=P) (w:=w) t
   obtain ⟨b1,b2⟩:=b
   exact ⟨(p.1,b2)::rs,⟨kV_is h.1,rfl,c⟩,.cons ⟨rfl,h.2⟩ q⟩
noncomputable def tDisp (trs:List (TE×TE)):TE:=fun σ H Q=>∀ p,H p=none→tPairs trs σ (upd H p (.dK [])) fun ps H2=>H2 p=some (.dK [])∧∃ kvs:List (Key×V),ps=kvs.map (fun kv=>(kV kv.1,kv.2))∧kvs.length≤15∧Q (.ref p) (upd H2 p (.dK (q1R [] kvs)))
theorem q6T {X:Cx} {pos:Pos} {keys:List (Option Expr)} {values:List Expr} {trs:List (TE×TE)} (h:PPs X pos keys values trs) (hall:keys.all (·.isSome)=true) (hl:keys.length=values.length) (h0:keys≠[])
  (h15:keys.length≤15):PE X (.Dict keys values pos) (tDisp trs):=by
 intro pins s σ H Q I q
 have hn:=I.hok.fresh (Nat.le_refl s.heap.objs.size)
 have I1:=I.laid (a:=s.heap.objs.size) (o:=.dK []) (h':=s.heap.push {cls:=.type "dict",data:=.dict #[]}) (t':=s.toks) (fun _ _ q=>Heap.get?_push_of_some _ q) (Nat.le_refl _) (dk_empty s.heap I.big)
 refine wpAny_Dict_walk (knd:=q0D X.prog X.w) hall hl h0 h15 (thn (h pins _ σ _ _ I1 (q _ hn)) fun ws s2 ⟨ps,H2,I2,rel,e,kvs,ep,lk,q2⟩=>?_)
 subst ep
 obtain ⟨rs,c,rk⟩:=q4h (P:=X.prog) (w:=X.w) rel
 obtain ⟨z,hd,vs0,r0,dd⟩:=dk_of I2.hok e
 cases r0
 refine ⟨rs,c,dd,fun h' dd' hs=>⟨.ref s.heap.objs.size,_,?_,rfl,q2⟩⟩
 have hz:(q1R [] kvs).length≤sizeLine:=by
  have h1:=q2s kvs []
  rw [List.length_nil] at h1
  rw [sizeLine_eq];omega
 have he:∃ q,h'.get? s.heap.objs.size=some q:=let ⟨q,_,_,hq,_⟩:=dd';⟨q,hq⟩
 exact q6g I2 (by rw [e];exact True.intro) hs he (dk_new hz hd (rk.merge .nil) dd')
structure M1 (X:Cx) (o:Expr) (m:Str) (apos:Pos) (e:Expr) (cpos:Pos):Prop where
 base:attributeBase o m X.env (eval o X.env)=eval o X.env
 few:((backTo cpos (starEach [e] X.env)).all (fun x=>!x.1) && (backToKw cpos (keywordEach [] X.env)).all (fun x=>x.1.isSome)
  && decide (([e]:List Expr).length+([]:List Keyword).length+(if ([]:List Keyword).isEmpty then 0 else 1) < 30))=true
 line:(apos.endLine == cpos.line)=true
 trees:backTo cpos (starEach [e] X.env)=[(false,eval e X.env)]
structure M2 (X:Cx) (o:Expr) (m:Str) (apos:Pos) (e f:Expr) (cpos:Pos):Prop where
 base:attributeBase o m X.env (eval o X.env)=eval o X.env
 few:((backTo cpos (starEach [e,f] X.env)).all (fun x=>!x.1) && (backToKw cpos (keywordEach [] X.env)).all (fun x=>x.1.isSome)
  && decide (([e,f]:List Expr).length+([]:List Keyword).length+(if ([]:List Keyword).isEmpty then 0 else 1) < 30))=true
 line:(apos.endLine == cpos.line)=true
 trees:backTo cpos (starEach [e,f] X.env)=[(false,eval e X.env),(false,eval f X.env)]
section
variable {X:Cx} {pins:List (Addr×Obj)} {σ:St} {H:Hp} {s:Shared} {a:Addr} {y d:V} {u r:Value} {o:Option V} {A:Around} {E:Value→Shared→Prop}
end
section
variable {X:Cx} {o e f:Expr} {apos cpos:Pos} {td ty tx:TE}
end
section
variable {X:Cx} {pins:List (Addr×Obj)} {σ:St} {H:Hp} {s:Shared} {a:Addr} {kvs:List (Key×V)} {A:Around} {E:Value→Shared→Prop}
end
section
variable {X:Cx} {pins:List (Addr×Obj)} {σ:St} {H:Hp} {s:Shared} {a:Addr} {y:V} {u:Value} {A:Around} {E:Value→Shared→Prop}
end
end L2
namespace L2
open PySem PySem.Spec PyProof.Rows
section
variable {κ:Type} [DecidableEq κ]
end
end L2
end
section
namespace L2
open PySem PySem.Spec PyProof.Rows
noncomputable def clOf (env:Env):List (Str×NameKind)→List (Str×Addr)→List (Str×Addr)
 | [],acc=>acc
 | (n,k)::r,acc=>clOf env r (if k == .free then (match env.cells.lookup n with | some c=>(n,c)::acc | none=>acc) else acc)
theorem q5M {env:Env} {x:Str} {c:Addr}:∀ (ns:List (Str×NameKind)) (acc:List (Str×Addr)),(∀ x c,acc.lookup x=some c→env.cells.lookup x=some c)→(clOf env ns acc).lookup x=some c→env.cells.lookup x=some c
 | [],acc,h,e=>h x c e
 | (n,k)::r,acc,h,e=>by
  refine q5M r _ (fun y d=>?_) e
  split
  ·cases q:env.cells.lookup n with
   | none=>exact h y d
   | some d' =>
    intro z
    rw [List.lookup_cons] at z
    cases b:y == n with
    | true =>
     rw [b] at z
     have b':y=n:=eq_of_beq b
     rw [b',q];exact z
    | false=>rw [b] at z;exact h y d z
  ·exact h y d
theorem q64 {env:Env} {x:Str}:∀ (ns:List (Str×NameKind)) (acc:List (Str×Addr)),(∃ c,acc.lookup x=some c)→∃ c,(clOf env ns acc).lookup x=some c
 | [],acc,h=>h
 | (n,k)::r,acc,h=>by
  refine q64 r _ ?_
  obtain ⟨c,h⟩:=h
  split
  ·cases q:env.cells.lookup n with
   | none=>exact ⟨c,h⟩
   | some d' =>
    show ∃ c,List.lookup x ((n,d')::acc)=some c
    rw [List.lookup_cons]
    cases b:x == n with
    | true=>exact ⟨d',rfl⟩
    | false=>exact ⟨c,h⟩
  ·exact ⟨c,h⟩
theorem q79 {env:Env} {x:Str} {c:Addr} (hc:env.cells.lookup x=some c):∀ (ns:List (Str×NameKind)) (acc:List (Str×Addr)),(x,NameKind.free)∈ns→∃ c,(clOf env ns acc).lookup x=some c
 | [],acc,h=>by cases h
 | (n,k)::r,acc,h=>by
  rcases List.mem_cons.mp h with h | h
  ·cases h
   refine q64 r _ ?_
   rw [if_pos (by rfl),hc]
   exact ⟨c,by simp⟩
  ·exact q79 hc r _ h
theorem q1F {env:Env} {x:Str}:∀ (names:List (Str×NameKind)),
  (names.map fun (n,k)=>if (k == NameKind.free && env.scope.kind == .function && env.kindOf n == some .cell) then (n,NameKind.cell) else (n,k)).lookup x
   = (names.lookup x).map fun k=>if (k == NameKind.free && env.scope.kind == .function && env.kindOf x == some .cell) then NameKind.cell else k
 | []=>rfl
 | (n,k)::r=>by
  have ih:=q1F (env:=env) (x:=x) r
  show List.lookup x ((if (k == NameKind.free && env.scope.kind == .function && env.kindOf n == some .cell)=true then (n,NameKind.cell) else (n,k))::_)=_
  rw [List.lookup_cons (k:=n)]
  cases hx:x == n with
  | true =>
   have e:x=n:=eq_of_beq hx
   subst e
   split <;> simp_all [List.lookup_cons]
  | false =>
   split <;> simp only [List.lookup_cons,hx] <;> exact ih
noncomputable def blk (X:Cx) (N':List Str) (scope:Scope) (C:Addr) (s:Shared) (H:Hp) (fp:List Addr):Cx where
 prog:=X.prog
 w:=X.w
 K:=X.K
 mg:=X.mg
 base:=X.base
 A:=X.A
 N:=N'
 s₀:=s
 H₀:=H
 env:=compEnvC scope (clOf X.env scope.names []) C X.env
 outer:=X.stack
 stack:=X.stack
 ex:=fp
 calm:=X.calm
 fn:=fun _=>false
 pn:=[]
 xe:=fun _ _=>False
noncomputable def PTs (X:Cx) (ifs:List Expr) (t:TT):Prop :=
 ∀ (pins:List (Addr×Obj)) (s:Shared) (σ:St) (H:Hp) (Q:Bool→Hp→Prop),Inv X pins σ H s→t σ H Q →
  wpAny (model X.prog X.w) X.A (forIn ifs true fun c r=>if r=true then do let ok ← isTrue c X.env (eval c X.env);pure (ForInStep.yield ok) else pure (ForInStep.yield r)) (TP X pins σ Q) X.xe s
noncomputable def tTrue:TT:=fun _ H Q=>Q true H
theorem q0b {X:Cx}:PTs X [] tTrue:=fun _ _ _ H _ I h=>wpAny_tests_nil ⟨H,I,h⟩
noncomputable def subSt (σ:St) (ix:List (Option Nat)):St:=ix.map fun o=>o.bind fun j=>(σ[j]?).join
noncomputable def CompW (J:It) (g:TG) (tc:TT) (te:TE) (τ0:St) (H1:Hp) (acc:Addr) (Q:VK):Prop :=
 ∃ W:Nat→Nat→St→List V→Hp→Prop,(∃ m,W 0 m τ0 [] (upd H1 acc (.lst [])))∧∀ i m τ ys H,W i m τ ys H→H acc=some (.lst ys) ∧
  ((J.stop i H∧Q (.ref acc) H)∨(J.go i H∧ys.length < sizeLine∧∀ x H',J.yld i H x H'→g x τ H' fun τ2 H2=>tc τ2 H2 fun b H3 =>
   if b=true then te τ2 H3 fun y H4=>H4 acc=some (.lst ys)∧∃ m',m' < m∧W (i+1) m' τ2 (ys++[y]) (upd H4 acc (.lst (ys++[y]))) else ∃ m',m' < m∧W (i+1) m' τ2 ys H3))
noncomputable def tComp (wi:TI) (g:TG) (tc:TT) (te:TE) (ix:List (Option Nat)):TE:=fun σ H Q=>wi σ H fun J H1=>∀ acc,H1 acc=none→CompW J g tc te (subSt σ ix) H1 acc Q
theorem comp_loop {prog:Program} {w:World} {A:Around} {R:Result→Shared→Prop} {s:Shared} {elt target iter:Expr} {ifs:List Expr} {scope:Scope} {pos:Pos} {it acc:Value} {env:Env} (I:Nat→Shared→Prop)
  (turn:∀ n s,I n s→wpAny (model prog w) A (pyNext it) (fun r s₁=>match r with
   | none=>R (.ok .next) s₁
   | some v=>wpAny (model prog w) A (letOwnedTupleGo target it v) (fun _ s₀=>wpAny (model prog w) A (assign target env v) (fun _ s₂ =>
     wpAny (model prog w) A (forIn ifs true fun c r=>if r=true then do let ok ← isTrue c env (eval c env);pure (ForInStep.yield ok) else pure (ForInStep.yield r)) (fun ok s₃ =>
      if ok=true then wpAny (model prog w) A (eval elt env) (fun x s₄ =>
       wpAny (model prog w) A (call (.builtin "list.append") [acc,x]) (fun _ s₅=>∃ m,m < n∧I m s₅) (fun _ _=>False) s₄) (fun _ _=>False) s₃
      else ∃ m,m < n∧I m s₃) (fun _ _=>False) s₂) (fun _ _=>False) s₀) (fun _ _=>False) s₁) (fun _ _=>False) s)
  (n:Nat) (h:I n s) :
  codeAny (model prog w) A (.compLoop (.ListComp elt [⟨target,iter,ifs,0⟩] scope pos) 0 it acc env) R s:=by
 refine codeAny_loop rfl I (fun n s hI=>?_) n h
 show wpAny _ A ((compTurn (.ListComp elt [⟨target,iter,ifs,0⟩] scope pos) 0 it acc env).onRaise (fun x=>do noteFrame x env;theTreesLotGoes x)) _ _ s
 refine wpAny_noted ?_
 rw [compTurn_list]
 refine wpAny_bind (wpAny_standAt (wpAny_bind (wpAny_mono (turn n s hI) (fun r s₁ h₁=>?_) fun _ _ z=>z.elim)))
 cases r with
 | none=>exact wpAny_pure h₁
 | some v =>
  refine wpAny_bind (wpAny_mono h₁ (fun _ s₀ h₀'=>?_) fun _ _ z=>z.elim)
  refine wpAny_bind (wpAny_mono h₀' (fun _ s₂ h₂=>wpAny_bind (wpAny_mono h₂ (fun ok s₃ h₃=>?_) fun _ _ z=>z.elim)) fun _ _ z=>z.elim)
  cases ok with
  | false=>exact wpAny_pure ⟨rfl,h₃⟩
  | true =>
   exact wpAny_bind (wpAny_bind (wpAny_mono h₃ (fun x s₄ h₄=>wpAny_bind (wpAny_mono h₄ (fun _ s₅ h₅=>wpAny_pure (wpAny_pure ⟨rfl,h₅⟩)) fun _ _ z=>z.elim)) fun _ _ z=>z.elim))
section
variable {X:Cx} {elt tg iter:Expr} {ifs:List Expr} {scope:Scope} {pos:Pos} {wi:TI} {g:TG} {tc:TT} {te:TE} {N':List Str} {ix:List (Option Nat)}
theorem blk_start {pins:List (Addr×Obj)} {σ:St} {H:Hp} {s:Shared} {h₁:Heap} {t':Nat} {fp:List Addr} {m:Str→Option Value}
  (hkind:scope.kind = .function) (hcell:∀ y∈scope.names,y.2≠.cell)
  (hfr:∀ y∈scope.names,y.2 = .free→X.env.kindOf y.1=some .cell∨X.env.kindOf y.1=some .free)
  (hlen:ix.length=N'.length)
  (hix:∀ (i j:Nat) (x:Str),ix[i]?=some (some j)→N'[i]?=some x→X.N[j]?=some x∧scope.names.lookup x=some .free)
  (I:Inv X pins σ H s) (hf:∀ b∈fp,FpOk X pins H b) (hob:∀ b∈fp,∃ o,s.heap.get? b=some o)
  (hn:h₁.Ns s.heap.objs.size m) (hk:∀ b o,s.heap.get? b=some o→h₁.get? b=some o) :
  Inv (blk X N' scope s.heap.objs.size s H fp) [] (subSt σ ix) H {s with heap:=h₁,toks:=t'}:=by
 have kinds:∀ x,scope.names.lookup x=some .free→(relabel scope X.env).names.lookup x=some .cell∨(relabel scope X.env).names.lookup x=some .free:=fun x e=>by
  have q:=q1F (env:=X.env) (x:=x) scope.names
  rw [e] at q
  show List.lookup x (scope.names.map _)=_∨List.lookup x (scope.names.map _)=_
  rw [q]
  simp only [Option.map_some]
  split
  ·exact .inl rfl
  ·exact .inr rfl
 have kinds':∀ x,((relabel scope X.env).names.lookup x=some .cell∨(relabel scope X.env).names.lookup x=some .free)→scope.names.lookup x=some .free:=fun x e=>by
  have q:=q1F (env:=X.env) (x:=x) scope.names
  have e':List.lookup x (scope.names.map fun (n,k)=>if (k == NameKind.free && X.env.scope.kind == .function && X.env.kindOf n == some .cell) then (n,NameKind.cell) else (n,k))=some .cell ∨
   List.lookup x (scope.names.map fun (n,k)=>if (k == NameKind.free && X.env.scope.kind == .function && X.env.kindOf n == some .cell) then (n,NameKind.cell) else (n,k))=some .free:=e
  rw [q] at e'
  cases z:scope.names.lookup x with
  | none=>rw [z] at e';rcases e' with e' | e' <;> simp at e'
  | some k =>
   rw [z] at e'
   simp only [Option.map_some,Option.some.injEq] at e'
   cases k with
   | free=>rfl
   | cell=>exact absurd rfl (hcell _ (PySem.mem_of_lookup z))
   | _ =>
    rcases e' with e' | e'
    ·simp at e'
    ·simp at e'
 have sub:∀ x c,(clOf X.env scope.names []).lookup x=some c→X.env.cells.lookup x=some c:=fun x c e=>q5M scope.names [] (fun _ _ z=>by simp at z) e
 have has:∀ x,scope.names.lookup x=some .free→∃ c,(clOf X.env scope.names []).lookup x=some c:=fun x e=>by
  obtain ⟨c,hc⟩:=I.ok.has x (hfr (x,.free) (PySem.mem_of_lookup e) rfl)
  exact q79 hc scope.names [] (PySem.mem_of_lookup e)
 have cellK:∀ c v,s.heap.IsCell c v→h₁.IsCell c v:=fun c v ⟨o,ho,hd⟩=>⟨o,hk c o ho,hd⟩
 refine ⟨⟨I.ok.mod,hkind,I.ok.glob,I.ok.blt,Nat.le_refl _,fun x y c h1 h2=>I.ok.inj x y c (sub x c h1) (sub y c h2),fun x hx=>has x (kinds' x hx),fun x c z _=>Bool.noConfusion z,I.ok.hd,I.ok.frames,.inl rfl,fun b hb=>?_,fun b o e=>⟨(I.bs b o e).1,(I.bs b o e).2⟩,
  Nat.le_trans I.ok.bsz I.sz,fun b o e hb=>?_,fun b hb hz=>?_,I.stack,I.stkFree⟩,rfl,I.bare,Un.kept hk,⟨m,hn,fun i x v h1 h2 h3=>?_⟩,fun x c e=>?_,?_,fun x c e=>I.freeC x c (sub x c e),fun p hp=>absurd (show p∈([]:List (Addr×Obj)) from hp) (by simp),I.hok.kept hk,?_⟩
 ·obtain ⟨o,ho⟩:=hob b hb
  exact ⟨Nat.ne_of_lt (Heap.lt_size ho),fun x c e=>(hf b hb).2.2.2.2.1 x c (sub x c e)⟩
 ·obtain ⟨_,_,_,f3,_⟩:=hf b hb
  rcases f3 with z | z
  ·exact I.ok.noex b o e z
  ·exact absurd (Nat.lt_of_lt_of_le (Heap.lt_size (I.ok.bs b o e).1) z) (Nat.lt_irrefl _)
 ·obtain ⟨_,f1,f2,_⟩:=hf b hb
  rcases List.mem_cons.mp (I.stkSub b hz) with z | z
  ·exact f1 z
  ·exact f2 z
 ·-- a name of the block: a free one
  have h2':(ix[i]?.map fun o:Option Nat=>o.bind fun j=>(σ[j]?).join)=some (some v):=by rw [← List.getElem?_map];exact h2
  cases q:ix[i]? with
  | none=>rw [q] at h2';cases h2'
  | some o =>
   rw [q] at h2'
   cases o with
   | none=>cases h2'
   | some j =>
    have h2'':(σ[j]?).join=some v:=by simpa using h2'
    have hj:σ[j]?=some (some v):=by
     cases z:σ[j]? with
     | none=>rw [z] at h2'';cases h2''
     | some y=>rw [z] at h2'';simp at h2'';rw [h2'']
    obtain ⟨e1,e2⟩:=hix i j x q h1
    obtain ⟨m',hn',hl⟩:=I.loc
    have kk:=hfr (x,.free) (PySem.mem_of_lookup e2) rfl
    have vis:Vis X.env.scope x:=by
     rcases kk with z | z
     ·exact .inr (.inl z)
     ·exact .inr (.inr z)
    obtain ⟨u,r,lk⟩:=hl j x v e1 hj vis
    refine ⟨u,r,.inr ⟨kinds x e2,?_⟩⟩
    rcases lk with ⟨z,_⟩ | ⟨_,c,hc,hv⟩
    ·rcases kk with z' | z' <;> (rw [z] at z';cases z')
    ·obtain ⟨c',hc'⟩:=has x e2
     have:c'=c:=by
      have:=sub x c' hc'
      rw [hc] at this
      exact (Option.some.inj this).symm
     subst this
     exact ⟨c',hc',cellK _ _ hv⟩
 ·obtain ⟨v,z⟩:=I.cell x c (sub x c e)
  exact ⟨v,cellK c v z⟩
 ·exact I.hok.fresh (Nat.le_refl _)
 ·show (ix.map _).length=N'.length
  rw [List.length_map,hlen]
theorem Inv.letgo {pins:List (Addr×Obj)} {σ:St} {H:Hp} {s:Shared} {C:Addr} {h':Heap} (I:Inv X pins σ H s) (f:FpOk X pins H C) (sb:Heap.SameBut C s.heap h'):Inv X pins σ H {s with heap:=h'}:=by
 have ne:∀ b,b∉[C]→b≠C:=fun b hb z=>hb (by rw [z];exact List.mem_singleton.mpr rfl)
 have U:Un (frs X.stack) [C] H H s.heap h':=⟨fun b o e _ _ hx=>(sb.2 b (ne b hx)).trans e,fun b o e _ _ hx=>⟨o.slots,(sb.2 b (ne b hx)).trans e⟩,fun _ _ _ n _=>n,fun b o e hx=>⟨o,(sb.2 b (ne b hx)).trans e⟩,fun _ _ z=>z,fun _ _ _ z=>z,fun _ ps z=>⟨#[],by rw [Array.append_empty];exact z⟩⟩
 have hok:HOk X.prog X.w H h':=fun b ob e=>by
  refine (I.hok b ob e).stay (fun c w' hc z=>(sb.2 c ?_).trans z) (fun _ z=>z) fun _ _ z=>z
  rintro rfl
  rcases hc with rfl | hc
  ·rw [f.1] at e;cases e
  ·rw [f.1] at hc;cases hc
 exact I.call' (s':={s with heap:=h'}) (ch:=[C]) rfl U hok I.bare (fun b hb=>by
  obtain rfl:=List.mem_singleton.mp hb
  exact ⟨f.2.2.2.1,f.2.1,f.2.2.2.2.1,f.2.2.2.2.2⟩)
theorem q63 {ipos:Pos} {use:Option (Value→Sem Unit)} {QQ:Value→Shared→Prop} {pins:List (Addr×Obj)} {s:Shared} {σ:St} {H:Hp} {Q:VK} (hc:X.calm=true) (hkind:scope.kind = .function) (hcell:∀ y∈scope.names,y.2≠.cell) (hnames:∀ y∈scope.names,y.2 = .local→scope.names.lookup y.1=some .local)
  (hfr:∀ y∈scope.names,y.2 = .free→X.env.kindOf y.1=some .cell∨X.env.kindOf y.1=some .free)
  (hclos:closureFor scope X.env=pure (clOf X.env scope.names []))
  (hlen:ix.length=N'.length)
  (hix:∀ (i j:Nat) (x:Str),ix[i]?=some (some j)→N'[i]?=some x→X.N[j]?=some x∧scope.names.lookup x=some .free)
  (hi:PI X tg iter wi) (hg:∀ C s H fp,PG (blk X N' scope C s H fp) tg g) (ht:∀ C s H fp,PTs (blk X N' scope C s H fp) ifs tc) (he:∀ C s H fp,PE (blk X N' scope C s H fp) elt te)
  (hs:∀ x,foldedSetIterable iter X.env x=pure x) (I:Inv X pins σ H s) (h:tComp wi g tc te ix σ H Q)
  (post:∀ (a C:Addr) (H':Hp) (s6:Shared) (m':Str→Option Value),Inv X pins σ H' s6→FpOk X pins H' C→s6.heap.Ns C m'→Q (.ref a) H'→compPost (model X.prog X.w) X.A X.xe use QQ (.ref a) C (.ok .next) s6) :
  wpAny (model X.prog X.w) X.A (comprehension (.ListComp elt [⟨tg,iter,ifs,0⟩] scope pos) scope X.env ipos (newList []) false (eval iter X.env) use) QQ X.xe s:=by
 refine wpAny_comprehension_free (use:=use) rfl hs hclos hkind hnames ?_
 refine thn (hi pins s σ H _ I h) fun v s1 h1=>thn h1 fun itv s2 h2=>?_
 obtain ⟨it,fp,tn,J,H2,e,I2,T,st2,f2,q2⟩:=h2
 subst e
 have hfresh:H2 s2.heap.objs.size=none:=I2.hok.fresh (Nat.le_refl _)
 obtain ⟨W,⟨m0,w0⟩,turn⟩:=q2 s2.heap.objs.size hfresh
 refine wpAny_newObj_type (wpAny_newFunctionEnv hcell (by intro y hy;simp at hy) (fun h₁ hns₁ hsb₁=>?_) hkind)
 dsimp only at hns₁ hsb₁ ⊢
 generalize hP:s2.heap.push {cls:=.type "list",dict:=none,data:=.seq ([]:List Value).toArray}=P3 at hns₁ hsb₁ ⊢
 have hPs:P3.objs.size=s2.heap.objs.size+1:=by rw [← hP,Heap.size_push]
 have up3:∀ b o,s2.heap.get? b=some o→P3.get? b=some o:=fun b o e=>by rw [← hP];exact Heap.get?_push_of_some _ e
 have I3:Inv X pins σ (upd H2 s2.heap.objs.size (.lst [])) {s2 with heap:=P3}:=by
  refine I2.laid (t':=s2.toks) up3 (Nat.le_refl _) ?_
  refine ⟨by show 0≤sizeLine;exact Nat.zero_le _,[],0,.nil,?_⟩
  rw [← hP]
  exact Heap.get?_push_size _ rfl
 have old:∀ b o,P3.get? b=some o→h₁.get? b=some o:=fun b o e=>hsb₁.extBut b o (Nat.ne_of_lt (Heap.lt_size e)) (Heap.get?_push_of_some _ e)
 have hob:∀ b∈fp,∃ o,P3.get? b=some o:=fun b hb=>by
  obtain ⟨o,ho,_⟩:=T.obj _ _ st2 b hb
  exact ⟨o,up3 b o ho⟩
 have f3:∀ b∈fp,FpOk X pins (upd H2 s2.heap.objs.size (.lst [])) b:=fun b hb=>by
  obtain ⟨o,ho,_⟩:=T.obj _ _ st2 b hb
  refine ⟨?_,(f2 b hb).2⟩
  rw [qF (Nat.ne_of_lt (Heap.lt_size ho))]
  exact (f2 b hb).1
 have I4:=blk_start (t':=s2.toks+([]:List (Str×Value)).length) (ix:=ix) (N':=N') hkind hcell hfr hlen hix I3 f3 hob hns₁ old
 have st4:tn 0 h₁:=T.keep _ _ _ st2 fun b hb o e=>old b o (up3 b o e)
 have fpok:∀ {H':Hp},(∀ b∈fp,H' b=none)→∀ b∈fp,FpOk (blk X N' scope P3.objs.size {s2 with heap:=P3} (upd H2 s2.heap.objs.size (.lst [])) fp) [] H' b:=fun hn b hb=>by
  obtain ⟨o,ho⟩:=hob b hb
  obtain ⟨_,f1,f2',f3',f4,f5⟩:=f3 b hb
  refine ⟨hn b hb,Nat.ne_of_lt (Heap.lt_size ho),fun hz=>?_,.inl hb,fun x c e=>f4 x c (q5M scope.names [] (fun _ _ z=>by simp at z) e),fun p hp=>absurd (show p∈([]:List (Addr×Obj)) from hp) (by simp)⟩
  rcases List.mem_cons.mp (I3.stkSub b hz) with z | z
  ·exact f1 z
  ·exact f2' z
 have fin:∀ {τ:St} {H':Hp} {s6:Shared},Inv (blk X N' scope P3.objs.size {s2 with heap:=P3} (upd H2 s2.heap.objs.size (.lst [])) fp) [] τ H' s6→Q (.ref s2.heap.objs.size) H' →
   compPost (model X.prog X.w) X.A X.xe use QQ (.ref s2.heap.objs.size) P3.objs.size (.ok .next) s6:=fun {τ H' s6} J q=>by
  obtain ⟨m',hn',_⟩:=id J.loc
  have U0:Un (frs X.stack) fp H2 (upd H2 s2.heap.objs.size (.lst [])) s2.heap P3:=Un.laid up3 (Nat.le_refl _) hfresh
  have U1:Un (frs X.stack) fp H2 H' s2.heap s6.heap:=U0.trans J.base
  exact post _ _ H' s6 m' (I2.call' (s':=s6) (ch:=fp) J.os U1 J.hok J.bare (fun b hb=>⟨(f2 b hb).2.2.2.1,(f2 b hb).2.1,(f2 b hb).2.2.2.2.1,(f2 b hb).2.2.2.2.2⟩)) (I2.fpOk (by rw [hPs];exact Nat.le_succ _) J.free) hn' q
 have loop:codeAny (model X.prog X.w) X.A (.compLoop (.ListComp elt [⟨tg,iter,ifs,0⟩] scope pos) 0 (.ref it) (.ref s2.heap.objs.size) (compEnvC scope (clOf X.env scope.names []) P3.objs.size X.env))
   (compPost (model X.prog X.w) X.A X.xe use QQ (.ref s2.heap.objs.size) P3.objs.size) {s2 with heap:=h₁,toks:=s2.toks+([]:List (Str×Value)).length}:=by
  refine comp_loop (fun n s'=>∃ i τ ys H',Inv (blk X N' scope P3.objs.size {s2 with heap:=P3} (upd H2 s2.heap.objs.size (.lst [])) fp) [] τ H' s'∧tn i s'.heap∧(∀ b∈fp,H' b=none)∧W i n τ ys H') ?_ m0
   ⟨0,_,[],_,I4,st4,fun b hb=>(f3 b hb).1,w0⟩
  rintro n s5 ⟨i,τ,ys,H5,I5,st5,fr5,w5⟩
  obtain ⟨hacc,alt⟩:=turn i n τ ys H5 w5
  rcases alt with ⟨stop,qn⟩ | ⟨go,hsz,step⟩
  ·refine thn (T.done (blk X N' scope P3.objs.size {s2 with heap:=P3} (upd H2 s2.heap.objs.size (.lst [])) fp) rfl rfl rfl hc i [] s5 τ H5 (fun _ _=>False) I5 (fpok fr5) st5 stop) fun r s6 ⟨hr,I6⟩=>?_
   subst hr
   exact fin I6 qn
  ·refine thn (T.item (blk X N' scope P3.objs.size {s2 with heap:=P3} (upd H2 s2.heap.objs.size (.lst [])) fp) rfl rfl rfl hc i [] s5 τ H5 (fun _ _=>False) I5 (fpok fr5) st5 go) fun r s6 ⟨u,hr,h6⟩=>?_
   subst hr
   refine thn h6 fun _ s7 ⟨x,H7,I7,r7,y7,st7,fr7⟩=>?_
   have I7':=I7.pinned (fpok fr7) (T.obj _ _ st7)
   have again:∀ {τ9:St} {H9:Hp} {s9:Shared} {ys9:List V} {m9:Nat},Inv (blk X N' scope P3.objs.size {s2 with heap:=P3} (upd H2 s2.heap.objs.size (.lst [])) fp) ([]++q5g fp s7.heap) τ9 H9 s9→m9 < n→W (i+1) m9 τ9 ys9 H9 →
     ∃ m,m < n∧∃ i τ ys H',Inv (blk X N' scope P3.objs.size {s2 with heap:=P3} (upd H2 s2.heap.objs.size (.lst [])) fp) [] τ H' s9∧tn i s9.heap∧(∀ b∈fp,H' b=none)∧W i m τ ys H':=fun {τ9 H9 s9 ys9 m9} I9 hm w9=>by
    refine ⟨m9,hm,i+1,τ9,ys9,H9,I9.unpinned,T.keep _ _ _ st7 fun b hb o e=>(I9.pin (b,o) (List.mem_append_right _ (List.mem_append_right _ (q1S hb e)))).1,fun b hb=>?_,w9⟩
    obtain ⟨o,e,d⟩:=T.obj _ _ st7 b hb
    exact (I9.pin (b,o) (List.mem_append_right _ (List.mem_append_right _ (q1S hb e)))).2.1
   refine thn (hg P3.objs.size _ _ fp _ s7 τ H7 x u _ I7' r7 (step x H7 y7)) fun _ s8 ⟨τ8,H8,I8,q8⟩=>?_
   refine thn (ht P3.objs.size _ _ fp _ s8 τ8 H8 _ I8 q8) fun b s9 ⟨H9,I9,q9⟩=>?_
   cases b with
   | false =>
    simp only [Bool.false_eq_true,if_false] at q9 ⊢
    obtain ⟨m9,hm,w9⟩:=q9
    exact again I9 hm w9
   | true =>
    simp only [if_true] at q9 ⊢
    refine thn (he P3.objs.size _ _ fp _ s9 τ8 H9 _ I9 q9) fun y s10 ⟨yv,H10,I10,r10,ha10,m10,hm,w10⟩=>?_
    refine thn (q02 (X:=blk X N' scope P3.objs.size {s2 with heap:=P3} (upd H2 s2.heap.objs.size (.lst [])) fp) _ s10 τ8 H10 (.ref s2.heap.objs.size) [yv] (.ref s2.heap.objs.size) [y] (fun _ H11=>H11=upd H10 s2.heap.objs.size (.lst (ys++[yv]))) I10 rfl (.cons r10 .nil)
     ⟨s2.heap.objs.size,ys,yv,rfl,rfl,ha10,hsz,rfl⟩) fun _ s11 ⟨_,H11,I11,_,e11⟩=>?_
    subst e11
    exact again I11 hm w10
 exact codeAny_compStart_list loop (T.self _ 0 _ _ _ st4 loop)
theorem pe_comp (hc:X.calm=true) (hkind:scope.kind = .function) (hcell:∀ y∈scope.names,y.2≠.cell) (hnames:∀ y∈scope.names,y.2 = .local→scope.names.lookup y.1=some .local)
  (hfr:∀ y∈scope.names,y.2 = .free→X.env.kindOf y.1=some .cell∨X.env.kindOf y.1=some .free)
  (hclos:closureFor scope X.env=pure (clOf X.env scope.names []))
  (hlen:ix.length=N'.length)
  (hix:∀ (i j:Nat) (x:Str),ix[i]?=some (some j)→N'[i]?=some x→X.N[j]?=some x∧scope.names.lookup x=some .free)
  (hi:PI X tg iter wi) (hg:∀ C s H fp,PG (blk X N' scope C s H fp) tg g) (ht:∀ C s H fp,PTs (blk X N' scope C s H fp) ifs tc) (he:∀ C s H fp,PE (blk X N' scope C s H fp) elt te)
  (hs:∀ x,foldedSetIterable iter X.env x=pure x:=by intro _;rfl):PE X (.ListComp elt [⟨tg,iter,ifs,0⟩] scope pos) (tComp wi g tc te ix):=by
 intro pins s σ H Q I h
 rw [eval_ListComp]
 show wpAny _ X.A (comprehension (.ListComp elt [⟨tg,iter,ifs,0⟩] scope pos) scope X.env (firstIterPos [⟨tg,iter,ifs,0⟩] pos) (newList []) false (eval iter X.env) none) _ _ s
 exact q63 (ipos:=firstIterPos [⟨tg,iter,ifs,0⟩] pos) (use:=none) (QQ:=EP X pins σ Q) hc hkind hcell hnames hfr hclos hlen hix hi hg ht he hs I h fun a C H' s6 m' I6 f hn q=>⟨m',hn,fun h' sb=>⟨.ref a,H',I6.letgo f sb,rfl,q⟩⟩
theorem ps_comp0 {i:Nat} {y:Str} {py spos:Pos} (hN:X.N.Nodup) (hiN:X.N[i]?=some y) (hy:Loc X.env.scope y) (hc:X.calm=true) (hkind:scope.kind = .function) (hcell:∀ y∈scope.names,y.2≠.cell) (hnames:∀ y∈scope.names,y.2 = .local→scope.names.lookup y.1=some .local)
  (hfr:∀ y∈scope.names,y.2 = .free→X.env.kindOf y.1=some .cell∨X.env.kindOf y.1=some .free)
  (hclos:closureFor scope X.env=pure (clOf X.env scope.names []))
  (hlen:ix.length=N'.length)
  (hix:∀ (i j:Nat) (x:Str),ix[i]?=some (some j)→N'[i]?=some x→X.N[j]?=some x∧scope.names.lookup x=some .free)
  (hi:PI X tg iter wi) (hg:∀ C s H fp,PG (blk X N' scope C s H fp) tg g) (ht:∀ C s H fp,PTs (blk X N' scope C s H fp) ifs tc) (he:∀ C s H fp,PE (blk X N' scope C s H fp) elt te)
  (hsw:swapsWith (.ListComp elt [⟨tg,iter,ifs,0⟩] scope pos) (some (.Name y py)) spos.line X.env=pure true:=by rfl)
  (hs:∀ x,foldedSetIterable iter X.env x=pure x:=by intro _;rfl) (hf:X.fn y=true∨X.env.scope.names.lookup y=some .local:=by first | exact .inl rfl | exact .inr rfl | assumption) :
  PS X (.Assign [.Name y py] (.ListComp elt [⟨tg,iter,ifs,0⟩] scope pos) spos) (tAsg (tComp wi g tc te ix) (q7m i)):=by
 intro pins s σ H D I h
 rw [exec_Assign_Name_used _ _ _ _ hsw]
 refine wpAny_bind (wpAny_standAt (wpAny_bind ?_))
 show wpAny _ X.A (do let _ ← comprehension (.ListComp elt [⟨tg,iter,ifs,0⟩] scope pos) scope X.env (firstIterPos [⟨tg,iter,ifs,0⟩] pos) (newList []) false (eval iter X.env) (some (assign (.Name y py) X.env))) _ _ s
 refine wpAny_bind (wpAny_mono (q63 (ipos:=firstIterPos [⟨tg,iter,ifs,0⟩] pos) (use:=some (assign (.Name y py) X.env)) (QQ:=fun _ s'=>SP X pins D .next s') hc hkind hcell hnames hfr hclos hlen hix hi hg ht he hs I h ?_) (fun _ s' hq=>wpAny_pure (wpAny_pure hq)) fun _ _ e=>e)
 intro a C H' s6 m' I6 f hn q
 refine wpAny_assign_Name (q5T I6 hN hiN hy (v:=.ref a) rfl (fun s7 I7 sb7=>?_) hf)
 obtain ⟨b,sb,hb⟩:=sb7
 have hne:C≠b:=by
  rcases hb with hb | hb
  ·rw [hb];exact f.2.1
  ·exact (f.2.2.2.2.1 y b hb).symm
 exact ⟨m',hn.sameBut sb hne,fun h' sb'=>⟨_,H',I7.letgo f sb',q⟩⟩
end
end L2
end
section
namespace L2
open PySem PySem.Spec PyProof.Rows
section
variable {prog:Program} {w:World} {A:Around} {E:Value→Shared→Prop} {s:Shared}
end
end L2
end
section
namespace L2
open PySem PySem.Spec PyProof.Rows
section
variable {X:Cx}
noncomputable def rIsi (K:PySem.W.Frag):List V→Hp→VK→Prop:=fun xs H Q=>∃ x T t b,xs=[x,.ty T]∧TyOf K H x t∧PySem.W.kitOne K t (.type T)=some b∧Q (.bl b) H
theorem q5N:q1k X (.builtin "isinstance") (rIsi X.K):=by
 intro pins s σ H xs us Q I r h
 obtain ⟨x,T,t,b,rfl,ty,e,q⟩:=h
 obtain ⟨u,w',rfl,rx,rT⟩:=vals2 r
 cases rT
 exact isinst_ok I rx ty e fun tk=>⟨.bl b,H,I.tok tk,rfl,q⟩
theorem q6a (hc:X.calm=true):q1k X (.builtin "max") (fun xs H Q=>∃ (p:Addr) (ns:List Int),xs=[.ref p]∧SqL X.K H p (ns.map V.int)∧0 < ns.length∧∀ M,M∈ns→(∀ a,a∈ns→a≤M)→Q (.int M) H):=by
 intro pins s σ H xs us Q I r h
 obtain ⟨p,ns,rfl,hq,hne,q⟩:=h
 obtain ⟨u,rfl,ru⟩:=q2T r
 cases ru
 obtain ⟨its,rv,pl,_⟩:=I.list hq
 have hi:=q38 rv
 obtain ⟨ys,e⟩:=hi.allInts.items
 have hl:=pl.isList
 rw [e] at hl
 have hns:ns=ys.toList.map (·.1):=by rw [← hi.numsOf,← nums_intItems,← e]
 have hsz:0 < ys.size:=by rw [hns,List.length_map,Array.length_toList] at hne;exact hne
 refine max_intList (I.ok.hd hc) hl hsz fun v h' tk hv hk=>?_
 obtain ⟨t,rfl⟩:=intItems_at hv
 obtain ⟨h1,h2⟩:=argBest_gt (numAt ys) (ys.size-1)
 refine ⟨.int _,H,I.kept hk,⟨t,rfl⟩,q _ ?_ fun a ha=>?_⟩
 ·rw [hns,numAt_eq];exact getD_mem (by rw [List.length_map,Array.length_toList];omega)
 ·rw [hns] at ha
  obtain ⟨j,hj,rfl⟩:=mem_getD ha
  rw [List.length_map,Array.length_toList] at hj
  rw [← numAt_eq];exact h2 j (by omega)
inductive EqD (K:PySem.W.Frag) (H:Hp):Nat→V→V→Bool→Prop
 | flat {x y:V} (fx:q4N x=true) (fy:q4N y=true):EqD K H 0 x y (eqV x y)
 | tup {n:Nat} {a b:Addr} {xs ys:List V} {e:Nat→Bool} (ha:SqT K H a xs) (hb:SqT K H b ys) (h:∀ (j:Nat) x y,xs[j]?=some x→ys[j]?=some y→EqD K H n x y (e j)) :
   EqD K H (n+1) (.ref a) (.ref b) ((List.range (min xs.length ys.length)).all e && xs.length == ys.length)
 | lst {n:Nat} {a b:Addr} {xs ys:List V} {e:Nat→Bool} (ha:SqL K H a xs) (hb:SqL K H b ys) (hl:xs.length=ys.length) (h:∀ (j:Nat) x y,xs[j]?=some x→ys[j]?=some y→EqD K H n x y (e j)) :
   EqD K H (n+1) (.ref a) (.ref b) ((List.range xs.length).all e)
 | len {n:Nat} {a b:Addr} {xs ys:List V} (ha:SqL K H a xs) (hb:SqL K H b ys) (hl:xs.length≠ys.length):EqD K H (n+1) (.ref a) (.ref b) false
theorem q6B {n:Nat} {e:Nat→Bool} (h:∀ j,j < n→e j=true):(List.range n).all e=true:=List.all_eq_true.mpr fun j hj=>h j (List.mem_range.mp hj)
theorem EqD.same {pins:List (Addr×Obj)} {σ:St} {H:Hp} {s:Shared} (I:Inv X pins σ H s) {n:Nat} {x y:V} {b:Bool} (h:EqD X.K H n x y b):x=y→b=true:=by
 induction h with
 | @flat x y fx fy =>
  rintro rfl
  cases x <;> first | rfl | exact beq_self_eq_true _ | exact absurd (show false=true from fx) Bool.false_ne_true
 | @tup n a b xs ys e ha hb h ih =>
  intro z
  cases z
  have q:=I.tuple_inj ha hb
  subst q
  rw [Bool.and_eq_true]
  refine ⟨q6B fun j hj=>?_,beq_self_eq_true _⟩
  have hj':j < xs.length:=by omega
  exact ih j xs[j] xs[j] (List.getElem?_eq_getElem hj') (List.getElem?_eq_getElem hj') rfl
 | @lst n a b xs ys e ha hb hl h ih =>
  intro z
  cases z
  have q:=I.list_inj ha hb
  subst q
  refine q6B fun j hj=>?_
  exact ih j xs[j] xs[j] (List.getElem?_eq_getElem hj) (List.getElem?_eq_getElem hj) rfl
 | @len n a b xs ys ha hb hl =>
  intro z
  cases z
  exact absurd (congrArg List.length (I.list_inj ha hb)) hl
theorem Vals.at {xs:List V} {us:List Value} (r:Vals xs us) {j:Nat} (h:j < us.length):∃ x,xs[j]?=some x∧RelV x us[j]:=by
 have h':j < xs.length:=by rw [r.length];exact h
 obtain ⟨u,e,q⟩:=r.get (List.getElem?_eq_getElem h')
 rw [List.getElem?_eq_getElem h] at e
 cases e
 exact ⟨_,List.getElem?_eq_getElem h',q⟩
theorem EqD.at {pins:List (Addr×Obj)} {σ:St} {H:Hp} {s:Shared} (I:Inv X pins σ H s) {n:Nat} {x y:V} {b:Bool} (h:EqD X.K H n x y b) :
  ∀ {A:Around} {u v:Value},RelV x u→RelV y v→A.units+n < cLine→SeqAt.EqAt A s u v b:=by
 induction h with
 | @flat x y fx fy=>intro A u v rx ry _;exact eqAt_V rx ry fx fy
 | @tup n a b xs ys e ha hb h ih =>
  intro A u v rx ry hu
  cases rx
  cases ry
  by_cases hab:a=b
  ·have z:=(EqD.tup (n:=n) ha hb h).same I (by rw [hab])
   rw [z,hab]
   exact SeqAt.EqAt.same _
  ·obtain ⟨ia,ra,pa,_⟩:=I.tuple ha
   obtain ⟨ib,rb,pb,_⟩:=I.tuple hb
   have q:=SeqAt.RcAt.tuples (A:=A) (e:=e) (show s.heap.IsTuple a ia.toArray from pa) (show s.heap.IsTuple b ib.toArray from pb) (by omega) fun j h1 h2=>by
    have h1':j < ia.length:=by simpa using h1
    have h2':j < ib.length:=by simpa using h2
    obtain ⟨x,ex,rx⟩:=ra.at h1'
    obtain ⟨y,ey,ry⟩:=rb.at h2'
    have:=ih j x y ex ey (A:=A.in1) (u:=ia[j]) (v:=ib[j]) rx ry (by show A.units+1+n < cLine;omega)
    simpa using this
   have la:=ra.length
   have lb:=rb.length
   have q':=SeqAt.EqAt.of_refs hab q
   simpa [la,lb] using q'
 | @lst n a b xs ys e ha hb hl h ih =>
  intro A u v rx ry hu
  cases rx
  cases ry
  by_cases hab:a=b
  ·have z:=(EqD.lst (n:=n) ha hb hl h).same I (by rw [hab])
   rw [z,hab]
   exact SeqAt.EqAt.same _
  ·obtain ⟨ia,ra,pa,_⟩:=I.list ha
   obtain ⟨ib,rb,pb,_⟩:=I.list hb
   have la:=ra.length
   have lb:=rb.length
   have q:=SeqAt.RcAt.lists (A:=A) (e:=e) pa.isList pb.isList (by simp;omega) (by omega) fun j h1 h2=>by
    have h1':j < ia.length:=by simpa using h1
    have h2':j < ib.length:=by simpa using h2
    obtain ⟨x,ex,rx⟩:=ra.at h1'
    obtain ⟨y,ey,ry⟩:=rb.at h2'
    have:=ih j x y ex ey (A:=A.in1) (u:=ia[j]) (v:=ib[j]) rx ry (by show A.units+1+n < cLine;omega)
    simpa using this
   have q':=SeqAt.EqAt.of_refs hab q
   simpa [la,lb] using q'
 | @len n a b xs ys ha hb hl =>
  intro A u v rx ry hu
  cases rx
  cases ry
  have hab:a≠b:=fun z=>by subst z;exact hl (congrArg List.length (I.list_inj ha hb))
  obtain ⟨ia,ra,pa,_⟩:=I.list ha
  obtain ⟨ib,rb,pb,_⟩:=I.list hb
  have la:=ra.length
  have lb:=rb.length
  exact SeqAt.EqAt.of_refs hab (SeqAt.RcAt.lists_lengths pa.isList pb.isList (by simp;omega) (by omega))
noncomputable def rEqD (K:PySem.W.Frag) (neg:Bool):R2:=fun x y H Q=>∃ n b,EqD K H (n+1) x y b∧n≤50∧Q (.bl (if neg then !b else b)) H
theorem op_eqD {k:Nat} (hr:Room k X.A):OpR X (compareOp .Eq) (rEqD X.K false):=by
 intro pins s σ H x y v u Q I rx ry h
 obtain ⟨n,b,h,hn,q⟩:=h
 have hu:=hr.units
 have fin:∀ {b:Bool} {u v:Value},SeqAt.RcAt X.A s u v b→Q (.bl b) H→wpAny (model X.prog X.w) X.A (compareOp .Eq u v) (EP X pins σ Q) X.xe s:=fun {b _ _} z q=>z _ _ _ _ ⟨.bl b,H,I,rfl,q⟩
 cases h with
 | @tup n a b xs ys e ha hb h =>
  cases rx
  cases ry
  obtain ⟨ia,ra,pa,_⟩:=I.tuple ha
  obtain ⟨ib,rb,pb,_⟩:=I.tuple hb
  have la:=ra.length
  have lb:=rb.length
  refine fin (SeqAt.RcAt.tuples (A:=X.A) (e:=e) (show s.heap.IsTuple a ia.toArray from pa) (show s.heap.IsTuple b ib.toArray from pb) (by omega) fun j h1 h2=>?_) (by simpa [la,lb] using q)
  have h1':j < ia.length:=by simpa using h1
  have h2':j < ib.length:=by simpa using h2
  obtain ⟨x,ex,rx⟩:=ra.at h1'
  obtain ⟨y,ey,ry⟩:=rb.at h2'
  have:=(h j x y ex ey).at I (A:=X.A.in1) (u:=ia[j]) (v:=ib[j]) rx ry (by show X.A.units+1+n < cLine;omega)
  simpa using this
 | @lst n a b xs ys e ha hb hl h =>
  cases rx
  cases ry
  obtain ⟨ia,ra,pa,_⟩:=I.list ha
  obtain ⟨ib,rb,pb,_⟩:=I.list hb
  have la:=ra.length
  have lb:=rb.length
  refine fin (SeqAt.RcAt.lists (A:=X.A) (e:=e) pa.isList pb.isList (by simp;omega) (by omega) fun j h1 h2=>?_) (by simpa [la,lb] using q)
  have h1':j < ia.length:=by simpa using h1
  have h2':j < ib.length:=by simpa using h2
  obtain ⟨x,ex,rx⟩:=ra.at h1'
  obtain ⟨y,ey,ry⟩:=rb.at h2'
  have:=(h j x y ex ey).at I (A:=X.A.in1) (u:=ia[j]) (v:=ib[j]) rx ry (by show X.A.units+1+n < cLine;omega)
  simpa using this
 | @len n a b xs ys ha hb hl =>
  cases rx
  cases ry
  obtain ⟨ia,ra,pa,_⟩:=I.list ha
  obtain ⟨ib,rb,pb,_⟩:=I.list hb
  have la:=ra.length
  have lb:=rb.length
  exact fin (SeqAt.RcAt.lists_lengths pa.isList pb.isList (by simp;omega) (by omega)) (by simpa using q)
theorem op_neD {k:Nat} (hr:Room k X.A):OpR X (compareOp .NotEq) (rEqD X.K true):=by
 intro pins s σ H x y v u Q I rx ry h
 obtain ⟨n,b,h,hn,q⟩:=h
 have hu:=hr.units
 have fin:∀ {b:Bool} {u v:Value},SeqAt.RcNeAt X.A s u v b→Q (.bl b) H→wpAny (model X.prog X.w) X.A (compareOp .NotEq u v) (EP X pins σ Q) X.xe s:=fun {b _ _} z q=>z _ _ _ _ ⟨.bl b,H,I,rfl,q⟩
 cases h with
 | @tup n a b xs ys e ha hb h =>
  cases rx
  cases ry
  obtain ⟨ia,ra,pa,_⟩:=I.tuple ha
  obtain ⟨ib,rb,pb,_⟩:=I.tuple hb
  have la:=ra.length
  have lb:=rb.length
  refine fin (SeqAt.RcNeAt.tuples (A:=X.A) (e:=e) (show s.heap.IsTuple a ia.toArray from pa) (show s.heap.IsTuple b ib.toArray from pb) (by omega) fun j h1 h2=>?_) (by simpa [la,lb] using q)
  have h1':j < ia.length:=by simpa using h1
  have h2':j < ib.length:=by simpa using h2
  obtain ⟨x,ex,rx⟩:=ra.at h1'
  obtain ⟨y,ey,ry⟩:=rb.at h2'
  have:=(h j x y ex ey).at I (A:=X.A.in1) (u:=ia[j]) (v:=ib[j]) rx ry (by show X.A.units+1+n < cLine;omega)
  simpa using this
 | @lst n a b xs ys e ha hb hl h =>
  cases rx
  cases ry
  obtain ⟨ia,ra,pa,_⟩:=I.list ha
  obtain ⟨ib,rb,pb,_⟩:=I.list hb
  have la:=ra.length
  have lb:=rb.length
  refine fin (SeqAt.RcNeAt.lists (A:=X.A) (e:=e) pa.isList pb.isList (by simp;omega) (by omega) fun j h1 h2=>?_) (by simpa [la,lb] using q)
  have h1':j < ia.length:=by simpa using h1
  have h2':j < ib.length:=by simpa using h2
  obtain ⟨x,ex,rx⟩:=ra.at h1'
  obtain ⟨y,ey,ry⟩:=rb.at h2'
  have:=(h j x y ex ey).at I (A:=X.A.in1) (u:=ia[j]) (v:=ib[j]) rx ry (by show X.A.units+1+n < cLine;omega)
  simpa using this
 | @len n a b xs ys ha hb hl =>
  cases rx
  cases ry
  obtain ⟨ia,ra,pa,_⟩:=I.list ha
  obtain ⟨ib,rb,pb,_⟩:=I.list hb
  have la:=ra.length
  have lb:=rb.length
  exact fin (SeqAt.RcNeAt.lists_lengths pa.isList pb.isList (by simp;omega) (by omega)) (by simpa using q)
end
section
variable {X:Cx} {a b c d:Expr} {ta tb tc td:TE} {pos:Pos}
noncomputable def tChain3 (r r' r'':R2) (ta tb tc td:TE):TE:=fun σ H Q=>ta σ H fun x H1=>tb σ H1 fun y H2=>r x y H2 fun z H3=>∃ k,z = .bl k ∧
 (if k=true then tc σ H3 fun w' H4=>r' y w' H4 fun z' H5=>∃ k',z' = .bl k'∧(if k'=true then td σ H5 fun w'' H6=>r'' w' w'' H6 Q else Q (.bl false) H5) else Q (.bl false) H3)
theorem pe_chain3 {op op' op'':CmpOp} {r r' r'':R2} (ho:OpR X (compareOp op) r) (ho':OpR X (compareOp op') r') (ho'':OpR X (compareOp op'') r'') (ha:PE X a ta) (hb:PE X b tb) (hc:PE X c tc) (hd:PE X d td)
  (hm:lastMarks [op,op',op''] [b,c,d]=false:=by with_unfolding_all rfl):PE X (.Compare a [op,op',op''] [b,c,d] pos) (tChain3 r r' r'' ta tb tc td):=by
 intro pins s σ H Q I h
 refine Compare_chain (thn (ha pins s σ H _ I h) fun v s1 ⟨x,H1,I1,r1,q1⟩=>chain_link (thn (hb pins s1 σ H1 _ I1 q1) fun u s2 ⟨y,H2,I2,r2,q2⟩ =>
  thn (ho pins s2 σ H2 x y v u _ I2 r1 r2 q2) fun d s3 ⟨z,H3,I3,r3,k,e,q3⟩=>?_)) hm
 subst e
 cases r3
 refine wpAny_truthy_bool ?_
 cases k with
 | false=>exact ite_ff ⟨.bl false,H3,I3,rfl,q3⟩
 | true =>
  refine ite_tt (chain_link (thn (hc pins s3 σ H3 _ I3 q3) fun w' s4 ⟨z',H4,I4,r4,q4⟩=>thn (ho' pins s4 σ H4 y z' u w' _ I4 r2 r4 q4) fun d' s5 ⟨z2,H5,I5,r5,k',e',q5⟩=>?_))
  subst e'
  cases r5
  refine wpAny_truthy_bool ?_
  cases k' with
  | false=>exact ite_ff ⟨.bl false,H5,I5,rfl,q5⟩
  | true=>exact ite_tt (chain_last (thn (hd pins s5 σ H5 _ I5 q5) fun w'' s6 ⟨z3,H6,I6,r6,q6⟩=>ho'' pins s6 σ H6 z' z3 w' w'' Q I6 r4 r6 q6))
end
end L2
end
section
namespace L2
open PySem PySem.Spec PyProof.Rows
structure Def (P:Program) (w:World) (K:PySem.W.Frag) (mg:Str→Option Value) (base:Heap) (k:Nat) (x:Str) (ps:List Str) (sp:Sp):Prop where
 ex:∃ (f:Addr) (fd:FuncData),FnOk P w K mg base CX0 k f fd ps sp∧Binds K fd ps []∧PySem.W.keepIn K (.ref f)=true∧mg x=some (.ref f)
theorem Def.mono {P:Program} {w:World} {K:PySem.W.Frag} {mg:Str→Option Value} {base:Heap} {j k:Nat} {x:Str} {ps:List Str} {sp:Sp} (D:Def P w K mg base j x ps sp) (h:j≤k):Def P w K mg base k x ps sp:=by
 obtain ⟨f,fd,F,b,kp,m⟩:=D.ex
 exact ⟨f,fd,F.mono h,b,kp,m⟩
theorem qM {X:Cx} {k:Nat} {x:Str} {ps:List Str} {sp:Sp} {p pos:Pos} {e:Expr} {es:List Expr} {t:TA} (D:Def X.prog X.w X.K X.mg X.base k x ps sp) (hr:Room k X.A) (hg:Gl X x) (ha:PA X (e::es) t)
  (hdb:(x == ("__debug__" : Str))=false:=by decide) (he:starEach (e::es) X.env=(false,eval e X.env)::starEach es X.env:=by rfl) (hpl:(backTo pos (starEach es X.env)).any (·.1)=false:=by rfl):PE X (.Call (.Name x p) (e::es) [] pos) (tCall sp [] E0 t):=by
 obtain ⟨f,fd,F,b,kp,m⟩:=D.ex
 exact pe_call F hr hg m kp b .nil pass0 ha hdb he hpl
structure Blt (mg:Str→Option Value):Prop where
 len_:mg "len" = none
 range_:mg "range" = none
 isinstance_:mg "isinstance" = none
 int_:mg "int" = none
 bool_:mg "bool" = none
 tuple_:mg "tuple" = none
 list_:mg "list" = none
 sum_:mg "sum" = none
 abs_:mg "abs" = none
 min_:mg "min" = none
 max_:mg "max" = none
 zip_:mg "zip" = none
 enumerate_:mg "enumerate" = none
 all_:mg "all" = none
 str_:mg "str" = none
noncomputable def okCell (ns:List (Str×NameKind)):Bool:=ns.all fun y=>(y.2 != .cell) && (y.2 != .local || ns.lookup y.1 == some .local)
noncomputable def okFree (fs ns:List (Str×NameKind)):Bool:=ns.all fun y=>y.2 != .free || (fs.lookup y.1 == some .cell || fs.lookup y.1 == some .free)
noncomputable def okIx (N XN:List Str) (ns:List (Str×NameKind)) (ix:List (Option Nat)):Bool:=(List.range ix.length).all fun i=>match ix[i]?,N[i]? with
 | some (some j),some x=>XN[j]? == some x && ns.lookup x == some .free
 | _,_=>true
theorem okIx_of {N XN:List Str} {ns:List (Str×NameKind)} {ix:List (Option Nat)} (h:okIx N XN ns ix=true) (i j:Nat) (x:Str) (h1:ix[i]?=some (some j)) (h2:N[i]?=some x):XN[j]?=some x∧ns.lookup x=some .free:=by
 have hi:i < ix.length:=by
  obtain ⟨q,_⟩:=List.getElem?_eq_some_iff.mp h1
  exact q
 have q:=List.all_eq_true.mp h i (List.mem_range.mpr hi)
 rw [h1,h2] at q
 simp only [Bool.and_eq_true,beq_iff_eq] at q
 exact q
section
variable {X:Cx} {elt tg iter:Expr} {ifs:List Expr} {scope:Scope} {pos:Pos} {wi:TI} {g:TG} {tc:TT} {te:TE} {N':List Str} {ix:List (Option Nat)}
theorem q3x (hc:X.calm=true) (hkind:scope.kind = .function) (h1:okCell scope.names=true) (h2:okFree X.env.scope.names scope.names=true)
  (hclos:closureFor scope X.env=pure (clOf X.env scope.names [])) (hlen:ix.length=N'.length) (h3:okIx N' X.N scope.names ix=true)
  (hi:PI X tg iter wi) (hg:∀ C s H fp,PG (blk X N' scope C s H fp) tg g) (ht:∀ C s H fp,PTs (blk X N' scope C s H fp) ifs tc) (he:∀ C s H fp,PE (blk X N' scope C s H fp) elt te)
  (hs:∀ x,foldedSetIterable iter X.env x=pure x:=by intro _;rfl):PE X (.ListComp elt [⟨tg,iter,ifs,0⟩] scope pos) (tComp wi g tc te ix):=by
 refine pe_comp hc hkind (fun y hy=>?_) (fun y hy hl=>?_) (fun y hy hf=>?_) hclos hlen (okIx_of h3) hi hg ht he hs
 ·have q:=List.all_eq_true.mp h1 y hy
  simp only [Bool.and_eq_true,bne_iff_ne,ne_eq] at q
  exact q.1
 ·have q:=List.all_eq_true.mp h1 y hy
  rw [hl] at q
  simp only [Bool.and_eq_true,Bool.or_eq_true,bne_self_eq_false,Bool.false_eq_true,false_or,beq_iff_eq] at q
  exact q.2
 ·have q:=List.all_eq_true.mp h2 y hy
  rw [hf] at q
  simp only [Bool.or_eq_true,bne_self_eq_false,Bool.false_eq_true,false_or,beq_iff_eq] at q
  exact q
theorem ps_lc {i:Nat} {y:Str} {py spos:Pos} (hN:X.N.Nodup) (hiN:X.N[i]?=some y) (hy:Loc X.env.scope y) (hc:X.calm=true) (hkind:scope.kind = .function) (h1:okCell scope.names=true) (h2:okFree X.env.scope.names scope.names=true)
  (hclos:closureFor scope X.env=pure (clOf X.env scope.names [])) (hlen:ix.length=N'.length) (h3:okIx N' X.N scope.names ix=true)
  (hi:PI X tg iter wi) (hg:∀ C s H fp,PG (blk X N' scope C s H fp) tg g) (ht:∀ C s H fp,PTs (blk X N' scope C s H fp) ifs tc) (he:∀ C s H fp,PE (blk X N' scope C s H fp) elt te)
  (hsw:swapsWith (.ListComp elt [⟨tg,iter,ifs,0⟩] scope pos) (some (.Name y py)) spos.line X.env=pure true:=by rfl)
  (hs:∀ x,foldedSetIterable iter X.env x=pure x:=by intro _;rfl) (hf:X.fn y=true∨X.env.scope.names.lookup y=some .local:=by first | exact .inl rfl | exact .inr rfl | assumption) :
  PS X (.Assign [.Name y py] (.ListComp elt [⟨tg,iter,ifs,0⟩] scope pos) spos) (tAsg (tComp wi g tc te ix) (q7m i)):=by
 refine ps_comp0 hN hiN hy hc hkind (fun y hy=>?_) (fun y hy hl=>?_) (fun y hy hf=>?_) hclos hlen (okIx_of h3) hi hg ht he hsw hs hf
 ·have q:=List.all_eq_true.mp h1 y hy
  simp only [Bool.and_eq_true,bne_iff_ne,ne_eq] at q
  exact q.1
 ·have q:=List.all_eq_true.mp h1 y hy
  rw [hl] at q
  simp only [Bool.and_eq_true,Bool.or_eq_true,bne_self_eq_false,Bool.false_eq_true,false_or,beq_iff_eq] at q
  exact q.2
 ·have q:=List.all_eq_true.mp h2 y hy
  rw [hf] at q
  simp only [Bool.or_eq_true,bne_self_eq_false,Bool.false_eq_true,false_or,beq_iff_eq] at q
  exact q
end
theorem ifD {c A B:Prop} {_:Decidable c} (h1:c→A) (h2:¬ c→B):if decide c=true then A else B:=by
 by_cases h:c
 ·rw [if_pos (decide_eq_true h)];exact h1 h
 ·rw [if_neg (by rw [decide_eq_true_iff];exact h)];exact h2 h
theorem ifN {c A B:Prop} {_:Decidable c} (h1:¬ c→A) (h2:c→B):if (!decide c)=true then A else B:=by
 by_cases h:c
 ·rw [decide_eq_true h];exact iteF (h2 h)
 ·rw [decide_eq_false h];exact iteT (h1 h)
theorem q75 {i j:Int}:decide (V.int i=V.int j)=decide (i=j):=by
 by_cases h:i=j
 ·subst h;simp
 ·rw [decide_eq_false h,decide_eq_false (fun z=>h (V.int.inj z))]
theorem ifI {i j:Int} {A B:Prop} (h1:i=j→A) (h2:i≠j→B):if decide (V.int i=V.int j)=true then A else B:=by
 rw [q75];exact ifD h1 h2
theorem ifIN {i j:Int} {A B:Prop} (h1:i≠j→A) (h2:i=j→B):if (!decide (V.int i=V.int j))=true then A else B:=by
 rw [q75];exact ifN h1 h2
theorem Same.new {H:Hp} {p:Addr} (h:H p=none) (o:HO):Same H (upd H p o):=fun b u q=>by rw [qF (qI q h)];exact q
theorem Same.upd {H H':Hp} {p:Addr} {o:HO} (e:Same H H') (h:H p=none):Same H (upd H' p o):=fun b u q=>by rw [qF (qI q h)];exact e b u q
theorem q2y {ns:List Int} {k:Int} (h0:0≤k) (h:k < (ns.length:Int)):atI (ns.map V.int) k=some (.int (ns.getD k.toNat 0)):=by
 have hk:k.toNat < ns.length:=by omega
 have ek:k=((k.toNat:Nat):Int):=by omega
 have q:atI (ns.map V.int) ((k.toNat:Nat):Int)=some (.int (ns.getD k.toNat 0)):=qq (by rw [List.getElem?_map,List.getElem?_eq_getElem hk,List.getD_eq_getElem?_getD,List.getElem?_eq_getElem hk] <;> rfl)
 rw [← ek] at q
 exact q
theorem cPow {i j:Int} (h:(decide (0≤j) && (decide (j≤1000000) && decide (i.natAbs < 2 ^ 64)))=true):CPow i j:=by
 simp only [Bool.and_eq_true,decide_eq_true_eq] at h
 exact h
theorem cDiv {i j:Int} (h:(decide (0 < j) && decide (j < 1073741824))=true):CDiv i j:=by
 simp only [Bool.and_eq_true,decide_eq_true_eq] at h
 exact h
theorem cMulL {i j:Int} (h:(decide (-(2 ^ 64) < i) && decide (i < 2 ^ 64))=true):CMul i j:=by
 simp only [Bool.and_eq_true,decide_eq_true_eq] at h
 exact .inl h
theorem cMulR {i j:Int} (h:(decide (-(2 ^ 64) < j) && decide (j < 2 ^ 64))=true):CMul i j:=by
 simp only [Bool.and_eq_true,decide_eq_true_eq] at h
 exact .inr h
theorem cMulL' {i j:Int} (h : -1000000000000 < i) (h':i < 1000000000000):CMul i j:=.inl ⟨by omega,by omega⟩
theorem cPos {j:Int} (h:decide (0 < j)=true):0 < j:=of_decide_eq_true h
theorem seqU {t u:TS} {D:Ends} {σ:St} {H:Hp} (I:St→Hp→Prop) (tail:∀ σ' H',I σ' H'→u D σ' H') (h:∀ R:St→Hp→Prop,(∀ σ' H',I σ' H'→R σ' H')→t {D with nx:=R} σ H):tSeq t u D σ H:=h (u D) tail
theorem ifJ {c:Prop} {_:Decidable c} {t:TS} {D:Ends} {σ:St} {H:Hp} (I:St→Hp→Prop) (tail:∀ σ' H',I σ' H'→D.nx σ' H') (h0:¬ c→I σ H) (hA:∀ R:St→Hp→Prop,(∀ σ' H',I σ' H'→R σ' H')→c→t {D with nx:=R} σ H) :
  if decide c=true then t D σ H else tNext D σ H:=by
 by_cases h:c
 ·rw [if_pos (decide_eq_true h)];exact hA D.nx tail h
 ·rw [if_neg (by rw [decide_eq_true_iff];exact h)];exact tail _ _ (h0 h)
theorem pick {ns:List Int} {k:Int} (h0:0≤k) (h:k < (ns.length:Int)):∃ d,d∈ns∧atI (ns.map V.int) k=some (.int d):=by
 refine ⟨_,?_,q2y h0 h⟩
 have hk:k.toNat < ns.length:=by omega
 rw [List.getD_eq_getElem?_getD,List.getElem?_eq_getElem hk]
 exact List.getElem_mem hk
theorem mod_lt {a b:Int} (h:0 < b):0≤a%b∧a%b < b:=⟨Int.emod_nonneg a (by omega),Int.emod_lt_of_pos a h⟩
theorem small {n:Nat} (h:n≤100000):n < sizeLine:=Nat.lt_of_le_of_lt h (by decide)
section
variable {X:Cx} {N':List Str} {scope:Scope} {C:Addr} {s:Shared} {H:Hp} {fp:List Addr} {pos:Pos}
theorem q5F:IxR (blk X N' scope C s H fp) (rIxL X.K):=ix_list
end
section
variable {K:PySem.W.Frag}
theorem kit_ii:PySem.W.kitOne K (.type "int") (.type "int")=some true:=by kernel_rfl
theorem kit_ib:PySem.W.kitOne K (.type "int") (.type "bool")=some false:=by kernel_rfl
theorem kit_tt:PySem.W.kitOne K (.type "tuple") (.type "tuple")=some true:=by kernel_rfl
end
noncomputable def Nx (n i:Nat) (P:Prop):Prop:=∃ m',m' < n-i∧m'=n-(i+1)∧i+1≤n∧P
theorem Nx.mk {n i:Nat} {P:Prop} (h:i < n) (p:P):Nx n i P:=⟨n-(i+1),by omega,rfl,h,p⟩
theorem q0d {J:It} {n:Nat} {g:TG} {tc:TT} {te:TE} {τ0:St} {H1:Hp} {Q:VK} {acc:Addr} (Pv:Nat→St→List V→Hp→Prop) (h0:Pv 0 τ0 [] (upd H1 acc (.lst []))) (hn:n≤100000)
  (hacc:∀ i τ zs H,Pv i τ zs H→H acc=some (.lst zs)∧zs.length≤i) (hgo:∀ i τ zs H,i < n→Pv i τ zs H→J.go i H) (hstop:∀ τ zs H,Pv n τ zs H→J.stop n H∧Q (.ref acc) H)
  (hs:∀ i τ zs H x H',i < n→Pv i τ zs H→J.yld i H x H'→g x τ H' fun τ2 H2=>tc τ2 H2 fun b H3=>if b=true then te τ2 H3 fun y H4=>H4 acc=some (.lst zs)∧Nx n i (Pv (i+1) τ2 (zs++[y]) (upd H4 acc (.lst (zs++[y])))) else Nx n i (Pv (i+1) τ2 zs H3)) :
  CompW J g tc te τ0 H1 acc Q:=by
 refine ⟨fun i m τ ys H=>m=n-i∧i≤n∧Pv i τ ys H,⟨n,by simp,Nat.zero_le _,h0⟩,?_⟩
 rintro i m τ ys H ⟨rfl,hi,p⟩
 obtain ⟨ha,hl⟩:=hacc i τ ys H p
 refine ⟨ha,?_⟩
 by_cases hlt:i < n
 ·exact .inr ⟨hgo i τ ys H hlt p,small (by omega),fun x H' y=>hs i τ ys H x H' hlt p y⟩
 ·have e:i=n:=by omega
  subst e
  exact .inl (hstop τ ys H p)
end L2
end
section
namespace L2
open PySem PySem.Spec PyProof.Rows
section
variable {X:Cx}
end
end L2
end
section
namespace L2
open PySem PySem.Spec PyProof.Rows
section
variable {X:Cx}
theorem q4E:∀ {bs:List Bool} {us:List Value},Vals (bs.map V.bl) us→PyProof.Rows.LSm.BoolsAre us bs
 | [],_,.nil=>.nil
 | b::bs,_,.cons r t=>by
  cases (show _=Value.bool b from r)
  exact .cons b (q4E t)
theorem q7C (hc:X.calm=true):q1k X (.builtin "all") (fun xs H Q=>∃ (p:Addr) (bs:List Bool),xs=[.ref p]∧SqL X.K H p (bs.map V.bl)∧Q (.bl (bs.all id)) H):=by
 intro pins s σ H xs us Q I r h
 obtain ⟨p,bs,rfl,hq,q⟩:=h
 obtain ⟨u,rfl,ru⟩:=q2T r
 cases ru
 obtain ⟨vs,rv,pl,_⟩:=I.list hq
 have hb:=q4E rv
 have hl:=pl.isList
 have hlt:p < s.heap.objs.size:=by obtain ⟨_,e,_⟩:=hl;exact Heap.lt_size e
 refine call_all_walk (wpAny_pyIter_list hl ?_)
 refine ⟨s.heap.objs.size,[s.heap.objs.size,p],[s.heap.objs.size],vs.toArray.size,_,_,fun i=>(bs[i]?).getD true,rfl,Walks.list (A:=X.A.in1) (I.ok.hd hc) _ p (Nat.ne_of_lt hlt) vs.toArray,
  ⟨⟨_,Heap.get?_push_size _ rfl,rfl,rfl⟩,hl.push _⟩,fun i v s' Q' E' hP hQ=>?_,fun h' tk hk=>?_⟩
 ·obtain ⟨b,e,rfl⟩:=hb.get i v (by simpa using hP)
  simp only [e,Option.getD_some] at hQ
  exact wpAny_truthy_bool hQ
 ·have e:((List.range vs.toArray.size).all fun i=>(bs[i]?).getD true)=bs.all id:=by
   rw [List.size_toArray,hb.length];exact PyProof.Rows.LSm.range_all bs
  rw [e]
  exact ⟨.bl _,H,I.kept (PyProof.Rows.LSm.kept_iter hk),rfl,q⟩
end
end L2
end
section
namespace L2
open PySem PySem.Spec PyProof.Rows
section
variable {X:Cx}
end
noncomputable def Itd (hi:Int) (n:Nat):It:=⟨fun i _=>i < n,fun i H x H'=>H'=H∧x = .int (hi-i),fun i _=>n≤i⟩
theorem turn_down {P:Program} {w:World} {K:PySem.W.Frag} {tg:Expr} (it:Addr) (hi:Int) (n:Nat):Turn P w K tg (Itd hi n) [it] it (fun i h=>IsRangeIter h it (hi+(i:Nat)*(-1)) ((n:Int)-(i:Nat)) (-1)) where
 mem:=by simp
 obj:=fun i h st b hb=>by
  have e:b=it:=by simpa using hb
  subst e
  exact ⟨_,st,fun v z=>by
   have z':Data.fields _=Data.cell v:=z
   cases z'⟩
 keep:=fun i h h' st k=>k it (by simp) _ st
 item:=by
  intro X hP hw hK hc i pins s σ H E I hf st hg
  subst hP hw hK
  obtain ⟨f0,f1,f2,f3,f4,f5⟩:=hf it (by simp)
  have W:=Walks.range (prog:=X.prog) (w:=X.w) (I.ok.hd hc) it hi (-1) n
  refine W.item i s _ _ hg st fun v h' tk hv st' kk=>?_
  obtain ⟨t,rfl⟩:=hv
  have I1:Inv X pins σ H {s with heap:=h',toks:=tk}:=I.turned (fun b o hb e=>kk b o (by simpa using hb) e) f0 f1 f3 f4 f5
  refine ⟨_,rfl,q7i (s:={s with heap:=h',toks:=tk}) (n:="range_iterator") st' rfl rfl (by decide) ⟨.int (hi-i),H,I1,⟨t,?_⟩,⟨rfl,rfl⟩,st',fun b hb=>(hf b hb).1⟩⟩
  congr 1
  omega
 done:=by
  intro X hP hw hK hc i pins s σ H E I hf st hg
  subst hP hw hK
  obtain ⟨f0,f1,f2,f3,f4,f5⟩:=hf it (by simp)
  exact wpAny_pyNext_range_end (I.ok.hd hc) st (by have:n≤i:=hg;omega) fun h' eb=>⟨rfl,I.turned (t':=s.toks) (fun b o hb e=>eb b o hb e) f0 f1 f3 f4 f5⟩
 self:=fun _ _ _ _ _ st h=>wpAny_pyIter_rangeiter st h
theorem q5V (a b:Int):Builtin.Range.rangeSize a b (-1)=((a-b).toNat:Int):=by
 unfold Builtin.Range.rangeSize
 rw [if_neg (by decide)]
 split <;> simp <;> omega
theorem q7J {a b:Int} (ha : -(2 ^ 62)≤a) (ha':a < 2 ^ 62) (hb : -(2 ^ 62)≤b) (hb':b < 2 ^ 62):Builtin.Range.small a b (-1)=true:=by
 unfold Builtin.Range.small
 rw [q5V]
 simp only [Builtin.Range.rangeFitsLong,Bool.and_eq_true,Bool.or_eq_true,decide_eq_true_eq,beq_iff_eq,show ¬ (-1:Int) > 0 by decide,if_false]
 omega
section
variable {X:Cx} {tg:Expr}
theorem range_itd {pins:List (Addr×Obj)} {σ:St} {H:Hp} {s:Shared} {R:It→Hp→Prop} {E:Value→Shared→Prop} {lo hi:Int} {t u v:Tok} {tk:Nat} (I:Inv X pins σ H s) (h1 : -(2 ^ 62)≤lo) (h2:lo < 2 ^ 62) (h3 : -(2 ^ 62)≤hi) (h4:hi < 2 ^ 62)
  (q:R (Itd hi (hi-lo).toNat) H):wpAny (model X.prog X.w) X.A (pyIter (.ref s.heap.objs.size)) (PIE X pins σ tg R) E {s with heap:=s.heap.push {cls:=.type "range",data:=.fields #[.int hi t,.int lo u,.int (-1) v]},toks:=tk}:=by
 refine wpAny_pyIter_range (IsRange.new ..) (q7J h3 h4 h1 h2) ?_
 have I1:Inv X pins σ H {s with heap:=s.heap.push {cls:=.type "range",data:=.fields #[.int hi t,.int lo u,.int (-1) v]},toks:=tk}:=I.kept fun b o e=>Heap.get?_push_of_some _ e
 refine ⟨(s.heap.push {cls:=.type "range",data:=.fields #[.int hi t,.int lo u,.int (-1) v]}).objs.size,[(s.heap.push {cls:=.type "range",data:=.fields #[.int hi t,.int lo u,.int (-1) v]}).objs.size],_,_,H,rfl,
  I1.kept (t':=tk) fun b o e=>Heap.get?_push_of_some _ e,turn_down _ hi (hi-lo).toNat,?_,fun b hb=>?_,q⟩
 ·have e1:hi+((0:Nat):Int)*(-1)=hi:=by simp
  have e2:(((hi-lo).toNat:Nat):Int)-((0:Nat):Int)=Builtin.Range.rangeSize hi lo (-1):=by rw [q5V];simp
  show IsRangeIter _ _ (hi+((0:Nat):Int)*(-1)) ((((hi-lo).toNat:Nat):Int)-((0:Nat):Int)) (-1)
  rw [e1,e2]
  exact Heap.get?_push_size _ rfl
 ·have e:b=(s.heap.push {cls:=.type "range",data:=.fields #[.int hi t,.int lo u,.int (-1) v]}).objs.size:=by simpa using hb
  subst e
  exact I1.fpOk (Nat.le_refl _) (I1.hok.fresh (Nat.le_refl _))
noncomputable def iRng3 (ta:TA):TI:=fun σ H R=>ta σ H fun vs H1=>∃ i j:Int,vs=[.int i,.int j,.int (-1)]∧(-(2 ^ 62)≤i∧i < 2 ^ 62∧-(2 ^ 62)≤j∧j < 2 ^ 62)∧R (Itd i (i-j).toNat) H1
theorem q3v {a b c:Expr} {ta:TA} {p pos:Pos} (hg:Gl X "range") (hm:X.mg "range" = none) (ha:PA X [a,b,c] ta) (hs:starEach [a,b,c] X.env=[(false,eval a X.env),(false,eval b X.env),(false,eval c X.env)]:=by rfl) (hs2:starEach [b,c] X.env=[(false,eval b X.env),(false,eval c X.env)]:=by rfl) :
  PI X tg (.Call (.Name "range" p) [a,b,c] [] pos) (iRng3 ta):=by
 intro pins s σ H R I h
 refine Call_ (q3H I hg hm boot_range (PyProof.Rows.callWith_type1 (thn (ha pos pins s σ H _ I h) fun us s1 ⟨vs,H1,I1,r1,q1⟩=>?_) (by rw [hs,hs2]) (by rw [hs2];rfl)))
 obtain ⟨i,j,e,⟨q1,q2,q3,q4⟩,q⟩:=q1
 subst e
 cases r1 with
 | cons r rr =>
  cases rr with
  | cons r' rr =>
   cases rr with
   | cons r'' rr =>
    cases rr
    obtain ⟨t,rfl⟩:=r
    obtain ⟨t',rfl⟩:=r'
    obtain ⟨t'',rfl⟩:=r''
    exact call_range_3 (by decide) (range_itd I1 q3 q4 q1 q2 q) (Or.inl (PyProof.noPylong_small (by omega)))
end
theorem q5H {hi:Int} {n:Nat} {g:TG} {tb:TS} {D:Ends} {σ:St} {H:Hp} (Pv:Nat→St→Hp→Prop) (h0:Pv 0 σ H)
  (hs:∀ i σ H,i < n→Pv i σ H→g (.int (hi-i)) σ H fun σ2 H2=>tb {D with nx:=Pv (i+1),ct:=Pv (i+1),bk:=D.nx} σ2 H2) (hd:∀ σ H,Pv n σ H→D.nx σ H) :
  ∃ W:Nat→Nat→St→Hp→Prop,(∃ m,W 0 m σ H)∧∀ i m σ H,W i m σ H →
   ((Itd hi n).stop i H∧D.nx σ H)∨((Itd hi n).go i H∧∃ N:St→Hp→Prop,(∀ σ' H',N σ' H'→∃ m',m' < m∧W (i+1) m' σ' H')∧∀ x H',(Itd hi n).yld i H x H'→g x σ H' fun σ2 H2=>tb {D with nx:=N,ct:=N,bk:=D.nx} σ2 H2):=by
 refine ⟨fun i m σ H=>m=n-i∧i≤n∧Pv i σ H,⟨n,by simp,Nat.zero_le _,h0⟩,?_⟩
 rintro i m σ H ⟨rfl,hi',p⟩
 by_cases hlt:i < n
 ·refine .inr ⟨hlt,Pv (i+1),fun σ' H' p'=>⟨n-(i+1),by omega,rfl,hlt,p'⟩,?_⟩
  rintro x H' ⟨rfl,rfl⟩
  exact hs i σ H' hlt p
 ·have e:i=n:=by omega
  subst e
  exact .inl ⟨Nat.le_refl _,hd σ H p⟩
end L2
end
section
namespace L2
open PySem PySem.Spec PyProof.Rows PySem.W
section
variable {X:Cx} {e st:Expr} {te ts:TE} {pos p2:Pos}
noncomputable def tRev (K:PySem.W.Frag) (te ts:TE):TE:=fun σ H Q=>te σ H fun x H1=>ts σ H1 fun y H2=>∃ a xs,x = .ref a∧y = .int (-1)∧SqL K H2 a xs∧∀ p,H2 p=none→Q (.ref p) (upd H2 p (.lst xs.reverse))
theorem pe_rev (he:PE X e te) (hst:PE X st ts):PE X (.Subscript e (.Slice none none (some st) p2) pos) (tRev X.K te ts):=by
 intro pins s σ H Q I h
 refine Subscript_ (thn (he pins s σ H _ I h) fun v s1 ⟨x,H1,I1,r1,q1⟩=>?_)
 refine wpAny_Slice ?_
 rw [evalPart_none]
 refine wpAny_pure ?_
 refine wpAny_pure ?_
 rw [evalPart_some]
 refine thn (hst pins s1 σ H1 _ I1 q1) fun vs s3 ⟨y,H3,I3,r3,q3⟩=>?_
 obtain ⟨a,xs,rfl,rfl,hx,q⟩:=q3
 obtain ⟨t,rfl⟩:=r3
 cases r1
 have I4:Inv X pins σ H3 {s3 with heap:=s3.heap.push {cls:=.type "slice",data:=.fields #[.none,.none,.int (-1) t]}}:=I3.kept (t':=s3.toks) fun b ob q=>Heap.get?_push_of_some _ q
 show wpAny (model X.prog X.w) X.A (subscriptTail e (.Slice none none (some st) p2) (.ref a) (.ref s3.heap.objs.size)) (EP X pins σ Q) X.xe {s3 with heap:=s3.heap.push {cls:=.type "slice",data:=.fields #[.none,.none,.int (-1) t]}}
 obtain ⟨its,r,ht,hz⟩:=I4.list hx
 have hlen:=r.length
 refine tail_any (ops:=[.ref a,.ref s3.heap.objs.size]) ht.isList.typeIs slot_list_getitem.lookup ?_ (by with_unfolding_all rfl)
 refine wpAny_getItem_list_slice ht.isList (Heap.IsSliceOf.new ..) .none .none (.int (-1) t) (by simp) ?_ (by rw [List.size_toArray] <;> omega)
 rw [krv_pick]
 refine ⟨.ref _,_,I4.laid (t':=s3.toks) (o:=.lst xs.reverse) (fun b ob q=>Heap.get?_push_of_some _ q) (Nat.le_refl _) ?_,rfl,q _ (I4.hok.fresh (Nat.le_refl _))⟩
 exact ⟨by rw [List.length_reverse];exact hz,_,0,r.reverse,Heap.get?_push_size _ rfl⟩
end
section
variable {X:Cx}
end
end L2
end
section
namespace L2
open PySem PySem.Spec PyProof.Rows PySem.W PySem.SeqAt
section
variable {X:Cx}
end
section
variable {prog:Program} {w:World} {A:Around} {E:Value→Shared→Prop} {s:Shared}
end
section
variable {X:Cx}
end
end L2
end
section
namespace L2
open PySem PySem.Spec PyProof.Rows PySem.W PySem.SeqAt
theorem Un.fly {fs:List Addr} {H H':Hp} {h h1 h2:Heap} (U:Un fs [] H H' h h1) (kp:∀ b o,h.get? b=some o→H b=none→b∉fs→h2.get? b=some o)
  (sl:∀ b∈fs,∀ o,h1.get? b=some o→∃ z,h2.get? b=some {o with slots:=z}) (th:∀ b o,h.get? b=some o→b∉fs→∃ o',h2.get? b=some o'):Un fs [] H H' h h2 where
 keep:=fun b o e n hb _=>kp b o e n hb
 slot:=fun b o e n hb hx=>by
  obtain ⟨z,e1⟩:=U.slot b o e n hb hx
  obtain ⟨z2,e2⟩:=sl b hb _ e1
  exact ⟨z2,e2⟩
 free:=U.free
 there:=fun b o e hx=>by
  by_cases hb:b∈fs
  ·obtain ⟨o',e1⟩:=U.there b o e hx
   obtain ⟨z,e2⟩:=sl b hb o' e1
   exact ⟨_,e2⟩
  ·exact th b o e hb
 tups:=U.tups
 frzs:=U.frzs
 tbls:=U.tbls
theorem ObjOk.here {P:Program} {w:World} {H:Hp} {h:Heap} {a:Addr} {o:HO} (x:ObjOk P w H h a o):∃ ob,h.get? a=some ob:=by
 cases o with
 | lst xs=>obtain ⟨_,_,_,_,e⟩:=x;exact ⟨_,e⟩
 | tup xs=>obtain ⟨_,_,_,ob,e,_⟩:=x;exact ⟨_,e⟩
 | dK kvs=>obtain ⟨_,_,_,_,o,_,_,e,_⟩:=x;exact ⟨_,e⟩
 | dT kvs=>obtain ⟨_,_,_,_,o,_,_,e,_⟩:=x;exact ⟨_,e⟩
 | set S n=>obtain ⟨o,_,_,_,e,_⟩:=x;exact ⟨_,e⟩
 | ins C dx fs=>obtain ⟨_,_,_,e,_⟩:=x;exact ⟨_,e⟩
 | own y=>obtain ⟨_,e⟩:=x;exact ⟨_,e⟩
 | xd fs=>obtain ⟨_,⟨_,_,_,e,_⟩,_⟩:=x;exact ⟨_,e⟩
 | rng lo hi=>obtain ⟨_,_,_,e⟩:=x;exact ⟨_,e⟩
 | frz ob u=>obtain ⟨e,_⟩:=x;exact ⟨_,e⟩
 | tbl ps=>exact ⟨_,(show h.get? a=some _ from x)⟩
 | met f y=>exact ⟨_,(show h.get? a=some _ from x)⟩
 | ext φ=>obtain ⟨_,⟨_,e⟩,_⟩:=x;exact ⟨_,e⟩
structure Aloft (P:Program) (w:World) (outer:List Env) (H:Hp) (s:Shared) (C:Value) (a:Addr) (a0:Value) (B:Heap) (H':Hp) (s':Shared):Prop where
 fl:Heap.FlyingW B outer a C a0 s'.heap
 os:s'.os=s.os
 bare:AllBare s'.gens
 hok:HOk P w H' B
 un:Un (frs outer) [] H H' s.heap s'.heap
 old:∀ b o,s.heap.get? b=some o→H b=none→b∉frs outer→B.get? b=some o
 has:∀ b o,s.heap.get? b=some o→b∉frs outer→∃ o',B.get? b=some o'
 fresh:H' a=none∧a∉frs outer∧s.heap.get? a=none
noncomputable def CXE (P:Program) (w:World):CXT:=fun outer H s E e s'=>∃ C a a0 B H',e = .ref a∧Aloft P w outer H s C a a0 B H' s'∧E C none H'
theorem q26 {env:Env} {outer:List Env} {b:Addr} (h:b∈frs outer):b∈frs (env::outer):=by
 unfold frs at h ⊢
 rw [List.filterMap_cons]
 cases env.frame with
 | none=>exact h
 | some L=>exact List.mem_cons_of_mem _ h
theorem frs_of {env:Env} {outer:List Env} {b L:Addr} (hf:env.frame=some L) (h:b∈frs (env::outer)):b=L∨b∈frs outer:=by
 unfold frs at h ⊢
 rw [List.filterMap_cons,hf] at h
 exact List.mem_cons.mp h
section
variable {P:Program} {w:World} {outer:List Env} {H H':Hp} {s s':Shared} {C a0:Value} {a:Addr} {B:Heap}
theorem Aloft.on {h2:Heap} (F:Aloft P w outer H s C a a0 B H' s') (g:Heap.FlyingW B outer a C a0 h2) (u:s'.heap.UpToSlots h2):Aloft P w outer H s C a a0 B H' {s' with heap:=h2} :=
 ⟨g,F.os,F.bare,F.hok,F.un.fly (fun b o e n hb=>g.1 b o (F.old b o e n hb)) (fun b hb o e=>by
  obtain ⟨_,o1,e1,d1⟩:=F.fl.2.2.1.mem hb
  rw [e] at e1;cases e1
  exact u b o e d1) fun b o e hb=>by
   obtain ⟨o',e1⟩:=F.has b o e hb
   exact ⟨o',g.1 b o' e1⟩,F.old,F.has,F.fresh⟩
end
section
variable {P:Program} {w:World} {K:PySem.W.Frag} {mg:Str→Option Value} {base:Heap} {N:List Str} {qual:Str} {scope:Scope} {f:Addr} {cd:Value} {A:Around} {outer:List Env} {s:Shared} {H:Hp} {E:XK}
theorem qz:q1p (CXE P w) (cxOf (CXE P w) P w K mg base N qual scope f cd A outer s H E) E:=by
 rintro pins σ H1 s1 e s' I ⟨C,a,a0,B,H',rfl,F,q⟩
 have hf:(envOfC qual scope s.heap.objs.size f cd).frame=some s.heap.objs.size:=rfl
 have F:Aloft P w (envOfC qual scope s.heap.objs.size f cd::outer) H1 s1 C a a0 B H' s':=F
 have ub:Un (frs outer) [] H H1 s.heap s1.heap:=I.base
 have nl:∀ b o,s.heap.get? b=some o→b∉frs outer→b∉frs (envOfC qual scope s.heap.objs.size f cd::outer):=fun b o e n z=>by
  rcases frs_of hf z with z | z
  ·rw [z] at e;exact absurd (Heap.lt_size e) (Nat.lt_irrefl _)
  ·exact n z
 show wpAny _ _ (leaving _ _) _ _ s'
 refine wpAny_leaves_onW (base:=B) (outer:=outer) (L:=s.heap.objs.size) (cls:=C) (a0:=a0) I.ok.frames rfl F.fl fun h2 g u=>?_
 refine ⟨C,a,a0,B,H',rfl,⟨g,F.os.trans I.os,F.bare,F.hok,?_,fun b o e n hb=>?_,fun b o e hb=>?_,F.fresh.1,fun z=>F.fresh.2.1 (q26 z),?_⟩,q⟩
 ·have t:Un (frs (envOfC qual scope s.heap.objs.size f cd::outer)) [] H H' s.heap s'.heap:=(ub.mono (fun b hb=>q26 hb) fun _ z=>z).trans F.un
  refine ⟨fun b o e n hb hx=>?_,fun b o e n hb hx=>?_,t.free,fun b o e hx=>?_,t.tups,t.frzs,t.tbls⟩
  ·exact g.1 b o (F.old b o (ub.keep b o e n hb hx) (ub.free b o e n hx) (nl b o e hb))
  ·obtain ⟨z,e1⟩:=t.slot b o e n (q26 hb) hx
   obtain ⟨_,o1,e2,d1⟩:=F.fl.2.2.1.mem (q26 hb)
   rw [e1] at e2;cases e2
   obtain ⟨z2,e3⟩:=u b _ e1 d1
   exact ⟨z2,e3⟩
  ·by_cases hb:b∈frs outer
   ·obtain ⟨_,o1,e1,d1⟩:=F.fl.2.2.1.mem (q26 hb)
    obtain ⟨z2,e3⟩:=u b _ e1 d1
    exact ⟨_,e3⟩
   ·obtain ⟨o1,e1⟩:=ub.there b o e hx
    obtain ⟨o2,e2⟩:=F.has b o1 e1 (nl b o e hb)
    exact ⟨o2,g.1 b o2 e2⟩
 ·exact F.old b o (ub.keep b o e n hb (by simp)) (ub.free b o e n (by simp)) (nl b o e hb)
 ·obtain ⟨o1,e1⟩:=ub.there b o e (by simp)
  exact F.has b o1 e1 (nl b o e hb)
 ·cases z:s.heap.get? a with
  | none=>rfl
  | some o =>
   obtain ⟨o1,e1⟩:=ub.there a o z (by simp)
   rw [F.fresh.2.2] at e1;cases e1
theorem madeE {pins:List (Addr×Obj)} {σ:St} {H1:Hp} {s1:Shared} {C:Value} {e:Addr} {vs:List Value} {h':Heap} (I:Inv (cxOf (CXE P w) P w K mg base N qual scope f cd A outer s H E) pins σ H1 s1)
  (hx:Heap.MadeExcOf s1.heap h' e C vs) (q:E C none H1):(cxOf (CXE P w) P w K mg base N qual scope f cd A outer s H E).xe (.ref e) {s1 with heap:=h'}:=by
 have hf:(envOfC qual scope s.heap.objs.size f cd).frame=some s.heap.objs.size:=rfl
 have ub:Un (frs outer) [] H H1 s.heap s1.heap:=I.base
 have nl:∀ b o,s.heap.get? b=some o→b∉frs outer→b∉frs (envOfC qual scope s.heap.objs.size f cd::outer):=fun b o e n z=>by
  rcases frs_of hf z with z | z
  ·rw [z] at e;exact absurd (Heap.lt_size e) (Nat.lt_irrefl _)
  ·exact n z
 have st:s1.heap.FunFrames base (envOfC qual scope s.heap.objs.size f cd::outer):=I.stack
 have tr:∀ b u,H1 b=some u→b∉frs (envOfC qual scope s.heap.objs.size f cd::outer):=fun b u e z=>by
  have:=I.stkFree b z
  rw [e] at this;cases this
 have ne:s1.heap.get? e=none:=hx.new
 have nfr:e∉frs (envOfC qual scope s.heap.objs.size f cd::outer):=fun z=>by
  obtain ⟨_,o,e1,_⟩:=st.mem z
  rw [ne] at e1;cases e1
 have hf2:s1.heap.FunFrames (hideAll s1.heap (frs (envOfC qual scope s.heap.objs.size f cd::outer))) (envOfC qual scope s.heap.objs.size f cd::outer) :=
  funFrames_hide st fun env he a ha=>List.mem_filterMap.mpr ⟨env,he,ha⟩
 show wpAny _ _ (leaving _ _) _ _ _
 refine wpAny_leaves_madeW (base:=hideAll s1.heap (frs (envOfC qual scope s.heap.objs.size f cd::outer))) (h:=s1.heap) (outer:=outer) (L:=s.heap.objs.size) (cls:=C) (args:=vs) I.ok.frames rfl (fun b o z=>of_hideAll _ z) hf2 hx fun h2 t g _ _ u=>?_
 have u2:s1.heap.UpToSlots h2:=(Heap.UpToSlots.of_keeps hx.keeps).trans u
 refine ⟨C,e,.ref t,_,H1,rfl,⟨g,I.os,I.bare,fun b u e=>?_,?_,fun b o e n hb=>hideAll_get _ (ub.keep b o e n hb (by simp)) (nl b o e hb),fun b o e hb=>?_,?_,fun z=>nfr (q26 z),?_⟩,q⟩
 ·refine (I.hok b u e).stay (fun c v hc z=>hideAll_get _ z ?_) (fun _ z=>z) fun _ _ z=>z
  rcases hc with hc | hc
  ·rw [hc];exact tr b u e
  ·exact tr c _ hc
 ·refine ub.fly (fun b o e n hb=>g.1 b o (hideAll_get _ (ub.keep b o e n hb (by simp)) (nl b o e hb))) (fun b hb o e=>?_) fun b o e hb=>?_
  ·obtain ⟨_,o1,e1,d1⟩:=st.mem (q26 hb)
   rw [e] at e1;cases e1
   exact u2 b o e d1
  ·obtain ⟨o1,e1⟩:=ub.there b o e (by simp)
   exact ⟨o1,g.1 b o1 (hideAll_get _ e1 (nl b o e hb))⟩
 ·obtain ⟨o1,e1⟩:=ub.there b o e (by simp)
  exact ⟨o1,hideAll_get _ e1 (nl b o e hb)⟩
 ·cases z:H1 e with
  | none=>rfl
  | some u =>
   obtain ⟨o1,e1⟩:=(I.hok e u z).here
   rw [ne] at e1;cases e1
 ·cases z:s.heap.get? e with
  | none=>rfl
  | some o =>
   obtain ⟨o1,e1⟩:=ub.there e o z (by simp)
   rw [ne] at e1;cases e1
end
end L2
end
section
namespace L2
open PySem PySem.Spec PyProof.Rows PySem.W PySem.SeqAt PySem.Calls PySem.Builtin PySem.Builtin.ObjectAttr PySem.Builtin.Getset_descriptor
noncomputable def Thr (X:Cx) (E:XK):Prop:=∀ (pins:List (Addr×Obj)) (σ:St) (H1:Hp) (s1:Shared) (C:Value) (e:Addr) (vs:List Value) (h':Heap),Inv X pins σ H1 s1→Heap.MadeExcOf s1.heap h' e C vs→E C none H1→X.xe (.ref e) {s1 with heap:=h'}
theorem thrE {P:Program} {w:World} {K:PySem.W.Frag} {mg:Str→Option Value} {base:Heap} {N:List Str} {qual:Str} {scope:Scope} {f:Addr} {cd:Value} {A:Around} {outer:List Env} {s:Shared} {H:Hp} {E:XK} :
  Thr (cxOf (CXE P w) P w K mg base N qual scope f cd A outer s H E) E:=fun _ _ _ _ _ _ _ _ I hx q=>madeE I hx q
noncomputable def tRaise (C:Value) (E:XK) (t:TA):TS:=fun _ σ H=>t σ H fun vs H1=>vs.length≤sizeLine∧E C none H1
theorem q17 {X:Cx} {E:XK} {x:Str} {C:Addr} {B newId initId:String} {bm:List Value} {np cpos pos:Pos} {e:Expr} {es:List Expr} {t:TA} (hT:Thr X E) (hc:X.calm=true) (O:OwnCls x C bm newId X.mg X.base) (FB:ExcBaseFacts B newId initId bm)
  (hg:Gl X x) (ha:PA X (e::es) t) (he:starEach (e::es) X.env=(false,eval e X.env)::starEach es X.env:=by rfl) (hpl:(backTo cpos (starEach es X.env)).any (·.1)=false:=by rfl) (hd:(x == ("__debug__" : Str))=false:=by decide) :
  PS X (.Raise (some (.Call (.Name x np) (e::es) [] cpos)) none pos) (tRaise (.ref C) E t):=by
 intro pins s σ H D I h
 obtain ⟨tl,Nn,nm,q,bs,hdct,sn,sub,ab,col,dd,k0,k1,k2,k3,k5,mN,hC,hN,hni,T⟩:=O.obj
 refine wpAny_Raise_call_subT (C:=C) (nm:=nm) (q:=q) (N:=Nn) (bs:=bs) (bm:=tl) (hdct:=hdct) (sn:=sn) (sub:=sub) (ab:=ab) (col:=col) (dd:=dd) (k0:=k0) (k1:=k1) (k2:=k2) (k3:=k3) (k5:=k5)
  FB (mN:=mN) (T.hasType FB.hasBase) (I.ok.hd hc) ?_ hni (q45 I hg O.bound ⟨rfl,?_⟩ hd)
 ·rw [he]
  show (false || (backTo cpos (starEach es X.env)).any (·.1))=false
  rw [hpl];rfl
 ·have p:=ha cpos pins s σ H _ I h
  rw [he] at p ⊢
  refine Calls.evalArgs_plain (thn p fun us s1 ⟨xs,H1,I1,r,z,q⟩=>?_)
  exact ⟨rfl,by rw [← r.length];exact z,I1.bk _ _ hC,hN.keeps I1.bk,T.keeps I1.bk,fun h' a hm=>hT pins σ H1 s1 (.ref C) a us h' I1 hm q⟩
structure ExK (K:PySem.W.Frag) (D:Addr):Prop where
 get:findIn K (.ref D) "__getattribute__" = some (some (.builtin "BaseException.__getattribute__"))
 hok:findIn K (.ref D) "__getattr__" = some none
 bex:mroIn K D (.type "BaseException")=some true
 cls:(clsIn K D).isSome=true
 att:findIn K (.ref D) "__class__" = some (some (.builtin "object.__class__"))
 dsc:specialIn K (.builtin "object.__class__") "__get__" = some (some (.builtin "getset_descriptor.__get__"))
 tak:takesIn K (.builtin "object.__class__")=some true
 obj:mroIn K D (.type "object")=some true
noncomputable def OfCls (x D:Addr) (h:Heap):Prop:=∃ o,h.get? x=some o∧o.cls = .ref D
section
variable {prog:Program} {w:World} {A:Around} {E:Value→Shared→Prop} {s:Shared} {K:PySem.W.Frag} {x D:Addr}
theorem OfCls.type {M:Model} {h:Heap} (I:OfCls x D h):Looks M h (typeOf (.ref x)) (.ref D):=by
 obtain ⟨o,e,c⟩:=I
 exact c▸(Looks.ld e).andThen .now
theorem find_cls {M:Model} {h:Heap} (X:K.In h) (k:ExK K D):Looks M h (find (.ref x) (.ref D) "__class__") (.bind (.builtin "getset_descriptor.__get__") (.builtin "object.__class__")):=by
 have L1:=looks_findIn (M:=M) X k.att
 have L2:Looks M h (getOf (some (Value.builtin "object.__class__"))) (some (.builtin "getset_descriptor.__get__")):=looks_specialIn X k.dsc
 have L3:=looks_takesIn (M:=M) X k.tak
 have L4:Looks M h (dataDescriptor? (some (Value.builtin "object.__class__")) (some (.builtin "getset_descriptor.__get__"))) (some (.builtin "getset_descriptor.__get__",.builtin "object.__class__")):=L3.andThen .now
 exact L1.andThen (L2.andThen (L4.andThen (Looks.tag .now)))
theorem q5w {tp:Value} {R:Result→Shared→Prop} (X:K.In s.heap) (I:OfCls x D s.heap) (k:ExK K D) (q:R (.ok (.ret (.ref D))) s) :
  codeAny (model prog w) A (.call (.builtin "getset_descriptor.__get__") ⟨[.builtin "object.__class__",.ref x,tp],[]⟩) R s:=by
 obtain ⟨hh,g,dr,t,os⟩:=s
 have T1:=I.type (M:=model prog w)
 have T2:=looks_mroIn (M:=model prog w) X k.obj
 refine codeAny_call_builtin KF.slot_gs.plain KF.entry_gs (KF.slot_gs.check _ _ _ _ _ _ _ _ KF.type_class (KF.args_gs _ _ _) ?_)
 unfold Builtin.«getset_descriptor.__get__» descrGet
 rw [dga_obj]
 refine wpAny_bind (wpAny_pure ?_)
 unfold descrGetter descrCheckInstance descrNameAndClass isInstance
 simp only [KF.owner_class]
 repeat lk
 refine ⟨Code.quiet_builtin _ (by decide +kernel),?_⟩
 refine codeAny_builtin KF.entry_class ?_
 unfold Builtin.«object.__class__» shownTypeOf
 repeat lk
 exact q
theorem cls_entry {tk:Tok} {Q:Fin→Shared→Prop} {h:Heap} {g:Array GenState} {d:Drawn} {t:Nat} {os:OsState} (X:K.In h) (I:OfCls x D h) (k:ExK K D) (q:Q (.done (.ret (.ref D))) ⟨h,g,d,t,os⟩) :
  wpAny (model prog w) A (Builtin.«object.__getattribute__» ⟨[.ref x,.str "__class__" tk],[]⟩) Q E ⟨h,g,d,t,os⟩:=by
 have T1:=I.type (M:=model prog w)
 have T3:=find_cls (M:=model prog w) (x:=x) X k
 unfold Builtin.«object.__getattribute__»
 repeat (any_goals (first | assumption | with_reducible refine Looks.at (by assumption) ?_ | wp_step))
 refine q5w X I k ?_
 repeat (any_goals (first | assumption | wp_step))
theorem cls_check {M:Model} {v:Value} {Q:Unit→Shared→Prop} {h:Heap} {g:Array GenState} {d:Drawn} {t:Nat} {os:OsState} (X:K.In h) (I:OfCls x D h) (k:ExK K D) (q:Q () ⟨h,g,d,t,os⟩) :
  wpAny M A (checkBuiltinCall "BaseException.__getattribute__" ⟨[.ref x,v],[]⟩) Q E ⟨h,g,d,t,os⟩:=by
 have h1:builtinKind "BaseException.__getattribute__" = some .slot:=by decide +kernel
 have h2:splitId "BaseException.__getattribute__" = some ("BaseException","__getattribute__"):=by decide +kernel
 have h3:=F.args_bexc_ga (.ref x) v
 have T1:=I.type (M:=M)
 have T2:=looks_mroIn (M:=M) X k.bex
 simp only [checkBuiltinCall,h1,h2]
 refine wpAny_bind ?_
 unfold isInstance
 repeat (first | with_reducible refine Looks.at (by assumption) ?_ | wp_step)
 exact q
theorem q7k {tk:Tok} {Q:Value→Shared→Prop} {h:Heap} {g:Array GenState} {d:Drawn} {t:Nat} {os:OsState} (X:K.In h) (I:OfCls x D h) (k:ExK K D) (q:Q (.ref D) ⟨h,g,d,t,os⟩) :
  wpAny (model prog w) A (getAttrBy (.ref x) (.str "__class__" tk) false) Q E ⟨h,g,d,t,os⟩:=by
 have T1:=I.type (M:=model prog w)
 have T2:=looks_findIn (M:=model prog w) X k.get
 have T4:=looks_findIn (M:=model prog w) X k.hok
 have f3:=F.excAttr_ValueError.ga.bind (.ref x)
 have e2:(Value.builtin "BaseException.__getattribute__" == Value.builtin "object.__getattribute__")=false:=by decide +kernel
 have e1:(onTheHeap (Value.ref D) && Value.builtin "BaseException.__getattribute__" == Value.builtin "object.__getattribute__")=false:=by rw [e2];rfl
 repeat (any_goals (first | assumption | with_reducible refine Looks.at (by assumption) ?_ | wp_step))
 refine codeAny_call_builtin F.excAttr_ValueError.ga.plain F.entry_bexc_ga (cls_check X I k (cls_entry X I k ?_))
 repeat (any_goals (first | assumption | wp_step))
theorem q7l {Q:Option Value→Shared→Prop} (X:K.In s.heap) (I:OfCls x D s.heap) (k:ExK K D) (q:Q (some (.ref D)) {s with toks:=s.toks+1}):wpAny (model prog w) A (getAttr? (.ref x) "__class__") Q E s:=by
 obtain ⟨hh,g,dr,t,os⟩:=s
 unfold getAttr? getAttrBy?
 repeat (any_goals (first | assumption | with_reducible apply q7k X I k | wp_step))
theorem kit_exc (k:ExK K D):KitX K (.ref x) (.ref D) (OfCls x D) where
 ty:=fun _ _ _ I=>I.type
 it:=fun _ _ X _=>by
  obtain ⟨cd,hc⟩:=Option.isSome_iff_exists.mp k.cls
  unfold clsIn at hc
  split at hc
  ·rename_i c' d' cd' sl' ho
   intro A' Q' E' s' kk q
   unfold isType loadHead
   exact wpAny_bind (wpAny_loadPart (kk _ _ (X _ _ ho)) (wpAny_pure q))
  ·cases hc
 ne:=fun h tp dd its n sl X htp=>by
  obtain ⟨cd,hc⟩:=Option.isSome_iff_exists.mp k.cls
  refine Bool.eq_false_iff.mpr fun q=>?_
  obtain rfl:D=tp:=Value.ref.inj (beq_iff_eq.mp q)
  unfold clsIn at hc
  split at hc
  ·rename_i c' d' cd' sl' ho
   have z:=(X _ _ ho).symm.trans htp
   cases z
  ·cases hc
 ca:=fun X I q=>q7l X I k q
end
end L2
end
section
namespace L2
open PySem PySem.Spec PyProof.Rows PySem.W PySem.SeqAt PySem.Calls
noncomputable abbrev Cx.suite (X:Cx) (a:Addr) (o:Obj) (pins:List (Addr×Obj)):Cx:={X with A:=X.A.mark (some (.ref a)),calm:=false,pn:=(a,o)::(X.pn++pins),xe:=fun _ _=>False}
noncomputable abbrev Cx.tried (X:Cx) (pins:List (Addr×Obj)) (E:Value→Shared→Prop):Cx:={X with pn:=X.pn++pins,xe:=E}
section
variable {X:Cx} {pins:List (Addr×Obj)} {σ:St} {H:Hp} {s:Shared}
theorem Cx.Ok.tried {E:Value→Shared→Prop} (ok:X.Ok):(X.tried pins E).Ok :=
 ⟨ok.mod,ok.kind,ok.glob,ok.blt,ok.above,ok.inj,ok.has,ok.cab,ok.hd,ok.frames,ok.stk,ok.exf,ok.bs,ok.bsz,ok.noex,ok.exfs,ok.funs,ok.frf⟩
theorem Cx.Ok.untried {E:Value→Shared→Prop} (ok:(X.tried pins E).Ok):X.Ok :=
 ⟨ok.mod,ok.kind,ok.glob,ok.blt,ok.above,ok.inj,ok.has,ok.cab,ok.hd,ok.frames,ok.stk,ok.exf,ok.bs,ok.bsz,ok.noex,ok.exfs,ok.funs,ok.frf⟩
theorem Inv.tried {E:Value→Shared→Prop} (I:Inv X pins σ H s):Inv (X.tried pins E) [] σ H s :=
 ⟨I.ok.tried,I.os,I.bare,I.base,I.loc,I.cell,I.free,I.freeC,fun p hp=>I.pin p (by simpa using hp),I.hok,I.len⟩
theorem Inv.untried {E:Value→Shared→Prop} {ps:List (Addr×Obj)} (I:Inv (X.tried pins E) ps σ H s):Inv X pins σ H s :=
 ⟨I.ok.untried,I.os,I.bare,I.base,I.loc,I.cell,I.free,I.freeC,fun p hp=>I.pin p (List.mem_append_left _ hp),I.hok,I.len⟩
theorem Inv.suite {a:Addr} {o:Obj} (I:Inv X pins σ H s) (e:s.heap.get? a=some o) (n:H a=none) (hl:a≠X.env.locals) (hf:a∉X.fs) (hd:∀ v,o.data≠.cell v):Inv (X.suite a o pins) [] σ H s:=by
 have ok:=I.ok
 refine ⟨⟨ok.mod,ok.kind,ok.glob,ok.blt,ok.above,ok.inj,ok.has,ok.cab,fun z=>absurd z (by simp),ok.frames,ok.stk,ok.exf,ok.bs,ok.bsz,ok.noex,ok.exfs,ok.funs,ok.frf⟩,I.os,I.bare,I.base,I.loc,I.cell,I.free,I.freeC,fun p hp=>?_,I.hok,I.len⟩
 rw [List.append_nil] at hp
 rcases List.mem_cons.mp hp with rfl | hp
 ·exact ⟨e,n,hl,hf,hd⟩
 ·exact I.pin p hp
theorem Inv.unsuite {a:Addr} {o:Obj} (I:Inv (X.suite a o pins) [] σ H s) (hh:X.calm=true→X.A.handled=none):Inv X pins σ H s:=by
 have ok:=I.ok
 exact ⟨⟨ok.mod,ok.kind,ok.glob,ok.blt,ok.above,ok.inj,ok.has,ok.cab,hh,ok.frames,ok.stk,ok.exf,ok.bs,ok.bsz,ok.noex,ok.exfs,ok.funs,ok.frf⟩,I.os,I.bare,I.base,I.loc,I.cell,I.free,I.freeC,fun p hp=>I.pin p (by rw [List.append_nil];exact List.mem_cons_of_mem _ hp),I.hok,I.len⟩
theorem Inv.gone {i:Nat} {n:Str} {m:Str→Option Value} {v:Option Value} {h':Heap} {t':Nat} (I:Inv X pins σ H s) (hN:X.N.Nodup) (hi:X.N[i]?=some n) (hm:s.heap.Ns X.env.locals m)
  (hn:h'.Ns X.env.locals (fun x=>if x=n then v else m x)) (hs:Heap.SameBut X.env.locals s.heap h'):Inv X pins (σ.set i none) H {s with heap:=h',toks:=t'}:=by
 obtain ⟨m2,hn2,hl⟩:=id I.loc
 have em:m2=m:=by
  obtain ⟨o1,es1,ep1,g1,d1,_,q1⟩:=hn2
  obtain ⟨o2,es2,ep2,g2,d2,_,q2⟩:=hm
  rw [g1] at g2;cases g2
  rw [d1] at d2;cases d2
  funext y
  rw [← q1 y,← q2 y]
 subst em
 have ne:∀ b o,X.s₀.heap.get? b=some o→b≠X.env.locals:=fun b o e=>Nat.ne_of_lt (Nat.lt_of_lt_of_le (Heap.lt_size e) I.ok.above)
 refine ⟨I.ok,I.os,I.bare,⟨fun b o e n hb hx=>?_,fun b o e n hb hx=>?_,I.base.free,fun b o e hx=>?_,I.base.tups,I.base.frzs,I.base.tbls⟩,⟨_,hn,fun j y w e1 e2 e3=>?_⟩,fun y c e=>?_,I.free,I.freeC,fun p hp=>?_,fun b ob e=>?_,by simpa using I.len⟩
 ·exact (hs.2 b (ne b o e)).trans (I.base.keep b o e n hb hx)
 ·obtain ⟨sl,e1⟩:=I.base.slot b o e n hb hx
  exact ⟨sl,(hs.2 b (ne b o e)).trans e1⟩
 ·obtain ⟨o',e1⟩:=I.base.there b o e hx
  exact ⟨o',(hs.2 b (ne b o e)).trans e1⟩
 ·by_cases hj:j=i
  ·subst hj
   rw [List.getElem?_set] at e2
   simp at e2
  ·rw [List.getElem?_set_ne (Ne.symm hj)] at e2
   obtain ⟨u',r',q⟩:=hl j y w e1 e2 e3
   refine ⟨u',r',?_⟩
   rcases q with ⟨k,e⟩ | ⟨k,c,e,z⟩
   ·have hy:y≠n:=fun e=>hj (q5A hN e1 (e▸hi))
    exact .inl ⟨k,by simp [hy,e]⟩
   ·exact .inr ⟨k,c,e,z.sameBut hs (I.cne y c e)⟩
 ·obtain ⟨w',z⟩:=I.cell y c e
  exact ⟨w',z.sameBut hs (I.cne y c e)⟩
 ·obtain ⟨e,n,nl,nf,d⟩:=I.pin p hp
  exact ⟨(hs.2 p.1 nl).trans e,n,nl,nf,d⟩
 ·refine (I.hok b ob e).stay (fun c w' hc q=>(hs.2 c ?_).trans q) (fun _ q=>q) fun _ _ q=>q
  rintro rfl
  rcases hc with hc | hc
  ·rw [← hc,I.free] at e;cases e
  ·rw [I.free] at hc;cases hc
end
end L2
end
section
namespace L2
open PySem PySem.Spec PyProof.Rows PySem.W PySem.SeqAt PySem.Calls
structure DefE (P:Program) (w:World) (K:PySem.W.Frag) (mg:Str→Option Value) (base:Heap) (k:Nat) (x:Str) (ps:List Str) (sp:Sp):Prop where
 ex:∃ (f:Addr) (fd:FuncData),FnOk P w K mg base (CXE P w) k f fd ps sp∧Binds K fd ps []∧PySem.W.keepIn K (.ref f)=true∧mg x=some (.ref f)
theorem DefE.mono {P:Program} {w:World} {K:PySem.W.Frag} {mg:Str→Option Value} {base:Heap} {j k:Nat} {x:Str} {ps:List Str} {sp:Sp} (D:DefE P w K mg base j x ps sp) (h:j≤k):DefE P w K mg base k x ps sp:=by
 obtain ⟨f,fd,F,b,kp,m⟩:=D.ex
 exact ⟨f,fd,F.mono h,b,kp,m⟩
theorem qe {X:Cx} {k:Nat} {x:Str} {ps:List Str} {sp:Sp} {E:XK} {p pos:Pos} {e:Expr} {es:List Expr} {t:TA} (D:DefE X.prog X.w X.K X.mg X.base k x ps sp) (hr:Room k X.A) (hg:Gl X x) (hx:q1p (CXE X.prog X.w) X E) (ha:PA X (e::es) t)
  (hdb:(x == ("__debug__" : Str))=false:=by decide) (he:starEach (e::es) X.env=(false,eval e X.env)::starEach es X.env:=by rfl) (hpl:(backTo pos (starEach es X.env)).any (·.1)=false:=by rfl):PE X (.Call (.Name x p) (e::es) [] pos) (tCall sp [] E t):=by
 obtain ⟨f,fd,F,b,kp,m⟩:=D.ex
 exact pe_call F hr hg m kp b .nil hx ha hdb he hpl
section
variable {P:Program} {w:World} {K:PySem.W.Frag} {mg:Str→Option Value} {base:Heap} {k:Nat} {f:Addr} {fd:FuncData} {ps:List Str}
theorem Fun.okE {x qual:Str} {st:Stmt} {N:List Str} {sp:Sp} (F:Fun K x qual st f fd) (S:FnScope N ps (qH st)) (len:∀ vs H Q E,sp vs H Q E→vs.length=ps.length)
  (hbody:∀ (cdv:Value) (A:Around) (outer:List Env) (s:Shared) (H:Hp) (vs:List V) (Q:VK) (E:XK),Room k (A.deeper (envOfC qual (qH st) s.heap.objs.size f cdv))→sp vs H Q E →
   ∃ t,PSs (cxOf (CXE P w) P w K mg base N qual (qH st) f cdv A outer s H E) (q0t st) t∧t {nx:=fun _ H'=>Q .non H',rt:=Q} (q4p N vs) H):FnOk P w K mg base (CXE P w) (k+1) f fd ps sp:=by
 obtain ⟨oc,od,kV,doc,pm,an,cdv,ct,osl,rfl,lk,hcd⟩:=F.ex
 exact fn_of lk hcd S len fun A outer s H vs Q E hr hsp=>hbody cdv A outer s H vs Q E hr hsp
theorem FnOk.toE {sp:Sp} (F:FnOk P w K mg base CX0 k f fd ps sp):FnOk P w K mg base (CXE P w) k f fd ps sp :=
 ⟨F.len,fun A outer s H args us vs Q E hr he hb hv hs=>codeAny_mono (F.run A outer s H args us vs Q E hr he hb hv hs) fun r s' q=>by
  cases r with
  | error e=>exact False.elim q
  | ok fl=>cases fl with
   | ret u=>exact q
   | next=>exact q
   | brk=>exact q
   | cont=>exact q⟩
theorem FnOk.two {CX:CXT} {sp sp':Sp} (F:FnOk P w K mg base CX k f fd ps sp) (G:FnOk P w K mg base CX k f fd ps sp'):FnOk P w K mg base CX k f fd ps (fun vs H Q E=>sp vs H Q E∨sp' vs H Q E) :=
 ⟨fun vs H Q E h=>h.elim (F.len vs H Q E) (G.len vs H Q E),fun A outer s H args us vs Q E hr he hb hv hs=>hs.elim (F.run A outer s H args us vs Q E hr he hb hv) (G.run A outer s H args us vs Q E hr he hb hv)⟩
end
noncomputable def bmV:List Value:=[.type "ValueError",.type "Exception",.type "BaseException",.type "object"]
theorem q4Z {K:PySem.W.Frag} {h:Heap} {mg:Str→Option Value} {x:Str} {C:Addr} {bmB:List Value} {newId:String} (X:K.In h) (hm:mg x=some (.ref C)) (q:excIn K C bmB newId=true):OwnCls x C bmB newId mg h:=by
 refine ⟨hm,?_⟩
 unfold excIn at q
 split at q
 ·rename_i dd cd sl ho
  split at q
  ·rename_i C' bm k0 k1 k2 k3 n k5 hm hs
   simp only [Bool.and_eq_true,beq_iff_eq,Bool.not_eq_true'] at q
   obtain ⟨⟨⟨⟨⟨rfl,rfl⟩,hdel⟩,ht⟩,hok⟩,hni⟩:=q
   obtain ⟨nm,bs,mro,ns,qn,hd,sn,sub,ab,col,del⟩:=cd
   dsimp only at hm hdel hok hni
   subst hm hdel
   obtain ⟨l⟩:=sl
   simp only at hs
   subst hs
   exact ⟨bm,ns,nm,qn,bs,hd,sn,sub,ab,col,dd,k0,k1,k2,k3,k5,_,X _ _ ho,.of_isNs (isNs_of_in X hok),nsMap_none_of_in X hok hni,tail_of_in X ht⟩
  ·cases q
 ·cases q
structure Errs (mg:Str→Option Value) (T c1 c2 c3 c4 c5 c6 c7 c8:Addr):Prop where
 top:mg "TopError" = some (.ref T)
 n1:mg "NoStretch" = some (.ref c1)
 n2:mg "NoLength" = some (.ref c2)
 n3:mg "NoCount" = some (.ref c3)
 n4:mg "NoPlace" = some (.ref c4)
 n5:mg "NoText" = some (.ref c5)
 n6:mg "NoShape" = some (.ref c6)
 n7:mg "NoneYet" = some (.ref c7)
 n8:mg "NoRound" = some (.ref c8)
 val:mg "ValueError" = none
structure Fault (K:PySem.W.Frag) (T c1 c2 c3 c4 c5 c6 c7 c8 C:Addr) (b1 b2 b3 b4 b5 b6 b7 b8:Bool):Prop where
 exm:PySem.W.exmOne K (.ref C) (.ref T)=some true
 k1:PySem.W.kitOne K (.ref C) (.ref c1)=some b1
 k2:PySem.W.kitOne K (.ref C) (.ref c2)=some b2
 k3:PySem.W.kitOne K (.ref C) (.ref c3)=some b3
 k4:PySem.W.kitOne K (.ref C) (.ref c4)=some b4
 k5:PySem.W.kitOne K (.ref C) (.ref c5)=some b5
 k6:PySem.W.kitOne K (.ref C) (.ref c6)=some b6
 k7:PySem.W.kitOne K (.ref C) (.ref c7)=some b7
 k8:PySem.W.kitOne K (.ref C) (.ref c8)=some b8
 kv:PySem.W.kitOne K (.ref C) (.type "ValueError")=some true
 exk:ExK K C
theorem q1Q {X:Cx} {K:PySem.W.Frag} {o e:Expr} {es:List Expr} {to:TE} {t:TA} {name:Str} {apos cpos:Pos} {T id:String} {r:V→List V→Hp→VK→Prop} (hK:X.K=K) (pa:PlainAttrs T) (slot:Slot T name id) (hty:typeOf (.builtin id)=pure (.type "method_descriptor")) (hm:MtR X id r) (ho:PE X o to) (ha:PA X (e::es) t)
  (hbase:attributeBase o name X.env (eval o X.env)=eval o X.env:=by rfl)
  (hfew:((backTo cpos (starEach (e::es) X.env)).all (fun x=>!x.1) && (backToKw cpos (keywordEach [] X.env)).all (fun x=>x.1.isSome) && decide ((e::es).length+([]:List Keyword).length+(if ([]:List Keyword).isEmpty then 0 else 1) < 30))=true:=by rfl)
  (hline:(apos.endLine == cpos.line)=true:=by rfl) (hs:starEach (e::es) X.env=(false,eval e X.env)::starEach es X.env:=by rfl) (hplain:(backTo cpos (starEach es X.env)).any (·.1)=false:=by rfl) :
  PE X (.Call (.Attribute o name apos) (e::es) [] cpos) (tBM K T r to t):=hK▸q7P pa slot hty hm ho ha hbase hfew hline hs hplain
theorem boot_VE:bootBuiltins "ValueError" = some (.type "ValueError"):=by boot_by_name
end L2
end
section
namespace L2
open PySem PySem.Spec PyProof.Rows PySem.W PySem.SeqAt PySem.Calls
section
variable {X:Cx}
end
end L2
end
section
namespace L2
open PySem PySem.Spec PyProof.Rows PySem.W PySem.SeqAt
theorem q7o (a b c:Value):argsOk "min" ⟨[a,b],[(Str.ofString "key",c)]⟩:=by unfold argsOk;kernel_rfl
section
variable {X:Cx} {k:Nat} {f:Addr} {fd:FuncData} {ps:List Str} {sp:Sp} {pins:List (Addr×Obj)} {σ:St}
theorem key_run {H:Hp} {s:Shared} {Q:VK} {x:V} {u:Value} {E':Value→Shared→Prop} (F:FnOk X.prog X.w X.K X.mg X.base CX0 k f fd ps sp) (hr:Room (k+1) X.A) (hb:Binds X.K fd ps []) (I:Inv X pins σ H s) (r:RelV x u) (h:sp [x] H Q E0) :
  wpAny (model X.prog X.w) X.A.in1 (call (.ref f) [u]) (EP X pins σ Q) E' s:=by
 have r2:Vals [x] [u]:=.cons r .nil
 have hl:[u].length=ps.length:=by rw [← r2.length];exact F.len _ _ _ _ h
 refine wpAny_call (codeAny_mono (F.run X.A.in1 X.stack s H ⟨[u],[]⟩ [u] [x] Q E0 hr.in1 I.env0.in1 (by have:=hb s [u] I.kIn (by simpa using hl);simpa using this) r2 h) fun r s' hq=>?_)
 cases r with
 | error e=>exact False.elim hq
 | ok fl =>
  cases fl with
  | ret u=>exact I.after hq
  | next=>exact False.elim hq
  | brk=>exact False.elim hq
  | cont=>exact False.elim hq
theorem key_pin {H:Hp} {s:Shared} {Q:VK} {x:V} {u:Value} {E':Value→Shared→Prop} {fp:List Addr} (F:FnOk X.prog X.w X.K X.mg X.base CX0 k f fd ps sp) (hr:Room (k+1) X.A) (hb:Binds X.K fd ps []) (I:Inv X pins σ H s) (r:RelV x u) (h:sp [x] H Q E0)
  (hf:∀ b∈fp,FpOk X pins H b) (ho:∀ b∈fp,∃ o,s.heap.get? b=some o∧∀ v,o.data≠.cell v) :
  wpAny (model X.prog X.w) X.A.in1 (call (.ref f) [u]) (fun u1 s2=>∃ v H2,Inv X pins σ H2 s2∧RelV v u1∧Q v H2∧∀ b∈fp,H2 b=none∧∀ o,s.heap.get? b=some o→s2.heap.get? b=some o) E' s:=by
 have I2:=I.pinned hf ho
 refine thn (key_run (E':=E') F hr hb I2 r h) fun u1 s2 ⟨v,H2,J,rv,q⟩=>⟨v,H2,J.unpinned,rv,q,fun b hb=>?_⟩
 have z:∀ o,s.heap.get? b=some o→s2.heap.get? b=some o∧H2 b=none:=fun o e=>by
  have w:=J.pin (b,o) (List.mem_append_right _ (List.mem_append_right _ (q1S hb e)))
  exact ⟨w.1,w.2.1⟩
 obtain ⟨o,e,_⟩:=ho b hb
 exact ⟨(z o e).2,fun o e=>(z o e).1⟩
theorem Inv.turned2 {H:Hp} {s:Shared} {h':Heap} {t':Nat} {a b:Addr} (I:Inv X pins σ H s) (k:∀ c o,c≠a→c≠b→s.heap.get? c=some o→h'.get? c=some o) (fa:FpOk X pins H a) (fb:FpOk X pins H b):Inv X pins σ H {s with heap:=h',toks:=t'}:=by
 have na:∀ c u,H c=some u→c≠a:=fun c u e z=>by rw [z,fa.1] at e;cases e
 have nb:∀ c u,H c=some u→c≠b:=fun c u e z=>by rw [z,fb.1] at e;cases e
 have kk:∀ c o,c∉[a,b]→s.heap.get? c=some o→h'.get? c=some o:=fun c o hc e=>k c o (fun z=>hc (by simp [z])) (fun z=>hc (by simp [z])) e
 refine I.step (g':=s.gens) (d':=s.drawn) (ch:=[a,b]) (fun c hc=>?_) (fun c o _ _ hc e _=>kk c o hc e) (fun c o _ _ hc e _=>⟨o.slots,kk c o hc e⟩) (fun _ _ _ _ n=>n)
  (fun c o hc e=>⟨o,kk c o hc e⟩) (fun _ _ e=>e) (fun _ _ _ e=>e) (fun c ps e=>⟨#[],by rw [e];simp⟩) (fun m hm=>?_) (fun c u e=>?_) I.bare
 ·simp only [List.mem_cons,List.not_mem_nil,or_false] at hc
  rcases hc with rfl | rfl
  ·exact ⟨fa.2.2.2.1,fa.2.1,fa.2.2.2.2.1,fa.2.2.2.2.2⟩
  ·exact ⟨fb.2.2.2.1,fb.2.1,fb.2.2.2.2.1,fb.2.2.2.2.2⟩
 ·obtain ⟨o,es,ep,ho,r⟩:=hm
  exact ⟨o,es,ep,k _ o (Ne.symm fa.2.1) (Ne.symm fb.2.1) ho,r⟩
 ·refine (I.hok c u e).stay (fun d v hd q=>?_) (fun _ q=>q) fun _ _ q=>q
  rcases hd with z | z
  ·exact k d v (by rw [z];exact na c u e) (by rw [z];exact nb c u e) q
  ·exact k d v (na d _ z) (nb d _ z) q
theorem min_end {R:Result→Shared→Prop} {h:Heap} {tk:Nat} {s:Shared} {T it S:Addr} {ux uy vb kb:Value} {q:Value} {c:Nat} (hh:X.A.handled=none) (hne:T≠it) (hS:S≠it)
  (hi:h.IsTupleIter it T 2) (hT:h.IsTuple T #[ux,uy]) (gS:h.get? S=some (seqObj "list" #[vb,kb] c))
  (hR:∀ h' tk',(∀ b o,b≠it→b≠S→h.get? b=some o→h'.get? b=some o)→R (.ok (.ret vb)) {s with heap:=h',toks:=tk'}) :
  codeAny (model X.prog X.w) X.A (.builtin "min.loop" ⟨[.ref it,q,.ref S],[]⟩) R {s with heap:=h,toks:=tk}:=by
 have W:=Walks.tuple (prog:=X.prog) (w:=X.w) (A:=X.A.in1) hh it T hne #[ux,uy]
 refine codeAny_builtin PySem.F.entry_min_loop ?_
 rw [Around.under_plainId PySem.F.plain_min_loop _]
 show wpAny _ X.A.in1 (seqItems? (.ref S) >>= _) _ _ _
 refine wpAny_bind (wpAny_seqItems gS rfl ?_)
 show wpAny _ X.A.in1 (tryCatch (pyNext (.ref it)) _ >>= _) _ _ _
 refine wpAny_bind (wpAny_tryCatch (W.done _ _ _ ⟨hi,hT⟩ fun h' tk' hk'=>?_))
 have hS':=hk' S _ (by simpa using hS) gS
 have s1:=Heap.SameBut.update h' S (Obj.mapSeq fun _=>(#[]:Array Value))
 show wpAny _ X.A.in1 (updateSeq S (fun _=>#[]) >>= _) _ _ _
 refine wpAny_bind ?_
 refine wpAny_updateSeq hS' rfl (wpAny_bind (wpAny_letGo (wpAny_pure ?_)))
 exact hR _ _ fun b o h1 h2 e=>(s1.2 b h2).trans (hk' b o (by simpa using h1) e)
theorem min_key {H:Hp} {s:Shared} {Q:VK} {x y:V} {ux uy:Value} (F:FnOk X.prog X.w X.K X.mg X.base CX0 k f fd ps sp) (hr:Room (k+1) X.A) (hb:Binds X.K fd ps []) (I:Inv X pins σ H s) (rx:RelV x ux) (ry:RelV y uy)
  (h:sp [x] H (fun v1 H2=>sp [y] H2 (fun v2 H3=>∃ a b ns ms,v1 = .ref a∧v2 = .ref b∧SqT X.K H3 a (ns.map V.int)∧SqT X.K H3 b (ms.map V.int)∧Q (if HT.lexLt ms ns=true then y else x) H3) E0) E0) :
  wpAny (model X.prog X.w) X.A (call (.builtin "min") [ux,uy] [(Str.ofString "key",.ref f)]) (EP X pins σ Q) X.xe s:=by
 have hname:(toString "min"++toString ".loop" : String) = "min.loop":=by decide
 have hh:X.A.handled=none:=hr.hd
 refine kmk_tree PySem.F.kind_min PySem.F.plain_min PySem.F.entry_min (q7o _ _ _) ?_
 show wpAny _ X.A.in1 (Builtin.Builtins.bindParams "min" ["key","default"] 0 ⟨[],[(Str.ofString "key",.ref f)]⟩ >>= _) _ _ s
 refine wpAny_bind (wpAny_of_eq (show Builtin.Builtins.bindParams "min" ["key","default"] 0 ⟨[],[(Str.ofString "key",.ref f)]⟩=pure [some (.ref f),none] from rfl) ?_)
 show wpAny _ X.A.in1 (newTuple [ux,uy] >>= _) _ _ s
 refine wpAny_bind (wpAny_newObj_type ?_)
 obtain ⟨n,en⟩:∃ n,n=s.heap.objs.size:=⟨_,rfl⟩
 rw [← en]
 have sT:(s.heap.push {cls:=.type "tuple",data:=.seq #[ux,uy]}).objs.size=n+1:=by rw [en];exact Heap.size_push ..
 have hT0:(s.heap.push {cls:=.type "tuple",data:=.seq #[ux,uy]}).IsTuple n #[ux,uy]:=⟨_,by rw [en];exact Heap.get?_push_size _ rfl,rfl,0,rfl⟩
 refine wpAny_bind (wpAny_pyIter_tuple hT0 ?_)
 refine wpAny_bind (wpAny_newList ?_ (Nat.zero_le _))
 dsimp only
 obtain ⟨hI,ehI⟩:∃ z,z=(s.heap.push {cls:=.type "tuple",data:=.seq #[ux,uy]}).push {cls:=.type "tuple_iterator",data:=.fields #[.ref n,.int 0 0]}:=⟨_,rfl⟩
 rw [sT,← ehI]
 have sI:hI.objs.size=n+2:=by rw [ehI,Heap.size_push,sT]
 obtain ⟨hA,ehA⟩:∃ z,z=hI.push (seqObj "list" #[] 0):=⟨_,rfl⟩
 have eA:hI.push {cls:=.type "list",data:=.seq (List.toArray ([]:List Value))}=hA:=ehA.symm
 rw [eA,sI,hname]
 have kA:∀ b o,s.heap.get? b=some o→hA.get? b=some o:=fun b o e=>by rw [ehA,ehI];exact Heap.get?_push_of_some _ (Heap.get?_push_of_some _ (Heap.get?_push_of_some _ e))
 have gS:hA.get? (n+2)=some (seqObj "list" #[] 0):=by rw [ehA,← sI];exact Heap.get?_push_size _ rfl
 have gI:hA.IsTupleIter (n+1) n 0:=⟨_,by rw [ehA,ehI,← sT];exact Heap.get?_push_of_some _ (Heap.get?_push_size _ rfl),rfl,rfl⟩
 have gT:hA.IsTuple n #[ux,uy]:=⟨_,by rw [ehA,ehI,en];exact Heap.get?_push_of_some _ (Heap.get?_push_of_some _ (Heap.get?_push_size _ rfl)),rfl,0,rfl⟩
 have fpk:∀ (H':Hp) b,n≤b→H' b=none→FpOk X pins H' b:=fun H' b hb hn=>I.fpOk (by rw [← en];exact hb) hn
 have fr:∀ b,n≤b→H b=none:=fun b hb=>I.hok.fresh (by rw [← en];exact hb)
 have I0:Inv X pins σ H {s with heap:=hA}:=I.kept (t':=s.toks) kA
 have W:=Walks.tuple (prog:=X.prog) (w:=X.w) (A:=X.A.in1) hh (n+1) n (Nat.ne_of_lt (Nat.lt_succ_self n)) #[ux,uy]
 have tn:∀ {H':Hp} {s':Shared} {h':Heap} {t':Nat} (b:Addr),Inv X pins σ H' s'→n≤b→H' b=none→(∀ c o,c≠b→s'.heap.get? c=some o→h'.get? c=some o)→Inv X pins σ H' {s' with heap:=h',toks:=t'}:=fun {H' s' h' t'} b J hb hn hk=>by
  obtain ⟨f0,f1,f2,f3,f4,f5⟩:=fpk H' b hb hn
  exact J.turned hk f0 f1 f3 f4 f5
 have tn2:∀ {H':Hp} {s':Shared} {h':Heap} {t':Nat},Inv X pins σ H' s'→(∀ b∈[n,n+1,n+2],H' b=none)→(∀ c o,c≠n+1→c≠n+2→s'.heap.get? c=some o→h'.get? c=some o)→Inv X pins σ H' {s' with heap:=h',toks:=t'}:=fun {H' s' h' t'} J hn hk =>
  J.turned2 (a:=n+1) (b:=n+2) hk (fpk H' _ (Nat.le_succ n) (hn _ (by simp))) (fpk H' _ (Nat.le_add_right n 2) (hn _ (by simp)))
 refine wpAny_pure ⟨plainId_quiet PySem.F.plain_min_loop _,?_⟩
 refine codeAny_builtin PySem.F.entry_min_loop ?_
 rw [Around.under_plainId PySem.F.plain_min_loop _]
 show wpAny _ X.A.in1 (seqItems? (.ref (n+2)) >>= _) _ _ _
 refine wpAny_bind (wpAny_seqItems gS rfl ?_)
 show wpAny _ X.A.in1 (tryCatch (pyNext (.ref (n+1))) _ >>= _) _ _ _
 refine wpAny_bind (wpAny_tryCatch (W.item 0 _ _ _ (by simp) ⟨gI,gT⟩ fun v h1 tk1 hP hst1 hk1=>?_))
 have hv:v=ux:=by simpa using hP.symm
 subst hv
 have I1:Inv X pins σ H {s with heap:=h1,toks:=tk1}:=tn (s':={s with heap:=hA}) (n+1) I0 (by omega) (fr _ (by omega)) fun c o hc e=>hk1 c o (by simpa using hc) e
 have gS1:=hk1 (n+2) _ (by simp) gS
 obtain ⟨oI1,goI1,coI1,doI1⟩:=id hst1.1
 obtain ⟨oT1,goT1,coT1,nT1,doT1⟩:=id hst1.2
 have ncell:∀ {h':Heap} {c:Nat} {its:Array Value} {i:Nat},h'.get? (n+2)=some (seqObj "list" its c)→h'.IsTupleIter (n+1) n i→h'.IsTuple n #[v,uy]→∀ b∈[n,n+1,n+2],∃ o,h'.get? b=some o∧∀ z,o.data≠.cell z:=fun {h' c its i} a1 a2 a3 b hb=>by
  simp only [List.mem_cons,List.not_mem_nil,or_false] at hb
  rcases hb with rfl | rfl | rfl
  ·obtain ⟨o,e,_,_,d⟩:=a3;exact ⟨o,e,fun z w=>by rw [d] at w;cases w⟩
  ·obtain ⟨o,e,_,d⟩:=a2;exact ⟨o,e,fun z w=>by rw [d] at w;cases w⟩
  ·exact ⟨_,a1,fun z w=>by cases w⟩
 have ge:∀ b∈[n,n+1,n+2],n≤b:=fun b hb=>by
  simp only [List.mem_cons,List.not_mem_nil,or_false] at hb
  omega
 show wpAny _ X.A.in1 (tryCatch (holding [v] (call (.ref f) [v])) _ >>= _) _ _ _
 refine wpAny_bind (wpAny_tryCatch (wpAny_holding (wpAny_mono (key_pin (fp:=[n,n+1,n+2]) (E':=fun _ _=>False) F hr hb I1 rx h (fun b hb=>fpk H b (ge b hb) (fr b (ge b hb))) (ncell gS1 hst1.1 hst1.2)) (fun k1 s2 he=>?_) fun _ _ hF=>hF.elim)))
 obtain ⟨v1,H2,I2,r1,q1,p2⟩:=he
 have gS2:=(p2 (n+2) (by simp)).2 _ gS1
 have gI2:s2.heap.IsTupleIter (n+1) n 1:=⟨oI1,(p2 (n+1) (by simp)).2 _ goI1,coI1,doI1⟩
 have gT2:s2.heap.IsTuple n #[v,uy]:=⟨oT1,(p2 n (by simp)).2 _ goT1,coT1,nT1,doT1⟩
 have fr2:∀ b∈[n,n+1,n+2],H2 b=none:=fun b hb=>(p2 b hb).1
 have s1':=Heap.SameBut.update s2.heap (n+2) (Obj.mapSeq fun _=>#[v,k1])
 obtain ⟨c2,hc2⟩:∃ c2,(s2.heap.update (n+2) (Obj.mapSeq fun _=>#[v,k1])).get? (n+2)=some (seqObj "list" #[v,k1] c2):=⟨_,get?_update_seq gS2 fun _=>#[v,k1]⟩
 show wpAny _ X.A.in1 (updateSeq (n+2) (fun _=>#[v,k1]) >>= _) _ _ _
 refine wpAny_bind ?_
 refine wpAny_updateSeq gS2 rfl ?_
 rw [hname]
 obtain ⟨h3,eh3⟩:∃ z,z=s2.heap.update (n+2) (Obj.mapSeq fun _=>#[v,k1]):=⟨_,rfl⟩
 rw [← eh3] at hc2 s1' ⊢
 have k3:∀ c o,c≠n+2→s2.heap.get? c=some o→h3.get? c=some o:=fun c o hc e=>(s1'.2 c hc).trans e
 have I3:Inv X pins σ H2 {s2 with heap:=h3}:=tn (t':=s2.toks) (n+2) I2 (by omega) (fr2 _ (by simp)) k3
 have gI3:h3.IsTupleIter (n+1) n 1:=by obtain ⟨o,e,r⟩:=gI2;exact ⟨o,k3 _ _ (by omega) e,r⟩
 have gT3:h3.IsTuple n #[v,uy]:=by obtain ⟨o,e,r⟩:=gT2;exact ⟨o,k3 _ _ (by omega) e,r⟩
 refine wpAny_pure ⟨plainId_quiet PySem.F.plain_min_loop _,?_⟩
 refine codeAny_builtin PySem.F.entry_min_loop ?_
 rw [Around.under_plainId PySem.F.plain_min_loop _]
 show wpAny _ X.A.in1 (seqItems? (.ref (n+2)) >>= _) _ _ _
 refine wpAny_bind (wpAny_seqItems hc2 rfl ?_)
 show wpAny _ X.A.in1 (tryCatch (pyNext (.ref (n+1))) _ >>= _) _ _ _
 refine wpAny_bind (wpAny_tryCatch (W.item 1 _ _ _ (by simp) ⟨gI3,gT3⟩ fun v' h4 tk4 hP4 hst4 hk4=>?_))
 have hv':v'=uy:=by simpa using hP4.symm
 subst hv'
 have I4:Inv X pins σ H2 {s2 with heap:=h4,toks:=tk4}:=tn (s':={s2 with heap:=h3}) (n+1) I3 (by omega) (fr2 _ (by simp)) fun c o hc e=>hk4 c o (by simpa using hc) e
 have gS4:=hk4 (n+2) _ (by simp) hc2
 obtain ⟨oI4,goI4,coI4,doI4⟩:=id hst4.1
 obtain ⟨oT4,goT4,coT4,nT4,doT4⟩:=id hst4.2
 show wpAny _ X.A.in1 (tryCatch (holding [v'] (call (.ref f) [v'])) _ >>= _) _ _ _
 refine wpAny_bind (wpAny_tryCatch (wpAny_holding (wpAny_mono (key_pin (fp:=[n,n+1,n+2]) (E':=fun _ _=>False) F hr hb I4 ry q1 (fun b hb=>fpk H2 b (ge b hb) (fr2 b hb)) (ncell gS4 hst4.1 hst4.2)) (fun k2 s5 he=>?_) fun _ _ hF=>hF.elim)))
 obtain ⟨v2,H5,I5,r2,⟨a,b,ns,ms,e1,e2,hq1,hq2,q⟩,p5⟩:=he
 subst e1 e2
 obtain rfl:k1 = .ref a:=r1
 obtain rfl:k2 = .ref b:=r2
 have gS5:=(p5 (n+2) (by simp)).2 _ gS4
 have gI5:s5.heap.IsTupleIter (n+1) n 2:=⟨oI4,(p5 (n+1) (by simp)).2 _ goI4,coI4,doI4⟩
 have gT5:s5.heap.IsTuple n #[v,v']:=⟨oT4,(p5 n (by simp)).2 _ goT4,coT4,nT4,doT4⟩
 have fr5:∀ b∈[n,n+1,n+2],H5 b=none:=fun b hb=>(p5 b hb).1
 obtain ⟨ia,ra,pa,_⟩:=I5.tuple hq1
 obtain ⟨ib,rb,pb,_⟩:=I5.tuple hq2
 show wpAny _ X.A.in1 (tryCatch (holding [v',.ref b] (richCompare .Lt (.ref b) (.ref a) >>= _)) _ >>= _) _ _ _
 refine wpAny_bind (wpAny_tryCatch (wpAny_holding (wpAny_bind ?_)))
 refine HT.lt_tupInts (A:=X.A.in1) (ns:=ms) (ms:=ns) (Q:=_) pb pa (q38 rb) (q38 ra) (by have:=hr.in1.un;omega) ?_
 refine wpAny_bind (wpAny_holding (wpAny_truthy_bool ?_))
 refine wpAny_bind (wpAny_letGo (wpAny_pure ?_))
 cases hlt:HT.lexLt ms ns with
 | true =>
  rw [hlt,if_pos rfl] at q
  simp only [if_true]
  have s6:=Heap.SameBut.update s5.heap (n+2) (Obj.mapSeq fun _=>#[v',.ref b])
  obtain ⟨c6,hc6⟩:∃ c6,(s5.heap.update (n+2) (Obj.mapSeq fun _=>#[v',.ref b])).get? (n+2)=some (seqObj "list" #[v',.ref b] c6):=⟨_,get?_update_seq gS5 fun _=>#[v',.ref b]⟩
  refine wpAny_bind ?_
  refine wpAny_updateSeq gS5 rfl (wpAny_bind (wpAny_letGo ?_))
  rw [hname]
  obtain ⟨h6,eh6⟩:∃ z,z=s5.heap.update (n+2) (Obj.mapSeq fun _=>#[v',.ref b]):=⟨_,rfl⟩
  rw [← eh6] at hc6 s6 ⊢
  have k6:∀ c o,c≠n+2→s5.heap.get? c=some o→h6.get? c=some o:=fun c o hc e=>(s6.2 c hc).trans e
  have I6:Inv X pins σ H5 {s5 with heap:=h6}:=tn (t':=s5.toks) (n+2) I5 (by omega) (fr5 _ (by simp)) k6
  have gI6:h6.IsTupleIter (n+1) n 2:=by obtain ⟨o,e,r⟩:=gI5;exact ⟨o,k6 _ _ (by omega) e,r⟩
  have gT6:h6.IsTuple n #[v,v']:=by obtain ⟨o,e,r⟩:=gT5;exact ⟨o,k6 _ _ (by omega) e,r⟩
  refine wpAny_pure ⟨plainId_quiet PySem.F.plain_min_loop _,min_end (s:=s5) (tk:=s5.toks) (T:=n) (it:=n+1) (S:=n+2) hh (Nat.ne_of_lt (Nat.lt_succ_self n)) (Nat.ne_of_gt (Nat.lt_succ_self (n+1))) gI6 gT6 hc6 fun h' tk' hk'=>?_⟩
  exact ⟨y,H5,tn2 (s':={s5 with heap:=h6}) I6 fr5 hk',ry,q⟩
 | false =>
  rw [hlt,if_neg (by decide)] at q
  simp only [Bool.false_eq_true,if_false]
  refine wpAny_bind (wpAny_letGo ?_)
  rw [hname]
  refine wpAny_pure ⟨plainId_quiet PySem.F.plain_min_loop _,min_end (s:=s5) (tk:=s5.toks) (T:=n) (it:=n+1) (S:=n+2) hh (Nat.ne_of_lt (Nat.lt_succ_self n)) (Nat.ne_of_gt (Nat.lt_succ_self (n+1))) gI5 gT5 gS5 fun h' tk' hk'=>?_⟩
  exact ⟨x,H5,tn2 I5 fr5 hk',rx,q⟩
noncomputable def tMinK (K:PySem.W.Frag) (sp:Sp) (t:TA):TE:=fun σ H Q=>t σ H fun vs H1=>∃ x y,vs=[x,y]∧sp [x] H1 (fun v1 H2=>sp [y] H2 (fun v2 H3=>∃ a b ns ms,v1 = .ref a∧v2 = .ref b∧SqT K H3 a (ns.map V.int)∧SqT K H3 b (ms.map V.int)∧Q (if HT.lexLt ms ns=true then y else x) H3) E0) E0
theorem pe_minK {g:Str} {ps':List Str} {a b:Expr} {t:TA} {p p2 pos kpos:Pos} (D:Def X.prog X.w X.K X.mg X.base k g ps' sp) (hr:Room (k+1) X.A) (hg:Gl X "min") (hm:X.mg "min" = none) (hgg:Gl X g) (ha:PA X [a,b] t)
  (hdb:(g == ("__debug__" : Str))=false:=by decide)
  (he:backTo pos (starEach [a,b] X.env)=(false,eval a X.env)::backTo pos (starEach [b] X.env):=by rfl)
  (hplain:(backTo pos (starEach [a,b] X.env)).any (·.1)=false:=by rfl)
  (hall:(backToKw pos (keywordEach [⟨some "key",.Name g p2,kpos⟩] X.env)).all (·.1.isSome)=true:=by rfl)
  (hkw:(backToKw pos (keywordEach [⟨some "key",.Name g p2,kpos⟩] X.env)).any (·.1.isNone)=false:=by rfl) :
  PE X (.Call (.Name "min" p) [a,b] [⟨some "key",.Name g p2,kpos⟩] pos) (tMinK X.K sp t):=by
 obtain ⟨f,fd,F,bi,kp,m⟩:=D.ex
 intro pins s σ H Q I h
 refine wpAny_Call_Name_kw (q3H I hg hm PyProof.Rows.boot_min ?_)
 refine PyProof.Rows.callWith_kw (thn (ha pos pins s σ H _ I h) fun us s1 ⟨vs,H1,I1,r,q⟩=>?_) he hplain hall hkw
 obtain ⟨x,y,rfl,q⟩:=q
 obtain ⟨ux,uy,rfl,rx,ry⟩:=vals2 r
 refine thn (pk_cons (q0c (v:=.ref f) hgg m rfl hdb) pk_nil pos pins s1 σ H1 _ I1 (show tCons (tC (.ref f)) tNil σ H1 (fun zs H2=>zs=[.ref f]∧H2=H1) from ⟨rfl,rfl⟩)) fun ws s2 ⟨zs,H2,I2,rz,ez,eh⟩=>?_
 subst ez eh
 obtain ⟨w,rfl,rw'⟩:=q2T rz
 obtain rfl:w = .ref f:=rw'
 exact min_key F hr bi I2 rx ry q
end
end L2
end
section
namespace L2
open PySem PySem.Spec PyProof.Rows PySem.W PySem.SeqAt PySem.Calls
noncomputable def okV:V→Bool
 | .non=>true
 | .bl _=>true
 | .int _=>true
 | .str _=>true
 | .ref _=>true
 | _=>false
inductive Like (K:PySem.W.Frag) (H:Hp):Nat→V→V→Prop
 | same {n:Nat} {x:V} (ok:okV x=true):Like K H n x x
 | tup {n:Nat} {a b:Addr} {xs ys:List V} (ha:SqT K H a xs) (hb:SqT K H b ys) (hl:xs.length=ys.length) (h:∀ (j:Nat) x y,xs[j]?=some x→ys[j]?=some y→Like K H n x y):Like K H (n+1) (.ref a) (.ref b)
 | lst {n:Nat} {a b:Addr} {xs ys:List V} (ha:SqL K H a xs) (hb:SqL K H b ys) (hl:xs.length=ys.length) (h:∀ (j:Nat) x y,xs[j]?=some x→ys[j]?=some y→Like K H n x y):Like K H (n+1) (.ref a) (.ref b)
section
variable {X:Cx}
theorem qW {x:Str} {n:Int} {pos:Pos} (hg:Gl X x) (hm:∃ t,X.mg x=some (.int n t)) (hd:(x == ("__debug__" : Str))=false:=by decide):PE X (.Name x pos) (tC (.int n)):=by
 obtain ⟨t,hm⟩:=hm
 exact q0c (v:=.int n) hg hm ⟨t,rfl⟩ hd
end
section
variable {X:Cx} {N':List Str} {scope:Scope} {C:Addr} {s:Shared} {H:Hp} {fp:List Addr}
end
section
variable {K:PySem.W.Frag}
end
end L2
end
section
namespace L2
open PySem PySem.Spec PyProof.Rows PySem.W PySem.SeqAt PySem.Calls
section
variable {X:Cx}
end
end L2
end
section
namespace L2
open PySem PySem.Spec PyProof.Rows PySem.W PySem.SeqAt PySem.Calls
theorem Def.toE {P:Program} {w:World} {K:PySem.W.Frag} {mg:Str→Option Value} {base:Heap} {k:Nat} {x:Str} {ps:List Str} {sp:Sp} (D:Def P w K mg base k x ps sp):DefE P w K mg base k x ps sp:=by
 obtain ⟨f,fd,F,b,kp,m⟩:=D.ex
 exact ⟨f,fd,F.toE,b,kp,m⟩
end L2
end
section
namespace L2
open PySem PySem.Spec PyProof.Rows PySem.W PySem.SeqAt PySem.Calls
section
variable {X:Cx}
end
end L2
end
section
namespace L2
open PySem PySem.Spec PyProof.Rows PySem.W PySem.SeqAt PySem.Calls
section
variable {X:Cx}
end
section
variable {X:Cx} {N':List Str} {scope:Scope} {C:Addr} {s:Shared} {H:Hp} {fp:List Addr}
end
end L2
end
section
namespace L2
open PySem PySem.Spec PyProof.Rows PySem.W PySem.SeqAt PySem.Calls
section
variable {X:Cx}
end
end L2
end
section
namespace L2
open PySem PySem.Spec PyProof.Rows PySem.W PySem.SeqAt PySem.Calls
section
variable {prog:Program} {w:World} {A:Around} {E:Value→Shared→Prop}
end
section
variable {X:Cx}
end
end L2
end
section
namespace L2
open PySem PySem.Spec PyProof.Rows PySem.W PySem.SeqAt PySem.Calls
section
variable {X:Cx} {a b:Expr} {pos:Pos}
end
end L2
end
section
namespace L2
open PySem PySem.Spec PyProof.Rows PySem.W PySem.SeqAt PySem.Calls
section
variable {X:Cx}
theorem q5Q:∀ {l:List (Str×Tok)},Vals ((l.map (·.1)).map V.str) (strValues l)
 | []=>.nil
 | (x,t)::l=>.cons ⟨t,rfl⟩ q5Q
noncomputable def rSplit:V→List V→Hp→VK→Prop:=fun x xs H Q=>∃ z y,x = .str z∧xs=[.str y]∧(y.length == 0)=false∧z.length≤sizeLine∧(Txt.split z y).length≤sizeLine∧∀ l,H l=none→Q (.ref l) (upd H l (.lst ((Txt.split z y).map V.str)))
theorem q70:MtR X "str.split" rSplit:=by
 intro pins s σ H x xs v us Q I rx rv h
 obtain ⟨z,y,rfl,rfl,hy,hz,hn,q⟩:=h
 obtain ⟨t,rfl⟩:=rx
 obtain ⟨u,rfl,tu,rfl⟩:=q2T rv
 have key:∀ (l:List (Str×Tok)) (tk:Nat),l.map (·.1)=Txt.split z y→EP X pins σ Q (.ref s.heap.objs.size) {s with heap:=s.heap.push {cls:=.type "list",data:=.seq (strValues l).toArray},toks:=tk}:=fun l tk e=>by
  refine ⟨.ref _,_,I.laid (t':=tk) (o:=.lst ((Txt.split z y).map V.str)) (fun b o e=>Heap.get?_push_of_some _ e) (Nat.le_refl _) ⟨by rw [List.length_map];exact hn,strValues l,0,by rw [← e];exact q5Q,Heap.get?_push_size _ rfl⟩,rfl,q _ (I.hok.fresh (Nat.le_refl _))⟩
 cases h1:(decide (z.length < y.length) || decide (Builtin.Str.strKind z < Builtin.Str.strKind y))
 ·cases hf:(Builtin.Str.occurrences z y 0 z.length (z.length+1)).isEmpty
  ·have es:Txt.split z y=Builtin.Str.partsBetween z (Builtin.Str.occurrences z y 0 z.length (z.length+1)) y.length:=(if_neg (ne_true_of_eq_false h1)).trans (if_neg (ne_true_of_eq_false hf))
   refine call_meets F.slot_str_split (typeIs_str _ _ _) F.entry_str_split (F.args_str_split_2 _ _) (meets_str_split_sep z y t tu h1 hy hf hz (by rw [← es];exact hn)) ?_
   show wants _ _ _ {s with toks:=_,heap:=s.heap.push {cls:=.type "list",data:=.seq (strsFrom s.toks (Builtin.Str.partsBetween z (Builtin.Str.occurrences z y 0 z.length (z.length+1)) y.length)).toArray}}
   rw [strsFrom_eq]
   exact key (numbered s.toks _) _ ((numbered_texts _ _).trans es.symm)
  ·exact call_meets F.slot_str_split (typeIs_str _ _ _) F.entry_str_split (F.args_str_split_2 _ _) (meets_str_split_not_found z y t tu h1 hy hf) (key [(z,t)] _ ((if_neg (ne_true_of_eq_false h1)).trans (if_pos hf)).symm)
 ·exact call_meets F.slot_str_split (typeIs_str _ _ _) F.entry_str_split (F.args_str_split_2 _ _) (meets_str_split_cannot_occur z y t tu h1) (key [(z,t)] _ (if_pos h1).symm)
theorem q5S:∀ {ts:List Str} {us:List Value},Vals (ts.map V.str) us→∃ l:List (Str×Tok),us=strValues l∧l.map (·.1)=ts
 | [],_,.nil=>⟨[],rfl,rfl⟩
 | x::ts,_,.cons ⟨t,e⟩ r=>by
  obtain ⟨l,e1,e2⟩:=q5S r
  exact ⟨(x,t)::l,by rw [e,e1];rfl,by rw [List.map_cons,e2]⟩
noncomputable def rJoin (K:PySem.W.Frag):V→List V→Hp→VK→Prop:=fun x xs H Q=>∃ z a ts,x = .str z∧xs=[.ref a]∧SqL K H a (ts.map V.str)∧JoinOk z ts=true∧Q (.str (Txt.join z ts)) H
theorem mt_join:MtR X "str.join" (rJoin X.K):=by
 intro pins s σ H x xs v us Q I rx rv h
 obtain ⟨z,a,ts,rfl,rfl,hl,hok,q⟩:=h
 obtain ⟨t,rfl⟩:=rx
 obtain ⟨u,rfl,ru⟩:=q2T rv
 cases ru
 obtain ⟨its,r,pl,_⟩:=I.list hl
 obtain ⟨l,rfl,el⟩:=q5S r
 exact PySem.SC.join pl.isList el hok fun t' k=>⟨.str _,H,I.tok _,⟨_,rfl⟩,q⟩
noncomputable def rStarts:V→List V→Hp→VK→Prop:=fun x xs H Q=>∃ z y,x = .str z∧xs=[.str y]∧Q (.bl (0+y.length≤z.length && Builtin.Str.subAt z y 0)) H
theorem mt_starts:MtR X "str.startswith" rStarts:=by
 intro pins s σ H x xs v us Q I rx rv h
 obtain ⟨z,y,rfl,rfl,q⟩:=h
 obtain ⟨t,rfl⟩:=rx
 obtain ⟨u,rfl,tu,rfl⟩:=q2T rv
 exact call_gives F.slot_str_startswith (typeIs_str _ _ _) F.entry_str_startswith (F.args_str_startswith_2 _ _) (gives_str_startswith z y t tu) ⟨.bl _,H,I,rfl,q⟩
theorem q1j:q1k X (.type "int") (fun xs H Q=>∃ z n,xs=[.str z]∧PySem.intText? z=some n∧z.length≤640∧Q (.int n) H):=by
 intro pins s σ H xs us Q I r h
 obtain ⟨z,n,rfl,hn,hl,q⟩:=h
 obtain ⟨u,rfl,t,rfl⟩:=q2T r
 exact KIN.call_text hn hl ⟨.int n,H,I.tok _,⟨_,rfl⟩,q⟩
noncomputable def Its (x:Str):It:=⟨fun i _=>i < x.cps.size,fun i H v H'=>H'=H∧∃ c,x.cps[i]?=some c∧v = .str ⟨#[c]⟩,fun i _=>x.cps.size≤i⟩
theorem q7H {P:Program} {w:World} {K:PySem.W.Frag} {tg:Expr} (it:Addr) (x:Str) (t:Tok):Turn P w K tg (Its x) [it] it (fun i h=>h.IsStrIter it "str_ascii_iterator" x t i) where
 mem:=by simp
 obj:=fun i h st b hb=>by
  have e:b=it:=by simpa using hb
  subst e
  obtain ⟨o,e,c,d⟩:=st
  exact ⟨o,e,fun v z=>by rw [d] at z;cases z⟩
 keep:=fun i h h' st k=>by
  obtain ⟨o,e,c,d⟩:=st
  exact ⟨o,k it (by simp) o e,c,d⟩
 item:=by
  intro X hP hw hK hc i pins s σ H E I hf st hg
  subst hP hw hK
  have hi:i < x.cps.size:=hg
  obtain ⟨f0,f1,f2,f3,f4,f5⟩:=hf it (by simp)
  refine wpAny_pyNext_ascii_item st (c:=x.cps[i]) (by simp [hi]) fun h' st' sb=>?_
  have I1:Inv X pins σ H {s with heap:=h',toks:=s.toks+1}:=I.turned (fun b o hb e=>(sb.2 b hb).trans e) f0 f1 f3 f4 f5
  obtain ⟨o,e,c,d⟩:=id st'
  exact ⟨_,rfl,q7i (s:={s with heap:=h',toks:=s.toks+1}) e c d (by decide) ⟨.str ⟨#[x.cps[i]]⟩,H,I1,⟨_,rfl⟩,⟨rfl,x.cps[i],by simp [hi],rfl⟩,st',fun b hb=>(hf b hb).1⟩⟩
 done:=by
  intro X hP hw hK hc i pins s σ H E I hf st hg
  subst hP hw hK
  have hi:x.cps.size≤i:=hg
  obtain ⟨f0,f1,f2,f3,f4,f5⟩:=hf it (by simp)
  exact wpAny_pyNext_ascii_end (I.ok.hd hc) st (by simp;omega) fun h' eb=>⟨rfl,I.turned (t':=s.toks) (fun b o hb e=>eb b o hb e) f0 f1 f3 f4 f5⟩
 self:=fun _ _ _ _ _ st h=>wpAny_pyIter_striter_ascii st h
theorem turn_wide {P:Program} {w:World} {K:PySem.W.Frag} {tg:Expr} (it:Addr) (x:Str) (t:Tok):Turn P w K tg (Its x) [it] it (fun i h=>h.IsStrIter it "str_iterator" x t i) where
 mem:=by simp
 obj:=fun i h st b hb=>by
  have e:b=it:=by simpa using hb
  subst e
  obtain ⟨o,e,c,d⟩:=st
  exact ⟨o,e,fun v z=>by rw [d] at z;cases z⟩
 keep:=fun i h h' st k=>by
  obtain ⟨o,e,c,d⟩:=st
  exact ⟨o,k it (by simp) o e,c,d⟩
 item:=by
  intro X hP hw hK hc i pins s σ H E I hf st hg
  subst hP hw hK
  have hi:i < x.cps.size:=hg
  obtain ⟨f0,f1,f2,f3,f4,f5⟩:=hf it (by simp)
  refine wpAny_pyNext_wide_item st (c:=x.cps[i]) (by simp [hi]) fun h' st' sb=>?_
  have I1:Inv X pins σ H {s with heap:=h',toks:=s.toks+1}:=I.turned (fun b o hb e=>(sb.2 b hb).trans e) f0 f1 f3 f4 f5
  obtain ⟨o,e,c,d⟩:=id st'
  exact ⟨_,rfl,q7i (s:={s with heap:=h',toks:=s.toks+1}) e c d (by decide) ⟨.str ⟨#[x.cps[i]]⟩,H,I1,⟨_,rfl⟩,⟨rfl,x.cps[i],by simp [hi],rfl⟩,st',fun b hb=>(hf b hb).1⟩⟩
 done:=by
  intro X hP hw hK hc i pins s σ H E I hf st hg
  subst hP hw hK
  have hi:x.cps.size≤i:=hg
  obtain ⟨f0,f1,f2,f3,f4,f5⟩:=hf it (by simp)
  exact wpAny_pyNext_wide_end (I.ok.hd hc) st (by simp;omega) fun h' eb=>⟨rfl,I.turned (t':=s.toks) (fun b o hb e=>eb b o hb e) f0 f1 f3 f4 f5⟩
 self:=fun _ _ _ _ _ st h=>wpAny_pyIter_striter_wide st h
noncomputable def iStr (tl:TE):TI:=fun σ H R=>tl σ H fun x H1=>∃ z,x = .str z∧R (Its z) H1
theorem pi_str {l:Expr} {tl:TE} {tg:Expr} (hl:PE X l tl):PI X tg l (iStr tl):=by
 intro pins s σ H R I h
 refine thn (hl pins s σ H _ I h) fun v s1 ⟨x,H1,I1,r1,q1⟩=>?_
 obtain ⟨z,e,q⟩:=q1
 subst e
 obtain ⟨t,rfl⟩:=r1
 have fp:∀ b,b∈[s1.heap.objs.size]→FpOk X pins H1 b:=fun b hb=>by
  have e:b=s1.heap.objs.size:=by simpa using hb
  subst e
  exact I1.fpOk (Nat.le_refl _) (I1.hok.fresh (Nat.le_refl _))
 cases ha:z.cps.all (· < 128)
 ·refine wpAny_pyIter_wide ha ?_
  exact ⟨s1.heap.objs.size,[s1.heap.objs.size],_,_,H1,rfl,I1.kept (t':=s1.toks) fun b o e=>Heap.get?_push_of_some _ e,turn_wide _ z t,⟨_,Heap.get?_push_size _ rfl,rfl,rfl⟩,fp,q⟩
 ·refine wpAny_pyIter_ascii ha ?_
  exact ⟨s1.heap.objs.size,[s1.heap.objs.size],_,_,H1,rfl,I1.kept (t':=s1.toks) fun b o e=>Heap.get?_push_of_some _ e,q7H _ z t,⟨_,Heap.get?_push_size _ rfl,rfl,rfl⟩,fp,q⟩
noncomputable def rSlS:V→Option Int→Option Int→Hp→VK→Prop:=fun x lo hi H Q=>∃ z,x = .str z∧z.length≤sizeLine∧Q (.str (Txt.slice z lo hi)) H
theorem part_of {v:Value} {o:Option Int} (h:IsPart v o):∃ l:Option (Int×Tok),v=partValue l∧l.map (·.1)=o:=by
 cases h with
 | none=>exact ⟨none,rfl,rfl⟩
 | int i t=>exact ⟨some (i,t),rfl,rfl⟩
theorem sl_str:SlR X rSlS:=by
 intro pins s σ H x v vl vu lo hi sl Q I rx hs pl pu h
 obtain ⟨z,rfl,hz,q⟩:=h
 obtain ⟨t,rfl⟩:=rx
 obtain ⟨l,rfl,rfl⟩:=part_of pl
 obtain ⟨u,rfl,rfl⟩:=part_of pu
 refine ⟨"str",_,F.slot_str_getitem.lookup,typeIs_str _ _ _,wpAny_getItem_str_slice (l:=l) (u:=u) (st:=none) hs rfl (post_val_or_str ⟨Nat.le_trans (Txt.slice_le z _ _) hz,fun t' k=>⟨.str _,H,I.tok _,⟨t',rfl⟩,q⟩⟩)⟩
theorem pe_conS {x z:Str} {pos:Pos} (hg:Gl X x) (hm:∃ t,X.mg x=some (.str z t)) (hd:(x == ("__debug__" : Str))=false:=by decide):PE X (.Name x pos) (tC (.str z)):=by
 obtain ⟨t,hm⟩:=hm
 exact q0c (v:=.str z) hg hm ⟨t,rfl⟩ hd
end
section
variable {X:Cx} {N':List Str} {scope:Scope} {C:Addr} {s:Shared} {H:Hp} {fp:List Addr}
theorem q7R:OpR (blk X N' scope C s H fp) (compareOp .In) (fun x y H Q=>∃ i j,x = .str i∧y = .str j∧Q (.bl (!(Builtin.Str.occurrences j i 0 j.length 1).isEmpty)) H):=op_in_str
end
end L2
end
section
namespace L2
open PySem PySem.Spec PyProof.Rows PySem.W PySem.SeqAt PySem.Calls
section
variable {X:Cx} {e st:Expr} {te ts:TE} {pos p2:Pos}
end
end L2
end
section
namespace L2
open PySem PySem.Spec PyProof.Rows PySem.W PySem.SeqAt PySem.Calls
section
variable {X:Cx} {pos p2:Pos}
end
end L2
end
section
namespace L2
open PySem PySem.Spec PyProof.Rows PySem.W PySem.SeqAt PySem.Calls
section
variable {X:Cx}
end
end L2
end
section
namespace L2
open PySem PySem.Spec PyProof.Rows PySem.W PySem.SeqAt
open PySem.AutoSeq1 (wpAny_loadPart')
open PySem.MeetsSeq PySem.MeetsSeq2 PySem.MeetsSeq3
section
variable {prog:Program} {w:World} {A:Around} {E:Value→Shared→Prop} {s:Shared}
end
section
variable {X:Cx} {pins:List (Addr×Obj)} {σ:St}
end
end L2
end
section
namespace L2
open PySem PySem.Spec PyProof.Rows PySem.W PySem.SeqAt PySem.Calls
section
variable {X:Cx}
structure CDivL (i j:Int):Prop where
 pos:0 < j
 lt:j < 2 ^ 200
theorem op_fdivL:OpR X (binaryOp .FloorDiv) (rI CDivL fun i j=>.int (i/j)):=opI fun i j _ _ _ _ _ hc q=>by
 obtain ⟨h0,h1⟩:=hc
 refine floordiv_int (by omega) (by rw [Int.fdiv_eq_ediv_of_nonneg i (by omega)];exact q) (.inl (PyProof.noPylong_of_log2 ?_))
 have h2:j.natAbs≠0:=by omega
 have h3:j.natAbs.log2 < 200:=(Nat.log2_lt h2).mpr (by omega)
 omega
end
end L2
end
section
namespace L2
open PySem PySem.Spec PyProof.Rows PySem.W PySem.SeqAt
section
variable {X:Cx}
end
end L2
end
section
namespace L2
open PySem PySem.Spec PyProof.Rows PySem.W PySem.SeqAt
section
variable {X:Cx} {N':List Str} {scope:Scope} {C:Addr} {s:Shared} {H:Hp} {fp:List Addr} {e st o i:Expr} {te ts td ty:TE} {pos p2:Pos}
theorem pe_revB (he:PE (blk X N' scope C s H fp) e te) (hst:PE (blk X N' scope C s H fp) st ts):PE (blk X N' scope C s H fp) (.Subscript e (.Slice none none (some st) p2) pos) (tRev X.K te ts):=pe_rev he hst
theorem pe_dgetB (hu:X.A.units+1 < cLine) (ho:PE (blk X N' scope C s H fp) o td) (hi:PE (blk X N' scope C s H fp) i ty) (hs:NoSl i):PE (blk X N' scope C s H fp) (.Subscript o i pos) (tDGet td ty):=q04 hu ho hi hs
end
end L2
end
section
namespace L2
open PySem PySem.Spec PyProof.Rows
section
variable {X:Cx} {a b c d:Expr} {ta tb tc td:TE} {pos:Pos}
theorem pt_chain3 {op op' op'':CmpOp} {r r' r'':R2} (ho:OpR X (compareOp op) r) (ho':OpR X (compareOp op') r') (ho'':OpR X (compareOp op'') r'') (ha:PE X a ta) (hb:PE X b tb) (hc:PE X c tc) (hd:PE X d td)
  (hm:lastMarks [op,op',op''] [b,c,d]=false:=by with_unfolding_all rfl):PT X (.Compare a [op,op',op''] [b,c,d] pos) (tTest (tChain3 r r' r'' ta tb tc td)):=by
 intro pins s σ H Q I h
 refine isTrue_chain (thn (ha pins s σ H _ I h) fun v s1 ⟨x,H1,I1,r1,q1⟩=>test_link (thn (hb pins s1 σ H1 _ I1 q1) fun u s2 ⟨y,H2,I2,r2,q2⟩ =>
  thn (ho pins s2 σ H2 x y v u _ I2 r1 r2 q2) fun d s3 ⟨z,H3,I3,r3,k,e,q3⟩=>?_)) hm
 subst e
 cases r3
 refine wpAny_truthy_bool ?_
 cases k with
 | false =>
  obtain ⟨k',e',q'⟩:=q3
  cases e'
  exact ite_ff ⟨H3,I3,q'⟩
 | true =>
  refine ite_tt (test_link (thn (hc pins s3 σ H3 _ I3 q3) fun w' s4 ⟨z',H4,I4,r4,q4⟩=>thn (ho' pins s4 σ H4 y z' u w' _ I4 r2 r4 q4) fun d' s5 ⟨z2,H5,I5,r5,k2,e2,q5⟩=>?_))
  subst e2
  cases r5
  refine wpAny_truthy_bool ?_
  cases k2 with
  | false =>
   obtain ⟨k',e',q'⟩:=q5
   cases e'
   exact ite_ff ⟨H5,I5,q'⟩
  | true =>
   refine ite_tt (test_last (thn (hd pins s5 σ H5 _ I5 q5) fun w'' s6 ⟨z3,H6,I6,r6,q6⟩=>thn (ho'' pins s6 σ H6 z' z3 w' w'' _ I6 r4 r6 q6) fun d'' s7 ⟨z4,H7,I7,r7,k3,e3,q7⟩=>?_))
   subst e3
   cases r7
   exact wpAny_truthy_bool ⟨H7,I7,q7⟩
end
end L2
end
section
namespace L2
open PySem PySem.Spec PyProof.Rows
section
variable {X:Cx}
end
end L2
end
section
namespace L2
open PySem PySem.Spec PyProof.Rows
section
variable {X:Cx} {a b:Expr} {rest:List Expr} {ta tb:TE} {pos:Pos}
end
end L2
end
section
namespace L2
open PySem PySem.Spec PyProof.Rows
section
variable {X:Cx} {N':List Str} {scope:Scope} {C:Addr} {s:Shared} {H:Hp} {fp:List Addr} {M':List Str} {scope2:Scope} {C2:Addr} {s2:Shared} {H2:Hp} {fp2:List Addr} {tg:Expr}
end
end L2
end
section
namespace L2
open PySem PySem.Spec PyProof.Rows PySem.W PySem.SeqAt PySem.Calls
noncomputable def exV (a:Addr) (C:Value):HO:=.ext (fun h=>∃ o,h.get? a=some o∧o.cls=C)
section
variable {X:Cx} {pins:List (Addr×Obj)} {σ:St} {H:Hp} {s:Shared}
theorem Inv.track {a:Addr} {o:Obj} {C:Value} (I:Inv X pins σ H s) (e:s.heap.get? a=some o) (hc:o.cls=C) (n:H a=none) (new:X.s₀.heap.get? a=none) (hl:a≠X.env.locals) (hd:∀ v,o.data≠.cell v) (hp:∀ p∈X.pn++pins,p.1≠a) :
  Inv X pins σ (upd H a (exV a C)) s:=by
 refine ⟨I.ok,I.os,I.bare,⟨I.base.keep,I.base.slot,fun b ob e1 n1 hx=>?_,I.base.there,fun b xs z=>?_,fun b ob u z=>?_,fun b ps z=>?_⟩,I.loc,I.cell,?_,fun x c z=>?_,fun p z=>?_,fun b ob z=>?_,I.len⟩
 ·rw [qF (fun z=>by subst z;rw [new] at e1;cases e1)]
  exact I.base.free b ob e1 n1 hx
 ·have q:=I.base.tups b xs z
  rw [qF (qI q n)]
  exact q
 ·have q:=I.base.frzs b ob u z
  rw [qF (qI q n)]
  exact q
 ·obtain ⟨more,q⟩:=I.base.tbls b ps z
  refine ⟨more,?_⟩
  rw [qF (qI q n)]
  exact q
 ·rw [qF (Ne.symm hl)]
  exact I.free
 ·rw [qF (fun y=>?_)]
  ·exact I.freeC x c z
  ·subst y
   obtain ⟨v,o1,e1,d1⟩:=I.cell x c z
   rw [e] at e1;cases e1
   exact hd v d1
 ·obtain ⟨q1,q2,q3⟩:=I.pin p z
  refine ⟨q1,?_,q3⟩
  rw [qF (hp p z)]
  exact q2
 ·by_cases hb:b=a
  ·subst hb
   rw [qA] at z
   cases z
   exact ⟨⟨o,e,hc⟩,⟨o,e⟩,fun h1 h2 ⟨o1,e1,c1⟩ k=>⟨o1,k o1 e1,c1⟩⟩
  ·rw [qF hb] at z
   exact (I.hok b ob z).stay (fun c v _ q=>q) (fun c q=>by rw [qF (qI q n)];exact q) fun c xs q=>by rw [qF (qI q n)];exact q
end
noncomputable def goneK (i:Nat) (a:Addr) (C:Value) (D:Ends):Ends:={nx:=fun σ H=>D.nx (σ.set i none) (upd H a (exV a C)),rt:=fun v H=>D.rt v (upd H a (exV a C)),bk:=fun σ H=>D.bk (σ.set i none) (upd H a (exV a C)),ct:=fun σ H=>D.ct (σ.set i none) (upd H a (exV a C))}
noncomputable def tTryK (K:PySem.W.Frag) (T:Value) (len i:Nat) (tb:XK→TS) (th:Addr→Value→TS):TS:=fun D σ H =>
 tb (fun C _ H'=>PySem.W.exmOne K C T=some true∧∀ (a:Addr) (σ':St),H' a=none→σ'.length=len→th a C (goneK i a C D) (σ'.set i (some (.ref a))) H') D σ H
theorem ps_tryK {X:Cx} {x n:Str} {np hpos pos:Pos} {body:List Stmt} {b₀:Stmt} {suite:List Stmt} {i:Nat} {T:Addr} {tb:XK→TS} {th:Addr→Value→TS}
  (hN:X.N.Nodup) (hi:X.N[i]?=some n) (hn:X.env.scope.names.lookup n=some .local) (hfr:X.env.frame=some X.env.locals) (hst:X.stack=X.env::X.outer) (hg:Gl X x) (hm:X.mg x=some (.ref T))
  (hb:∀ (pins:List (Addr×Obj)) (xe:Value→Shared→Prop) (E:XK),q1p (CXE X.prog X.w) (X.tried pins xe) E→PSs (X.tried pins xe) body (tb E))
  (hh:∀ (a:Addr) (o:Obj) (pins:List (Addr×Obj)) (C:Value),o.cls=C→PSs (X.suite a o pins) (b₀::suite) (th a C)) (hex:X.ex=[]:=by rfl) (hd:(x == ("__debug__" : Str))=false:=by decide) :
  PS X (.Try body [.ExceptHandler (some (.Name x np)) (some n) (b₀::suite) hpos] [] [] pos) (tTryK X.K (.ref T) X.N.length i tb th):=by
 intro pins s σ H D I h
 refine wpAny_Try_except (wpAny_mono (hb pins (fun e s₁=>wpAny (model X.prog X.w) X.A (noteFrame e X.env) (fun _ s₂=>wpAny (model X.prog X.w) X.A (setFlight e none) (fun _ s₃ =>
  wpAny (model X.prog X.w) X.A (handleBy e X.env [.ExceptHandler (some (.Name x np)) (some n) (b₀::suite) hpos]) (SP X pins D) X.xe s₃) X.xe s₂) X.xe s₁) _ ?_ [] s σ H D I.tried h) (fun fl s1 q=>?_) fun e s1 q=>q)
 ·rintro ps σ' H1 s1 e s' J0 ⟨C,a,a0,B,H',rfl,F,hx,k⟩
  have J:Inv X pins σ' H1 s1:=J0.untried
  have F:Aloft X.prog X.w X.stack H1 s1 C a a0 B H' s':=F
  have nL:a≠X.env.locals:=fun z=>F.fresh.2.1 (by
   rw [hst,z];unfold frs;rw [List.filterMap_cons,hfr];exact List.mem_cons_self)
  have nF:a∉X.fs:=fun z=>F.fresh.2.1 (by rw [hst];exact q26 z)
  have n0:X.s₀.heap.get? a=none:=by
   cases z:X.s₀.heap.get? a with
   | none=>rfl
   | some o =>
    obtain ⟨o1,e1⟩:=J.base.there a o z (by rw [hex];simp)
    rw [F.fresh.2.2] at e1;cases e1
  have nP:∀ p∈X.pn++pins,p.1≠a:=fun p hp z=>by
   have q:=(J.pin p hp).1
   rw [z,F.fresh.2.2] at q;cases q
  have fl0:Heap.FlyingW B (X.env::X.outer) a C a0 s'.heap:=hst▸F.fl
  have land:∀ h2,Heap.FlyingW B X.stack a C a0 h2→s'.heap.UpToSlots h2→Inv X pins σ' H' {s' with heap:=h2}:=fun h2 g u=>by
   have F2:=F.on g u
   exact J.call' F2.os F2.un (F2.hok.kept fun b o e=>g.1 b o e) F2.bare (fun b z=>absurd z (by simp))
  show wpAny _ _ (noteFrame _ _) _ _ s'
  refine wpAny_looks_onW (base:=B) (outer:=X.outer) (L:=X.env.locals) (cls:=C) (a0:=a0) (hst▸J.ok.frames) hfr fl0 fun h2 g2 u2=>?_
  refine wpAny_landsW g2 fun h3 g3 u3=>?_
  have J3:=land h3 (hst▸g3) (u2.trans u3)
  obtain ⟨o3,v3,e3,c3,d3,_⟩:=g3.first
  have S3:=J3.suite e3 F.fresh.1 nL nF (fun v z=>by rw [d3] at z;cases z)
  refine wpAny_handleBy_cons (codeAny_handlers_test (q45 S3 hg hm ?_ hd)) (by intro q;cases q)
  refine (exm_one (M:=model X.prog X.w) S3.kIn (c3▸(Looks.ld e3).andThen .now) hx).here ?_
  refine codeAny_handlers_suite_as (lands_againW g3 fun h4 g4 u4=>?_)
  have J4:=land h4 (hst▸g4) ((u2.trans u3).trans u4)
  obtain ⟨o4,v4,e4,c4,d4,_⟩:=g4.first
  have S4:=J4.suite e4 F.fresh.1 nL nF (fun v z=>by rw [d4] at z;cases z)
  refine q28 (X:=X.suite a o4 pins) (v:=.ref a) (u:=.ref a) S4 hN hi (.inl hn) rfl (fun s5 I5=>?_) (.inr hn)
  refine wpAny_mono (hh a o4 pins C c4 [] s5 _ H' (goneK i a C D) I5 (k a σ' F.fresh.1 J.len)) (fun fl s6 q=>?_) fun _ _ z=>z.elim
  have fin:∀ {σ6:St} {H6:Hp} {Z:Shared→Prop},Inv (X.suite a o4 pins) [] σ6 H6 s6→(∀ s7,Inv X pins (σ6.set i none) (upd H6 a (exV a C)) s7→Z s7) →
    wpAny (model X.prog X.w) X.A (do bindName X.env n .none;unbindBehindTheSuite X.env n hpos) (fun _ s7=>Z s7) X.xe s6:=fun {σ6 H6 Z} I6 hz=>by
   have pn6:=I6.pin (a,o4) (by rw [List.append_nil];exact List.mem_cons_self)
   have J6:=(I6.unsuite J.ok.hd).track pn6.1 c4 pn6.2.1 n0 nL pn6.2.2.2.2 nP
   obtain ⟨m,hm6,_⟩:=id J6.loc
   exact wpAny_nameGoes_keeps hn hm6 (by rw [J6.ok.kind];rfl) fun h' v hn' hs=>hz _ (J6.gone hN hi hm6 hn' hs)
  cases fl with
  | next=>obtain ⟨σ6,H6,I6,q⟩:=q;exact fin I6 fun s7 I7=>⟨_,_,I7,q⟩
  | brk=>obtain ⟨σ6,H6,I6,q⟩:=q;exact fin I6 fun s7 I7=>⟨_,_,I7,q⟩
  | cont=>obtain ⟨σ6,H6,I6,q⟩:=q;exact fin I6 fun s7 I7=>⟨_,_,I7,q⟩
  | ret u=>obtain ⟨v,σ6,H6,I6,r,q⟩:=q;exact fin I6 fun s7 I7=>⟨v,_,_,I7,r,q⟩
 ·cases fl with
  | next=>obtain ⟨σ1,H1,I1,q⟩:=q;exact wpAny_execs_nil ⟨σ1,H1,I1.untried,q⟩
  | brk=>obtain ⟨σ1,H1,I1,q⟩:=q;exact ⟨σ1,H1,I1.untried,q⟩
  | cont=>obtain ⟨σ1,H1,I1,q⟩:=q;exact ⟨σ1,H1,I1.untried,q⟩
  | ret u=>obtain ⟨v,σ1,H1,I1,r,q⟩:=q;exact ⟨v,σ1,H1,I1.untried,r,q⟩
noncomputable def rIsX (K:PySem.W.Frag):List V→Hp→VK→Prop:=fun xs H Q=>∃ (a D:Addr) (c:V) (cv:Value) (b:Bool),xs=[.ref a,c]∧H a=some (exV a (.ref D))∧ExK K D∧((∃ C,c = .ref C∧cv = .ref C)∨∃ T,c = .ty T∧cv = .type T)∧PySem.W.kitOne K (.ref D) cv=some b∧Q (.bl b) H
theorem q0n {X:Cx} {K:PySem.W.Frag} (hK:X.K=K):q1k X (.builtin "isinstance") (rIsX K):=by
 subst hK
 intro pins s σ H xs us Q I r h
 obtain ⟨a,D,c,cv,b,rfl,ha,k,rc,e,q⟩:=h
 obtain ⟨u,w',rfl,rx,rT⟩:=vals2 r
 cases (show u=Value.ref a from rx)
 obtain rfl:cv=w':=by
  rcases rc with ⟨C,rfl,rfl⟩ | ⟨T,rfl,rfl⟩
  ·exact (show w'=Value.ref C from rT).symm
  ·exact (show w'=Value.type T from rT).symm
 obtain ⟨⟨o,e1,c1⟩,_⟩:=(show ObjOk X.prog X.w H s.heap a (exV a (.ref D)) from I.hok a _ ha)
 exact PySem.W.kia_one (kit_exc k) I.kIn ⟨o,e1,c1⟩ e (fun z=>nomatch z) fun tk=>⟨.bl b,H,I.tok tk,rfl,q⟩
theorem wk1 {α:Sort _} {p q:α→Prop} (v:α) (h:p v) (k:q v):∃ x,p x∧q x:=⟨v,h,k⟩
theorem wk2 {α β:Sort _} {p:α→Prop} {q:β→Prop} {r:α→β→Prop} (v:α) (u:β) (h:p v) (g:q u) (k:r v u):∃ x y,p x∧q y∧r x y:=⟨v,u,h,g,k⟩
end L2
end
section
namespace L2
open PySem PySem.Spec PyProof.Rows PySem.W PySem.SeqAt PySem.Calls
section
variable {X:Cx} {K:PySem.W.Frag}
theorem qK (hK:X.K=K):IxR X (rIxL K):=hK▸ix_list
theorem qG (hK:X.K=K):IxR X (rIxT K):=hK▸ix_tup
theorem q2C (hK:X.K=K):SlR X (rSlL K):=hK▸sl_list
noncomputable def rLen (K:PySem.W.Frag):List V→Hp→VK→Prop:=fun xs H Q=>∃ (p:Addr) (ys:List V),xs=[.ref p]∧(SqL K H p ys∨SqT K H p ys)∧Q (.int ys.length) H
theorem qS (hK:X.K=K):q1k X (.builtin "len") (rLen K):=by subst hK;exact q3J
noncomputable def rListOf (K:PySem.W.Frag):List V→Hp→VK→Prop:=fun xs H Q=>∃ (p:Addr) (ys:List V),xs=[.ref p]∧(SqL K H p ys∨SqT K H p ys)∧∀ l:Addr,H l=none→Q (.ref l) (upd H l (.lst ys))
theorem qm (hK:X.K=K):q1k X (.type "list") (rListOf K):=by subst hK;exact q66
theorem op_eqDK {k:Nat} (hr:Room k X.A) (hK:X.K=K):OpR X (compareOp .Eq) (rEqD K false):=hK▸op_eqD hr
theorem op_neDK {k:Nat} (hr:Room k X.A) (hK:X.K=K):OpR X (compareOp .NotEq) (rEqD K true):=hK▸op_neD hr
noncomputable def rMax (K:PySem.W.Frag):List V→Hp→VK→Prop:=fun xs H Q=>∃ (p:Addr) (ns:List Int),xs=[.ref p]∧SqL K H p (ns.map V.int)∧0 < ns.length∧∀ M,M∈ns→(∀ a,a∈ns→a≤M)→Q (.int M) H
theorem q5p (hc:X.calm=true) (hK:X.K=K):q1k X (.builtin "max") (rMax K):=by subst hK;exact q6a hc
theorem pg_tupK {pos:Pos} {es:List Expr} {k:Nat} {t:TGs} {n:Nat} (hK:X.K=K) (hc:X.calm=true) (h:PGs X es t) (hl:(assignEach es X.env).length=n:=by rfl) (hf:List.findIdx? (fun x=>x.fst) (assignEach es X.env)=none:=by rfl):PG X (.Tuple es k pos) (gTup K n t):=hK▸pg_tup hc h hl hf
theorem q3y {o:Expr} {to:TE} {name:Str} {apos cpos:Pos} {T id:String} {r:V→List V→Hp→VK→Prop} (hK:X.K=K) (pa:PlainAttrs T) (slot:Slot T name id) (hty:typeOf (.builtin id)=pure (.type "method_descriptor")) (hm:MtR X id r) (ho:PE X o to)
  (hbase:attributeBase o name X.env (eval o X.env)=eval o X.env:=by rfl) (hline:(apos.endLine == cpos.line)=true:=by rfl):PE X (.Call (.Attribute o name apos) [] [] cpos) (tBM0 K T r to):=hK▸pe_bm0 pa slot hty hm ho hbase hline
theorem q09 {tg l:Expr} {tl:TE} (hK:X.K=K) (h:PE X l tl):PI X tg l (iList K tl):=hK▸pi_list h
end
end L2
end
section
namespace L2
open PySem PySem.W PySem.Spec PyProof.Rows PySem.Calls
noncomputable def topRunT (tb:String→Option Builtin) (p:Program) (w:World) (n₀:Nat) (ann:Option Value):Nat→SharedT→Thread→Option SharedT
 | 0,_,_=>none
 | n+1,s,t=>match through t with
  | true=>some s
  | false=>match stepOk n₀ ann t with
   | false=>none
   | true=>match stepT (denote tb) p w s t with
    | some (s',t')=>topRunT tb p w n₀ ann n s' t'
    | none=>none
theorem q4S {tb:String→Option Builtin} {p:Program} {w:World} {n₀:Nat} {ann:Option Value}:∀ {n:Nat} {s s':SharedT} {t:Thread},topRunT tb p w n₀ ann n s t=some s'→topRun tb p w n₀ ann n s.abs t=some s'.abs
 | 0,_,_,_,h=>by cases h
 | n+1,s,s',t,h=>by
  unfold topRunT at h
  unfold topRun
  cases ht:through t with
  | true=>rw [ht] at h;cases h;rfl
  | false =>
   rw [ht] at h
   cases hk:stepOk n₀ ann t with
   | false=>rw [hk] at h;cases h
   | true =>
    rw [hk] at h
    cases hs:stepT (denote tb) p w s t with
    | none=>rw [hs] at h;cases h
    | some r=>obtain ⟨s₂,t₂⟩:=r;rw [hs] at h;rw [stepT_spec hs];exact q4S h
noncomputable def mkT:Nat→List Obj→Nat→Nat→BT
 | 0,_,_,_=>.nil
 | k+1,os,a,b=>match os[b]? with
  | some o=>.node o (mkT k os (2*a) (a+b)) (mkT k os (2*a) (2*a+b))
  | none=>.nil
noncomputable def bootT (P:Params):BT:=mkT 12 (boot_heap P).objs.toList 1 0
theorem boot_tree (P:Params):absHeap (bootT P) 11 (boot_heap P).life=boot_heap P:=by kernel_rfl
theorem boot_size (P:Params):((boot_heap P).isNs mainGlobals && (#[]:Array GenState).size == 0,(boot_heap P).objs.size,(boot_heap P).nsMap mainGlobals "__annotations__")=(true,11,some (.ref 6)):=by kernel_rfl
theorem LeftO.of_tree {p q:Program} {loose:List Str} {Xt:Shared→Bool} {α:Type} {Yf:Shared→α} {Ya:World→α} {N:Nat} {g0:Bool} (e:opening p=plainProg p.main.scope.names) (hN:Nat.ble 600 N=true) (f:∀ s,fenceModules? p s=some s)
  (run:∀ (w:World) (os:OsState),(topRunT treeTable p w 11 (some (.ref 6)) N ⟨bootT w.params,11,(boot_heap w.params).life,#[],boot_drawn,boot_toks,os⟩ (topStub p)).map (fun s =>
   ((staticsOk (importedModules p.main.body) (boot_heap w.params) s.abs.heap && namesBound p s.abs.heap && gensDone s.abs && laidKept (boot_heap w.params) s.abs.heap),openSeen q loose (importedModules p.main.body) Xt g0 s.abs,Yf s.abs))=some (true,openGood q loose,Ya w)) :
  PySem.W.LeftO p q loose Xt Yf Ya N g0:=fun w=>by
 obtain ⟨⟨h,gs,d,k,os⟩,e1,e'⟩:=Option.map_eq_some_iff.mp (boot_open e hN f w)
 obtain ⟨rfl,rfl,rfl,rfl⟩:h=boot_heap w.params∧gs = #[]∧d=boot_drawn∧k=boot_toks:=by simpa using e'
 obtain ⟨z1,z2,z3⟩:_∧_∧_:=by simpa only [Prod.mk.injEq] using boot_size w.params
 obtain ⟨sT,r0,l0⟩:=Option.map_eq_some_iff.mp (run w os)
 obtain ⟨l1,l2,l3⟩:_∧_∧_:=by simpa only [Prod.mk.injEq] using l0
 have r:=q4S r0
 rw [show (SharedT.abs ⟨bootT w.params,11,(boot_heap w.params).life,#[],boot_drawn,boot_toks,os⟩)=⟨boot_heap w.params,#[],boot_drawn,boot_toks,os⟩ from congrArg (fun z=>(⟨z,#[],boot_drawn,boot_toks,os⟩:Shared)) (boot_tree w.params)] at r
 have t:topFrom treeTable p w N ⟨boot_heap w.params,#[],boot_drawn,boot_toks,os⟩=some sT.abs:=by
  unfold topFrom
  dsimp only
  rw [z1,z2,z3,r]
  show (match staticsOk (importedModules p.main.body) (boot_heap w.params) sT.abs.heap && namesBound p sT.abs.heap && gensDone sT.abs && laidKept (boot_heap w.params) sT.abs.heap with | true=>_ | false=>_)=_
  rw [l1]
 unfold openEnds
 rw [e1]
 show (topFrom treeTable p w N _).map _=_
 rw [t]
 exact congrArg some (Prod.ext l2 l3)
theorem LeftO.of_tree2 {p q:Program} {loose:List Str} {Xt:Shared→Bool} {α:Type} {Yf:Shared→α} {Ya:World→α} {N:Nat} {g0:Bool} (e:opening p=plainProg p.main.scope.names) (hN:Nat.ble 600 N=true) (f:∀ s,fenceModules? p s=some s)
  (run:∀ (w:World) (os:OsState),(topRunT treeTable p w 11 (some (.ref 6)) N ⟨bootT w.params,11,(boot_heap w.params).life,#[],boot_drawn,boot_toks,os⟩ (topStub p)).map (fun s =>
   (((staticsOk (importedModules p.main.body) (boot_heap w.params) s.abs.heap && namesBound p s.abs.heap && gensDone s.abs && laidKept (boot_heap w.params) s.abs.heap),openSeen q loose (importedModules p.main.body) Xt g0 s.abs),Yf s.abs))=some ((true,openGood q loose),Ya w)) :
  PySem.W.LeftO p q loose Xt Yf Ya N g0:=LeftO.of_tree e hN f fun w os=>by
 obtain ⟨sT,r0,l0⟩:=Option.map_eq_some_iff.mp (run w os)
 rw [r0]
 show some _=some _
 rw [Prod.ext_iff,Prod.ext_iff] at l0
 exact congrArg some (Prod.ext l0.1.1 (Prod.ext l0.1.2 l0.2))
end L2
end
section
namespace L2
open PySem PySem.Spec PyProof.Rows PySem.W PySem.SeqAt PySem.Calls
structure MDef (CX:CXT) (P:Program) (w:World) (K:PySem.W.Frag) (mg:Str→Option Value) (base:Heap) (k:Nat) (C:Addr) (m:Str) (ps:List Str) (sp:Sp):Prop where
 ex:∃ (f:Addr) (fd:FuncData),FnOk P w K mg base CX k f fd ps sp∧Binds K fd ps []∧Meth K C m f
theorem MDef.mono {CX:CXT} {P:Program} {w:World} {K:PySem.W.Frag} {mg:Str→Option Value} {base:Heap} {j k:Nat} {C:Addr} {m:Str} {ps:List Str} {sp:Sp} (D:MDef CX P w K mg base j C m ps sp) (h:j≤k):MDef CX P w K mg base k C m ps sp:=by
 obtain ⟨f,fd,F,b,z⟩:=D.ex
 exact ⟨f,fd,F.mono h,b,z⟩
section
variable {X:Cx} {CX:CXT} {k:Nat} {C:Addr} {m:Str} {ps:List Str} {sp:Sp} {E:XK} {apos pos p:Pos} {o e:Expr} {es:List Expr} {ta:TE} {t:TA}
theorem pe_md {pl:Sem Bool} (D:MDef CX X.prog X.w X.K X.mg X.base k C m ps sp) (c:Cls X.K C) (hr:Room k X.A) (hx:q1p CX X E) (ho:PE X o ta) (ha:PA X (e::es) t)
  (hst:starEach (e::es) X.env=(false,eval e X.env)::starEach es X.env:=by rfl) (hpl:(backTo pos (starEach es X.env)).any (·.1)=false:=by rfl)
  (ht:eval (.Call (.Attribute o m apos) (e::es) [] pos) X.env=(do
   let ov ← eval o X.env
   standAt apos.atName
   let (f,first) ← holding [ov] (getMethod ov m pl)
   callWith pos f first (backTo pos (starEach (e::es) X.env)) (backToKw pos (keywordEach [] X.env))):=by rfl) :
  PE X (.Call (.Attribute o m apos) (e::es) [] pos) (tMeth C m sp [] E ta t):=by
 obtain ⟨f,fd,F,b,z⟩:=D.ex
 exact pe_meth ho c z F hr b .nil hx ha hst hpl ht
theorem pe_md0 {pl:Sem Bool} (D:MDef CX X.prog X.w X.K X.mg X.base k C m ps sp) (c:Cls X.K C) (hr:Room k X.A) (hx:q1p CX X E) (ho:PE X o ta)
  (ht:eval (.Call (.Attribute o m apos) [] [] pos) X.env=(do
   let ov ← eval o X.env
   standAt apos.atName
   let (f,first) ← holding [ov] (getMethod ov m pl)
   callWith pos f first (backTo pos (starEach [] X.env)) (backToKw pos (keywordEach [] X.env))):=by rfl) :
  PE X (.Call (.Attribute o m apos) [] [] pos) (tMeth C m sp [] E ta tNil):=by
 obtain ⟨f,fd,F,b,z⟩:=D.ex
 exact pe_meth0 ho c z F hr b .nil hx ht
structure NDef (P:Program) (w:World) (K:PySem.W.Frag) (mg:Str→Option Value) (base:Heap) (k:Nat) (C:Addr) (x:Str) (ps:List Str) (sp:Sp):Prop where
 ex:∃ (f:Addr) (fd:FuncData),FnOk P w K mg base CX0 k f fd ps sp∧Binds K fd ps []∧Mk K C f∧mg x=some (.ref C)
theorem NDef.mono {P:Program} {w:World} {K:PySem.W.Frag} {mg:Str→Option Value} {base:Heap} {j k:Nat} {C:Addr} {x:Str} {ps:List Str} {sp:Sp} (D:NDef P w K mg base j C x ps sp) (h:j≤k):NDef P w K mg base k C x ps sp:=by
 obtain ⟨f,fd,F,b,z⟩:=D.ex
 exact ⟨f,fd,F.mono h,b,z⟩
theorem pe_nd {x:Str} (D:NDef X.prog X.w X.K X.mg X.base k C x ps sp) (hr:Room (k+1) X.A) (hg:Gl X x) (hdb:(x == ("__debug__" : Str))=false:=by decide):PE X (.Call (.Name x p) [] [] pos) (tMake C sp [] E0 tNil):=by
 obtain ⟨f,fd,F,b,z,mg⟩:=D.ex
 exact pe_make0 z F hr hg mg b .nil pass0 hdb
end
section
variable {X:Cx} {K:PySem.W.Frag} {o e value:Expr} {f:Str} {pos pos':Pos} {ta tv:TE}
theorem q03 (hK:X.K=K) (he:PE X e ta) (hb:attributeBase e f X.env (eval e X.env)=eval e X.env:=by rfl):PE X (.Attribute e f pos) (tFld K ta f):=hK▸pe_fld he hb
theorem q1E (hK:X.K=K) (ha:PE X o ta) (hv:PE X value tv) (hs:swapsWith value (some (.Attribute o f pos')) pos.line X.env=pure false:=by rfl):PS X (.Assign [.Attribute o f pos'] value pos) (sFld K ta tv f):=hK▸ps_fld ha hv hs
end
end L2
end
section
namespace L2
open PySem PySem.Spec PyProof.Rows PySem.W PySem.SeqAt PySem.Calls
theorem q5J (l:Addr) (items:Array Value) (n:Nat) (b:Addr) (items2:Array Value) (n2:Nat) (dd:Option Addr) (sl:Array (Option Value)) (hs0:¬(!items.isEmpty && Builtin.List.listTooLong (items.size+items2.size))=true) (hs1:items.size≤sizeLine) (hs2:items.size+items2.size≤sizeLine+1) :
  Meets (Builtin.«list.extend» ⟨[.ref l,.ref b],[]⟩) (fun _ R s=>s.heap.get? l=some {cls:=.type "list",dict:=none,data:=.seq items n,slots:=#[]}∧s.heap.get? b=some {cls:=.type "tuple",dict:=dd,data:=.seq items2 n2,slots:=sl}∧R (.ok (.ret Value.none)) {s with heap:=s.heap.update l (Obj.mapSeq fun x=>x++items2),toks:=s.toks}) :=
 .of_wp fun prog w A R s h=>by
  obtain ⟨hp,g,d,tk,os⟩:=s;obtain ⟨hl,hb,h⟩:=h;have f1:=AutoSeq1.idx_int;have f2:=AutoSeq1.sub_tuple_tuple;have f3:=AutoSeq1.sub_list_list;have f4:=AutoSeq1.sub_tuple_list;have f5:=AutoSeq1.sub_list_tuple;
  have hz':(items++items2).size≤sizeLine+1:=by rw [Array.size_append];exact hs2
  wp_walk using (wpAny_updateSeq hl rfl (hz:=hs1) (_hz':=hz')),AutoSeq1.wpAny_loadPart' hl,AutoSeq1.wpAny_loadPart' hb;exact ⟨_,rfl,h⟩
noncomputable def rExtendT (K:PySem.W.Frag):V→List V→Hp→VK→Prop:=fun x vs H Q=>∃ l b xs zs,x = .ref l∧vs=[.ref b]∧H l=some (.lst xs)∧SqT K H b zs∧xs.length+zs.length≤sizeLine∧Q .non (upd H l (.lst (xs++zs)))
theorem q7Z {X:Cx} {K:PySem.W.Frag} (hK:X.K=K):MtM X "list.extend" (rExtendT K):=by
 subst hK
 intro pins s σ H x vs v us Q I rx rv h
 obtain ⟨l,b,xs,zs,rfl,rfl,hH,hB,hz,q⟩:=h
 cases rx
 obtain ⟨u,rfl,ru⟩:=rv.one
 cases ru
 obtain ⟨z,its,n,r,hl,e⟩:=I.lstM hH
 obtain ⟨its2,r2,⟨o,e2,c2,n2,d2⟩,hl2⟩:=I.tuple hB
 obtain ⟨cl,dd,da,sl⟩:=o
 simp only at c2 d2
 subst c2 d2
 have hl3:=r2.length
 have hsz:its.toArray.size+its2.toArray.size≤sizeLine:=by rw [List.size_toArray,List.size_toArray];omega
 have hlong:¬ (!its.toArray.isEmpty && Builtin.List.listTooLong (its.toArray.size+its2.toArray.size))=true:=by
  rw [q59 hsz,Bool.and_false]
  exact Bool.false_ne_true
 refine call_meets F.slot_list_extend ⟨_,e,rfl⟩ F.entry_list_extend (F.args_list_extend_2 _ _)
  (q5J l its.toArray n b its2.toArray n2 dd sl hlong (by rw [List.size_toArray];omega) (by omega)) ⟨e,e2,?_⟩
 refine ⟨.non,_,I.lset (its':=its++its2) hH e (by simp) (r.append r2) ?_,rfl,q⟩
 rw [List.length_append]
 omega
end L2
end
section
namespace L2
open PySem PySem.Spec PyProof.Rows PySem.W PySem.SeqAt PySem.Calls
noncomputable def LitD (P:Params):List DictEntry→List (Str×Int)→Prop
 | [],[]=>True
 | e::r,(x,i)::l=>(∃ t,e.key = .str x t)∧e.hash=PyData.keyHash P x∧(∃ t,e.val = .int i t)∧LitD P r l
 | _,_=>False
theorem LitD.keys {P:Params}:∀ {es:List DictEntry} {l:List (Str×Int)},LitD P es l→KeysLit P es
 | [],[],_=>True.intro
 | _::_,(_,_)::_,⟨⟨t,e⟩,h,_,r⟩=>⟨⟨_,t,e,h⟩,r.keys⟩
noncomputable def valD (l:List (Str×Int)) (x:Str):V:=match l.find? (fun p=>p.1 == x) with | some p=>.int p.2 | none=>.non
theorem LitD.find {P:Params} {x:Str}:∀ {es:List DictEntry} {l:List (Str×Int)},LitD P es l→RelV (valD l x) (((es.find? (fun d:DictEntry=>Value.isStrOf x d.key)).map (·.val)).getD .none)
 | [],[],_=>rfl
 | e::es,(y,i)::l,⟨⟨t,e1⟩,_,⟨t2,e2⟩,r⟩=>by
  have ih:=r.find (x:=x)
  unfold valD at ih ⊢
  rw [List.find?_cons,List.find?_cons,e1]
  have hb:Value.isStrOf x (.str y t)=(y == x):=by
   simp [Value.isStrOf]
  rw [hb]
  by_cases h:(y == x)=true
  ·rw [h]
   exact ⟨t2,e2⟩
  ·have h':(y == x)=false:=by simpa using h
   rw [h']
   exact ih
structure NumD (K:PySem.W.Frag) (w:World) (a:Addr) (l:List (Str×Int)):Prop where
 at_:∃ es n,K.lookup a=some ⟨.type "dict",none,.dict es n,#[]⟩∧LitD w.params es.toList l
 mods:(a == sysModules)=false
noncomputable def tDGetK (a:Addr) (l:List (Str×Int)) (td ty:TE):TE:=fun σ H Q=>td σ H fun x H1=>x = .ref a∧ty σ H1 fun y H2=>∃ z,y = .str z∧Q (valD l z) H2
theorem pe_dgetK {X:Cx} {o e:Expr} {apos cpos:Pos} {td ty:TE} {K:PySem.W.Frag} {w:World} {a:Addr} {l:List (Str×Int)} (hK:X.K=K) (hw:X.w=w) (D:NumD K w a l) (ho:PE X o td) (he:PE X e ty) (m:M1 X o "get" apos e cpos) :
  PE X (.Call (.Attribute o "get" apos) [e] [] cpos) (tDGetK a l td ty):=by
 subst hK hw
 obtain ⟨⟨es,n,hl,hd⟩,hm⟩:=D
 intro pins s σ H Q I h
 refine wpAny_Call_method m.base m.few m.line PySem.F.plainAttrs_dict PySem.F.slot_dict_get PySem.F.type_dict_get (thn (ho pins s σ H _ I h) fun u s1 ⟨x,H1,I1,rx,ex,q1⟩=>?_)
 subst ex
 obtain rfl:u=Value.ref a:=rx
 have mp:=mapOf_K (prog:=X.prog) I1.kIn hl hd.keys
 refine ⟨mp.typeIs,?_,?_⟩
 ·intro b q
  cases q
  exact ⟨_,I1.kIn _ _ hl,rfl⟩
 rw [m.trees]
 refine Calls.callWith_builtin rfl (Calls.evalArgs_plain (Calls.spliced_cons (thn (he pins s1 σ H1 _ I1 q1) fun iv s2 ⟨y,H2,I2,ry,z,ey,q2⟩=>Calls.spliced_nil ?_)))
 subst ey
 obtain ⟨t,rfl⟩:∃ t,iv=Value.str z t:=ry
 have mp2:=mapOf_K (prog:=X.prog) I2.kIn hl hd.keys
 refine call_meetsIn PySem.F.slot_dict_get mp2.typeIs PySem.F.entry_dict_get (PySem.F.args_dict_get_2 _ _) (meets_dict_get (strKind X.prog X.w) a (strKind_is X.prog X.w z t) hm) ⟨_,mp2,?_⟩
 refine ⟨valD l z,H2,I2.tok _,?_,q2⟩
 have hf:=hd.find (x:=z)
 unfold findBy
 rw [← Array.find?_toList]
 revert hf
 cases hq:es.toList.find? (fun d:DictEntry=>Value.isStrOf z d.key) <;> exact fun hf=>hf
theorem Def.imp {P:Program} {w:World} {K:PySem.W.Frag} {mg:Str→Option Value} {base:Heap} {k:Nat} {x:Str} {ps:List Str} {sp sp':Sp} (D:Def P w K mg base k x ps sp) (h:∀ vs H Q E,sp' vs H Q E→sp vs H Q E):Def P w K mg base k x ps sp':=by
 obtain ⟨f,fd,F,b,kp,m⟩:=D.ex
 exact ⟨f,fd,F.imp h,b,kp,m⟩
noncomputable def Itw (hi:Int) (n:Nat):It:=⟨fun i _=>i < n,fun i H x H'=>H'=H∧x = .int (hi+i*2),fun i _=>n≤i⟩
theorem turn_two {P:Program} {w:World} {K:PySem.W.Frag} {tg:Expr} (it:Addr) (hi:Int) (n:Nat):Turn P w K tg (Itw hi n) [it] it (fun i h=>IsRangeIter h it (hi+(i:Nat)*2) ((n:Int)-(i:Nat)) 2) where
 mem:=by simp
 obj:=fun i h st b hb=>by
  have e:b=it:=by simpa using hb
  subst e
  exact ⟨_,st,fun v z=>by
   have z':Data.fields _=Data.cell v:=z
   cases z'⟩
 keep:=fun i h h' st k=>k it (by simp) _ st
 item:=by
  intro X hP hw hK hc i pins s σ H E I hf st hg
  subst hP hw hK
  obtain ⟨f0,f1,f2,f3,f4,f5⟩:=hf it (by simp)
  have W:=Walks.range (prog:=X.prog) (w:=X.w) (I.ok.hd hc) it hi 2 n
  refine W.item i s _ _ hg st fun v h' tk hv st' kk=>?_
  obtain ⟨t,rfl⟩:=hv
  have I1:Inv X pins σ H {s with heap:=h',toks:=tk}:=I.turned (fun b o hb e=>kk b o (by simpa using hb) e) f0 f1 f3 f4 f5
  refine ⟨_,rfl,q7i (s:={s with heap:=h',toks:=tk}) (n:="range_iterator") st' rfl rfl (by decide) ⟨.int (hi+i*2),H,I1,⟨t,?_⟩,⟨rfl,rfl⟩,st',fun b hb=>(hf b hb).1⟩⟩
  rfl
 done:=by
  intro X hP hw hK hc i pins s σ H E I hf st hg
  subst hP hw hK
  obtain ⟨f0,f1,f2,f3,f4,f5⟩:=hf it (by simp)
  exact wpAny_pyNext_range_end (I.ok.hd hc) st (by have:n≤i:=hg;omega) fun h' eb=>⟨rfl,I.turned (t':=s.toks) (fun b o hb e=>eb b o hb e) f0 f1 f3 f4 f5⟩
 self:=fun _ _ _ _ _ st h=>wpAny_pyIter_rangeiter st h
theorem q6r (a b:Int):Builtin.Range.rangeSize a b 2=(((b-a+1)/2).toNat:Int):=by
 unfold Builtin.Range.rangeSize
 rw [if_pos (by decide)]
 split <;> simp <;> omega
theorem small_two {a b:Int} (ha : -(2 ^ 62)≤a) (ha':a < 2 ^ 62) (hb : -(2 ^ 62)≤b) (hb':b < 2 ^ 62):Builtin.Range.small a b 2=true:=by
 unfold Builtin.Range.small
 rw [q6r]
 simp only [Builtin.Range.rangeFitsLong,Bool.and_eq_true,Bool.or_eq_true,decide_eq_true_eq,beq_iff_eq,show (2:Int) > 0 by decide,if_true]
 omega
section
variable {X:Cx} {tg:Expr}
theorem range_itw {pins:List (Addr×Obj)} {σ:St} {H:Hp} {s:Shared} {R:It→Hp→Prop} {E:Value→Shared→Prop} {lo hi:Int} {t u v:Tok} {tk:Nat} (I:Inv X pins σ H s) (h1 : -(2 ^ 62)≤lo) (h2:lo < 2 ^ 62) (h3 : -(2 ^ 62)≤hi) (h4:hi < 2 ^ 62)
  (q:R (Itw hi ((lo-hi+1)/2).toNat) H):wpAny (model X.prog X.w) X.A (pyIter (.ref s.heap.objs.size)) (PIE X pins σ tg R) E {s with heap:=s.heap.push {cls:=.type "range",data:=.fields #[.int hi t,.int lo u,.int 2 v]},toks:=tk}:=by
 refine wpAny_pyIter_range (IsRange.new ..) (small_two h3 h4 h1 h2) ?_
 have I1:Inv X pins σ H {s with heap:=s.heap.push {cls:=.type "range",data:=.fields #[.int hi t,.int lo u,.int 2 v]},toks:=tk}:=I.kept fun b o e=>Heap.get?_push_of_some _ e
 refine ⟨(s.heap.push {cls:=.type "range",data:=.fields #[.int hi t,.int lo u,.int 2 v]}).objs.size,[(s.heap.push {cls:=.type "range",data:=.fields #[.int hi t,.int lo u,.int 2 v]}).objs.size],_,_,H,rfl,
  I1.kept (t':=tk) fun b o e=>Heap.get?_push_of_some _ e,turn_two _ hi ((lo-hi+1)/2).toNat,?_,fun b hb=>?_,q⟩
 ·have e1:hi+((0:Nat):Int)*2=hi:=by simp
  have e2:((((lo-hi+1)/2).toNat:Nat):Int)-((0:Nat):Int)=Builtin.Range.rangeSize hi lo 2:=by rw [q6r];simp
  show IsRangeIter _ _ (hi+((0:Nat):Int)*2) (((((lo-hi+1)/2).toNat:Nat):Int)-((0:Nat):Int)) 2
  rw [e1,e2]
  exact Heap.get?_push_size _ rfl
 ·have e:b=(s.heap.push {cls:=.type "range",data:=.fields #[.int hi t,.int lo u,.int 2 v]}).objs.size:=by simpa using hb
  subst e
  exact I1.fpOk (Nat.le_refl _) (I1.hok.fresh (Nat.le_refl _))
noncomputable def iRngT (ta:TA):TI:=fun σ H R=>ta σ H fun vs H1=>∃ i j:Int,vs=[.int i,.int j,.int 2]∧(-(2 ^ 62)≤i∧i < 2 ^ 62∧-(2 ^ 62)≤j∧j < 2 ^ 62)∧R (Itw i ((j-i+1)/2).toNat) H1
theorem pi_rangeT {a b c:Expr} {ta:TA} {p pos:Pos} (hg:Gl X "range") (hm:X.mg "range" = none) (ha:PA X [a,b,c] ta) (hs:starEach [a,b,c] X.env=[(false,eval a X.env),(false,eval b X.env),(false,eval c X.env)]:=by rfl) (hs2:starEach [b,c] X.env=[(false,eval b X.env),(false,eval c X.env)]:=by rfl) :
  PI X tg (.Call (.Name "range" p) [a,b,c] [] pos) (iRngT ta):=by
 intro pins s σ H R I h
 refine Call_ (q3H I hg hm boot_range (PyProof.Rows.callWith_type1 (thn (ha pos pins s σ H _ I h) fun us s1 ⟨vs,H1,I1,r1,q1⟩=>?_) (by rw [hs,hs2]) (by rw [hs2];rfl)))
 obtain ⟨i,j,e,⟨q1,q2,q3,q4⟩,q⟩:=q1
 subst e
 cases r1 with
 | cons r rr =>
  cases rr with
  | cons r' rr =>
   cases rr with
   | cons r'' rr =>
    cases rr
    obtain ⟨t,rfl⟩:=r
    obtain ⟨t',rfl⟩:=r'
    obtain ⟨t'',rfl⟩:=r''
    exact call_range_3 (by decide) (range_itw I1 q3 q4 q1 q2 q) (Or.inl (PyProof.noPylong_small (by omega)))
end
theorem ps_tryN {X:Cx} {h₀:ExceptHandler} {hs:List ExceptHandler} {pos:Pos} {body:List Stmt} {tb:TS} (hb:∀ (pins:List (Addr×Obj)) (xe:Value→Shared→Prop),PSs (X.tried pins xe) body tb):PS X (.Try body (h₀::hs) [] [] pos) tb:=by
 intro pins s σ H D I h
 refine wpAny_Try_except (wpAny_mono (hb pins (fun e s₁=>wpAny (model X.prog X.w) X.A (noteFrame e X.env) (fun _ s₂=>wpAny (model X.prog X.w) X.A (setFlight e none) (fun _ s₃ =>
  wpAny (model X.prog X.w) X.A (handleBy e X.env (h₀::hs)) (SP X pins D) X.xe s₃) X.xe s₂) X.xe s₁) [] s σ H D I.tried h) (fun fl s1 q=>?_) fun e s1 q=>q)
 cases fl with
 | next=>obtain ⟨σ1,H1,I1,q⟩:=q;exact wpAny_execs_nil ⟨σ1,H1,I1.untried,q⟩
 | brk=>obtain ⟨σ1,H1,I1,q⟩:=q;exact ⟨σ1,H1,I1.untried,q⟩
 | cont=>obtain ⟨σ1,H1,I1,q⟩:=q;exact ⟨σ1,H1,I1.untried,q⟩
 | ret u=>obtain ⟨v,σ1,H1,I1,r,q⟩:=q;exact ⟨v,σ1,H1,I1.untried,r,q⟩
end L2
end
section
namespace L2
open PySem PySem.Spec PyProof.Rows PySem.W PySem.SeqAt PySem.Calls
noncomputable def ShowV (v:V) (z:Str):Prop:=match v with
 | .int i=>i.natAbs.log2 < 1920∧z=Str.ofString (toString i)
 | .str y=>z=y
 | _=>False
theorem call_strV {X:Cx}:q1k X (.type "str") (fun xs H Q=>∃ v z,xs=[v]∧ShowV v z∧Q (.str z) H):=by
 intro pins s σ H xs us Q I r h
 obtain ⟨v,z,rfl,hz,q⟩:=h
 obtain ⟨u,rfl,ru⟩:=q2T r
 cases v with
 | int i =>
  obtain ⟨h1,rfl⟩:i.natAbs.log2 < 1920∧z=Str.ofString (toString i):=hz
  obtain ⟨t,rfl⟩:=ru
  exact PySem.P.str_of_int h1 ⟨.str _,H,I.tok _,⟨_,rfl⟩,q⟩
 | str y =>
  obtain rfl:z=y:=hz
  obtain ⟨t,rfl⟩:=ru
  exact PySem.P.str_of_str ⟨.str _,H,I,⟨_,rfl⟩,q⟩
 | _=>exact hz.elim
end L2
end
section
namespace L2
open PySem PySem.W PySem.Spec PyProof.Rows PySem.Calls
noncomputable def lookA (p q:Program) (mods:List Str) (Xt:Shared→Bool) (g0:Bool) (P:Params) (s:Shared) :=
 ((staticsOk (importedModules p.main.body) (boot_heap P) s.heap && namesBound p s.heap && gensDone s && laidKept (boot_heap P) s.heap),s.heap.bltView,
  s.heap.accountedOkI mods && s.heap.isNs mainGlobals && s.heap.isNs builtinsNs && tablesOk q s.heap && Xt s && (if g0 then s.gens.size == 0 else !leftWithCleanup s.gens))
noncomputable def lookB (q:Program) (s:Shared):=seen ((recsOf q).map (·.name)) (ownsOf q) [] {s with gens:=#[]}
noncomputable def lookC (q:Program) (loose:List Str) (s:Shared):=s.heap.keysOk (looseW q loose) ((recsOf q).map (·.name)) ((litsOf q).map (·.1)) ((clssOf q (looseW q loose)).map (·.name))
noncomputable def lookE (q:Program) (loose:List Str) (s:Shared):=(pinSeenD q (drecsOf q) s,plainSeenE q (looseW q loose) s,plainSeenD q loose s,wideSeen q s,clsSeenW q loose s)
noncomputable def goodE (q:Program) (loose:List Str):=(pinGoodD (drecsOf q),plainGoodE q (looseW q loose),plainGoodD q loose,wideGood q,clsGoodW q loose)
theorem q7d {p q:Program} {loose:List Str} {Xt:Shared→Bool} {g0:Bool} {P:Params} {s:Shared} (a:lookA p q (importedModules p.main.body) Xt g0 P s=(true,bltViewBooted,true)) (b:lookB q s=expectedOf q) (c:lookC q loose s=true) (d:tabsOk q s=true) (e:lookE q loose s=goodE q loose) :
  ((staticsOk (importedModules p.main.body) (boot_heap P) s.heap && namesBound p s.heap && gensDone s && laidKept (boot_heap P) s.heap),openSeen q loose (importedModules p.main.body) Xt g0 s)=(true,openGood q loose):=by
 unfold lookA at a
 unfold lookB at b
 unfold lookC at c
 unfold lookE goodE at e
 unfold openSeen openGood
 rw [Prod.mk.injEq,Prod.mk.injEq] at a
 obtain ⟨a1,a2,a3⟩:=a
 have a4:(s.heap.keysOk (looseW q loose) ((recsOf q).map (·.name)) ((litsOf q).map (·.1)) ((clssOf q (looseW q loose)).map (·.name)) && s.heap.accountedOkI (importedModules p.main.body) && s.heap.isNs mainGlobals && s.heap.isNs builtinsNs && tablesOk q s.heap && Xt s && (if g0 then s.gens.size == 0 else !leftWithCleanup s.gens))=true:=by
  rw [c,Bool.true_and]
  exact a3
 rw [a1,a2,a4,b,d,e]
theorem map_six {α β γ δ ε κ ζ ξ:Type} {o:Option α} {f:α→β} {g:α→γ} {h:α→δ} {i:α→κ} {j:α→ξ} {y:α→ε} {l:α→ζ} {a:β} {b:γ} {c:δ} {d:κ} {e:ξ} {u:ε} {z:ζ} (ha:o.map f=some a) (hb:o.map g=some b) (hc:o.map h=some c) (hd:o.map i=some d) (he:o.map j=some e) (hy:o.map y=some u)
  (k:∀ s,f s=a→g s=b→h s=c→i s=d→j s=e→l s=z):o.map (fun s=>(l s,y s))=some (z,u):=by
 cases o with
 | none=>cases ha
 | some s=>exact congrArg some (Prod.ext (k s (Option.some.inj ha) (Option.some.inj hb) (Option.some.inj hc) (Option.some.inj hd) (Option.some.inj he)) (Option.some.inj hy))
section
variable {p q:Program} {loose:List Str} {Xt:Shared→Bool} {α:Type} {Yf:Shared→α} {Ya:World→α} {N:Nat} {g0:Bool}
noncomputable def Ran (p:Program) (N:Nat) {β:Type} (f:World→Shared→β) (b:World→β):Prop:=∀ (w:World) (os:OsState),(topRunT treeTable p w 11 (some (.ref 6)) N ⟨bootT w.params,11,(boot_heap w.params).life,#[],boot_drawn,boot_toks,os⟩ (topStub p)).map (fun s=>f w s.abs)=some (b w)
theorem LeftO.of_parts (e:opening p=plainProg p.main.scope.names) (hN:Nat.ble 600 N=true) (f:∀ s,fenceModules? p s=some s)
  (rA:Ran p N (fun w s=>lookA p q (importedModules p.main.body) Xt g0 w.params s) (fun _=>(true,bltViewBooted,true))) (rB:Ran p N (fun _ s=>lookB q s) (fun _=>expectedOf q)) (rC:Ran p N (fun _ s=>lookC q loose s) (fun _=>true)) (rD:Ran p N (fun _ s=>tabsOk q s) (fun _=>true))
  (rE:Ran p N (fun _ s=>lookE q loose s) (fun _=>goodE q loose)) (rY:Ran p N (fun _ s=>Yf s) Ya):PySem.W.LeftO p q loose Xt Yf Ya N g0 :=
 LeftO.of_tree2 e hN f fun w os=>map_six (rA w os) (rB w os) (rC w os) (rD w os) (rE w os) (rY w os) fun s a b c d e=>q7d a b c d e
theorem Ran.of {β:Type} {f:World→Shared→β} {b:World→β} {r:World→OsState→Option SharedT} (t:∀ w os,topRunT treeTable p w 11 (some (.ref 6)) N ⟨bootT w.params,11,(boot_heap w.params).life,#[],boot_drawn,boot_toks,os⟩ (topStub p)=r w os) (h:∀ w os,(r w os).map (fun s=>f w s.abs)=some (b w)):Ran p N f b:=fun w os=>by
 rw [t w os]
 exact h w os
end
theorem ifU {c:TT} {t u:TS} {D:Ends} {σ:St} {H:Hp} (I:Bool→Hp→Prop) (tail:∀ b H',I b H'→if b=true then t D σ H' else u D σ H') (h:∀ R:Bool→Hp→Prop,(∀ b H',I b H'→R b H')→c σ H R):tIfS c t u D σ H:=h _ tail
theorem op_both {X:Cx} {f:Value→Value→Sem Value} {r1 r2:R2} (h1:OpR X f r1) (h2:OpR X f r2):OpR X f (fun x y H Q=>r1 x y H Q∨r2 x y H Q):=by
 intro pins s σ H x y v u Q I rx ry h
 rcases h with h | h
 ·exact h1 pins s σ H x y v u Q I rx ry h
 ·exact h2 pins s σ H x y v u Q I rx ry h
end L2
end
section
local macro_rules | `(tactic| lk)=>`(tactic| repeat (first | refine L2.wk1 _ rfl ?_ | refine L2.wk2 _ _ rfl rfl ?_ | refine ⟨_,rfl,?_⟩ | refine ⟨_,_,rfl,rfl,?_⟩ | refine ⟨rfl,?_⟩ | refine ⟨L2.cPow rfl,?_⟩ | refine ⟨L2.cDiv rfl,?_⟩ | refine ⟨L2.cPos rfl,?_⟩ | refine ⟨L2.cMulL rfl,?_⟩ | refine ⟨L2.cMulR rfl,?_⟩ | refine ⟨L2.cNon rfl,?_⟩))
namespace My
open PySem L2
variable {P:Program} {w:World} {K:PySem.W.Frag} {mg:Str→Option Value} {base:Heap}
noncomputable def top (i:Nat):Stmt:=PySem.Challenge.pw_topstretch_k42_whole_rows_in_any_order.main.body.getD i (.Pass ⟨0,0,0,0⟩)
noncomputable abbrev q2J:Stmt:=top 11
theorem q6M:FnScope ["thing"] ["thing"] (qH q2J):=⟨rfl,rfl,rfl,by decide +kernel,rfl,by decide +kernel,by decide +kernel⟩
noncomputable abbrev q12:Stmt:=top 12
theorem sc_is_stretch:FnScope ["stretch","many","first","beyond"] ["stretch","many"] (qH q12):=⟨rfl,rfl,rfl,by decide +kernel,rfl,by decide +kernel,by decide +kernel⟩
noncomputable abbrev q2o:Stmt:=top 13
theorem sc_best_of:FnScope ["row","total","first","best","place"] ["row"] (qH q2o):=⟨rfl,rfl,rfl,by decide +kernel,rfl,by decide +kernel,by decide +kernel⟩
noncomputable abbrev q0y:Stmt:=top 14
theorem sc_sums_ahead:FnScope ["row","total","ahead","number"] ["row"] (qH q0y):=⟨rfl,rfl,rfl,by decide +kernel,rfl,by decide +kernel,by decide +kernel⟩
noncomputable abbrev q2F:Stmt:=top 25
theorem q6L:FnScope ["stretch"] ["stretch"] (qH q2F):=⟨rfl,rfl,rfl,by decide +kernel,rfl,by decide +kernel,by decide +kernel⟩
noncomputable abbrev q1b:Stmt:=top 26
theorem q5a:FnScope ["one","other"] ["one","other"] (qH q1b):=⟨rfl,rfl,rfl,by decide +kernel,rfl,by decide +kernel,by decide +kernel⟩
noncomputable abbrev q56:Stmt:=top 27
theorem sc_moved:FnScope ["stretch","places"] ["stretch","places"] (qH q56):=⟨rfl,rfl,rfl,by decide +kernel,rfl,by decide +kernel,by decide +kernel⟩
noncomputable abbrev q0R:Stmt:=top 28
theorem q3n:FnScope ["one","other"] ["one","other"] (qH q0R):=⟨rfl,rfl,rfl,by decide +kernel,rfl,by decide +kernel,by decide +kernel⟩
noncomputable abbrev q0V:Stmt:=top 29
theorem sc_joined_round:FnScope ["one","other","best","inner"] ["one","other"] (qH q0V):=⟨rfl,rfl,rfl,by decide +kernel,rfl,by decide +kernel,by decide +kernel⟩
noncomputable abbrev q3W:Stmt:=top 30
theorem sc_joined:FnScope ["one","other","many","one_whole","other_whole","other_head","over"] ["one","other"] (qH q3W):=⟨rfl,rfl,rfl,by decide +kernel,rfl,by decide +kernel,by decide +kernel⟩
noncomputable abbrev q3U:Stmt:=top 31
theorem sc_single:FnScope ["number","stretch"] ["number"] (qH q3U):=⟨rfl,rfl,rfl,by decide +kernel,rfl,by decide +kernel,by decide +kernel⟩
noncomputable abbrev q3V:Stmt:=top 32
theorem sc_paired:FnScope ["left","right"] ["left","right"] (qH q3V):=⟨rfl,rfl,rfl,by decide +kernel,rfl,by decide +kernel,by decide +kernel⟩
noncomputable abbrev q2n:Stmt:=top 33
theorem sc_halved:FnScope ["row","first","beyond","middle"] ["row","first","beyond"] (qH q2n):=⟨rfl,rfl,rfl,by decide +kernel,rfl,by decide +kernel,by decide +kernel⟩
noncomputable abbrev q6u:Stmt:=top 34
theorem sc_kept:FnScope ["row"] ["row"] (qH q6u):=⟨rfl,rfl,rfl,by decide +kernel,rfl,by decide +kernel,by decide +kernel⟩
noncomputable abbrev q2k:Stmt:=top 35
theorem q7M:FnScope ["held"] ["held"] (qH q2k):=⟨rfl,rfl,rfl,by decide +kernel,rfl,by decide +kernel,by decide +kernel⟩
noncomputable abbrev q2j:Stmt:=top 36
theorem sc_row_of:FnScope ["held"] ["held"] (qH q2j):=⟨rfl,rfl,rfl,by decide +kernel,rfl,by decide +kernel,by decide +kernel⟩
noncomputable abbrev q0E:Stmt:=top 37
theorem q1x:FnScope ["held","place"] ["held","place"] (qH q0E):=⟨rfl,rfl,rfl,by decide +kernel,rfl,by decide +kernel,by decide +kernel⟩
noncomputable abbrev q1N:Stmt:=top 38
theorem sc_with_put:FnScope ["held","place","number","middle"] ["held","place","number"] (qH q1N):=⟨rfl,rfl,rfl,by decide +kernel,rfl,by decide +kernel,by decide +kernel⟩
noncomputable abbrev q1z:Stmt:=top 39
theorem sc_changed:FnScope ["held","changes","now","change"] ["held","changes"] (qH q1z):=⟨rfl,rfl,rfl,by decide +kernel,rfl,by decide +kernel,by decide +kernel⟩
noncomputable abbrev q1O:Stmt:=top 40
theorem sc_known_of:FnScope ["held","first","beyond","middle"] ["held","first","beyond"] (qH q1O):=⟨rfl,rfl,rfl,by decide +kernel,rfl,by decide +kernel,by decide +kernel⟩
noncomputable abbrev q08:Stmt:=top 41
theorem q1n:FnScope ["held","stretch"] ["held","stretch"] (qH q08):=⟨rfl,rfl,rfl,by decide +kernel,rfl,by decide +kernel,by decide +kernel⟩
noncomputable abbrev q20:Stmt:=top 42
theorem q4V:FnScope ["held","stretch"] ["held","stretch"] (qH q20):=⟨rfl,rfl,rfl,by decide +kernel,rfl,by decide +kernel,by decide +kernel⟩
noncomputable abbrev q15:Stmt:=top 43
theorem sc_best_round:FnScope ["held","plain","best","over"] ["held"] (qH q15):=⟨rfl,rfl,rfl,by decide +kernel,rfl,by decide +kernel,by decide +kernel⟩
noncomputable abbrev q0Y:Stmt:=top 45
theorem q2i:FnScope ["many","least","most"] ["many","least","most"] (qH q0Y):=⟨rfl,rfl,rfl,by decide +kernel,rfl,by decide +kernel,by decide +kernel⟩
noncomputable abbrev q0h:Stmt:=top 46
theorem q4H:FnScope ["firsts","ahead","first"] ["firsts","ahead","first"] (qH q0h):=⟨rfl,rfl,rfl,by decide +kernel,rfl,by decide +kernel,by decide +kernel⟩
noncomputable abbrev q0Z:Stmt:=top 47
theorem sc_best_sized:FnScope ["row","least","most","longest","ahead","firsts","best","beyond","total"] ["row","least","most"] (qH q0Z):=⟨rfl,rfl,rfl,by decide +kernel,rfl,by decide +kernel,by decide +kernel⟩
noncomputable abbrev q07:Stmt:=top 49
theorem q1m:FnScope ["many","least","gap"] ["many","least","gap"] (qH q07):=⟨rfl,rfl,rfl,by decide +kernel,rfl,by decide +kernel,by decide +kernel⟩
noncomputable abbrev q2D:Stmt:=top 50
theorem q6K:FnScope ["numbers","gap"] ["numbers","gap"] (qH q2D):=⟨rfl,rfl,rfl,by decide +kernel,rfl,by decide +kernel,by decide +kernel⟩
noncomputable abbrev q13:Stmt:=top 51
theorem q55:FnScope ["one","other"] ["one","other"] (qH q13):=⟨rfl,rfl,rfl,by decide +kernel,rfl,by decide +kernel,by decide +kernel⟩
noncomputable abbrev q16:Stmt:=top 52
theorem sc_begun_line:FnScope ["row","behind","line","place","rest"] ["row","behind"] (qH q16):=⟨rfl,rfl,rfl,by decide +kernel,rfl,by decide +kernel,by decide +kernel⟩
noncomputable abbrev q1c:Stmt:=top 53
theorem sc_best_line:FnScope ["begun","line","place"] ["begun"] (qH q1c):=⟨rfl,rfl,rfl,by decide +kernel,rfl,by decide +kernel,by decide +kernel⟩
noncomputable abbrev q0j:Stmt:=top 54
theorem q4I:FnScope ["best","gap"] ["best","gap"] (qH q0j):=⟨rfl,rfl,rfl,by decide +kernel,rfl,by decide +kernel,by decide +kernel⟩
noncomputable abbrev q2G:Stmt:=top 55
theorem sc_lines_of:FnScope ["row","many","gap","nothing","lines","count","begun","best"] ["row","many","gap"] (qH q2G):=⟨rfl,rfl,rfl,by decide +kernel,rfl,by decide +kernel,by decide +kernel⟩
noncomputable abbrev q14:Stmt:=top 56
theorem sc_first_from:FnScope ["line","start","first"] ["line","start"] (qH q14):=⟨rfl,rfl,rfl,by decide +kernel,rfl,by decide +kernel,by decide +kernel⟩
noncomputable abbrev q0i:Stmt:=top 57
theorem sc_beyond_from:FnScope ["row","first","total","behind","beyond","left"] ["row","first","total","behind"] (qH q0i):=⟨rfl,rfl,rfl,by decide +kernel,rfl,by decide +kernel,by decide +kernel⟩
noncomputable abbrev q0Q:Stmt:=top 58
theorem sc_stretches_of:FnScope ["row","lines","many","gap","told","start","count","first","total","beyond"] ["row","lines","many","gap"] (qH q0Q):=⟨rfl,rfl,rfl,by decide +kernel,rfl,by decide +kernel,by decide +kernel⟩
noncomputable abbrev q0a:Stmt:=top 59
theorem sc_best_apart:FnScope ["row","many","gap","lines"] ["row","many","gap"] (qH q0a):=⟨rfl,rfl,rfl,by decide +kernel,rfl,by decide +kernel,by decide +kernel⟩
noncomputable abbrev q06:Stmt:=top 61
theorem sc_several_paper:FnScope ["row","many","gap","lines"] ["row","many","gap"] (qH q06):=⟨rfl,rfl,rfl,by decide +kernel,rfl,by decide +kernel,by decide +kernel⟩
noncomputable abbrev q1y:Stmt:=top 63
theorem sc_must_be:FnScope ["held","place","many","without","beside","left","right"] ["held","place"] (qH q1y):=⟨rfl,rfl,rfl,by decide +kernel,rfl,by decide +kernel,by decide +kernel⟩
noncomputable abbrev q1V:Stmt:=top 67
theorem q5W:FnScope ["row"] ["row"] (qH q1V):=⟨rfl,rfl,rfl,by decide +kernel,rfl,by decide +kernel,by decide +kernel⟩
noncomputable abbrev q0k:Stmt:=top 68
theorem q4J:FnScope ["word","most"] ["word","most"] (qH q0k):=⟨rfl,rfl,rfl,by decide +kernel,rfl,by decide +kernel,by decide +kernel⟩
noncomputable abbrev q1a:Stmt:=top 69
theorem q5Z:FnScope ["word"] ["word"] (qH q1a):=⟨rfl,rfl,rfl,by decide +kernel,rfl,by decide +kernel,by decide +kernel⟩
noncomputable abbrev q2E:Stmt:=top 70
theorem sc_read_row:FnScope ["text","words"] ["text"] (qH q2E):=⟨rfl,rfl,rfl,by decide +kernel,rfl,by decide +kernel,by decide +kernel⟩
noncomputable abbrev q1W:Stmt:=top 75
theorem q5X:FnScope ["text"] ["text"] (qH q1W):=⟨rfl,rfl,rfl,by decide +kernel,rfl,by decide +kernel,by decide +kernel⟩
noncomputable abbrev q0T:Stmt:=top 76
theorem q3p:FnScope ["word"] ["word"] (qH q0T):=⟨rfl,rfl,rfl,by decide +kernel,rfl,by decide +kernel,by decide +kernel⟩
noncomputable abbrev q0e:Stmt:=top 77
theorem q4F:FnScope ["word"] ["word"] (qH q0e):=⟨rfl,rfl,rfl,by decide +kernel,rfl,by decide +kernel,by decide +kernel⟩
noncomputable abbrev q0U:Stmt:=top 78
theorem q3q:FnScope ["words"] ["words"] (qH q0U):=⟨rfl,rfl,rfl,by decide +kernel,rfl,by decide +kernel,by decide +kernel⟩
noncomputable abbrev q0f:Stmt:=top 79
theorem q4G:FnScope ["word","words"] ["word","words"] (qH q0f):=⟨rfl,rfl,rfl,by decide +kernel,rfl,by decide +kernel,by decide +kernel⟩
noncomputable abbrev q0F:Stmt:=top 80
theorem sc_with_stretches:FnScope ["told","numbers","stretch"] ["told"] (qH q0F):=⟨rfl,rfl,rfl,by decide +kernel,rfl,by decide +kernel,by decide +kernel⟩
noncomputable abbrev q5c:Stmt:=top 81
theorem sc_bars:FnScope ["row","many","gap"] ["row","many","gap"] (qH q5c):=⟨rfl,rfl,rfl,by decide +kernel,rfl,by decide +kernel,by decide +kernel⟩
noncomputable abbrev q1d:Stmt:=top 82
theorem sc_answer_of:FnScope ["held","word","numbers","least"] ["held","word","numbers"] (qH q1d):=⟨rfl,rfl,rfl,by decide +kernel,rfl,by decide +kernel,by decide +kernel⟩
noncomputable abbrev q0S:Stmt:=top 83
theorem q3o:FnScope ["answer"] ["answer"] (qH q0S):=⟨rfl,rfl,rfl,by decide +kernel,rfl,by decide +kernel,by decide +kernel⟩
noncomputable abbrev q2K:Stmt:=top 84
theorem q6N:FnScope ["held"] ["held"] (qH q2K):=⟨rfl,rfl,rfl,by decide +kernel,rfl,by decide +kernel,by decide +kernel⟩
noncomputable abbrev q1e:Stmt:=(match top 85 with | .ClassDef _ _ _ b ..=>b | _=>[]).getD 0 (.Pass ⟨0,0,0,0⟩)
theorem q5b:FnScope ["self"] ["self"] (qH q1e):=⟨rfl,rfl,rfl,by decide +kernel,rfl,by decide +kernel,by decide +kernel⟩
noncomputable abbrev q2L:Stmt:=(match top 85 with | .ClassDef _ _ _ b ..=>b | _=>[]).getD 1 (.Pass ⟨0,0,0,0⟩)
theorem sc_Desk_say:FnScope ["self","row","words","word","behind"] ["self","row"] (qH q2L):=⟨rfl,rfl,rfl,by decide +kernel,rfl,by decide +kernel,by decide +kernel⟩
noncomputable abbrev q2M:Stmt:=(match top 85 with | .ClassDef _ _ _ b ..=>b | _=>[]).getD 2 (.Pass ⟨0,0,0,0⟩)
theorem q6O:FnScope ["self","row"] ["self","row"] (qH q2M):=⟨rfl,rfl,rfl,by decide +kernel,rfl,by decide +kernel,by decide +kernel⟩
noncomputable abbrev q1P:Stmt:=(match top 85 with | .ClassDef _ _ _ b ..=>b | _=>[]).getD 3 (.Pass ⟨0,0,0,0⟩)
theorem sc_Desk_put:FnScope ["self","changes","now"] ["self","changes"] (qH q1P):=⟨rfl,rfl,rfl,by decide +kernel,rfl,by decide +kernel,by decide +kernel⟩
noncomputable abbrev q0r:Stmt:=(match top 85 with | .ClassDef _ _ _ b ..=>b | _=>[]).getD 4 (.Pass ⟨0,0,0,0⟩)
theorem q3F:FnScope ["self"] ["self"] (qH q0r):=⟨rfl,rfl,rfl,by decide +kernel,rfl,by decide +kernel,by decide +kernel⟩
noncomputable abbrev q0s:Stmt:=(match top 85 with | .ClassDef _ _ _ b ..=>b | _=>[]).getD 5 (.Pass ⟨0,0,0,0⟩)
theorem q3G:FnScope ["self"] ["self"] (qH q0s):=⟨rfl,rfl,rfl,by decide +kernel,rfl,by decide +kernel,by decide +kernel⟩
noncomputable abbrev q1Y:Stmt:=top 87
theorem sc_law_flags:FnScope ["e","found"] ["e"] (qH q1Y):=⟨rfl,rfl,rfl,by decide +kernel,rfl,by decide +kernel,by decide +kernel⟩
noncomputable abbrev q2H:Stmt:=top 88
theorem sc_law_said:FnScope ["desk","row","caught","spoken","e"] ["desk","row"] (qH q2H):=⟨rfl,rfl,rfl,by decide +kernel,rfl,by decide +kernel,by decide +kernel⟩
noncomputable abbrev q2m:Stmt:=top 89
theorem q7N:FnScope ["at"] ["at"] (qH q2m):=⟨rfl,rfl,rfl,by decide +kernel,rfl,by decide +kernel,by decide +kernel⟩
noncomputable abbrev q0g:Stmt:=top 91
theorem sc_law_numbers:FnScope ["cell","many","found","rest","k","one"] ["cell","many"] (qH q0g):=⟨rfl,rfl,rfl,by decide +kernel,rfl,by decide +kernel,by decide +kernel⟩
noncomputable abbrev q1X:Stmt:=top 92
theorem q5Y:FnScope ["numbers"] ["numbers"] (qH q1X):=⟨rfl,rfl,rfl,by decide +kernel,rfl,by decide +kernel,by decide +kernel⟩
noncomputable abbrev q10:Stmt:=top 93
theorem sc_law_number:FnScope ["numbers","k","some"] ["numbers","k"] (qH q10):=⟨rfl,rfl,rfl,by decide +kernel,rfl,by decide +kernel,by decide +kernel⟩
noncomputable abbrev q1Z:Stmt:=top 94
theorem sc_law_asked:FnScope ["row","word","one","other","told","found","first","beyond"] ["row","word","one","other"] (qH q1Z):=⟨rfl,rfl,rfl,by decide +kernel,rfl,by decide +kernel,by decide +kernel⟩
noncomputable abbrev q11:Stmt:=top 95
theorem sc_law_answer:FnScope ["row","word","one","other","found","caught","e"] ["row","word","one","other"] (qH q11):=⟨rfl,rfl,rfl,by decide +kernel,rfl,by decide +kernel,by decide +kernel⟩
noncomputable abbrev q2l:Stmt:=top 96
theorem sc_law_put:FnScope ["mine","numbers","row","text","bad","k","place","number"] ["mine","numbers"] (qH q2l):=⟨rfl,rfl,rfl,by decide +kernel,rfl,by decide +kernel,by decide +kernel⟩
noncomputable abbrev q0z:Stmt:=top 97
theorem q54:FnScope ["mine","word"] ["mine","word"] (qH q0z):=⟨rfl,rfl,rfl,by decide +kernel,rfl,by decide +kernel,by decide +kernel⟩
noncomputable abbrev q2I:Stmt:=top 98
theorem sc_law_deed:FnScope ["mine","numbers","kind","many","row","word","one","other","text"] ["mine","numbers"] (qH q2I):=⟨rfl,rfl,rfl,by decide +kernel,rfl,by decide +kernel,by decide +kernel⟩
noncomputable abbrev q6P:Stmt:=top 99
theorem sc_law:FnScope ["script","desk","mine","cell","row","due"] ["script"] (qH q6P):=⟨rfl,rfl,rfl,by decide +kernel,rfl,by decide +kernel,by decide +kernel⟩
structure Cons (mg:Str→Option Value):Prop where
 BEST:∃ t,mg "BEST" = some (.int 2 t)
 FIGURES:∃ t,mg "FIGURES" = some (.str "0123456789" t)
 HEAD:∃ t,mg "HEAD" = some (.int 3 t)
 KNOWN:∃ t,mg "KNOWN" = some (.int 0 t)
 LEFT:∃ t,mg "LEFT" = some (.int 1 t)
 MANY:∃ t,mg "MANY" = some (.int 0 t)
 MOST_FIGURES_desk:∃ t,mg "MOST_FIGURES_desk" = some (.int 6 t)
 MOST_FIGURES_texts:∃ t,mg "MOST_FIGURES_texts" = some (.int 30 t)
 MOST_PAIRS:∃ t,mg "MOST_PAIRS" = some (.int 20 t)
 RIGHT:∃ t,mg "RIGHT" = some (.int 2 t)
 ROUND:∃ t,mg "ROUND" = some (.int 5 t)
 TAIL:∃ t,mg "TAIL" = some (.int 4 t)
 TOTAL:∃ t,mg "TOTAL" = some (.int 1 t)
noncomputable def psum (ns:List Int) (i:Nat):Int:=(ns.take i).sum
noncomputable def pl (ns:List Int) (i:Nat):List Int:=(List.range (i+1)).map (psum ns)
theorem q3t {ns:List Int} {i:Nat} (h:i < ns.length):psum ns (i+1)=psum ns i+ns[i]:=by
 unfold psum
 rw [List.take_succ_eq_append_getElem h,List.sum_append,List.sum_singleton]
theorem pl_succ (ns:List Int) (i:Nat):pl ns (i+1)=pl ns i++[psum ns (i+1)]:=by
 unfold pl
 rw [List.range_succ,List.map_append]
 rfl
theorem pl_len (ns:List Int) (i:Nat):(pl ns i).length=i+1:=by unfold pl;rw [List.length_map,List.length_range]
theorem int_at {ns:List Int} {i:Nat} {x:V} (h:(ns.map V.int)[i]?=some x):∃ h':i < ns.length,x = .int ns[i]:=by
 rw [List.getElem?_map] at h
 cases e:ns[i]? with
 | none=>rw [e] at h;cases h
 | some n =>
  rw [e] at h
  cases h
  obtain ⟨h',e'⟩:=List.getElem?_eq_some_iff.mp e
  exact ⟨h',by rw [e']⟩
noncomputable def SqO (k:Bool) (H:Hp) (a:Addr) (xs:List V):Prop:=match k with
 | true=>H a=some (.lst xs)
 | false=>H a=some (.tup xs)
inductive SameD (H:Hp):Nat→V→V→Prop
 | non {n:Nat}:SameD H (n+1) .non .non
 | int {n:Nat} (i:Int):SameD H (n+1) (.int i) (.int i)
 | seq {n:Nat} (k:Bool) {a b:Addr} {xs ys:List V} (ha:SqO k H a xs) (hb:SqO k H b ys) (hl:xs.length=ys.length) (hz:xs.length≤100000) (h:∀ (j:Nat) x y,xs[j]?=some x→ys[j]?=some y→SameD H n x y):SameD H (n+1) (.ref a) (.ref b)
theorem cut_front {ns:List Int} {m:Nat}:cutV (ns.map V.int) none (some (m:Int))=(ns.take m).map V.int:=by
 unfold cutV
 rw [HT.sIx_nat,HT.sIx_none,List.length_map,List.drop_zero,Nat.sub_zero,List.map_take]
 rcases Nat.le_total m ns.length with h | h
 ·rw [Nat.min_eq_left h]
 ·rw [Nat.min_eq_right h,List.take_of_length_le (by rw [List.length_map];exact Nat.le_refl _),List.take_of_length_le (by rw [List.length_map];exact h)]
noncomputable def q6o (K:PySem.W.Frag):Sp:=fun vs H Q _=>∃ (a:Addr) (ns:List Int),vs=[.ref a]∧SqL K H a (ns.map V.int)∧ns.length≤63∧∀ H',Q (.bl true) H'
noncomputable def cutI (ns:List Int) (a b:Int):List Int:=(ns.drop a.toNat).take (b.toNat-a.toNat)
theorem cut_ints {ns:List Int} {a b:Int} (h0:0≤a) (h1:a≤b) (h2:b≤(ns.length:Int)):cutV (ns.map V.int) (some a) (some b)=(cutI ns a b).map V.int:=by
 obtain ⟨x,rfl⟩:∃ x:Nat,a=x:=⟨a.toNat,by omega⟩
 obtain ⟨y,rfl⟩:∃ y:Nat,b=y:=⟨b.toNat,by omega⟩
 unfold cutV cutI
 rw [HT.sIx_nat,HT.sIx_nat,List.length_map,Nat.min_eq_left (by omega),Nat.min_eq_left (by omega),List.map_take,List.map_drop]
 rfl
noncomputable def txt (n:Int):Str:=Str.ofString (toString n)
noncomputable def q2f:Sp:=fun vs H Q _=>∃ (r:Addr) (ns:List Int),vs=[.ref r]∧H r=some (.lst (ns.map V.int))∧ns.length≤1000∧(∀ n,n∈ns→n.natAbs.log2 < 128)∧JoinOk " " (ns.map txt)=true∧∀ H',Same H H'→Q (.str (Txt.join " " (ns.map txt))) H'
theorem ok_shown {k:Nat} {f:Addr} {fd:FuncData} (F:Fun K "shown_row" "shown_row" q1V f fd) (Z:Blt mg):FnOk P w K mg base CX0 (k+1) f fd ["row"] q2f:=by
 refine F.ok q5W (fun vs H Q E h=>?_) (fun cdv A outer s H vs Q E hr h=>?_)
 ·obtain ⟨r,ns,rfl,_⟩:=h
  rfl
 obtain ⟨r,ns,rfl,hR,hz,hb,hj,fin⟩:=h
 apply Exists.intro
 apply And.intro
 case left =>
  apply qD
  exact (qL (q7P PySem.F.plainAttrs_str PySem.F.slot_str_join PySem.F.type_str_join mt_join qR (q0 (q3x (N':=["number"]) (ix:=[none]) rfl rfl (by decide +kernel) rfl rfl rfl rfl (q09 (K:=K) rfl (pv 0)) (fun _ _ _ _=>(qi (i:=0) (show List.Nodup (["number"]:List Str) by decide +kernel) rfl (by walk_at "lr"))) (fun _ _ _ _=>q0b) (fun _ _ _ _=>(qd qu rfl Z.str_ PyProof.Rows.boot_str (q0 (pv 0) qC)))) qC)))
 lk
 have hl:(ns.map V.int).length=ns.length:=List.length_map _
 refine ⟨⟨_,SqL.of hR⟩,?_⟩
 intro acc hacc
 refine q0d (n:=ns.length) (fun i τ zs H'=>H' acc=some (.lst zs)∧zs=((ns.take i).map txt).map V.str∧Same H H'∧∃ o0,τ=[o0]) ⟨qA,rfl,Same.new hacc _,none,rfl⟩ (by omega) ?_ ?_ ?_ ?_
 ·rintro i τ zs H' ⟨e,rfl,_⟩
  exact ⟨e,by rw [List.length_map,List.length_map,List.length_take];omega⟩
 ·rintro i τ zs H' hi ⟨e,_,sm,_⟩
  exact ⟨_,V.int ns[i],SqL.of (sm _ _ hR),by rw [List.getElem?_map,List.getElem?_eq_getElem hi];rfl⟩
 ·rintro τ zs H' ⟨e,rfl,sm,_⟩
  refine ⟨⟨_,SqL.of (sm _ _ hR),by rw [hl];exact Nat.le_refl _⟩,?_⟩
  rw [List.take_length] at e
  exact ⟨_,acc,_,rfl,rfl,SqL.of e,hj,fin H' sm⟩
 ·rintro i τ zs H' v H2 hi ⟨e,rfl,sm,o0,rfl⟩ ⟨rfl,y⟩
  have ey:=y _ (SqL.of (sm _ _ hR))
  obtain ⟨_,rfl⟩:=int_at ey
  lk
  refine ⟨Nat.lt_trans (hb _ (List.getElem_mem hi)) (by decide),?_⟩
  refine ⟨e,Nx.mk hi ⟨qA,?_,sm.upd hacc,_,rfl⟩⟩
  rw [List.take_succ_eq_append_getElem hi,List.map_append,List.map_append]
  rfl
theorem q5K {m:Nat} (h:10≤m):Nat.toDigits 10 m=Nat.toDigits 10 (m/10)++[Nat.digitChar (m%10)]:=by
 have hm:m%10 < 10:=Nat.mod_lt m (by decide)
 have t:Nat.toDigits 10 (m/10)++Nat.toDigits 10 (m%10)=Nat.toDigits 10 (10*(m/10)+m%10):=Nat.toDigits_append_toDigits (by decide) (by omega) hm
 rw [Nat.div_add_mod,Nat.toDigits_of_lt_base hm] at t
 exact t.symm
theorem q4A:∀ (k m:Nat),m < 10 ^ (k+1)→(Nat.toDigits 10 m).length≤k+1
 | 0,m,h=>by
  rw [Nat.toDigits_of_lt_base (by omega)]
  exact Nat.le_refl _
 | k+1,m,h=>by
  by_cases h1:m < 10
  ·rw [Nat.toDigits_of_lt_base h1]
   show 1≤_
   omega
  ·rw [q5K (by omega),List.length_append]
   have:=q4A k (m/10) (by rw [Nat.pow_succ] at h;omega)
   show _+1≤_
   omega
theorem dg_ne (m:Nat):Nat.toDigits 10 m≠[]:=by
 by_cases h1:m < 10
 ·rw [Nat.toDigits_of_lt_base h1]
  exact List.cons_ne_nil _ _
 ·rw [q5K (by omega)]
  exact List.append_ne_nil_of_right_ne_nil _ (List.cons_ne_nil _ _)
theorem dg_head (m:Nat) (h:1≤m):∃ d r,1≤d∧d < 10∧Nat.toDigits 10 m=Nat.digitChar d::r:=by
 induction m using Nat.strongRecOn with
 | _ m ih =>
  by_cases h1:m < 10
  ·exact ⟨m,[],h,h1,Nat.toDigits_of_lt_base h1⟩
  ·obtain ⟨d,r,a,b,e⟩:=ih (m/10) (by omega) (by omega)
   exact ⟨d,r++[Nat.digitChar (m%10)],a,b,by rw [q5K (by omega),e];rfl⟩
theorem q74 (m:Nat):∀ c∈Nat.toDigits 10 m,∃ d,d < 10∧c=Nat.digitChar d:=by
 induction m using Nat.strongRecOn with
 | _ m ih =>
  by_cases h1:m < 10
  ·rw [Nat.toDigits_of_lt_base h1]
   intro c hc
   exact ⟨m,h1,List.mem_singleton.mp hc⟩
  ·rw [q5K (by omega)]
   intro c hc
   rcases List.mem_append.mp hc with g | g
   ·exact ih (m/10) (by omega) c g
   ·exact ⟨m%10,Nat.mod_lt m (by decide),List.mem_singleton.mp g⟩
theorem q3A:∀ d:Nat,d < 10→(Nat.digitChar d).toNat=48+d:=by decide
theorem q3e (m:Nat):(txt (m:Int)).cps.toList=(Nat.toDigits 10 m).map Char.toNat:=PySem.W.KIN.signs_num m
theorem q4m (m:Nat):(txt (Int.negSucc m)).cps.toList=45::(Nat.toDigits 10 (m+1)).map Char.toNat:=by
 have a:=PySem.W.KIN.signs_num (m+1)
 unfold txt
 rw [PyProof.Rows.signs_ofString] at a ⊢
 have e:(toString (Int.negSucc m):String) = "-"++toString (((m+1:Nat):Int)):=rfl
 rw [e,String.toList_append,List.map_append,a]
 rfl
theorem q3D {z:Str} {c:Nat} {r:List Nat} (h:z.cps.toList=c::r):(decide (0+(Str.ofString "-").length≤z.length) && Builtin.Str.subAt z (Str.ofString "-") 0)=decide (c=45):=by
 cases z with
 | mk cps =>
  have hc:cps=(c::r).toArray:=by
   have h':cps.toList=c::r:=h
   rw [← h']
  subst hc
  have e:Str.ofString "-" = ⟨#[45]⟩:=rfl
  rw [e]
  show (decide (0+1≤(c::r).toArray.size) && ((c::r).toArray.extract 0 (0+1) == #[45]))=decide (c=45)
  simp
  rfl
theorem q3r:∀ r:List Nat,(List.range r.length).filterMap (fun j=>r[j]?)=r
 | []=>rfl
 | x::r=>by
  rw [List.length_cons,List.range_succ_eq_map,List.filterMap_cons_some (f:=fun j=>(x::r)[j]?) (b:=x) rfl,List.filterMap_map]
  have e:((fun j=>(x::r)[j]?) ∘ Nat.succ)=fun j=>r[j]?:=by
   funext j
   rfl
  rw [e,q3r r]
theorem q7I {z:Str} {c:Nat} {r:List Nat} (h:z.cps.toList=c::r):(Txt.slice z (some 1) none).cps.toList=r:=by
 cases z with
 | mk cps =>
  have hc:cps=(c::r).toArray:=by
   have h':cps.toList=c::r:=h
   rw [← h']
  subst hc
  have hl:(⟨(c::r).toArray⟩:Str).length=r.length+1:=rfl
  have hi:Builtin.Str.strSliceIndices (some 1) none 1 (r.length+1)=(List.range r.length).map (·+1):=by
   have a:(max 0 (min (1:Int) ((r.length+1:Nat):Int)))=1:=by omega
   show sliceRange (max 0 (min (1:Int) ((r.length+1:Nat):Int))) ((r.length+1:Nat):Int) 1=_
   rw [a]
   unfold sliceRange
   have b:(if (1:Int) < ((r.length+1:Nat):Int) then (((r.length+1:Nat):Int)-1+1-1)/1 else 0)=(r.length:Int):=by
    split
    ·rw [Int.ediv_one];omega
    ·omega
   simp only [show (1:Int) > 0 by decide,if_true]
   rw [b,Int.toNat_natCast]
   exact List.map_congr_left fun k _=>by omega
  unfold Txt.slice
  rw [hl,hi,if_neg (by simp)]
  show ((List.range r.length).map (·+1)).filterMap (fun j=>(c::r).toArray[j]?)=r
  rw [List.filterMap_map]
  have e:((fun j=>(c::r).toArray[j]?) ∘ fun x=>x+1)=fun j=>r[j]?:=by
   funext j
   simp
  rw [e]
  exact q3r r
theorem cat_inj {c:Nat}:∀ {a a' b b':List Nat},c∉a→c∉a'→a++c::b=a'++c::b'→a=a'∧b=b'
 | [],[],b,b',_,_,h=>⟨rfl,(List.cons.inj h).2⟩
 | [],x::a',b,b',_,h2,h=>absurd (List.mem_cons.mpr (.inl (List.cons.inj h).1)) h2
 | x::a,[],b,b',h1,_,h=>absurd (List.mem_cons.mpr (.inl (List.cons.inj h).1.symm)) h1
 | x::a,y::a',b,b',h1,h2,h=>by
  obtain ⟨e1,e2⟩:=List.cons.inj h
  obtain ⟨e3,e4⟩:=cat_inj (fun z=>h1 (List.mem_cons_of_mem _ z)) (fun z=>h2 (List.mem_cons_of_mem _ z)) e2
  exact ⟨by rw [e1,e3],e4⟩
theorem q1C {c:Nat} {x y:Str}:(x++⟨#[c]⟩++y).cps.toList=x.cps.toList++c::y.cps.toList:=by
 simp only [Str.cps_append,Array.toList_append,List.append_assoc]
 rfl
theorem q6m {x y:Str} (h:x.cps.toList=y.cps.toList):x=y:=by
 cases x
 cases y
 exact congrArg Str.mk (Array.toList_inj.mp h)
theorem q72 {c:Nat}:∀ {l l':List Str},l≠[]→l'≠[]→(∀ p,p∈l→c∉p.cps.toList)→(∀ p,p∈l'→c∉p.cps.toList)→Str.join ⟨#[c]⟩ l=Str.join ⟨#[c]⟩ l'→l=l'
 | [],_,h,_,_,_,_=>absurd rfl h
 | _::_,[],_,h,_,_,_=>absurd rfl h
 | [x],[y],_,_,_,_,h=>congrArg (fun z=>[z]) h
 | [x],y::z::r,_,_,h1,_,h=>by
  have e:x=y++⟨#[c]⟩++Str.join ⟨#[c]⟩ (z::r):=h
  refine absurd ?_ (h1 x List.mem_cons_self)
  rw [e,q1C]
  exact List.mem_append_right _ List.mem_cons_self
 | x::z::r,[y],_,_,_,h2,h=>by
  have e:x++⟨#[c]⟩++Str.join ⟨#[c]⟩ (z::r)=y:=h
  refine absurd ?_ (h2 y List.mem_cons_self)
  rw [← e,q1C]
  exact List.mem_append_right _ List.mem_cons_self
 | x::z::r,y::w::r',_,_,h1,h2,h=>by
  have e:x++⟨#[c]⟩++Str.join ⟨#[c]⟩ (z::r)=y++⟨#[c]⟩++Str.join ⟨#[c]⟩ (w::r'):=h
  have e2:=congrArg (fun q=>q.cps.toList) e
  simp only [q1C] at e2
  obtain ⟨e3,e4⟩:=cat_inj (h1 x List.mem_cons_self) (h2 y List.mem_cons_self) e2
  rw [q6m e3,q72 (List.cons_ne_nil _ _) (List.cons_ne_nil _ _) (fun p hp=>h1 p (List.mem_cons_of_mem _ hp)) (fun p hp=>h2 p (List.mem_cons_of_mem _ hp)) (q6m e4)]
theorem q4n (y:Str) (l:List Str):Txt.join y l=Str.join y l:=PySem.StrLaws.glued_eq_join y l
theorem split_ne (x y:Str):Txt.split x y≠[]:=by
 unfold Txt.split
 split
 ·exact List.cons_ne_nil _ _
 ·split
  ·exact List.cons_ne_nil _ _
  ·rw [PySem.StrLaws.partsBetween_eq]
   obtain ⟨p,r,e⟩:=PySem.StrLaws.partsFrom_ne x y.length 0 (Builtin.Str.occurrences x y 0 x.length (x.length+1))
   rw [e]
   exact List.cons_ne_nil _ _
theorem q4T {l:List Str} (h:l≠[]) (hf:∀ p,p∈l→32∉p.cps.toList):Txt.split (Txt.join (Str.ofString " ") l) (Str.ofString " ")=l:=by
 have e:Str.ofString " " = ⟨#[32]⟩:=rfl
 rw [e,q4n]
 exact q72 (split_ne _ _) h (fun p hp=>PySem.StrLaws.split_free _ _ p hp) hf (PySem.StrLaws.join_split _ _)
theorem q3L (n:Int):32∉(txt n).cps.toList:=fun h=>(PyProof.Rows.intText_free_32 n).mp h
theorem q7F {ns:List Int} (h:1≤ns.length):Txt.split (Txt.join (Str.ofString " ") (ns.map txt)) (Str.ofString " ")=ns.map txt:=by
 refine q4T (fun z=>?_) (fun p hp=>?_)
 ·rw [List.map_eq_nil_iff.mp z] at h
  exact absurd h (by decide)
 ·obtain ⟨n,_,rfl⟩:=List.mem_map.mp hp
  exact q3L n
theorem q0O {n:Int} (h:n.natAbs < 10 ^ 30):(txt n).length≤31:=by
 show (txt n).cps.size≤31
 rw [← Array.length_toList]
 cases n with
 | ofNat m =>
  have e:=q3e m
  have b:=q4A 29 m h
  rw [show (txt (Int.ofNat m)).cps.toList=_ from e,List.length_map]
  omega
 | negSucc m =>
  have b:=q4A 29 (m+1) h
  rw [q4m,List.length_cons,List.length_map]
  omega
theorem q61 (m:Nat):PySem.NumText.AllDigits ((Nat.toDigits 10 m).map Char.toNat):=fun c hc=>by
 obtain ⟨ch,h1,rfl⟩:=List.mem_map.mp hc
 obtain ⟨d,hd,rfl⟩:=q74 m ch h1
 rw [q3A d hd]
 omega
theorem dg_some (m:Nat):(Nat.toDigits 10 m).map Char.toNat≠[]:=fun z=>dg_ne m (List.map_eq_nil_iff.mp z)
theorem q4l {n:Int} (h:n.natAbs < 10 ^ 30):PySem.intText? (txt n)=some n:=by
 have hl:(txt n).length≤4300:=Nat.le_trans (q0O h) (by decide)
 cases n with
 | ofNat m =>
  have e:(txt (Int.ofNat m)).cps.toList=_:=q3e m
  have r:=PySem.intText_digits (x:=txt (Int.ofNat m)) (by rw [e];exact q61 m) (by rw [e];exact dg_some m) hl
  rw [e,PySem.W.KIN.val_back] at r
  exact r
 | negSucc m =>
  have r:=PySem.intText_neg (q4m m) (q61 (m+1)) (dg_some (m+1)) hl
  rw [PySem.W.KIN.val_back] at r
  exact r
theorem q5D:∀ {l:List Str},(∀ p,p∈l→p.length≤31)→(l.map (·.length)).sum≤31*l.length
 | [],_=>Nat.le_refl _
 | x::l,h=>by
  have a:=h x List.mem_cons_self
  have b:=q5D (l:=l) fun p hp=>h p (List.mem_cons_of_mem _ hp)
  rw [List.map_cons,List.sum_cons,List.length_cons]
  omega
theorem join_fits {ns:List Int} (h:ns.length≤2000) (hb:∀ n,n∈ns→n.natAbs < 10 ^ 30):JoinOk (Str.ofString " ") (ns.map txt)=true:=by
 have hs:=q5D (l:=ns.map txt) fun p hp=>by
  obtain ⟨n,hn,rfl⟩:=List.mem_map.mp hp
  exact q0O (hb n hn)
 rw [List.length_map] at hs
 unfold JoinOk
 have e:=PySem.StrLaws.joinTotal (Str.ofString " ") (ns.map txt)
 rw [List.length_map] at e
 have e1:(Str.ofString " ").length=1:=rfl
 rw [e1] at e
 rw [e1,e]
 unfold Builtin.Str.tooLong
 rw [PySem.sizeLine_eq,Bool.not_eq_true']
 exact decide_eq_false (by omega)
theorem q2b {n:Int} (h:n.natAbs < 10 ^ 30):n.natAbs.log2 < 128:=by
 by_cases h0:n.natAbs=0
 ·rw [h0]
  decide
 ·exact (Nat.log2_lt h0).mpr (Nat.lt_trans h (by decide))
theorem figs_in:∀ d:Nat,d < 10→(!(Builtin.Str.occurrences (Str.ofString "0123456789") ⟨#[48+d]⟩ 0 (Str.ofString "0123456789").length 1).isEmpty)=true:=by decide +kernel
noncomputable def sp_figs:Sp:=fun vs H Q _=>∃ (z:Str) (m:Nat),vs=[.str z,.int 30]∧z.cps.toList=(Nat.toDigits 10 m).map Char.toNat∧m < 10 ^ 30∧∀ H',Same H H'→Q (.bl true) H'
theorem if_b {b c:Bool} {A B:Prop} (e:b=c) (h:if c=true then A else B):if b=true then A else B:=e▸h
noncomputable def q3O:Sp:=fun vs H Q _=>∃ n:Int,vs=[.str (txt n)]∧n.natAbs < 10 ^ 30∧∀ H',Same H H'→Q (.bl true) H'
theorem ok_isnum {k:Nat} {f:Addr} {fd:FuncData} (F:Fun K "is_number" "is_number" q1a f fd) (Z:Blt mg) (CC:Cons mg)
  (D_are_figures:Def P w K mg base k "are_figures" ["word","most"] sp_figs):FnOk P w K mg base CX0 (k+1) f fd ["word"] q3O:=by
 refine F.ok q5Z (fun vs H Q E h=>?_) (fun cdv A outer s H vs Q E hr h=>?_)
 ·obtain ⟨n,rfl,_⟩:=h
  rfl
 obtain ⟨n,rfl,hn,fin⟩:=h
 apply Exists.intro
 apply And.intro
 case left =>
  apply qB
  case h1 =>
   apply qZ
   case hc=>exact (q1o (q7P PySem.F.plainAttrs_str PySem.F.slot_str_startswith PySem.F.type_str_startswith mt_starts (pv 0) (q0 qR qC)))
   case ha =>
    apply qD
    exact (qL (pe_and (q2Y q5i (pv 0) qR (qT _)) (pe_one (qM D_are_figures hr rfl (q0 (q1A sl_str (pv 0) (q1g qE) q2X) (q0 (qW (n:=30) rfl CC.MOST_FIGURES_texts) qC))))))
   case hb =>
    exact qP
  apply qD
  exact (qL (qM D_are_figures hr rfl (q0 (pv 0) (q0 (qW (n:=30) rfl CC.MOST_FIGURES_texts) qC))))
 lk
 cases n with
 | ofNat m =>
  have hz:=q3e m
  obtain ⟨d,r,hd,e⟩:∃ d r,d < 10∧Nat.toDigits 10 m=Nat.digitChar d::r:=by
   cases e:Nat.toDigits 10 m with
   | nil=>exact absurd e (dg_ne m)
   | cons a b =>
    obtain ⟨d,hd,ea⟩:=q74 m a (by rw [e];exact List.mem_cons_self)
    exact ⟨d,b,hd,by rw [ea]⟩
  have hz2:(txt (Int.ofNat m)).cps.toList=(48+d)::r.map Char.toNat:=by rw [← q3A d hd,← List.map_cons,← e];exact hz
  refine if_b (q3D hz2) ?_
  rw [decide_eq_false (show ¬ 48+d=45 by omega)]
  refine iteF ?_
  lk
  exact ⟨_,m,rfl,hz,hn,fin⟩
 | negSucc m =>
  have hz:=q4m m
  refine if_b (q3D hz) ?_
  rw [decide_eq_true rfl]
  refine iteT ?_
  lk
  have hn':m+1 < 10 ^ 30:=hn
  have hne:¬ V.str (txt (Int.negSucc m))=V.str (Str.ofString "-0"):=fun he=>by
   have e:=congrArg (fun q=>q.cps.toList) (V.str.inj he)
   have e0:(Str.ofString "-0").cps.toList=[45,48]:=rfl
   obtain ⟨d,r,d1,d2,ed⟩:=dg_head (m+1) (by omega)
   rw [hz,e0,ed,List.map_cons,q3A d d2] at e
   have e2:=List.cons.inj (List.cons.inj e).2
   have:=e2.1
   omega
  rw [decide_eq_false hne]
  refine iteT ?_
  lk
  have hl:(txt (Int.negSucc m)).length≤31:=by
   have a:=congrArg List.length hz
   rw [List.length_cons,List.length_map,Array.length_toList] at a
   have b:=q4A 29 (m+1) hn'
   show (txt (Int.negSucc m)).cps.size≤31
   omega
  refine ⟨Nat.le_of_lt (small (Nat.le_trans hl (by decide))),?_⟩
  exact ⟨_,m+1,rfl,q7I hz,hn',fin⟩
noncomputable def q2U:Sp:=fun vs H Q _=>∃ ns:List Int,vs=[.str (Txt.join (Str.ofString " ") (ns.map txt))]∧1≤ns.length∧ns.length≤1000∧(∀ n,n∈ns→n.natAbs < 10 ^ 30)∧∀ l H',H l=none→Same H H'→H' l=some (.lst (ns.map V.int))→Q (.ref l) H'
theorem ok_read {k:Nat} {f:Addr} {fd:FuncData} (F:Fun K "read_row" "read_row" q2E f fd) (Z:Blt mg)
  (D_is_number:Def P w K mg base k "is_number" ["word"] q3O):FnOk P w K mg base CX0 (k+1) f fd ["text"] q2U:=by
 refine F.ok sc_read_row (fun vs H Q E h=>?_) (fun cdv A outer s H vs Q E hr h=>?_)
 ·obtain ⟨ns,rfl,_⟩:=h
  rfl
 obtain ⟨ns,rfl,h1,h2,hb,fin⟩:=h
 apply Exists.intro
 apply And.intro
 case left =>
  apply qB
  case h1 =>
   exact (qQ (i:=1) sc_read_row.nd rfl (by walk_at "lr") (q7P PySem.F.plainAttrs_str PySem.F.slot_str_split PySem.F.type_str_split q70 (pv 0) (q0 qR qC)))
  apply qB
  case h1 =>
   apply qZ
   case hc=>exact (q0I (q1o (qV (q7C rfl) rfl Z.all_ PyProof.Rows.boot_all (q0 (q3x (N':=["word"]) (ix:=[none]) rfl rfl (by decide +kernel) rfl rfl rfl rfl (q09 (K:=K) rfl (pv 1)) (fun _ _ _ _=>(qi (i:=0) (show List.Nodup (["word"]:List Str) by decide +kernel) rfl (by walk_at "lr"))) (fun _ _ _ _=>q0b) (fun _ _ _ _=>(qM D_is_number hr rfl (q0 (pv 0) qC)))) qC))))
   case ha =>
    apply qD
    exact q0G
   case hb =>
    exact qP
  apply qD
  exact (qL (q3x (N':=["word"]) (ix:=[none]) rfl rfl (by decide +kernel) rfl rfl rfl rfl (q09 (K:=K) rfl (pv 1)) (fun _ _ _ _=>(qi (i:=0) (show List.Nodup (["word"]:List Str) by decide +kernel) rfl (by walk_at "lr"))) (fun _ _ _ _=>q0b) (fun _ _ _ _=>(qd q1j rfl Z.int_ PyProof.Rows.boot_int (q0 (pv 0) qC)))))
 lk
 have hj:=PySem.joinOk_length (join_fits (by omega) hb)
 have hsp:=q7F h1
 refine ⟨hj,by rw [hsp,List.length_map];exact Nat.le_of_lt (small (by omega)),?_⟩
 intro l hl
 rw [hsp]
 lk
 have hlen:((ns.map txt).map V.str).length=ns.length:=by rw [List.length_map,List.length_map]
 have S1:Same H (upd H l (.lst ((ns.map txt).map V.str))):=Same.new hl _
 refine ⟨⟨_,SqL.of qA⟩,?_⟩
 intro acc hacc
 have hla:upd (upd H l (.lst ((ns.map txt).map V.str))) acc (.lst []) l=some (.lst ((ns.map txt).map V.str)):=(Same.new hacc _) _ _ qA
 refine q0d (n:=ns.length) (fun i τ zs H'=>H' acc=some (.lst zs)∧zs=(List.replicate i true).map V.bl∧Same (upd H l (.lst ((ns.map txt).map V.str))) H'∧∃ o0,τ=[o0]) ⟨qA,rfl,Same.new hacc _,none,rfl⟩ (by omega) ?_ ?_ ?_ ?_
 ·rintro i τ zs H' ⟨e,rfl,_⟩
  exact ⟨e,by rw [List.length_map,List.length_replicate];exact Nat.le_refl _⟩
 ·rintro i τ zs H' hi ⟨e,_,sm,_⟩
  exact ⟨_,V.str (txt ns[i]),SqL.of (sm _ _ qA),by rw [List.getElem?_map,List.getElem?_map,List.getElem?_eq_getElem hi];rfl⟩
 ·rintro τ zs H' ⟨e,rfl,sm,_⟩
  refine ⟨⟨_,SqL.of (sm _ _ qA),by rw [hlen];exact Nat.le_refl _⟩,?_⟩
  refine ⟨acc,List.replicate ns.length true,rfl,SqL.of e,?_⟩
  have ea:(List.replicate ns.length true).all id=true:=by simp
  rw [ea]
  lk
  refine ⟨⟨_,SqL.of (sm _ _ qA)⟩,?_⟩
  intro acc2 hacc2
  refine q0d (n:=ns.length) (fun i τ zs H2=>H2 acc2=some (.lst zs)∧zs=(ns.take i).map V.int∧Same H' H2∧∃ o0,τ=[o0]) ⟨qA,rfl,Same.new hacc2 _,none,rfl⟩ (by omega) ?_ ?_ ?_ ?_
  ·rintro i τ zs H2 ⟨e,rfl,_⟩
   exact ⟨e,by rw [List.length_map,List.length_take];omega⟩
  ·rintro i τ zs H2 hi ⟨e,_,sm2,_⟩
   exact ⟨_,V.str (txt ns[i]),SqL.of (sm2 _ _ (sm _ _ qA)),by rw [List.getElem?_map,List.getElem?_map,List.getElem?_eq_getElem hi];rfl⟩
  ·rintro τ zs H2 ⟨e,rfl,sm2,_⟩
   refine ⟨⟨_,SqL.of (sm2 _ _ (sm _ _ qA)),by rw [hlen];exact Nat.le_refl _⟩,?_⟩
   rw [List.take_length] at e
   exact fin _ _ ((S1.trans sm).free hacc2) ((S1.trans sm).trans sm2) e
  ·rintro i τ zs H2 v H3 hi ⟨e,rfl,sm2,o0,rfl⟩ ⟨rfl,y⟩
   have ey:=y _ (SqL.of (sm2 _ _ (sm _ _ qA)))
   rw [List.getElem?_map,List.getElem?_map,List.getElem?_eq_getElem hi] at ey
   obtain rfl:V.str (txt ns[i])=v:=Option.some.inj ey
   lk
   refine ⟨_,_,rfl,q4l (hb _ (List.getElem_mem hi)),Nat.le_trans (q0O (hb _ (List.getElem_mem hi))) (by decide),?_⟩
   refine ⟨e,Nx.mk hi ⟨qA,?_,sm2.upd hacc2,_,rfl⟩⟩
   rw [List.take_succ_eq_append_getElem hi,List.map_append]
   rfl
 ·rintro i τ zs H' v H2 hi ⟨e,rfl,sm,o0,rfl⟩ ⟨rfl,y⟩
  have ey:=y _ (SqL.of (sm _ _ qA))
  rw [List.getElem?_map,List.getElem?_map,List.getElem?_eq_getElem hi] at ey
  obtain rfl:V.str (txt ns[i])=v:=Option.some.inj ey
  lk
  refine ⟨hb _ (List.getElem_mem hi),fun H3 s3=>?_⟩
  refine ⟨s3 _ _ e,Nx.mk hi ⟨qA,?_,(sm.trans s3).upd hacc,_,rfl⟩⟩
  rw [List.replicate_succ',List.map_append]
  rfl
structure BestIn (P:Nat→Int) (S:Nat→Nat→Prop) (s:Int) (f b:Nat):Prop where
 mem:S f b
 val:s=P b-P f
 top:∀ f' b',S f' b'→P b'-P f' < s∨(P b'-P f'=s∧(f < f'∨(f=f'∧b≤b')))
theorem BestIn.uniq {P:Nat→Int} {S:Nat→Nat→Prop} {s s':Int} {f b f' b':Nat} (h:BestIn P S s f b) (h':BestIn P S s' f' b'):s=s'∧f=f'∧b=b':=by
 have a:=h.top f' b' h'.mem
 have c:=h'.top f b h.mem
 have v:=h.val
 have v':=h'.val
 omega
theorem BestIn.congr {P:Nat→Int} {S S':Nat→Nat→Prop} {s:Int} {f b:Nat} (h:BestIn P S s f b) (e:∀ f b,S f b↔S' f b):BestIn P S' s f b :=
 ⟨(e f b).mp h.mem,h.val,fun f' b' q=>h.top f' b' ((e f' b').mpr q)⟩
noncomputable def Val (n L:Nat) (M:Int) (f b:Nat):Prop:=f+L≤b∧(b:Int)≤f+M∧b≤n
noncomputable abbrev q7E (ns:List Int) (L:Nat) (M:Int) (s:Int) (f b:Nat):Prop:=BestIn (psum ns) (Val ns.length L M) s f b
theorem q0K {ns:List Int} {i:Nat} (h:i < ns.length):psum ns (i+1)=psum ns i+ns.getD i 0:=by
 rw [q3t h,List.getD_eq_getElem?_getD,List.getElem?_eq_getElem h]
 rfl
structure Ends1 (P:Nat→Int) (q:Nat) (t:Int) (f:Nat):Prop where
 lt:f < q
 val:t=P q-P f
 top:∀ f',f' < q→P q-P f' < t∨(P q-P f'=t∧f≤f')
noncomputable abbrev Upto (p:Nat) (f b:Nat):Prop:=f < b∧b≤p
theorem ends_neg {P:Nat→Int} {p:Nat} {t:Int} {f:Nat} (h:Ends1 P p t f) (hn:t < 0):Ends1 P (p+1) (P (p+1)-P p) p :=
 ⟨Nat.lt_succ_self _,rfl,fun f' hf=>by
  by_cases e:f'=p
  ·subst e;exact .inr ⟨rfl,Nat.le_refl _⟩
  ·have:=h.top f' (by omega)
   exact .inl (by omega)⟩
theorem ends_pos {P:Nat→Int} {p:Nat} {t:Int} {f:Nat} (h:Ends1 P p t f) (hn:¬ t < 0):Ends1 P (p+1) (P (p+1)-P f) f :=
 ⟨Nat.lt_succ_of_lt h.lt,rfl,fun f' hf=>by
  have hl:=h.lt
  have hv:=h.val
  by_cases e:f'=p
  ·subst e;omega
  ·have:=h.top f' (by omega)
   omega⟩
theorem kad_more {P:Nat→Int} {p:Nat} {t s:Int} {f1 f b:Nat} (h:Ends1 P (p+1) t f1) (hb:BestIn P (Upto p) s f b) (hs:t > s):BestIn P (Upto (p+1)) t f1 (p+1) :=
 ⟨⟨h.lt,Nat.le_refl _⟩,h.val,fun f' b' q=>by
  obtain ⟨q1,q2⟩:=q
  by_cases e:b'=p+1
  ·subst e
   have:=h.top f' q1
   omega
  ·have:=hb.top f' b' ⟨q1,by omega⟩
   exact .inl (by omega)⟩
theorem kad_less {P:Nat→Int} {p:Nat} {t s:Int} {f1 f b:Nat} (h:Ends1 P (p+1) t f1) (hb:BestIn P (Upto p) s f b) (hle:f≤f1) (hs:¬ t > s):BestIn P (Upto (p+1)) s f b :=
 ⟨⟨hb.mem.1,Nat.le_succ_of_le hb.mem.2⟩,hb.val,fun f' b' q=>by
  obtain ⟨q1,q2⟩:=q
  have hm:=hb.mem.2
  by_cases e:b'=p+1
  ·subst e
   have:=h.top f' q1
   omega
  ·exact hb.top f' b' ⟨q1,by omega⟩⟩
noncomputable def q1L:Sp:=fun vs H Q _=>∃ (r:Addr) (ns:List Int),vs=[.ref r]∧H r=some (.lst (ns.map V.int))∧1≤ns.length∧ns.length≤90000 ∧
 ∀ (t:Addr) (s:Int) (f b:Nat) (H':Hp),Same H H'→H' t=some (.tup [.int s,.int f,.int b])→q7E ns 1 ns.length s f b→Q (.ref t) H'
theorem ok_bestof {k:Nat} {f:Addr} {fd:FuncData} (F:Fun K "best_of" "best_of" q2o f fd) (Z:Blt mg):FnOk P w K mg base CX0 (k+1) f fd ["row"] q1L:=by
 refine F.ok sc_best_of (fun vs H Q E h=>?_) (fun cdv A outer s H vs Q E hr h=>?_)
 ·obtain ⟨r,ns,rfl,_⟩:=h
  rfl
 obtain ⟨r,ns,rfl,hR,hn,hz,q⟩:=h
 apply Exists.intro
 apply And.intro
 case left =>
  apply qB
  case h1 =>
   exact (qQ (i:=1) sc_best_of.nd rfl (by walk_at "lr") (qJ (qK (K:=K) rfl) (pv 0) qE (fun _ _=>rfl)))
  apply qB
  case h1 =>
   exact (qQ (i:=2) sc_best_of.nd rfl (by walk_at "lr") qE)
  apply qB
  case h1 =>
   exact (qQ (i:=3) sc_best_of.nd rfl (by walk_at "lr") (qp (q0 (pv 1) (q0 qE (q0 qE qC)))))
  apply qB
  case h1 =>
   apply q18 PassesOwn.never rfl
   case hi=>exact (q3w rfl Z.range_ (q0 qE (q0 (qV (qS (K:=K) rfl) rfl Z.len_ PySem.boot_len (q0 (pv 0) qC)) qC)))
   case hg=>exact (qi (i:=4) sc_best_of.nd rfl (by walk_at "lr"))
   case hb =>
    apply qB
    case h1 =>
     apply qZ
     case hc=>exact (qO q1q (pv 1) qE (qT _))
     case ha =>
      apply qB
      case h1 =>
       exact (qQ (i:=1) sc_best_of.nd rfl (by walk_at "lr") qE)
      apply qD
      exact (qQ (i:=2) sc_best_of.nd rfl (by walk_at "lr") (pv 4))
     case hb =>
      exact qP
    apply qB
    case h1 =>
     exact (q3u (i:=1) sc_best_of.nd rfl (by walk_at "lr") (qJ (qK (K:=K) rfl) (pv 0) (pv 4) (fun _ _=>rfl)) q4e)
    apply qD
    apply qZ
    case hc=>exact (qO q4K (pv 1) (qJ (qG (K:=K) rfl) (pv 3) qE (fun _ _=>rfl)) (qT _))
    case ha =>
     apply qD
     exact (qQ (i:=3) sc_best_of.nd rfl (by walk_at "lr") (qp (q0 (pv 1) (q0 (pv 2) (q0 (qU qf (pv 4) qE) qC)))))
    case hb =>
     exact qP
  apply qD
  exact (qL (pv 3))
 have hl:(ns.map V.int).length=ns.length:=List.length_map _
 have p0:psum ns 0=0:=rfl
 have p1:psum ns (0+1)=ns.getD 0 0:=by
  have:=q0K (ns:=ns) (i:=0) (by omega)
  omega
 lk
 refine ⟨r,_,0,_,rfl,rfl,SqL.of hR,q2y (by decide) (by omega),?_⟩
 lk
 refine ⟨by show 3≤sizeLine;decide,fun t0 ht0=>?_⟩
 have s1:Same H (upd H t0 (.tup [.int (ns.getD (Int.toNat 0) 0),.int 0,.int 1])):=Same.new ht0 _
 lk
 refine ⟨r,_,rfl,.inl (SqL.of (s1 _ _ hR)),?_⟩
 refine ⟨_,_,rfl,⟨by decide,by decide,by omega,by omega⟩,?_⟩
 refine q27 (fun j σ H'=>∃ (t:Addr) (T:Int) (f1:Nat) (s:Int) (f b:Nat) (o4:Option V),Same H H'∧H' t=some (.tup [.int s,.int f,.int b])∧Ends1 (psum ns) (j+1) T f1∧BestIn (psum ns) (Upto (j+1)) s f b∧f≤f1 ∧
  σ=[some (.ref r),some (.int T),some (.int f1),some (.ref t),o4]) ⟨t0,_,0,_,0,1,none,s1,qA,?_,?_,Nat.le_refl _,rfl⟩ ?_ ?_
 ·exact ⟨by omega,by show ns.getD 0 0=psum ns (0+1)-psum ns 0;omega,fun f' hf=>by
   have e:f'=0:=by omega
   subst e
   exact .inr ⟨by show psum ns (0+1)-psum ns 0=ns.getD 0 0;omega,Nat.le_refl _⟩⟩
 ·exact ⟨by decide,by show ns.getD 0 0=psum ns (0+1)-psum ns 0;omega,fun f' b' z=>by
   have e:f'=0∧b'=1:=by omega
   obtain ⟨rfl,rfl⟩:=e
   exact .inr ⟨by show psum ns (0+1)-psum ns 0=ns.getD 0 0;omega,.inr ⟨rfl,Nat.le_refl _⟩⟩⟩
 ·rintro j σ H1 hj ⟨t,T,f1,s,f,b,o4,sm,ht,hE,hB,hle,rfl⟩
  have hj':j+1 < ns.length:=by omega
  have ej:((1:Int)+j).toNat=j+1:=by omega
  have es:=q0K (ns:=ns) (i:=j+1) hj'
  lk
  refine ifJ (fun σ' H'=>∃ (T':Int) (f2:Nat),H1=H'∧T'+ns.getD (j+1) 0=psum ns (j+1+1)-psum ns f2∧Ends1 (psum ns) (j+1+1) (psum ns (j+1+1)-psum ns f2) f2∧f≤f2∧σ'=[some (.ref r),some (.int T'),some (.int f2),some (.ref t),some (.int (1+j))]) ?_ (fun hpos=>⟨T,f1,rfl,?_,ends_pos hE hpos,hle,rfl⟩) (fun R hR' hneg=>?_)
  case refine_2 =>
   have:=hE.val
   omega
  case refine_3 =>
   lk
   have hf:=hE.lt
   exact hR' _ _ ⟨0,j+1,rfl,by omega,ends_neg hE hneg,by omega,by
    have e:(1:Int)+j=((j+1:Nat):Int):=by omega
    rw [← e]
    rfl⟩
  rintro _ _ ⟨T',f2,rfl,hT,hE2,hle2,rfl⟩
  lk
  refine ⟨r,_,_,_,rfl,rfl,SqL.of (sm _ _ hR),q2y (by omega) (by omega),?_⟩
  lk
  refine ⟨t,_,0,_,rfl,rfl,SqT.of ht,rfl,?_⟩
  lk
  have hE3:Ends1 (psum ns) (j+1+1) (T'+ns.getD ((1:Int)+j).toNat 0) f2:=by
   rw [ej,hT]
   exact hE2
  refine ifD (fun hgt=>?_) (fun hgt=>?_)
  ·lk
   refine ⟨by show 3≤sizeLine;decide,fun p hp=>?_⟩
   refine ⟨p,_,f2,_,f2,j+1+1,_,sm.trans (Same.new hp _),?_,hE3,kad_more hE3 hB hgt,Nat.le_refl _,rfl⟩
   rw [qA]
   have e:(1:Int)+j+1=((j+1+1:Nat):Int):=by omega
   show some (HO.tup [V.int _,V.int f2,V.int (1+j+1)])=_
   rw [e]
  ·exact ⟨t,_,f2,s,f,b,_,sm,ht,hE3,kad_less hE3 hB hle2 hgt,hle2,rfl⟩
 ·rintro σ H1 ⟨t,T,f1,s,f,b,o4,sm,ht,hE,hB,hle,rfl⟩
  lk
  refine q t s f b H1 sm ht (hB.congr fun f b=>?_)
  rw [hl]
  unfold Val
  omega
noncomputable def q3T:Sp:=fun vs H Q _=>∃ (r:Addr) (ns:List Int),vs=[.ref r]∧H r=some (.lst (ns.map V.int))∧ns.length≤90000 ∧
 ∀ (l:Addr) (H':Hp),Same H H'→H l=none→H' l=some (.lst ((pl ns ns.length).map V.int))→Q (.ref l) H'
theorem ok_ahead {k:Nat} {f:Addr} {fd:FuncData} (F:Fun K "sums_ahead" "sums_ahead" q0y f fd) (Z:Blt mg):FnOk P w K mg base CX0 (k+1) f fd ["row"] q3T:=by
 refine F.ok sc_sums_ahead (fun vs H Q E h=>?_) (fun cdv A outer s H vs Q E hr h=>?_)
 ·obtain ⟨r,ns,rfl,_⟩:=h
  rfl
 obtain ⟨r,ns,rfl,hR,hz,q⟩:=h
 apply Exists.intro
 apply And.intro
 case left =>
  apply qB
  case h1 =>
   exact (qQ (i:=1) sc_sums_ahead.nd rfl (by walk_at "lr") qE)
  apply qB
  case h1 =>
   exact (qQ (i:=2) sc_sums_ahead.nd rfl (by walk_at "lr") (qc (q0 (pv 1) qC)))
  apply qB
  case h1 =>
   apply q18 PassesOwn.never rfl
   case hi=>exact (q09 (K:=K) rfl (pv 0))
   case hg=>exact (qi (i:=3) sc_sums_ahead.nd rfl (by walk_at "lr"))
   case hb =>
    apply qB
    case h1 =>
     exact (q3u (i:=1) sc_sums_ahead.nd rfl (by walk_at "lr") (pv 3) q4e)
    apply qD
    exact (qo (q1Q (K:=K) rfl PySem.F.plainAttrs_list PySem.F.slot_list_append PySem.F.type_list_append q02 (pv 2) (q0 (pv 1) qC)))
  apply qD
  exact (qL (pv 2))
 lk
 refine ⟨by show 1≤sizeLine;decide,fun l hl=>?_⟩
 lk
 have s1:Same H (upd H l (.lst [.int 0])):=Same.new hl _
 refine ⟨⟨_,SqL.of (s1 _ _ hR)⟩,?_⟩
 refine q2Q (xs:=ns.map V.int) (fun i σ H'=>∃ o3,Same H H'∧H' l=some (.lst ((pl ns i).map V.int))∧σ=[some (.ref r),some (.int (psum ns i)),some (.ref l),o3]) ⟨none,s1,qA,rfl⟩ ?_ ?_ ?_
 ·rintro i σ H' _ ⟨o3,sm,_,_⟩
  exact SqL.of (sm _ _ hR)
 ·rintro i x σ H' hx ⟨o3,sm,hl',rfl⟩
  obtain ⟨hi,rfl⟩:=int_at hx
  lk
  refine ⟨.inl ⟨rfl,_,SqL.of hl'⟩,?_⟩
  lk
  refine ⟨l,_,_,rfl,rfl,hl',small (by rw [List.length_map,pl_len];omega),?_⟩
  refine ⟨_,sm.upd hl,?_,by rw [q3t hi];rfl⟩
  rw [qA,pl_succ,List.map_append,q3t hi]
  rfl
 ·rintro σ H' ⟨o3,sm,hl',rfl⟩
  lk
  rw [List.length_map] at hl'
  exact q l H' sm hl hl'
noncomputable def q1J:Sp:=fun vs H Q _=>∃ n L M:Int,vs=[.int n,.int L,.int M]∧1≤L∧L≤M∧L≤n∧Q (.int (if n < M then n else M)) H
theorem q4b {k:Nat} {f:Addr} {fd:FuncData} (F:Fun K "longest_of" "longest_of" q0Y f fd) (Z:Blt mg):FnOk P w K mg base CX0 (k+1) f fd ["many","least","most"] q1J:=by
 refine F.ok q2i (fun vs H Q E h=>?_) (fun cdv A outer s H vs Q E hr h=>?_)
 ·obtain ⟨n,L,M,rfl,_⟩:=h
  rfl
 obtain ⟨n,L,M,rfl,h1,h2,h3,q⟩:=h
 apply Exists.intro
 apply And.intro
 case left =>
  apply qB
  case h1 =>
   apply qZ
   case hc=>exact (PW.pt (q35 (qO q1q (pv 1) qE (qT _)) (q35 (qO q1q (pv 2) (pv 1) (qT _)) (q21 (qO q4K (pv 1) (pv 0) (qT _))))))
   case ha =>
    apply qD
    exact q0G
   case hb =>
    exact qP
  apply qD
  exact (qL (qV (q65 rfl) rfl Z.min_ PyProof.Rows.boot_min (q0 (pv 2) (q0 (pv 0) qC))))
 lk
 refine ifD (fun z=>absurd z (by omega)) (fun _=>?_)
 lk
 refine ifD (fun z=>absurd z (by omega)) (fun _=>?_)
 lk
 refine ifD (fun z=>absurd z (by omega)) (fun _=>?_)
 lk
 exact ⟨_,_,rfl,q⟩
theorem pl_getD {ns:List Int} {d m:Nat} (h:d≤m):(pl ns m).getD d 0=psum ns d:=by
 unfold pl
 rw [List.getD_eq_getElem?_getD,List.getElem?_map,List.getElem?_range (by omega)]
 rfl
noncomputable abbrev nv (d:Nat):V:=.int (d:Int)
structure Dq (P:Nat→Int) (lo h:Nat) (ds:List Nat):Prop where
 pw:ds.Pairwise fun a b=>a < b∧P a≤P b
 mem:∀ d,d∈ds→lo≤d∧d < h
 dom:∀ f,lo≤f→f < h→f∉ds→∃ d,d∈ds∧f < d∧P d < P f
theorem pw_last {P:Nat→Int} {cs:List Nat} {l:Nat} (h:cs.Pairwise fun a b=>a < b∧P a≤P b) (hl:cs.getLast?=some l):∀ a,a∈cs→P a≤P l:=by
 intro a ha
 obtain ⟨c',rfl⟩:=List.getLast?_eq_some_iff.mp hl
 rcases List.mem_append.mp ha with ha | ha
 ·exact ((List.pairwise_append.mp h).2.2 a ha l (by simp)).2
 ·have:a=l:=by simpa using ha
  rw [this]
  exact Int.le_refl _
theorem Dq.enter {P:Nat→Int} {lo h:Nat} {cs rs:List Nat} (q:Dq P lo h (cs++rs)) (hr:∀ d,d∈rs→P d > P h) (hc:∀ d,cs.getLast?=some d→P d≤P h) (hlo:lo≤h):Dq P lo (h+1) (cs++[h]):=by
 have pc:=(List.pairwise_append.mp q.pw).1
 refine ⟨List.pairwise_append.mpr ⟨pc,List.pairwise_singleton _ _,fun a ha b hb=>?_⟩,fun d hd=>?_,fun f h1 h2 h3=>?_⟩
 ·have e:b=h:=by simpa using hb
  subst e
  refine ⟨(q.mem a (List.mem_append_left _ ha)).2,?_⟩
  cases e2:cs.getLast? with
  | none =>
   have:cs=[]:=by simpa using e2
   subst this
   cases ha
  | some l=>exact Int.le_trans (pw_last pc e2 a ha) (hc l e2)
 ·rcases List.mem_append.mp hd with hd | hd
  ·have:=q.mem d (List.mem_append_left _ hd)
   omega
  ·have:d=h:=by simpa using hd
   omega
 ·have n1:f∉cs:=fun z=>h3 (List.mem_append_left _ z)
  have n2:f≠h:=fun z=>h3 (List.mem_append_right _ (by simp [z]))
  by_cases hf:f∈rs
  ·exact ⟨h,by simp,by omega,hr f hf⟩
  ·obtain ⟨d,hd,d1,d2⟩:=q.dom f h1 (by omega) (fun z=>(List.mem_append.mp z).elim n1 hf)
   rcases List.mem_append.mp hd with hd | hd
   ·exact ⟨d,List.mem_append_left _ hd,d1,d2⟩
   ·have:=hr d hd
    exact ⟨h,by simp,by omega,by omega⟩
theorem Dq.pop {P:Nat→Int} {lo lo' h d0:Nat} {tl:List Nat} (q:Dq P lo h (d0::tl)) (h0:d0 < lo') (hle:lo'≤lo+1):Dq P lo' h tl:=by
 obtain ⟨p1,p2⟩:=List.pairwise_cons.mp q.pw
 have m0:=q.mem d0 List.mem_cons_self
 refine ⟨p2,fun d hd=>?_,fun f h1 h2 h3=>?_⟩
 ·have a:=(p1 d hd).1
  have b:=q.mem d (List.mem_cons_of_mem _ hd)
  omega
 ·obtain ⟨d,hd,d1,d2⟩:=q.dom f (by omega) h2 (fun z=>by
   rcases List.mem_cons.mp z with z | z
   ·omega
   ·exact h3 z)
  rcases List.mem_cons.mp hd with hd | hd
  ·omega
  ·exact ⟨d,hd,d1,d2⟩
theorem Dq.stay {P:Nat→Int} {lo lo' h d0:Nat} {tl:List Nat} (q:Dq P lo h (d0::tl)) (h0:¬ d0 < lo') (hle:lo≤lo'):Dq P lo' h (d0::tl):=by
 obtain ⟨p1,_⟩:=List.pairwise_cons.mp q.pw
 refine ⟨q.pw,fun d hd=>?_,fun f h1 h2 h3=>q.dom f (by omega) h2 h3⟩
 have b:=q.mem d hd
 rcases List.mem_cons.mp hd with hd | hd
 ·omega
 ·have a:=(p1 d hd).1
  omega
theorem Dq.head {P:Nat→Int} {lo h d0:Nat} {tl:List Nat} (q:Dq P lo h (d0::tl)):∀ f,lo≤f→f < h→P d0 < P f∨(P d0=P f∧d0≤f):=by
 obtain ⟨p1,_⟩:=List.pairwise_cons.mp q.pw
 have all:∀ d,d∈d0::tl→P d0≤P d∧d0≤d:=fun d hd=>by
  rcases List.mem_cons.mp hd with hd | hd
  ·subst hd;exact ⟨Int.le_refl _,Nat.le_refl _⟩
  ·have:=p1 d hd
   exact ⟨this.2,by omega⟩
 intro f h1 h2
 by_cases hf:f∈d0::tl
 ·have:=all f hf
  omega
 ·obtain ⟨d,hd,d1,d2⟩:=q.dom f h1 h2 hf
  have:=all d hd
  exact .inl (by omega)
theorem win_first {P:Nat→Int} {S:Nat→Nat→Prop} {lo h d0 b0:Nat} (e:∀ f b,S f b↔(b=b0∧lo≤f∧f < h)) (hd:lo≤d0∧d0 < h) (top:∀ f,lo≤f→f < h→P d0 < P f∨(P d0=P f∧d0≤f)):BestIn P S (P b0-P d0) d0 b0 :=
 ⟨(e d0 b0).mpr ⟨rfl,hd⟩,rfl,fun f' b' q=>by
  obtain ⟨rfl,h1,h2⟩:=(e f' b').mp q
  have:=top f' h1 h2
  omega⟩
theorem win_more {P:Nat→Int} {S S':Nat→Nat→Prop} {s:Int} {f b lo h d0 b0:Nat} (hB:BestIn P S s f b) (e:∀ f b,S' f b↔(S f b∨(b=b0∧lo≤f∧f < h))) (hd:lo≤d0∧d0 < h)
  (top:∀ f,lo≤f→f < h→P d0 < P f∨(P d0=P f∧d0≤f)) (hs:P b0-P d0 > s):BestIn P S' (P b0-P d0) d0 b0 :=
 ⟨(e d0 b0).mpr (.inr ⟨rfl,hd⟩),rfl,fun f' b' q=>by
  rcases (e f' b').mp q with q | ⟨rfl,h1,h2⟩
  ·have:=hB.top f' b' q
   exact .inl (by omega)
  ·have:=top f' h1 h2
   omega⟩
theorem win_less {P:Nat→Int} {S S':Nat→Nat→Prop} {s:Int} {f b lo h d0 b0:Nat} (hB:BestIn P S s f b) (e:∀ f b,S' f b↔(S f b∨(b=b0∧lo≤f∧f < h)))
  (top:∀ f,lo≤f→f < h→P d0 < P f∨(P d0=P f∧d0≤f)) (hs:¬ P b0-P d0 > s) (hle:f≤d0) (hb:b≤b0):BestIn P S' s f b :=
 ⟨(e f b).mpr (.inl hB.mem),hB.val,fun f' b' q=>by
  rcases (e f' b').mp q with q | ⟨rfl,h1,h2⟩
  ·exact hB.top f' b' q
  ·have:=top f' h1 h2
   omega⟩
theorem upd_id {H:Hp} {a:Addr} {o:HO} (h:H a=some o):upd H a o=H:=by
 funext b
 by_cases e:b=a
 ·subst e;rw [qA,h]
 ·rw [qF e]
noncomputable def q3S:Sp:=fun vs H Q _=>∃ (q a:Addr) (ds:List Nat) (ns:List Int) (i:Nat),vs=[.ref q,.ref a,.int i]∧q≠a∧H q=some (.lst (ds.map nv))∧H a=some (.lst ((pl ns ns.length).map V.int))∧(∀ d,d∈ds→d≤ns.length)∧i≤ns.length∧ds.length≤90000 ∧
 ∀ cs rs,ds=cs++rs→(∀ d,d∈rs→psum ns d > psum ns i)→(∀ d,cs.getLast?=some d→psum ns d≤psum ns i)→Q .non (upd H q (.lst ((cs++[i]).map nv)))
theorem ok_enter {k:Nat} {f:Addr} {fd:FuncData} (F:Fun K "enter_first" "enter_first" q0h f fd) (Z:Blt mg):FnOk P w K mg base CX0 (k+1) f fd ["firsts","ahead","first"] q3S:=by
 refine F.ok q4H (fun vs H Q E h=>?_) (fun cdv A outer s H vs Q E hr h=>?_)
 ·obtain ⟨q,a,ds,ns,i,rfl,_⟩:=h
  rfl
 obtain ⟨q,a,ds,ns,i,rfl,hqa,hq,ha,hds,hi,hz,fin⟩:=h
 apply Exists.intro
 apply And.intro
 case left =>
  apply qB
  case h1 =>
   apply q57 PassesOwn.never
   case hc=>exact (PW.pt (q4Y (q2O (pv 0) (fun _=>rfl)) (q36 (qO q4K (qJ (qK (K:=K) rfl) (pv 1) (qJ (qK (K:=K) rfl) (pv 0) (q3K q1l qE) (fun _ _=>rfl)) (fun _ _=>rfl)) (qJ (qK (K:=K) rfl) (pv 1) (pv 2) (fun _ _=>rfl)) (qT _)))))
   case hb =>
    apply qD
    exact (qo (q3y (K:=K) rfl PySem.F.plainAttrs_list PySem.F.slot_list_pop PySem.F.type_list_pop q5o (pv 0)))
  apply qD
  exact (qo (q1Q (K:=K) rfl PySem.F.plainAttrs_list PySem.F.slot_list_append PySem.F.type_list_append q02 (pv 0) (q0 (pv 2) qC)))
 have atA:∀ d:Nat,d≤ns.length→atI ((pl ns ns.length).map V.int) (d:Int)=some (.int (psum ns d)):=fun d hd=>by
  have:=q2y (ns:=pl ns ns.length) (k:=(d:Int)) (by omega) (by rw [pl_len];omega)
  rw [this,Int.toNat_natCast,pl_getD hd]
 refine ⟨fun m σ H'=>∃ cs rs,ds=cs++rs∧m=cs.length∧(∀ d,d∈rs→psum ns d > psum ns i)∧H'=upd H q (.lst (cs.map nv))∧σ=[some (.ref q),some (.ref a),some (.int i)],⟨ds.length,ds,[],by simp,rfl,(fun d z=>by cases z),(upd_id hq).symm,rfl⟩,?_⟩
 rintro m _ _ ⟨cs,rs,rfl,rfl,hrs,rfl,rfl⟩
 have ha':upd H q (.lst (cs.map nv)) a=some (.lst ((pl ns ns.length).map V.int)):=by rw [qF (Ne.symm hqa)];exact ha
 have app:∀ (D:V→Hp→Prop),D .non (upd H q (.lst ((cs++[i]).map nv)))→rAppend (.ref q) [.int i] (upd H q (.lst (cs.map nv))) D:=fun D z=>by
  refine ⟨q,_,_,rfl,rfl,qA,small ?_,?_⟩
  ·rw [List.length_map]
   rw [List.length_append] at hz
   omega
  ·rw [q4k]
   rw [List.map_append] at z
   exact z
 refine ⟨_,rfl,_,.inl ⟨_,SqL.of qA,rfl⟩,?_⟩
 cases e:cs.getLast? with
 | none =>
  have:cs=[]:=by simpa using e
  subst this
  refine iteF ?_
  lk
  refine ⟨.inl ⟨rfl,_,SqL.of qA⟩,?_⟩
  lk
  exact app _ (fin [] rs rfl hrs (fun d z=>by cases z))
 | some l =>
  obtain ⟨c',rfl⟩:=List.getLast?_eq_some_iff.mp e
  have hb:(!((c'++[l]).map nv).isEmpty)=true:=by simp
  rw [hb]
  refine iteT ?_
  have hl:l≤ns.length:=hds l (by simp)
  lk
  refine ⟨q,_,-1,_,rfl,rfl,SqL.of qA,by rw [List.map_append];exact q2z _ _,?_⟩
  refine ⟨a,_,_,_,rfl,rfl,SqL.of ha',atA l hl,?_⟩
  lk
  refine ⟨a,_,_,_,rfl,rfl,SqL.of ha',atA i hi,?_⟩
  lk
  refine ifD (fun hgt=>?_) (fun hgt=>?_)
  ·refine ⟨fun σ' H'=>σ'=[some (.ref q),some (.ref a),some (.int i)]∧H'=upd H q (.lst (c'.map nv)),?_,?_⟩
   ·rintro σ' H' ⟨rfl,rfl⟩
    refine ⟨c'.length,by simp,c',l::rs,by simp,rfl,fun d hd=>?_,rfl,rfl⟩
    rcases List.mem_cons.mp hd with hd | hd
    ·subst hd;exact hgt
    ·exact hrs d hd
   ·lk
    refine ⟨.inl ⟨rfl,_,SqL.of qA⟩,?_⟩
    refine ⟨q,_,nv l,rfl,rfl,qA,?_,rfl,?_⟩
    ·rw [List.map_append,List.length_append,List.length_map]
     simp
    ·rw [q4k,List.map_append]
     simp
  ·lk
   refine ⟨.inl ⟨rfl,_,SqL.of qA⟩,?_⟩
   lk
   refine app _ (fin (c'++[l]) rs rfl hrs fun d z=>?_)
   rw [e] at z
   cases z
   omega
theorem q3b {x:V} {xs:List V}:atI (x::xs) 0=some x:=qq (j:=0) rfl
noncomputable def q6n:Sp:=fun vs H Q _=>∃ (r:Addr) (ns:List Int) (L:Nat) (M:Int),vs=[.ref r,.int L,.int M]∧H r=some (.lst (ns.map V.int))∧ns.length≤80000∧1≤L∧L≤ns.length∧(L:Int)≤M ∧
 ∀ (t:Addr) (s:Int) (f b:Nat) (H':Hp),Same H H'→H' t=some (.tup [.int s,.int f,.int b])→q7E ns L M s f b→Q (.ref t) H'
noncomputable def BstF (P:Nat→Int) (H:Hp) (S:Nat→Nat→Prop) (v:V) (ds:List Nat) (h:Nat) (bb:Nat):Prop:=(v = .non∧∀ f b,¬ S f b)∨∃ (t:Addr) (s:Int) (f b:Nat),v = .ref t∧H t=some (.tup [.int s,.int f,.int b])∧BestIn P S s f b∧(∀ d,d∈ds→f≤d)∧f < h∧b≤bb
theorem ok_sized {k:Nat} {f:Addr} {fd:FuncData} (F:Fun K "best_sized" "best_sized" q0Z f fd) (Z:Blt mg)
  (D_longest_of:Def P w K mg base k "longest_of" ["many","least","most"] q1J) (D_sums_ahead:Def P w K mg base k "sums_ahead" ["row"] q3T) (D_enter_first:Def P w K mg base k "enter_first" ["firsts","ahead","first"] q3S) :
  FnOk P w K mg base CX0 (k+1) f fd ["row","least","most"] q6n:=by
 refine F.ok sc_best_sized (fun vs H Q E h=>?_) (fun cdv A outer s H vs Q E hr h=>?_)
 ·obtain ⟨r,ns,L,M,rfl,_⟩:=h
  rfl
 obtain ⟨r,ns,L,M,rfl,hR,hz,hL1,hL2,hLM,fin⟩:=h
 apply Exists.intro
 apply And.intro
 case left =>
  apply qB
  case h1 =>
   exact (qQ (i:=3) sc_best_sized.nd rfl (by walk_at "lr") (qM D_longest_of hr rfl (q0 (qV (qS (K:=K) rfl) rfl Z.len_ PySem.boot_len (q0 (pv 0) qC)) (q0 (pv 1) (q0 (pv 2) qC)))))
  apply qB
  case h1 =>
   exact (qQ (i:=4) sc_best_sized.nd rfl (by walk_at "lr") (qM D_sums_ahead hr rfl (q0 (pv 0) qC)))
  apply qB
  case h1 =>
   exact (qQ (i:=5) sc_best_sized.nd rfl (by walk_at "lr") (qc qC))
  apply qB
  case h1 =>
   exact (qQ (i:=6) sc_best_sized.nd rfl (by walk_at "lr") qj)
  apply qB
  case h1 =>
   apply q18 PassesOwn.never rfl
   case hi=>exact (q3w rfl Z.range_ (q0 (pv 1) (q0 (qU qf (qV (qS (K:=K) rfl) rfl Z.len_ PySem.boot_len (q0 (pv 0) qC)) qE) qC)))
   case hg=>exact (qi (i:=7) sc_best_sized.nd rfl (by walk_at "lr"))
   case hb =>
    apply qB
    case h1 =>
     exact (qo (qM D_enter_first hr rfl (q0 (pv 5) (q0 (pv 4) (q0 (qU q0J (pv 7) (pv 1)) qC)))))
    apply qB
    case h1 =>
     apply qZ
     case hc=>exact (qO q1q (qJ (qK (K:=K) rfl) (pv 5) qE (fun _ _=>rfl)) (qU q0J (pv 7) (pv 3)) (qT _))
     case ha =>
      apply qD
      exact (qo (q1Q (K:=K) rfl PySem.F.plainAttrs_list PySem.F.slot_list_pop PySem.F.type_list_pop mt_popAt (pv 5) (q0 qE qC)))
     case hb =>
      exact qP
    apply qB
    case h1 =>
     exact (qQ (i:=8) sc_best_sized.nd rfl (by walk_at "lr") (qU q0J (qJ (qK (K:=K) rfl) (pv 4) (pv 7) (fun _ _=>rfl)) (qJ (qK (K:=K) rfl) (pv 4) (qJ (qK (K:=K) rfl) (pv 5) qE (fun _ _=>rfl)) (fun _ _=>rfl))))
    apply qD
    apply qZ
    case hc=>exact (PW.pt (q35 (qO q1B (pv 6) qj (qT _)) (q21 (qO q4K (pv 8) (qJ (qG (K:=K) rfl) (pv 6) qE (fun _ _=>rfl)) (qT _)))))
    case ha =>
     apply qD
     exact (qQ (i:=6) sc_best_sized.nd rfl (by walk_at "lr") (qp (q0 (pv 8) (q0 (qJ (qK (K:=K) rfl) (pv 5) qE (fun _ _=>rfl)) (q0 (pv 7) qC)))))
    case hb =>
     exact qP
  apply qD
  exact (qL (pv 6))
 have hl:(ns.map V.int).length=ns.length:=List.length_map _
 lk
 refine ⟨r,_,rfl,.inl (SqL.of hR),?_⟩
 lk
 refine ⟨_,_,_,rfl,by omega,hLM,by rw [hl];omega,?_⟩
 obtain ⟨lg,elg⟩:∃ lg:Nat,(if (((ns.map V.int).length:Nat):Int) < M then (((ns.map V.int).length:Nat):Int) else M)=(lg:Int):=by
  rw [hl]
  split
  ·exact ⟨_,rfl⟩
  ·exact ⟨M.toNat,by omega⟩
 have hlg:L≤lg∧lg≤ns.length∧(lg:Int)≤M∧((lg:Int)=M∨lg=ns.length):=by
  rw [hl] at elg
  split at elg <;> omega
 rw [elg]
 lk
 refine ⟨r,ns,rfl,hR,by omega,fun a H1 s1 ha0 ha=>?_⟩
 lk
 refine ⟨Nat.zero_le _,fun q hq=>?_⟩
 lk
 have hqa:q≠a:=fun z=>by subst z;rw [ha] at hq;cases hq
 have hR1:=s1 _ _ hR
 have hrq:r≠q:=fun z=>by subst z;rw [hR1] at hq;cases hq
 refine ⟨r,_,rfl,.inl (SqL.of (by rw [qF hrq];exact hR1)),?_⟩
 lk
 refine ⟨_,_,rfl,⟨by omega,by omega,by omega,by omega⟩,?_⟩
 have atA:∀ d:Nat,d≤ns.length→atI ((pl ns ns.length).map V.int) (d:Int)=some (.int (psum ns d)):=fun d hd=>by
  have:=q2y (ns:=pl ns ns.length) (k:=(d:Int)) (by omega) (by rw [pl_len];omega)
  rw [this,Int.toNat_natCast,pl_getD hd]
 refine q27 (fun j σ H'=>∃ (v:V) (ds:List Nat) (o7 o8:Option V),(∀ b o,b≠q→H1 b=some o→H' b=some o)∧H' q=some (.lst (ds.map nv))∧Dq (psum ns) (L+j-1-lg) j ds∧ds.length≤j∧BstF (psum ns) H' (fun f b=>Val ns.length L M f b∧b < L+j) v ds j (L+j) ∧
  σ=[some (.ref r),some (.int L),some (.int M),some (.int lg),some (.ref a),some (.ref q),some v,o7,o8]) ?_ ?_ ?_
 ·refine ⟨.non,[],none,none,fun b o hb e=>by rw [qF hb];exact e,qA,⟨List.Pairwise.nil,(fun d z=>by cases z),(fun f _ h2=>by omega)⟩,Nat.le_refl _,.inl ⟨rfl,fun f b z=>?_⟩,rfl⟩
  unfold Val at z
  omega
 ·rintro j σ H2 hj ⟨v,ds,o7,o8,keep,hq2,hD,hlen,hv,rfl⟩
  have hj':L+j≤ns.length:=by omega
  have ha2:=keep a _ (Ne.symm hqa) ha
  lk
  have ei:(L:Int)+j-L=(j:Int):=by omega
  refine ⟨q,a,ds,ns,j,by show [V.ref q,V.ref a,V.int ((L:Int)+j-L)]=_;rw [ei],hqa,hq2,ha2,fun d hd=>?_,by omega,by omega,fun cs rs ecs hrs hcs=>?_⟩
  ·have:=(hD.mem d hd).2
   omega
  subst ecs
  have hE:=hD.enter hrs hcs (by omega)
  have hcl:(cs++[j]).length≤j+1:=by
   rw [List.length_append] at hlen ⊢
   rw [List.length_singleton]
   omega
  obtain ⟨d0,tl,ed⟩:∃ d0 tl,cs++[j]=d0::tl:=by
   cases cs with
   | nil=>exact ⟨j,[],rfl⟩
   | cons x xs=>exact ⟨x,xs++[j],rfl⟩
  have hjm:j∈d0::tl:=by rw [← ed];simp
  have hsub:∀ x,x∈d0::tl→x=j∨x∈cs++rs:=fun x hx=>by
   rw [← ed] at hx
   rcases List.mem_append.mp hx with hx | hx
   ·exact .inr (List.mem_append_left _ hx)
   ·exact .inl (by simpa using hx)
  rw [ed] at hE hcl
  have hq3:upd H2 q (.lst ((cs++[j]).map nv)) q=some (.lst ((d0::tl).map nv)):=by rw [qA,ed]
  lk
  refine ⟨q,_,0,_,rfl,rfl,SqL.of hq3,q3b,?_⟩
  lk
  refine ifJ (fun σ' H'=>∃ (d1:Nat) (t1:List Nat),H'=upd H2 q (.lst ((d1::t1).map nv))∧Dq (psum ns) (L+j-lg) (j+1) (d1::t1)∧(d1::t1).length≤j+1∧(∀ x,x∈d1::t1→x=j∨x∈cs++rs) ∧
   σ'=[some (.ref r),some (.int L),some (.int M),some (.int lg),some (.ref a),some (.ref q),some v,some (.int (L+j)),o8]) ?_ (fun hno=>⟨d0,tl,by rw [ed],hE.stay (by omega) (by omega),hcl,hsub,rfl⟩) (fun R hR' hlt=>?_)
  case refine_2 =>
   have hlt':(d0:Int) < (L:Int)+j-lg:=hlt
   obtain ⟨d1,t1,rfl⟩:∃ d1 t1,tl=d1::t1:=by
    cases tl with
    | nil =>
     have:j=d0:=by simpa using hjm
     omega
    | cons x xs=>exact ⟨x,xs,rfl⟩
   lk
   refine ⟨.inl ⟨rfl,_,SqL.of hq3⟩,?_⟩
   lk
   refine ⟨q,_,0,0,_,rfl,rfl,hq3,by decide,by decide,?_,rfl,?_⟩
   ·unfold seqIndex?
    simp
    omega
   ·refine hR' _ _ ⟨d1,t1,by rw [q4k];rfl,hE.pop (by omega) (by omega),?_,fun x hx=>hsub x (List.mem_cons_of_mem _ hx),rfl⟩
    rw [List.length_cons] at hcl
    omega
  rintro _ _ ⟨d1,t1,rfl,hD1,hl1,hs1,rfl⟩
  have hd1:=hD1.mem d1 List.mem_cons_self
  have top:=hD1.head
  have ha3:upd H2 q (.lst ((d1::t1).map nv)) a=some (.lst ((pl ns ns.length).map V.int)):=by rw [qF (Ne.symm hqa)];exact ha2
  have eb:(L:Int)+j=((L+j:Nat):Int):=by omega
  lk
  refine ⟨a,_,_,_,rfl,rfl,SqL.of ha3,by rw [eb];exact atA (L+j) hj',?_⟩
  lk
  refine ⟨q,_,0,_,rfl,rfl,SqL.of qA,q3b,?_⟩
  refine ⟨a,_,_,_,rfl,rfl,SqL.of ha3,atA d1 (by omega),?_⟩
  lk
  have eS:∀ f b,(Val ns.length L M f b∧b < L+(j+1))↔((Val ns.length L M f b∧b < L+j)∨(b=L+j∧L+j-lg≤f∧f < j+1)):=fun f b=>by
   unfold Val
   omega
  have en:L+(j+1)-1-lg=L+j-lg:=by omega
  have keep3:∀ b o,b≠q→H1 b=some o→upd H2 q (.lst ((d1::t1).map nv)) b=some o:=fun b o hb e=>by rw [qF hb];exact keep b o hb e
  have sorted:∀ d,d∈d1::t1→d1≤d:=fun d hd=>by
   rcases List.mem_cons.mp hd with hd | hd
   ·omega
   ·have:=((List.pairwise_cons.mp hD1.pw).1 d hd).1
    omega
  have more:∀ (p:Addr) (H':Hp),upd H2 q (.lst ((d1::t1).map nv)) p=none→H'=upd (upd H2 q (.lst ((d1::t1).map nv))) p (.tup [.int (psum ns (L+j)-psum ns d1),.int d1,.int (L+j)])→BestIn (psum ns) (fun f b=>Val ns.length L M f b∧b < L+(j+1)) (psum ns (L+j)-psum ns d1) d1 (L+j) →
    ∃ (v:V) (ds:List Nat) (o7 o8':Option V),(∀ b o,b≠q→H1 b=some o→H' b=some o)∧H' q=some (.lst (ds.map nv))∧Dq (psum ns) (L+(j+1)-1-lg) (j+1) ds∧ds.length≤j+1∧BstF (psum ns) H' (fun f b=>Val ns.length L M f b∧b < L+(j+1)) v ds (j+1) (L+(j+1)) ∧
    ([some (.ref r),some (.int L),some (.int M),some (.int lg),some (.ref a),some (.ref q),some (.ref p),some (.int (L+j)),some (.int (psum ns (L+j)-psum ns d1))]:St)=[some (.ref r),some (.int L),some (.int M),some (.int lg),some (.ref a),some (.ref q),some v,o7,o8']:=fun p H' hp eH hB=>by
   subst eH
   have hpq:q≠p:=fun z=>by subst z;rw [qA] at hp;cases hp
   refine ⟨.ref p,d1::t1,_,_,fun b o hb e=>?_,by rw [qF hpq,qA],by rw [en];exact hD1,hl1,.inr ⟨p,_,d1,L+j,rfl,?_,hB,sorted,hd1.2,by omega⟩,rfl⟩
   ·have e3:=keep3 b o hb e
    rw [qF (qI e3 hp)]
    exact e3
   ·rw [qA,eb]
  rcases hv with ⟨rfl,hno⟩ | ⟨t,s,f,b,rfl,ht,hB,hfd,hfh,hbb⟩
  ·refine ifD (fun _=>?_) (fun z=>absurd rfl z)
   lk
   refine ⟨q,_,0,_,rfl,rfl,SqL.of qA,q3b,?_⟩
   lk
   refine ⟨by show 3≤sizeLine;decide,fun p hp=>?_⟩
   refine more p _ hp rfl (win_first (fun f b=>?_) hd1 top)
   constructor
   ·intro z
    rcases (eS f b).mp z with z | z
    ·exact absurd z (hno f b)
    ·exact z
   ·intro z
    exact (eS f b).mpr (.inr z)
  ·have htq:t≠q:=fun z=>by subst z;rw [hq2] at ht;cases ht
   have ht3:upd H2 q (.lst ((d1::t1).map nv)) t=some (.tup [.int s,.int f,.int b]):=by rw [qF htq];exact ht
   refine ifD (fun z=>nomatch z) (fun _=>?_)
   lk
   refine ⟨t,_,0,_,rfl,rfl,SqT.of ht3,rfl,?_⟩
   lk
   refine ifD (fun hgt=>?_) (fun hgt=>?_)
   ·lk
    refine ⟨q,_,0,_,rfl,rfl,SqL.of qA,q3b,?_⟩
    lk
    refine ⟨by show 3≤sizeLine;decide,fun p hp=>?_⟩
    exact more p _ hp rfl (win_more hB eS hd1 top hgt)
   ·have hfd1:∀ d,d∈d1::t1→f≤d:=fun d hd=>by
     rcases hs1 d hd with e | e
     ·omega
     ·exact hfd d e
    exact ⟨.ref t,d1::t1,_,_,keep3,qA,by rw [en];exact hD1,hl1,.inr ⟨t,s,f,b,rfl,ht3,win_less hB eS top hgt (hfd1 d1 List.mem_cons_self) (by omega),hfd1,by omega,by omega⟩,rfl⟩
 ·rintro σ H2 ⟨v,ds,o7,o8,keep,hq2,hD,hlen,hv,rfl⟩
  lk
  rw [hl] at hv
  have eS:∀ f b,(Val ns.length L M f b∧b < L+((ns.length:Int)+1-L).toNat)↔Val ns.length L M f b:=fun f b=>by
   unfold Val
   omega
  rcases hv with ⟨rfl,hno⟩ | ⟨t,s,f,b,rfl,ht,hB,_⟩
  ·exact absurd ((eS 0 L).mpr (by unfold Val;omega)) (hno 0 L)
  ·refine fin t s f b H2 (fun b o e=>?_) ht (hB.congr eS)
   have e1:=s1 _ _ e
   exact keep b o (fun z=>by subst z;rw [e1] at hq;cases hq) e1
structure Sx where
 s:Int
 f:Int
 b:Int
noncomputable def Sx.le (x y:Sx):Prop:=y.s < x.s∨(x.s=y.s∧(x.f < y.f∨(x.f=y.f∧x.b≤y.b)))
noncomputable def q0N (x y:Sx):Sx:=if HT.lexLt [-y.s,y.f,y.b] [-x.s,x.f,x.b]=true then y else x
theorem lex3 {a b c a' b' c':Int}:HT.lexLt [a,b,c] [a',b',c']=true↔a < a'∨(a=a'∧(b < b'∨(b=b'∧c < c'))):=by
 rw [HT.lexLt_cons,HT.lexLt_cons,HT.lexLt_cons,HT.lexLt_nil_nil]
 by_cases h1:a=a'
 ·rw [if_pos h1]
  by_cases h2:b=b'
  ·rw [if_pos h2]
   by_cases h3:c=c'
   ·rw [if_pos h3];constructor
    ·intro z;cases z
    ·intro z;omega
   ·rw [if_neg h3,decide_eq_true_iff];omega
  ·rw [if_neg h2,decide_eq_true_iff];omega
 ·rw [if_neg h1,decide_eq_true_iff];omega
structure Top (P:Sx→Prop) (x:Sx):Prop where
 has:P x
 le:∀ y,P y→x.le y
theorem Sx.ext' {x y:Sx} (h1:x.s=y.s) (h2:x.f=y.f) (h3:x.b=y.b):x=y:=by
 cases x;cases y;simp only at h1 h2 h3;subst h1 h2 h3;rfl
theorem Top.uniq {P:Sx→Prop} {x y:Sx} (h:Top P x) (g:Top P y):x=y:=by
 have h1:=h.le y g.has
 have h2:=g.le x h.has
 unfold Sx.le at h1 h2
 exact Sx.ext' (by omega) (by omega) (by omega)
theorem better_or (x y:Sx):(q0N x y=x∧x.le y)∨(q0N x y=y∧y.le x):=by
 unfold q0N
 by_cases h:HT.lexLt [-y.s,y.f,y.b] [-x.s,x.f,x.b]=true
 ·rw [if_pos h]
  rw [lex3] at h
  exact .inr ⟨rfl,by unfold Sx.le;omega⟩
 ·rw [if_neg h]
  rw [lex3] at h
  exact .inl ⟨rfl,by unfold Sx.le;omega⟩
theorem Sx.le_trans {x y z:Sx} (h:x.le y) (g:y.le z):x.le z:=by
 unfold Sx.le at h g ⊢
 omega
theorem Top.or {P Q R:Sx→Prop} {x y:Sx} (hx:Top P x) (hy:Top Q y) (h:∀ z,R z↔P z∨Q z):Top R (q0N x y):=by
 rcases better_or x y with ⟨e,l⟩ | ⟨e,l⟩
 ·rw [e]
  refine ⟨(h x).mpr (.inl hx.has),fun z hz=>?_⟩
  rcases (h z).mp hz with q | q
  ·exact hx.le z q
  ·exact Sx.le_trans l (hy.le z q)
 ·rw [e]
  refine ⟨(h y).mpr (.inr hy.has),fun z hz=>?_⟩
  rcases (h z).mp hz with q | q
  ·exact Sx.le_trans l (hx.le z q)
  ·exact hy.le z q
noncomputable def qY (x:Sx) (m:Int):Sx:=⟨x.s,x.f+m,x.b+m⟩
noncomputable def q05 (x y:Sx):Sx:=⟨x.s+y.s,x.f,y.b⟩
noncomputable def q0u (x:Sx) (t:Int):Sx:=⟨x.s+t,x.f,x.b⟩
theorem Top.iff {P Q:Sx→Prop} {x:Sx} (h:Top P x) (e:∀ z,Q z↔P z):Top Q x:=⟨(e x).mpr h.has,fun y q=>h.le y ((e y).mp q)⟩
theorem Top.moved {P:Sx→Prop} {x:Sx} (h:Top P x) (m:Int):Top (fun z=>∃ y,P y∧z=qY y m) (qY x m):=by
 refine ⟨⟨x,h.has,rfl⟩,?_⟩
 rintro _ ⟨y,hy,rfl⟩
 have q:=h.le y hy
 unfold Sx.le at q ⊢
 simp only [qY]
 omega
theorem Top.more {P:Sx→Prop} {x:Sx} (h:Top P x) (t:Int):Top (fun z=>∃ y,P y∧z=q0u y t) (q0u x t):=by
 refine ⟨⟨x,h.has,rfl⟩,?_⟩
 rintro _ ⟨y,hy,rfl⟩
 have q:=h.le y hy
 unfold Sx.le at q ⊢
 simp only [q0u]
 omega
theorem Top.side {P Q:Sx→Prop} {x y:Sx} (h:Top P x) (g:Top Q y) (hq:∀ z,Q z→z.f=y.f):Top (fun z=>∃ p q,P p∧Q q∧z=q05 p q) (q05 x y):=by
 refine ⟨⟨x,y,h.has,g.has,rfl⟩,?_⟩
 rintro _ ⟨p,q,hp,hq',rfl⟩
 have a:=h.le p hp
 have b:=g.le q hq'
 have c:=hq q hq'
 unfold Sx.le at a b ⊢
 simp only [q05]
 omega
theorem Top.one (x:Sx):Top (fun z=>z=x) x:=⟨rfl,fun y e=>by rw [e];unfold Sx.le;omega⟩
theorem qk {xs ys:List Int} {i:Nat} (h:i≤xs.length):psum (xs++ys) i=psum xs i:=by
 unfold psum
 rw [List.take_append_of_le_length h]
theorem qg {xs ys:List Int} {j:Nat}:psum (xs++ys) (xs.length+j)=psum xs xs.length+psum ys j:=by
 unfold psum
 rw [List.take_append,List.sum_append,List.take_of_length_le (by omega),Nat.add_sub_cancel_left,List.take_length]
noncomputable def PB (xs:List Int) (z:Sx):Prop:=∃ f b:Nat,f < b∧b≤xs.length∧z=⟨psum xs b-psum xs f,f,b⟩
noncomputable def PH (xs:List Int) (z:Sx):Prop:=∃ b:Nat,0 < b∧b≤xs.length∧z=⟨psum xs b,0,b⟩
noncomputable def PT (xs:List Int) (z:Sx):Prop:=∃ f:Nat,f < xs.length∧z=⟨psum xs xs.length-psum xs f,f,xs.length⟩
noncomputable def PR (xs:List Int) (z:Sx):Prop:=∃ f b:Nat,1≤b∧b≤f∧f < xs.length∧z=⟨psum xs xs.length-psum xs f+psum xs b,f,b⟩
structure Kn where
 many:Int
 total:Int
 best:Sx
 head:Sx
 tail:Sx
 round:Option Sx
structure KnOk (k:Kn) (xs:List Int):Prop where
 many:k.many=xs.length
 total:k.total=psum xs xs.length
 best:Top (PB xs) k.best
 head:Top (PH xs) k.head
 tail:Top (PT xs) k.tail
 round:match k.round with | none=>xs.length=1 | some r=>Top (PR xs) r
noncomputable def q5u (a b:Kn):Sx :=
 let x:=q05 (qY b.tail a.many) a.head
 let y:=match a.round with | none=>x | some r=>q0N x (q0u r b.total)
 match b.round with | none=>y | some r=>q0N y (q0u (qY r a.many) a.total)
noncomputable def joinK (a b:Kn):Kn where
 many:=a.many+b.many
 total:=a.total+b.total
 best:=q0N (q0N a.best (q05 a.tail (qY b.head a.many))) (qY b.best a.many)
 head:=q0N a.head (q05 ⟨a.total,0,a.many⟩ (qY b.head a.many))
 tail:=q0N (q05 a.tail ⟨b.total,a.many,a.many+b.many⟩) (qY b.tail a.many)
 round:=some (q5u a b)
noncomputable def oneK (n:Int):Kn:=⟨1,n,⟨n,0,1⟩,⟨n,0,1⟩,⟨n,0,1⟩,none⟩
theorem one_ok (n:Int):KnOk (oneK n) [n]:=by
 have p1:psum [n] 1=n:=by simp [psum]
 have p0:psum [n] 0=0:=rfl
 have le:∀ z:Sx,z=⟨n,0,1⟩→Sx.le ⟨n,0,1⟩ z:=fun z e=>by rw [e];unfold Sx.le;omega
 refine ⟨rfl,p1.symm,⟨⟨0,1,by omega,by simp,?_⟩,?_⟩,⟨⟨1,by omega,by simp,?_⟩,?_⟩,⟨⟨0,by simp,?_⟩,?_⟩,rfl⟩
 ·rw [p1,p0];exact Sx.ext' (by show n=n-0;omega) rfl rfl
 ·rintro z ⟨f,b,h1,h2,e⟩
  simp only [List.length_singleton] at h2
  obtain rfl:f=0:=by omega
  obtain rfl:b=1:=by omega
  rw [p1,p0] at e
  exact le z (by rw [e];exact Sx.ext' (by show n-0=n;omega) rfl rfl)
 ·rw [p1];rfl
 ·rintro z ⟨b,h1,h2,e⟩
  simp only [List.length_singleton] at h2
  obtain rfl:b=1:=by omega
  rw [p1] at e
  exact le z e
 ·show _=(⟨psum [n] 1-psum [n] 0,0,1⟩:Sx)
  rw [p1,p0];exact Sx.ext' (by show n=n-0;omega) rfl rfl
 ·rintro z ⟨f,h1,e⟩
  simp only [List.length_singleton] at h1
  obtain rfl:f=0:=by omega
  have e':z=⟨psum [n] 1-psum [n] 0,0,1⟩:=e
  rw [p1,p0] at e'
  exact le z (by rw [e'];exact Sx.ext' (by show n-0=n;omega) rfl rfl)
theorem q5E {a b:Kn} {xs ys:List Int} (ha:KnOk a xs) (hb:KnOk b ys):KnOk (joinK a b) (xs++ys):=by
 have hl:(xs++ys).length=xs.length+ys.length:=List.length_append
 have pT:psum (xs++ys) (xs++ys).length=psum xs xs.length+psum ys ys.length:=by rw [hl,qg]
 have am:=ha.many
 have bm:=hb.many
 have at':=ha.total
 have bt:=hb.total
 have oh:Top (fun z=>∃ y,PH ys y∧z=qY y a.many) (qY b.head a.many):=hb.head.moved _
 have ohf:∀ z,(∃ y,PH ys y∧z=qY y a.many)→z.f=(qY b.head a.many).f:=by
  rintro _ ⟨y,⟨c,_,_,rfl⟩,rfl⟩
  obtain ⟨c',_,_,e⟩:=hb.head.has
  rw [e];rfl
 refine ⟨?_,?_,?_,?_,?_,?_⟩
 ·show a.many+b.many=_;rw [am,bm,hl];omega
 ·show a.total+b.total=_;rw [at',bt,pT]
 ·show Top _ (q0N (q0N a.best (q05 a.tail (qY b.head a.many))) (qY b.best a.many))
  refine Top.or (Top.or ha.best (Top.side ha.tail oh ohf) (fun z=>Iff.rfl)) (hb.best.moved a.many) fun z=>?_
  constructor
  ·rintro ⟨f,c,h1,h2,rfl⟩
   rw [hl] at h2
   by_cases hc:c≤xs.length
   ·refine .inl (.inl ⟨f,c,h1,hc,?_⟩)
    rw [qk hc,qk (by omega)]
   ·obtain ⟨j,rfl⟩:∃ j,c=xs.length+j:=⟨c-xs.length,by omega⟩
    by_cases hf:f < xs.length
    ·refine .inl (.inr ⟨_,_,⟨f,hf,rfl⟩,⟨_,⟨j,by omega,by omega,rfl⟩,rfl⟩,?_⟩)
     rw [qg,qk (by omega)]
     exact Sx.ext' (by simp only [q05,qY];omega) rfl (by simp only [q05,qY];omega)
    ·obtain ⟨i,rfl⟩:∃ i,f=xs.length+i:=⟨f-xs.length,by omega⟩
     refine .inr ⟨_,⟨i,j,by omega,by omega,rfl⟩,?_⟩
     rw [qg,qg]
     exact Sx.ext' (by simp only [qY];omega) (by simp only [qY];omega) (by simp only [qY];omega)
  ·rintro ((⟨f,c,h1,h2,rfl⟩ | ⟨_,_,⟨f,hf,rfl⟩,⟨_,⟨j,h1,h2,rfl⟩,rfl⟩,rfl⟩) | ⟨_,⟨f,c,h1,h2,rfl⟩,rfl⟩)
   ·exact ⟨f,c,h1,by omega,by rw [qk h2,qk (by omega)]⟩
   ·refine ⟨f,xs.length+j,by omega,by omega,?_⟩
    rw [qg,qk (by omega)]
    exact Sx.ext' (by simp only [q05,qY];omega) rfl (by simp only [q05,qY];omega)
   ·refine ⟨xs.length+f,xs.length+c,by omega,by omega,?_⟩
    rw [qg,qg]
    exact Sx.ext' (by simp only [qY];omega) (by simp only [qY];omega) (by simp only [qY];omega)
 ·show Top _ (q0N a.head (q05 ⟨a.total,0,a.many⟩ (qY b.head a.many)))
  refine Top.or ha.head (Top.side (Top.one _) oh ohf) fun z=>?_
  constructor
  ·rintro ⟨c,h1,h2,rfl⟩
   by_cases hc:c≤xs.length
   ·exact .inl ⟨c,h1,hc,by rw [qk hc]⟩
   ·obtain ⟨j,rfl⟩:∃ j,c=xs.length+j:=⟨c-xs.length,by omega⟩
    refine .inr ⟨_,_,rfl,⟨_,⟨j,by omega,by omega,rfl⟩,rfl⟩,?_⟩
    rw [qg]
    exact Sx.ext' (by simp only [q05,qY];omega) rfl (by simp only [q05,qY];omega)
  ·rintro (⟨c,h1,h2,rfl⟩ | ⟨_,_,rfl,⟨_,⟨j,h1,h2,rfl⟩,rfl⟩,rfl⟩)
   ·exact ⟨c,h1,by omega,by rw [qk h2]⟩
   ·refine ⟨xs.length+j,by omega,by omega,?_⟩
    rw [qg]
    exact Sx.ext' (by simp only [q05,qY];omega) rfl (by simp only [q05,qY];omega)
 ·show Top _ (q0N (q05 a.tail ⟨b.total,a.many,a.many+b.many⟩) (qY b.tail a.many))
  refine Top.or (Top.side ha.tail (Top.one _) (fun z e=>by rw [e])) (hb.tail.moved a.many) fun z=>?_
  constructor
  ·rintro ⟨f,h1,rfl⟩
   rw [hl] at h1
   by_cases hf:f < xs.length
   ·refine .inl ⟨_,_,⟨f,hf,rfl⟩,rfl,?_⟩
    rw [pT,qk (by omega)]
    exact Sx.ext' (by simp only [q05];omega) rfl (by simp only [q05];omega)
   ·obtain ⟨i,rfl⟩:∃ i,f=xs.length+i:=⟨f-xs.length,by omega⟩
    refine .inr ⟨_,⟨i,by omega,rfl⟩,?_⟩
    rw [pT,qg]
    exact Sx.ext' (by simp only [qY];omega) (by simp only [qY];omega) (by simp only [qY];omega)
  ·rintro (⟨_,_,⟨f,h1,rfl⟩,rfl,rfl⟩ | ⟨_,⟨f,h1,rfl⟩,rfl⟩)
   ·refine ⟨f,by omega,?_⟩
    rw [pT,qk (by omega)]
    exact Sx.ext' (by simp only [q05];omega) rfl (by simp only [q05];omega)
   ·refine ⟨xs.length+f,by omega,?_⟩
    rw [pT,qg]
    exact Sx.ext' (by simp only [qY];omega) (by simp only [qY];omega) (by simp only [qY];omega)
 ·show Top _ (q5u a b)
  have cross:Top (fun z=>∃ p q,(∃ y,PT ys y∧p=qY y a.many)∧PH xs q∧z=q05 p q) (q05 (qY b.tail a.many) a.head):=Top.side (hb.tail.moved a.many) ha.head (by
   rintro _ ⟨c,_,_,rfl⟩
   obtain ⟨c',_,_,e⟩:=ha.head.has
   rw [e])
  have y1:Top (fun z=>(∃ p q,(∃ y,PT ys y∧p=qY y a.many)∧PH xs q∧z=q05 p q)∨(∃ y,PR xs y∧z=q0u y b.total)) (match a.round with | none=>q05 (qY b.tail a.many) a.head | some r=>q0N (q05 (qY b.tail a.many) a.head) (q0u r b.total)):=by
   have q:=ha.round
   cases e:a.round with
   | none =>
    rw [e] at q
    simp only at q
    refine cross.iff fun z=>⟨fun h=>h.elim id ?_,.inl⟩
    rintro ⟨_,⟨f,c,h1,h2,h3,_⟩,_⟩
    omega
   | some r =>
    rw [e] at q
    exact Top.or cross (q.more b.total) fun z=>Iff.rfl
  have y2:Top (fun z=>((∃ p q,(∃ y,PT ys y∧p=qY y a.many)∧PH xs q∧z=q05 p q)∨(∃ y,PR xs y∧z=q0u y b.total))∨(∃ y,(∃ x,PR ys x∧y=qY x a.many)∧z=q0u y a.total)) (q5u a b):=by
   have q:=hb.round
   unfold q5u
   cases e:b.round with
   | none =>
    rw [e] at q
    simp only at q
    refine y1.iff fun z=>⟨fun h=>h.elim id ?_,.inl⟩
    rintro ⟨_,⟨_,⟨f,c,h1,h2,h3,_⟩,_⟩,_⟩
    omega
   | some r =>
    rw [e] at q
    exact Top.or y1 ((q.moved a.many).more a.total) fun z=>Iff.rfl
  refine y2.iff fun z=>?_
  constructor
  ·rintro ⟨f,c,h1,h2,h3,rfl⟩
   rw [hl] at h3
   by_cases hf:f < xs.length
   ·refine .inl (.inr ⟨_,⟨f,c,h1,h2,hf,rfl⟩,?_⟩)
    rw [pT,qk (by omega),qk (by omega)]
    exact Sx.ext' (by simp only [q0u];omega) rfl rfl
   ·obtain ⟨i,rfl⟩:∃ i,f=xs.length+i:=⟨f-xs.length,by omega⟩
    by_cases hc:c≤xs.length
    ·refine .inl (.inl ⟨_,_,⟨_,⟨i,by omega,rfl⟩,rfl⟩,⟨c,h1,hc,rfl⟩,?_⟩)
     rw [pT,qg,qk hc]
     exact Sx.ext' (by simp only [q05,qY];omega) (by simp only [q05,qY];omega) rfl
    ·obtain ⟨j,rfl⟩:∃ j,c=xs.length+j:=⟨c-xs.length,by omega⟩
     refine .inr ⟨_,⟨_,⟨i,j,by omega,by omega,by omega,rfl⟩,rfl⟩,?_⟩
     rw [pT,qg,qg]
     exact Sx.ext' (by simp only [q0u,qY];omega) (by simp only [q0u,qY];omega) (by simp only [q0u,qY];omega)
  ·rintro ((⟨_,_,⟨_,⟨i,h1,rfl⟩,rfl⟩,⟨c,h2,h3,rfl⟩,rfl⟩ | ⟨_,⟨f,c,h1,h2,h3,rfl⟩,rfl⟩) | ⟨_,⟨_,⟨f,c,h1,h2,h3,rfl⟩,rfl⟩,rfl⟩)
   ·refine ⟨xs.length+i,c,h2,by omega,by omega,?_⟩
    rw [pT,qg,qk h3]
    exact Sx.ext' (by simp only [q05,qY];omega) (by simp only [q05,qY];omega) rfl
   ·refine ⟨f,c,h1,h2,by omega,?_⟩
    rw [pT,qk (by omega),qk (by omega)]
    exact Sx.ext' (by simp only [q0u];omega) rfl rfl
   ·refine ⟨xs.length+f,xs.length+c,by omega,by omega,by omega,?_⟩
    rw [pT,qg,qg]
    exact Sx.ext' (by simp only [q0u,qY];omega) (by simp only [q0u,qY];omega) (by simp only [q0u,qY];omega)
noncomputable abbrev Tx (x:Sx):HO:=.tup [.int x.s,.int x.f,.int x.b]
noncomputable def IsRd (H:Hp) (v:V):Option Sx→Prop
 | none=>v = .non
 | some x=>∃ p,v = .ref p∧H p=some (Tx x)
structure IsKn (H:Hp) (p:Addr) (a:Kn):Prop where
 ex:∃ (pb ph pt:Addr) (vr:V),H p=some (.tup [.int a.many,.int a.total,.ref pb,.ref ph,.ref pt,vr])∧H pb=some (Tx a.best)∧H ph=some (Tx a.head)∧H pt=some (Tx a.tail)∧IsRd H vr a.round
theorem IsRd.keep {H H':Hp} {v:V} {o:Option Sx} (h:IsRd H v o) (s:Same H H'):IsRd H' v o:=by
 cases o with
 | none=>exact h
 | some x=>obtain ⟨p,e,hp⟩:=h;exact ⟨p,e,s _ _ hp⟩
theorem IsKn.keep {H H':Hp} {p:Addr} {a:Kn} (h:IsKn H p a) (s:Same H H'):IsKn H' p a:=by
 obtain ⟨pb,ph,pt,vr,h1,h2,h3,h4,h5⟩:=h.ex
 exact ⟨pb,ph,pt,vr,s _ _ h1,s _ _ h2,s _ _ h3,s _ _ h4,h5.keep s⟩
noncomputable def q4w:Sp:=fun vs H Q _=>∃ (p:Addr) (x:Sx),vs=[.ref p]∧H p=some (Tx x)∧∀ t,H t=none→Q (.ref t) (upd H t (.tup [.int (-x.s),.int x.f,.int x.b]))
theorem ok_order {k:Nat} {f:Addr} {fd:FuncData} (F:Fun K "order_of" "order_of" q2F f fd) (Z:Blt mg):FnOk P w K mg base CX0 (k+1) f fd ["stretch"] q4w:=by
 refine F.ok q6L (fun vs H Q E h=>?_) (fun cdv A outer s H vs Q E hr h=>?_)
 ·obtain ⟨p,x,rfl,_⟩:=h
  rfl
 obtain ⟨p,x,rfl,hp,fin⟩:=h
 apply Exists.intro
 apply And.intro
 case left =>
  apply qD
  exact (qL (qp (q0 (q3K q1l (qJ (qG (K:=K) rfl) (pv 0) qE (fun _ _=>rfl))) (q0 (qJ (qG (K:=K) rfl) (pv 0) qE (fun _ _=>rfl)) (q0 (qJ (qG (K:=K) rfl) (pv 0) qE (fun _ _=>rfl)) qC)))))
 lk
 refine ⟨_,_,_,_,rfl,rfl,SqT.of hp,rfl,?_⟩
 lk
 refine ⟨_,_,_,_,rfl,rfl,SqT.of hp,rfl,?_⟩
 lk
 refine ⟨_,_,_,_,rfl,rfl,SqT.of hp,rfl,?_⟩
 exact ⟨by show 3≤sizeLine;decide,fun t ht=>fin t ht⟩
noncomputable def q1v:Sp:=fun vs H Q _=>∃ (p q:Addr) (x y:Sx),vs=[.ref p,.ref q]∧H p=some (Tx x)∧H q=some (Tx y)∧∀ t H',Same H H'→H' t=some (Tx (q0N x y))→Q (.ref t) H'
theorem ok_better {k:Nat} {f:Addr} {fd:FuncData} (F:Fun K "better_of" "better_of" q1b f fd) (Z:Blt mg)
  (D_order_of:Def P w K mg base k "order_of" ["stretch"] q4w):FnOk P w K mg base CX0 (k+2) f fd ["one","other"] q1v:=by
 refine F.ok q5a (fun vs H Q E h=>?_) (fun cdv A outer s H vs Q E hr h=>?_)
 ·obtain ⟨p,q,x,y,rfl,_⟩:=h
  rfl
 obtain ⟨p,q,x,y,rfl,hp,hq,fin⟩:=h
 apply Exists.intro
 apply And.intro
 case left =>
  apply qD
  exact (qL (pe_minK D_order_of hr rfl Z.min_ rfl (q0 (pv 0) (q0 (pv 1) qC))))
 refine ⟨_,rfl,_,rfl,_,_,rfl,⟨p,x,rfl,hp,fun t1 h1=>⟨q,y,rfl,Same.new h1 _ _ _ hq,fun t2 h2=>⟨t1,t2,[-x.s,x.f,x.b],[-y.s,y.f,y.b],rfl,rfl,SqT.of (Same.new h2 _ _ _ qA),SqT.of qA,?_⟩⟩⟩⟩
 have sm:=(Same.new h1 (.tup [.int (-x.s),.int x.f,.int x.b])).trans (Same.new h2 (.tup [.int (-y.s),.int y.f,.int y.b]))
 have e:(if HT.lexLt [-y.s,y.f,y.b] [-x.s,x.f,x.b]=true then V.ref q else V.ref p)=V.ref (if HT.lexLt [-y.s,y.f,y.b] [-x.s,x.f,x.b]=true then q else p):=by split <;> rfl
 show Q (if HT.lexLt [-y.s,y.f,y.b] [-x.s,x.f,x.b]=true then V.ref q else V.ref p) _
 rw [e]
 refine fin _ _ sm ?_
 unfold q0N
 split
 ·exact sm _ _ hq
 ·exact sm _ _ hp
noncomputable def q29:Sp:=fun vs H Q _=>∃ (p:Addr) (m:Int) (x:Sx),vs=[.ref p,.int m]∧H p=some (Tx x)∧∀ t H',Same H H'→H' t=some (Tx (qY x m))→Q (.ref t) H'
theorem ok_moved {k:Nat} {f:Addr} {fd:FuncData} (F:Fun K "moved" "moved" q56 f fd) (Z:Blt mg):FnOk P w K mg base CX0 (k+1) f fd ["stretch","places"] q29:=by
 refine F.ok sc_moved (fun vs H Q E h=>?_) (fun cdv A outer s H vs Q E hr h=>?_)
 ·obtain ⟨p,m,x,rfl,_⟩:=h
  rfl
 obtain ⟨p,m,x,rfl,hp,fin⟩:=h
 apply Exists.intro
 apply And.intro
 case left =>
  apply qD
  exact (qL (qp (q0 (qJ (qG (K:=K) rfl) (pv 0) qE (fun _ _=>rfl)) (q0 (qU qf (qJ (qG (K:=K) rfl) (pv 0) qE (fun _ _=>rfl)) (pv 1)) (q0 (qU qf (qJ (qG (K:=K) rfl) (pv 0) qE (fun _ _=>rfl)) (pv 1)) qC)))))
 lk
 refine ⟨_,_,_,_,rfl,rfl,SqT.of hp,rfl,?_⟩
 lk
 refine ⟨_,_,_,_,rfl,rfl,SqT.of hp,rfl,?_⟩
 lk
 refine ⟨_,_,_,_,rfl,rfl,SqT.of hp,rfl,?_⟩
 lk
 exact ⟨by show 3≤sizeLine;decide,fun t ht=>fin t _ (Same.new ht _) qA⟩
noncomputable def q4r:Sp:=fun vs H Q _=>∃ (p q:Addr) (x y:Sx),vs=[.ref p,.ref q]∧H p=some (Tx x)∧H q=some (Tx y)∧∀ t H',Same H H'→H' t=some (Tx (q05 x y))→Q (.ref t) H'
theorem ok_side {k:Nat} {f:Addr} {fd:FuncData} (F:Fun K "side_by_side" "side_by_side" q0R f fd) (Z:Blt mg):FnOk P w K mg base CX0 (k+1) f fd ["one","other"] q4r:=by
 refine F.ok q3n (fun vs H Q E h=>?_) (fun cdv A outer s H vs Q E hr h=>?_)
 ·obtain ⟨p,q,x,y,rfl,_⟩:=h
  rfl
 obtain ⟨p,q,x,y,rfl,hp,hq,fin⟩:=h
 apply Exists.intro
 apply And.intro
 case left =>
  apply qD
  exact (qL (qp (q0 (qU qf (qJ (qG (K:=K) rfl) (pv 0) qE (fun _ _=>rfl)) (qJ (qG (K:=K) rfl) (pv 1) qE (fun _ _=>rfl))) (q0 (qJ (qG (K:=K) rfl) (pv 0) qE (fun _ _=>rfl)) (q0 (qJ (qG (K:=K) rfl) (pv 1) qE (fun _ _=>rfl)) qC)))))
 lk
 refine ⟨_,_,_,_,rfl,rfl,SqT.of hp,rfl,?_⟩
 lk
 refine ⟨_,_,_,_,rfl,rfl,SqT.of hq,rfl,?_⟩
 lk
 refine ⟨_,_,_,_,rfl,rfl,SqT.of hp,rfl,?_⟩
 lk
 refine ⟨_,_,_,_,rfl,rfl,SqT.of hq,rfl,?_⟩
 exact ⟨by show 3≤sizeLine;decide,fun t ht=>fin t _ (Same.new ht _) qA⟩
noncomputable def q3j:Sp:=fun vs H Q _=>∃ (p q:Addr) (a b:Kn),vs=[.ref p,.ref q]∧IsKn H p a∧IsKn H q b∧∀ t H',Same H H'→H' t=some (Tx (q5u a b))→Q (.ref t) H'
theorem ok_jround {k:Nat} {f:Addr} {fd:FuncData} (F:Fun K "joined_round" "joined_round" q0V f fd) (Z:Blt mg) (CC:Cons mg)
  (D_better_of:Def P w K mg base k "better_of" ["one","other"] q1v) (D_moved:Def P w K mg base k "moved" ["stretch","places"] q29) (D_side_by_side:Def P w K mg base k "side_by_side" ["one","other"] q4r):FnOk P w K mg base CX0 (k+1) f fd ["one","other"] q3j:=by
 refine F.ok sc_joined_round (fun vs H Q E h=>?_) (fun cdv A outer s H vs Q E hr h=>?_)
 ·obtain ⟨p,q,x,y,rfl,_⟩:=h
  rfl
 obtain ⟨p,q,a,b,rfl,⟨pb,ph,pt,vr,ap,apb,aph,apt,ard⟩,⟨qb,qh,qt,wr,bp,bpb,bph,bpt,brd⟩,fin⟩:=h
 apply Exists.intro
 apply And.intro
 case left =>
  apply qB
  case h1 =>
   exact (qQ (i:=2) sc_joined_round.nd rfl (by walk_at "lr") (qM D_side_by_side hr rfl (q0 (qM D_moved hr rfl (q0 (qJ (qG (K:=K) rfl) (pv 1) (qW (n:=4) rfl CC.TAIL) (fun _ _=>rfl)) (q0 (qJ (qG (K:=K) rfl) (pv 0) (qW (n:=0) rfl CC.MANY) (fun _ _=>rfl)) qC))) (q0 (qJ (qG (K:=K) rfl) (pv 0) (qW (n:=3) rfl CC.HEAD) (fun _ _=>rfl)) qC))))
  apply qB
  case h1 =>
   apply qZ
   case hc=>exact (qO q3z (qJ (qG (K:=K) rfl) (pv 0) (qW (n:=5) rfl CC.ROUND) (fun _ _=>rfl)) qj (qT _))
   case ha =>
    apply qB
    case h1 =>
     exact (qQ (i:=3) sc_joined_round.nd rfl (by walk_at "lr") (qJ (qG (K:=K) rfl) (pv 0) (qW (n:=5) rfl CC.ROUND) (fun _ _=>rfl)))
    apply qD
    exact (qQ (i:=2) sc_joined_round.nd rfl (by walk_at "lr") (qM D_better_of hr rfl (q0 (pv 2) (q0 (qp (q0 (qU qf (qJ (qG (K:=K) rfl) (pv 3) qE (fun _ _=>rfl)) (qJ (qG (K:=K) rfl) (pv 1) (qW (n:=1) rfl CC.TOTAL) (fun _ _=>rfl))) (q0 (qJ (qG (K:=K) rfl) (pv 3) qE (fun _ _=>rfl)) (q0 (qJ (qG (K:=K) rfl) (pv 3) qE (fun _ _=>rfl)) qC)))) qC))))
   case hb =>
    exact qP
  apply qB
  case h1 =>
   apply qZ
   case hc=>exact (qO q3z (qJ (qG (K:=K) rfl) (pv 1) (qW (n:=5) rfl CC.ROUND) (fun _ _=>rfl)) qj (qT _))
   case ha =>
    apply qB
    case h1 =>
     exact (qQ (i:=3) sc_joined_round.nd rfl (by walk_at "lr") (qM D_moved hr rfl (q0 (qJ (qG (K:=K) rfl) (pv 1) (qW (n:=5) rfl CC.ROUND) (fun _ _=>rfl)) (q0 (qJ (qG (K:=K) rfl) (pv 0) (qW (n:=0) rfl CC.MANY) (fun _ _=>rfl)) qC))))
    apply qD
    exact (qQ (i:=2) sc_joined_round.nd rfl (by walk_at "lr") (qM D_better_of hr rfl (q0 (pv 2) (q0 (qp (q0 (qU qf (qJ (qG (K:=K) rfl) (pv 3) qE (fun _ _=>rfl)) (qJ (qG (K:=K) rfl) (pv 0) (qW (n:=1) rfl CC.TOTAL) (fun _ _=>rfl))) (q0 (qJ (qG (K:=K) rfl) (pv 3) qE (fun _ _=>rfl)) (q0 (qJ (qG (K:=K) rfl) (pv 3) qE (fun _ _=>rfl)) qC)))) qC))))
   case hb =>
    exact qP
  apply qD
  exact (qL (pv 2))
 lk
 refine ⟨_,_,_,_,rfl,rfl,SqT.of bp,rfl,?_⟩
 lk
 refine ⟨_,_,_,_,rfl,rfl,SqT.of ap,rfl,?_⟩
 refine ⟨qt,_,b.tail,rfl,bpt,fun t1 H1 s1 ht1=>?_⟩
 lk
 refine ⟨_,_,_,_,rfl,rfl,SqT.of (s1 _ _ ap),rfl,?_⟩
 refine ⟨t1,ph,_,a.head,rfl,ht1,s1 _ _ aph,fun t2 H2 s2 ht2=>?_⟩
 have s12:=s1.trans s2
 dsimp only [q7m]
 refine seqU (fun σ' H'=>∃ t o,Same H H'∧H' t=some (Tx (match a.round with | none=>q05 (qY b.tail a.many) a.head | some r=>q0N (q05 (qY b.tail a.many) a.head) (q0u r b.total)))∧σ'=[some (.ref p),some (.ref q),some (.ref t),o]) ?_ (fun R hR=>?_)
 case refine_2 =>
  lk
  refine ⟨_,_,_,_,rfl,rfl,SqT.of (s12 _ _ ap),rfl,?_⟩
  lk
  cases e:a.round with
  | none =>
   rw [e] at ard hR
   obtain rfl:vr = .non:=ard
   refine iteF ?_
   exact hR _ _ ⟨t2,none,s12,ht2,rfl⟩
  | some r =>
   rw [e] at ard hR
   obtain ⟨rp,rfl,hrp⟩:=ard
   refine iteT ?_
   lk
   refine ⟨_,_,_,_,rfl,rfl,SqT.of (s12 _ _ ap),rfl,?_⟩
   lk
   refine ⟨_,_,_,_,rfl,rfl,SqT.of (s12 _ _ hrp),rfl,?_⟩
   lk
   refine ⟨_,_,_,_,rfl,rfl,SqT.of (s12 _ _ bp),rfl,?_⟩
   lk
   refine ⟨_,_,_,_,rfl,rfl,SqT.of (s12 _ _ hrp),rfl,?_⟩
   lk
   refine ⟨_,_,_,_,rfl,rfl,SqT.of (s12 _ _ hrp),rfl,?_⟩
   refine ⟨by show 3≤sizeLine;decide,fun t3 h3=>?_⟩
   have s3:=Same.new h3 (Tx (q0u r b.total))
   refine ⟨t2,t3,_,q0u r b.total,rfl,s3 _ _ ht2,qA,fun t4 H4 s4 ht4=>?_⟩
   exact hR _ _ ⟨t4,_,s12.trans (s3.trans s4),ht4,rfl⟩
 rintro _ H3 ⟨t,o,s3,ht,rfl⟩
 refine seqU (fun σ' H'=>∃ t o,Same H H'∧H' t=some (Tx (q5u a b))∧σ'=[some (.ref p),some (.ref q),some (.ref t),o]) ?_ (fun R hR=>?_)
 case refine_2 =>
  lk
  refine ⟨_,_,_,_,rfl,rfl,SqT.of (s3 _ _ bp),rfl,?_⟩
  lk
  cases e:b.round with
  | none =>
   rw [e] at brd
   obtain rfl:wr = .non:=brd
   refine iteF ?_
   refine hR _ _ ⟨t,o,s3,?_,rfl⟩
   unfold q5u
   rw [e]
   exact ht
  | some r =>
   rw [e] at brd
   obtain ⟨rp,rfl,hrp⟩:=brd
   refine iteT ?_
   lk
   refine ⟨_,_,_,_,rfl,rfl,SqT.of (s3 _ _ bp),rfl,?_⟩
   lk
   refine ⟨_,_,_,_,rfl,rfl,SqT.of (s3 _ _ ap),rfl,?_⟩
   refine ⟨rp,_,r,rfl,s3 _ _ hrp,fun t4 H4 s4 ht4=>?_⟩
   have s34:=s3.trans s4
   lk
   refine ⟨_,_,_,_,rfl,rfl,SqT.of ht4,rfl,?_⟩
   lk
   refine ⟨_,_,_,_,rfl,rfl,SqT.of (s34 _ _ ap),rfl,?_⟩
   lk
   refine ⟨_,_,_,_,rfl,rfl,SqT.of ht4,rfl,?_⟩
   lk
   refine ⟨_,_,_,_,rfl,rfl,SqT.of ht4,rfl,?_⟩
   refine ⟨by show 3≤sizeLine;decide,fun t5 h5=>?_⟩
   have s5:=Same.new h5 (Tx (q0u (qY r a.many) a.total))
   refine ⟨t,t5,_,q0u (qY r a.many) a.total,rfl,s5 _ _ (s4 _ _ ht),qA,fun t6 H6 s6 ht6=>?_⟩
   refine hR _ _ ⟨t6,_,s34.trans (s5.trans s6),?_,rfl⟩
   unfold q5u
   rw [e]
   exact ht6
 rintro _ H4 ⟨t',o',s4,ht',rfl⟩
 lk
 exact fin _ _ s4 ht'
noncomputable def q1s:Sp:=fun vs H Q _=>∃ (p q:Addr) (a b:Kn),vs=[.ref p,.ref q]∧IsKn H p a∧IsKn H q b∧∀ t H',Same H H'→IsKn H' t (joinK a b)→Q (.ref t) H'
theorem ok_joined {k:Nat} {f:Addr} {fd:FuncData} (F:Fun K "joined" "joined" q3W f fd) (Z:Blt mg) (CC:Cons mg)
  (D_better_of:Def P w K mg base k "better_of" ["one","other"] q1v) (D_moved:Def P w K mg base k "moved" ["stretch","places"] q29) (D_side_by_side:Def P w K mg base k "side_by_side" ["one","other"] q4r)
  (D_joined_round:Def P w K mg base k "joined_round" ["one","other"] q3j):FnOk P w K mg base CX0 (k+1) f fd ["one","other"] q1s:=by
 refine F.ok sc_joined (fun vs H Q E h=>?_) (fun cdv A outer s H vs Q E hr h=>?_)
 ·obtain ⟨p,q,x,y,rfl,_⟩:=h
  rfl
 obtain ⟨p,q,a,b,rfl,⟨pb,ph,pt,vr,ap,apb,aph,apt,ard⟩,⟨qb,qh,qt,wr,bp,bpb,bph,bpt,brd⟩,fin⟩:=h
 apply Exists.intro
 apply And.intro
 case left =>
  apply qB
  case h1 =>
   exact (qQ (i:=2) sc_joined.nd rfl (by walk_at "lr") (qU qf (qJ (qG (K:=K) rfl) (pv 0) (qW (n:=0) rfl CC.MANY) (fun _ _=>rfl)) (qJ (qG (K:=K) rfl) (pv 1) (qW (n:=0) rfl CC.MANY) (fun _ _=>rfl))))
  apply qB
  case h1 =>
   exact (qQ (i:=3) sc_joined.nd rfl (by walk_at "lr") (qp (q0 (qJ (qG (K:=K) rfl) (pv 0) (qW (n:=1) rfl CC.TOTAL) (fun _ _=>rfl)) (q0 qE (q0 (qJ (qG (K:=K) rfl) (pv 0) (qW (n:=0) rfl CC.MANY) (fun _ _=>rfl)) qC)))))
  apply qB
  case h1 =>
   exact (qQ (i:=4) sc_joined.nd rfl (by walk_at "lr") (qp (q0 (qJ (qG (K:=K) rfl) (pv 1) (qW (n:=1) rfl CC.TOTAL) (fun _ _=>rfl)) (q0 (qJ (qG (K:=K) rfl) (pv 0) (qW (n:=0) rfl CC.MANY) (fun _ _=>rfl)) (q0 (pv 2) qC)))))
  apply qB
  case h1 =>
   exact (qQ (i:=5) sc_joined.nd rfl (by walk_at "lr") (qM D_moved hr rfl (q0 (qJ (qG (K:=K) rfl) (pv 1) (qW (n:=3) rfl CC.HEAD) (fun _ _=>rfl)) (q0 (qJ (qG (K:=K) rfl) (pv 0) (qW (n:=0) rfl CC.MANY) (fun _ _=>rfl)) qC))))
  apply qB
  case h1 =>
   exact (qQ (i:=6) sc_joined.nd rfl (by walk_at "lr") (qM D_side_by_side hr rfl (q0 (qJ (qG (K:=K) rfl) (pv 0) (qW (n:=4) rfl CC.TAIL) (fun _ _=>rfl)) (q0 (pv 5) qC))))
  apply qD
  exact (qL (qp (q0 (pv 2) (q0 (qU qf (qJ (qG (K:=K) rfl) (pv 0) (qW (n:=1) rfl CC.TOTAL) (fun _ _=>rfl)) (qJ (qG (K:=K) rfl) (pv 1) (qW (n:=1) rfl CC.TOTAL) (fun _ _=>rfl))) (q0 (qM D_better_of hr rfl (q0 (qM D_better_of hr rfl (q0 (qJ (qG (K:=K) rfl) (pv 0) (qW (n:=2) rfl CC.BEST) (fun _ _=>rfl)) (q0 (pv 6) qC))) (q0 (qM D_moved hr rfl (q0 (qJ (qG (K:=K) rfl) (pv 1) (qW (n:=2) rfl CC.BEST) (fun _ _=>rfl)) (q0 (qJ (qG (K:=K) rfl) (pv 0) (qW (n:=0) rfl CC.MANY) (fun _ _=>rfl)) qC))) qC))) (q0 (qM D_better_of hr rfl (q0 (qJ (qG (K:=K) rfl) (pv 0) (qW (n:=3) rfl CC.HEAD) (fun _ _=>rfl)) (q0 (qM D_side_by_side hr rfl (q0 (pv 3) (q0 (pv 5) qC))) qC))) (q0 (qM D_better_of hr rfl (q0 (qM D_side_by_side hr rfl (q0 (qJ (qG (K:=K) rfl) (pv 0) (qW (n:=4) rfl CC.TAIL) (fun _ _=>rfl)) (q0 (pv 4) qC))) (q0 (qM D_moved hr rfl (q0 (qJ (qG (K:=K) rfl) (pv 1) (qW (n:=4) rfl CC.TAIL) (fun _ _=>rfl)) (q0 (qJ (qG (K:=K) rfl) (pv 0) (qW (n:=0) rfl CC.MANY) (fun _ _=>rfl)) qC))) qC))) (q0 (qM D_joined_round hr rfl (q0 (pv 0) (q0 (pv 1) qC))) qC))))))))
 lk
 refine ⟨_,_,_,_,rfl,rfl,SqT.of ap,rfl,?_⟩
 lk
 refine ⟨_,_,_,_,rfl,rfl,SqT.of bp,rfl,?_⟩
 lk
 refine ⟨_,_,_,_,rfl,rfl,SqT.of ap,rfl,?_⟩
 lk
 refine ⟨_,_,_,_,rfl,rfl,SqT.of ap,rfl,?_⟩
 refine ⟨by show 3≤sizeLine;decide,fun t1 h1=>?_⟩
 have s1:=Same.new h1 (Tx ⟨a.total,0,a.many⟩)
 have ht1:upd H t1 (Tx ⟨a.total,0,a.many⟩) t1=some (Tx ⟨a.total,0,a.many⟩):=qA
 obtain ⟨H1,eH1⟩:∃ z,z=upd H t1 (Tx ⟨a.total,0,a.many⟩):=⟨_,rfl⟩
 rw [← eH1] at s1 ht1
 lk
 rw [← eH1]
 refine ⟨_,_,_,_,rfl,rfl,SqT.of (s1 _ _ bp),rfl,?_⟩
 lk
 refine ⟨_,_,_,_,rfl,rfl,SqT.of (s1 _ _ ap),rfl,?_⟩
 lk
 refine ⟨by show 3≤sizeLine;decide,fun t2 h2=>?_⟩
 have s2:=s1.trans (Same.new h2 (Tx ⟨b.total,a.many,a.many+b.many⟩))
 have ht1':=Same.new h2 (Tx ⟨b.total,a.many,a.many+b.many⟩) _ _ ht1
 have ht2:upd H1 t2 (Tx ⟨b.total,a.many,a.many+b.many⟩) t2=some (Tx ⟨b.total,a.many,a.many+b.many⟩):=qA
 obtain ⟨H2,eH2⟩:∃ z,z=upd H1 t2 (Tx ⟨b.total,a.many,a.many+b.many⟩):=⟨_,rfl⟩
 rw [← eH2] at s2 ht2 ht1'
 lk
 rw [← eH2]
 refine ⟨_,_,_,_,rfl,rfl,SqT.of (s2 _ _ bp),rfl,?_⟩
 lk
 refine ⟨_,_,_,_,rfl,rfl,SqT.of (s2 _ _ ap),rfl,?_⟩
 refine ⟨qh,_,b.head,rfl,s2 _ _ bph,fun t3 H3 s3 ht3=>?_⟩
 lk
 refine ⟨_,_,_,_,rfl,rfl,SqT.of ((s2.trans s3) _ _ ap),rfl,?_⟩
 lk
 refine ⟨pt,t3,a.tail,_,rfl,(s2.trans s3) _ _ apt,ht3,fun t4 H4 s4 ht4=>?_⟩
 have s04:=s2.trans (s3.trans s4)
 lk
 refine ⟨_,_,_,_,rfl,rfl,SqT.of (s04 _ _ ap),rfl,?_⟩
 lk
 refine ⟨_,_,_,_,rfl,rfl,SqT.of (s04 _ _ bp),rfl,?_⟩
 lk
 refine ⟨_,_,_,_,rfl,rfl,SqT.of (s04 _ _ ap),rfl,?_⟩
 lk
 refine ⟨pb,t4,a.best,_,rfl,s04 _ _ apb,ht4,fun t5 H5 s5 ht5=>?_⟩
 have s05:=s04.trans s5
 lk
 refine ⟨_,_,_,_,rfl,rfl,SqT.of (s05 _ _ bp),rfl,?_⟩
 lk
 refine ⟨_,_,_,_,rfl,rfl,SqT.of (s05 _ _ ap),rfl,?_⟩
 refine ⟨qb,_,b.best,rfl,s05 _ _ bpb,fun t6 H6 s6 ht6=>?_⟩
 refine ⟨t5,t6,_,_,rfl,s6 _ _ ht5,ht6,fun t7 H7 s7 ht7=>?_⟩
 have s07:=s05.trans (s6.trans s7)
 lk
 refine ⟨_,_,_,_,rfl,rfl,SqT.of (s07 _ _ ap),rfl,?_⟩
 lk
 have s27:=s3.trans (s4.trans (s5.trans (s6.trans s7)))
 refine ⟨t1,t3,_,_,rfl,s27 _ _ ht1',(s4.trans (s5.trans (s6.trans s7))) _ _ ht3,fun t8 H8 s8 ht8=>?_⟩
 refine ⟨ph,t8,a.head,_,rfl,s8 _ _ (s07 _ _ aph),ht8,fun t9 H9 s9 ht9=>?_⟩
 have s09:=s07.trans (s8.trans s9)
 lk
 refine ⟨_,_,_,_,rfl,rfl,SqT.of (s09 _ _ ap),rfl,?_⟩
 lk
 refine ⟨pt,t2,a.tail,_,rfl,s09 _ _ apt,(s27.trans (s8.trans s9)) _ _ ht2,fun t10 H10 s10 ht10=>?_⟩
 have s010:=s09.trans s10
 lk
 refine ⟨_,_,_,_,rfl,rfl,SqT.of (s010 _ _ bp),rfl,?_⟩
 lk
 refine ⟨_,_,_,_,rfl,rfl,SqT.of (s010 _ _ ap),rfl,?_⟩
 refine ⟨qt,_,b.tail,rfl,s010 _ _ bpt,fun t11 H11 s11 ht11=>?_⟩
 refine ⟨t10,t11,_,_,rfl,s11 _ _ ht10,ht11,fun t12 H12 s12 ht12=>?_⟩
 have s012:=s010.trans (s11.trans s12)
 lk
 refine ⟨p,q,a,b,rfl,(IsKn.mk ⟨pb,ph,pt,vr,ap,apb,aph,apt,ard⟩).keep s012,(IsKn.mk ⟨qb,qh,qt,wr,bp,bpb,bph,bpt,brd⟩).keep s012,fun t13 H13 s13 ht13=>?_⟩
 refine ⟨by show 6≤sizeLine;decide,fun t14 h14=>?_⟩
 have s14:=Same.new h14 (.tup [.int (a.many+b.many),.int (a.total+b.total),.ref t7,.ref t9,.ref t12,.ref t13])
 have sA:=s8.trans (s9.trans (s10.trans (s11.trans (s12.trans (s13.trans s14)))))
 have sB:=s10.trans (s11.trans (s12.trans (s13.trans s14)))
 refine fin t14 _ (s012.trans (s13.trans s14)) ⟨t7,t9,t12,.ref t13,qA,sA _ _ ht7,sB _ _ ht9,(s13.trans s14) _ _ ht12,t13,rfl,s14 _ _ ht13⟩
inductive IsKept (H:Hp):Nat→Addr→List Int→Prop
 | leaf {d:Nat} {p kp:Addr} {n:Int} (h:H p=some (.tup [.ref kp,.non,.non])) (hk:IsKn H kp (oneK n)):IsKept H (d+1) p [n]
 | node {d:Nat} {p kp l r:Addr} {xs ys:List Int} {a:Kn} (h:H p=some (.tup [.ref kp,.ref l,.ref r])) (hk:IsKn H kp a) (ok:KnOk a (xs++ys)) (hl:IsKept H d l xs) (hr:IsKept H d r ys) (hm:xs.length=(xs.length+ys.length)/2):IsKept H (d+1) p (xs++ys)
theorem IsKept.keep {H H':Hp} {d:Nat} {p:Addr} {ns:List Int} (h:IsKept H d p ns) (s:Same H H'):IsKept H' d p ns:=by
 induction h with
 | leaf h hk=>exact .leaf (s _ _ h) (hk.keep s)
 | node h hk ok _ _ hm ihl ihr=>exact .node (s _ _ h) (hk.keep s) ok ihl ihr hm
theorem IsKept.known {H:Hp} {d:Nat} {p:Addr} {ns:List Int} (h:IsKept H d p ns):∃ (kp:Addr) (a:Kn) (x y:V),H p=some (.tup [.ref kp,x,y])∧IsKn H kp a∧KnOk a ns:=by
 cases h with
 | leaf h hk=>exact ⟨_,_,_,_,h,hk,one_ok _⟩
 | node h hk ok _ _ _=>exact ⟨_,_,_,_,h,hk,ok⟩
noncomputable def q1H:Sp:=fun vs H Q _=>∃ n:Int,vs=[.int n]∧∀ t H' ,Same H H'→(∀ d,IsKept H' (d+1) t [n])→Q (.ref t) H'
theorem ok_single {k:Nat} {f:Addr} {fd:FuncData} (F:Fun K "single" "single" q3U f fd) (Z:Blt mg):FnOk P w K mg base CX0 (k+1) f fd ["number"] q1H:=by
 refine F.ok sc_single (fun vs H Q E h=>?_) (fun cdv A outer s H vs Q E hr h=>?_)
 ·obtain ⟨n,rfl,_⟩:=h
  rfl
 obtain ⟨n,rfl,fin⟩:=h
 apply Exists.intro
 apply And.intro
 case left =>
  apply qB
  case h1 =>
   exact (qQ (i:=1) sc_single.nd rfl (by walk_at "lr") (qp (q0 (pv 0) (q0 qE (q0 qE qC)))))
  apply qD
  exact (qL (qp (q0 (qp (q0 qE (q0 (pv 0) (q0 (pv 1) (q0 (pv 1) (q0 (pv 1) (q0 qj qC))))))) (q0 qj (q0 qj qC)))))
 lk
 refine ⟨by show 3≤sizeLine;decide,fun t1 h1=>?_⟩
 have s1:=Same.new h1 (Tx ⟨n,0,1⟩)
 lk
 refine ⟨by show 6≤sizeLine;decide,fun t2 h2=>?_⟩
 have s2:=Same.new h2 (.tup [.int 1,.int n,.ref t1,.ref t1,.ref t1,.non])
 lk
 refine ⟨by show 3≤sizeLine;decide,fun t3 h3=>?_⟩
 have s3:=Same.new h3 (.tup [.ref t2,.non,.non])
 have e1:=(s2.trans s3) _ _ (qA (H:=H) (a:=t1) (o:=Tx ⟨n,0,1⟩))
 exact fin t3 _ (s1.trans (s2.trans s3)) fun d=>.leaf qA ⟨t1,t1,t1,.non,s3 _ _ qA,e1,e1,e1,rfl⟩
noncomputable def q1I:Sp:=fun vs H Q _=>∃ (p q:Addr) (kp kq:Addr) (a b:Kn) (x y x' y':V),vs=[.ref p,.ref q]∧H p=some (.tup [.ref kp,x,y])∧H q=some (.tup [.ref kq,x',y'])∧IsKn H kp a∧IsKn H kq b ∧
 ∀ t kt H',Same H H'→H' t=some (.tup [.ref kt,.ref p,.ref q])→IsKn H' kt (joinK a b)→Q (.ref t) H'
theorem ok_paired {k:Nat} {f:Addr} {fd:FuncData} (F:Fun K "paired" "paired" q3V f fd) (Z:Blt mg) (CC:Cons mg)
  (D_joined:Def P w K mg base k "joined" ["one","other"] q1s):FnOk P w K mg base CX0 (k+1) f fd ["left","right"] q1I:=by
 refine F.ok sc_paired (fun vs H Q E h=>?_) (fun cdv A outer s H vs Q E hr h=>?_)
 ·obtain ⟨p,q,_,_,_,_,_,_,_,_,rfl,_⟩:=h
  rfl
 obtain ⟨p,q,kp,kq,a,b,x,y,x',y',rfl,hp,hq,ha,hb,fin⟩:=h
 apply Exists.intro
 apply And.intro
 case left =>
  apply qD
  exact (qL (qp (q0 (qM D_joined hr rfl (q0 (qJ (qG (K:=K) rfl) (pv 0) (qW (n:=0) rfl CC.KNOWN) (fun _ _=>rfl)) (q0 (qJ (qG (K:=K) rfl) (pv 1) (qW (n:=0) rfl CC.KNOWN) (fun _ _=>rfl)) qC))) (q0 (pv 0) (q0 (pv 1) qC)))))
 lk
 refine ⟨_,_,_,_,rfl,rfl,SqT.of hp,rfl,?_⟩
 lk
 refine ⟨_,_,_,_,rfl,rfl,SqT.of hq,rfl,?_⟩
 refine ⟨kp,kq,a,b,rfl,ha,hb,fun kt H1 s1 hk1=>?_⟩
 lk
 refine ⟨by show 3≤sizeLine;decide,fun t h1=>?_⟩
 have s2:=Same.new h1 (.tup [.ref kt,.ref p,.ref q])
 exact fin t kt _ (s1.trans s2) qA (hk1.keep s2)
theorem q78 {ns:List Int} {f m b:Int} (h0:0≤f) (h1:f≤m) (h2:m≤b):cutI ns f m++cutI ns m b=cutI ns f b:=by
 unfold cutI
 have e1:b.toNat-f.toNat=(m.toNat-f.toNat)+(b.toNat-m.toNat):=by omega
 have e2:m.toNat=f.toNat+(m.toNat-f.toNat):=by omega
 rw [e1,List.take_add,List.drop_drop]
 rw [← e2]
theorem q5L {ns:List Int} {f b:Int} (h0:0≤f) (h1:f≤b) (h2:b≤(ns.length:Int)):((cutI ns f b).length:Int)=b-f:=by
 unfold cutI
 rw [List.length_take,List.length_drop]
 omega
theorem cut_one {ns:List Int} {f b:Int} (h0:0≤f) (h1:b=f+1) (h2:b≤(ns.length:Int)):cutI ns f b=[ns.getD f.toNat 0]:=by
 unfold cutI
 have e:b.toNat-f.toNat=1:=by omega
 have hl:f.toNat < ns.length:=by omega
 rw [e,List.drop_eq_getElem_cons hl,List.take_succ_cons,List.take_zero,List.getD_eq_getElem?_getD,List.getElem?_eq_getElem hl]
 rfl
theorem q2x {ns:List Int}:cutI ns 0 (ns.length:Int)=ns:=by
 unfold cutI
 simp
noncomputable def q0p (d:Nat):Sp:=fun vs H Q _=>∃ (r:Addr) (f b:Int) (ns:List Int),vs=[.ref r,.int f,.int b]∧H r=some (.lst (ns.map V.int))∧0≤f∧f < b∧b≤(ns.length:Int)∧ns.length≤100000∧2*(b-f)≤(2:Int) ^ d ∧
 ∀ t H',Same H H'→IsKept H' d t (cutI ns f b)→Q (.ref t) H'
theorem q6X {k:Nat} {f:Addr} {fd:FuncData} {ps:List Str}:FnOk P w K mg base CX0 k f fd ps (q0p 0):=by
 have no:∀ vs H Q E,¬ q0p 0 vs H Q E:=fun vs H Q E h=>by
  obtain ⟨r,f,b,ns,_,_,h0,h1,h2,_,h3,_⟩:=h
  have:(2:Int) ^ 0=1:=rfl
  omega
 exact ⟨fun vs H Q E h=>absurd h (no vs H Q E),fun A outer s H args us vs Q E _ _ _ _ h=>absurd h (no vs H Q E)⟩
theorem ok_halved {k d:Nat} {f:Addr} {fd:FuncData} (F:Fun K "halved" "halved" q2n f fd) (Z:Blt mg)
  (D_single:Def P w K mg base k "single" ["number"] q1H) (D_paired:Def P w K mg base k "paired" ["left","right"] q1I) (D_halved:Def P w K mg base k "halved" ["row","first","beyond"] (q0p d)):FnOk P w K mg base CX0 (k+1) f fd ["row","first","beyond"] (q0p (d+1)):=by
 refine F.ok sc_halved (fun vs H Q E h=>?_) (fun cdv A outer s H vs Q E hr h=>?_)
 ·obtain ⟨r,f,b,ns,rfl,_⟩:=h
  rfl
 obtain ⟨r,f,b,ns,rfl,hR,h0,h1,h2,hz,hd,fin⟩:=h
 apply Exists.intro
 apply And.intro
 case left =>
  apply qB
  case h1 =>
   apply qZ
   case hc=>exact (qO q0C (qU q0J (pv 2) (pv 1)) qE (qT _))
   case ha =>
    apply qD
    exact (qL (qM D_single hr rfl (q0 (qJ (qK (K:=K) rfl) (pv 0) (pv 1) (fun _ _=>rfl)) qC)))
   case hb =>
    exact qP
  apply qB
  case h1 =>
   exact (qQ (i:=3) sc_halved.nd rfl (by walk_at "lr") (qU q2Z (qU qf (pv 1) (pv 2)) qE))
  apply qD
  exact (qL (qM D_paired hr rfl (q0 (qM D_halved hr rfl (q0 (pv 0) (q0 (pv 1) (q0 (pv 3) qC)))) (q0 (qM D_halved hr rfl (q0 (pv 0) (q0 (pv 3) (q0 (pv 2) qC)))) qC))))
 lk
 refine ifI (fun he=>?_) (fun hne=>?_)
 ·lk
  refine ⟨_,_,_,_,rfl,rfl,SqL.of hR,q2y h0 (by omega),?_⟩
  refine ⟨_,rfl,fun t H1 s1 hk=>?_⟩
  refine fin t H1 s1 ?_
  rw [cut_one h0 (by omega) h2]
  exact hk d
 ·have e2:(2:Int) ^ (d+1)=2*2 ^ d:=by rw [Int.pow_succ];omega
  rw [e2] at hd
  have hd2:2*((b-f)/2)≤(2:Int) ^ d∧2*((b-f+1)/2)≤(2:Int) ^ d:=by
   cases d with
   | zero =>
    have:(2:Int) ^ 0=1:=rfl
    omega
   | succ d =>
    have e3:(2:Int) ^ (d+1)=2*2 ^ d:=by rw [Int.pow_succ];omega
    rw [e3] at hd ⊢
    omega
  lk
  refine ⟨r,f,_,ns,rfl,hR,h0,by omega,by omega,hz,by omega,fun t1 H1 s1 hk1=>?_⟩
  lk
  refine ⟨r,_,b,ns,rfl,s1 _ _ hR,by omega,by omega,by omega,hz,by omega,fun t2 H2 s2 hk2=>?_⟩
  obtain ⟨kp,a,x,y,e1,ka,oka⟩:=(hk1.keep s2).known
  obtain ⟨kq,a',x',y',e2,kb,okb⟩:=hk2.known
  refine ⟨t1,t2,kp,kq,a,a',x,y,x',y',rfl,e1,e2,ka,kb,fun t kt H3 s3 h3 hk3=>?_⟩
  refine fin t H3 (s1.trans (s2.trans s3)) ?_
  have hm:(f+b)/2=f+(b-f)/2:=by omega
  rw [← q78 (m:=(f+b)/2) h0 (by omega) (by omega)]
  have l1:=q5L (ns:=ns) (f:=f) (b:=(f+b)/2) h0 (by omega) (by omega)
  have l2:=q5L (ns:=ns) (f:=(f+b)/2) (b:=b) (by omega) (by omega) h2
  exact .node h3 hk3 (q5E oka okb) ((hk1.keep s2).keep s3) (hk2.keep s3) (by omega)
theorem q4X {k:Nat} {f:Addr} {fd:FuncData} (F:Fun K "halved" "halved" q2n f fd) (Z:Blt mg) (b:Binds K fd ["row","first","beyond"] []) (kp:PySem.W.keepIn K (.ref f)=true) (m:mg "halved" = some (.ref f))
  (D_single:Def P w K mg base k "single" ["number"] q1H) (D_paired:Def P w K mg base k "paired" ["left","right"] q1I):∀ d,FnOk P w K mg base CX0 (k+d) f fd ["row","first","beyond"] (q0p d)
 | 0=>q6X
 | d+1=>ok_halved F Z (D_single.mono (Nat.le_add_right _ _)) (D_paired.mono (Nat.le_add_right _ _)) ⟨f,fd,q4X F Z b kp m D_single D_paired d,b,kp,m⟩
noncomputable def q3i:Sp:=fun vs H Q _=>∃ (r:Addr) (ns:List Int),vs=[.ref r]∧H r=some (.lst (ns.map V.int))∧1≤ns.length∧ns.length≤4000∧∀ t H',Same H H'→IsKept H' 13 t ns→Q (.ref t) H'
theorem ok_kept {k:Nat} {f:Addr} {fd:FuncData} (F:Fun K "kept" "kept" q6u f fd) (Z:Blt mg)
  (D_halved:Def P w K mg base k "halved" ["row","first","beyond"] (q0p 13)):FnOk P w K mg base CX0 (k+1) f fd ["row"] q3i:=by
 refine F.ok sc_kept (fun vs H Q E h=>?_) (fun cdv A outer s H vs Q E hr h=>?_)
 ·obtain ⟨r,ns,rfl,_⟩:=h
  rfl
 obtain ⟨r,ns,rfl,hR,h1,h2,fin⟩:=h
 apply Exists.intro
 apply And.intro
 case left =>
  apply qD
  exact (qL (qM D_halved hr rfl (q0 (pv 0) (q0 qE (q0 (qV (qS (K:=K) rfl) rfl Z.len_ PySem.boot_len (q0 (pv 0) qC)) qC)))))
 have hl:(ns.map V.int).length=ns.length:=List.length_map _
 lk
 refine ⟨r,_,rfl,.inl (SqL.of hR),?_⟩
 refine ⟨r,0,_,ns,rfl,hR,by decide,by omega,by omega,by omega,?_,fun t H1 s1 hk=>?_⟩
 ·have:(2:Int) ^ 13=8192:=rfl
  omega
 ·rw [hl,q2x] at hk
  exact fin t H1 s1 hk
noncomputable def q0B:Sp:=fun vs H Q _=>∃ (d:Nat) (p:Addr) (ns:List Int),vs=[.ref p]∧IsKept H d p ns∧Q (.int ns.length) H
theorem ok_many {k:Nat} {f:Addr} {fd:FuncData} (F:Fun K "many_of" "many_of" q2k f fd) (Z:Blt mg) (CC:Cons mg):FnOk P w K mg base CX0 (k+1) f fd ["held"] q0B:=by
 refine F.ok q7M (fun vs H Q E h=>?_) (fun cdv A outer s H vs Q E hr h=>?_)
 ·obtain ⟨d,p,ns,rfl,_⟩:=h
  rfl
 obtain ⟨d,p,ns,rfl,hk,fin⟩:=h
 apply Exists.intro
 apply And.intro
 case left =>
  apply qD
  exact (qL (qJ (qG (K:=K) rfl) (qJ (qG (K:=K) rfl) (pv 0) (qW (n:=0) rfl CC.KNOWN) (fun _ _=>rfl)) (qW (n:=0) rfl CC.MANY) (fun _ _=>rfl)))
 obtain ⟨kp,a,x,y,e,⟨pb,ph,pt,vr,e2,_⟩,ok⟩:=hk.known
 lk
 refine ⟨_,_,_,_,rfl,rfl,SqT.of e,rfl,?_⟩
 lk
 refine ⟨_,_,_,_,rfl,rfl,SqT.of e2,rfl,?_⟩
 rw [ok.many]
 exact fin
noncomputable def q0v (d:Nat):Sp:=fun vs H Q _=>∃ (p:Addr) (ns:List Int),vs=[.ref p]∧IsKept H d p ns∧ns.length≤100000∧∀ l H',Same H H'→H l=none→H' l=some (.lst (ns.map V.int))→Q (.ref l) H'
theorem q7X {k:Nat} {f:Addr} {fd:FuncData} {ps:List Str}:FnOk P w K mg base CX0 k f fd ps (q0v 0):=by
 have no:∀ vs H Q E,¬ q0v 0 vs H Q E:=fun vs H Q E h=>by
  obtain ⟨p,ns,_,hk,_⟩:=h
  cases hk
 exact ⟨fun vs H Q E h=>absurd h (no vs H Q E),fun A outer s H args us vs Q E _ _ _ _ h=>absurd h (no vs H Q E)⟩
theorem ok_rowof {k d:Nat} {f:Addr} {fd:FuncData} (F:Fun K "row_of" "row_of" q2j f fd) (Z:Blt mg) (CC:Cons mg)
  (D_row_of:Def P w K mg base k "row_of" ["held"] (q0v d)):FnOk P w K mg base CX0 (k+1) f fd ["held"] (q0v (d+1)):=by
 refine F.ok sc_row_of (fun vs H Q E h=>?_) (fun cdv A outer s H vs Q E hr h=>?_)
 ·obtain ⟨p,ns,rfl,_⟩:=h
  rfl
 obtain ⟨p,ns,rfl,hk,hz,fin⟩:=h
 apply Exists.intro
 apply And.intro
 case left =>
  apply qB
  case h1 =>
   apply qZ
   case hc=>exact (qO q1B (qJ (qG (K:=K) rfl) (pv 0) (qW (n:=1) rfl CC.LEFT) (fun _ _=>rfl)) qj (qT _))
   case ha =>
    apply qD
    exact (qL (qc (q0 (qJ (qG (K:=K) rfl) (qJ (qG (K:=K) rfl) (pv 0) (qW (n:=0) rfl CC.KNOWN) (fun _ _=>rfl)) (qW (n:=1) rfl CC.TOTAL) (fun _ _=>rfl)) qC)))
   case hb =>
    exact qP
  apply qD
  exact (qL (qU q2S (qM D_row_of hr rfl (q0 (qJ (qG (K:=K) rfl) (pv 0) (qW (n:=1) rfl CC.LEFT) (fun _ _=>rfl)) qC)) (qM D_row_of hr rfl (q0 (qJ (qG (K:=K) rfl) (pv 0) (qW (n:=2) rfl CC.RIGHT) (fun _ _=>rfl)) qC))))
 cases hk with
 | @leaf _ _ kp n h hk =>
  obtain ⟨pb,ph,pt,vr,e2,_⟩:=hk
  lk
  refine ⟨_,_,_,_,rfl,rfl,SqT.of h,rfl,?_⟩
  lk
  refine ⟨_,_,_,_,rfl,rfl,SqT.of h,rfl,?_⟩
  lk
  refine ⟨_,_,_,_,rfl,rfl,SqT.of e2,rfl,?_⟩
  exact ⟨by show 1≤sizeLine;decide,fun l hl=>fin l _ (Same.new hl _) hl qA⟩
 | @node _ _ kp l r xs ys a h hk ok h1 h2 hm =>
  rw [List.length_append] at hz
  lk
  refine ⟨_,_,_,_,rfl,rfl,SqT.of h,rfl,?_⟩
  lk
  refine ⟨_,_,_,_,rfl,rfl,SqT.of h,rfl,?_⟩
  refine ⟨l,xs,rfl,h1,by omega,fun l1 H1 s1 hn1 hl1=>?_⟩
  lk
  refine ⟨_,_,_,_,rfl,rfl,SqT.of (s1 _ _ h),rfl,?_⟩
  refine ⟨r,ys,rfl,h2.keep s1,by omega,fun l2 H2 s2 hn2 hl2=>?_⟩
  refine ⟨l1,l2,_,_,rfl,rfl,s2 _ _ hl1,hl2,by rw [List.length_map,List.length_map];exact Nat.le_of_lt (small (by omega)),fun l3 hl3=>?_⟩
  refine fin l3 _ (s1.trans (s2.trans (Same.new hl3 _))) ((s1.trans s2).free hl3) ?_
  rw [qA,List.map_append]
theorem q5d {k:Nat} {f:Addr} {fd:FuncData} (F:Fun K "row_of" "row_of" q2j f fd) (Z:Blt mg) (CC:Cons mg) (b:Binds K fd ["held"] []) (kp:PySem.W.keepIn K (.ref f)=true) (m:mg "row_of" = some (.ref f)):∀ d,FnOk P w K mg base CX0 (k+d) f fd ["held"] (q0v d)
 | 0=>q7X
 | d+1=>ok_rowof F Z CC ⟨f,fd,q5d F Z CC b kp m d,b,kp,m⟩
noncomputable def q2d:Sp:=fun vs H Q _=>∃ i:Int,vs=[.int i]∧Q (.bl true) H
theorem ok_whole {k:Nat} {f:Addr} {fd:FuncData} (F:Fun K "is_whole" "is_whole" q2J f fd) (Z:Blt mg):FnOk P w K mg base CX0 (k+1) f fd ["thing"] q2d:=by
 refine F.ok q6M (fun vs H Q E h=>?_) (fun cdv A outer s H vs Q E hr h=>?_)
 ·obtain ⟨i,rfl,_⟩:=h
  rfl
 obtain ⟨i,rfl,q⟩:=h
 apply Exists.intro
 apply And.intro
 case left =>
  apply qD
  exact (qL (pe_and (qV q5N rfl Z.isinstance_ PyProof.Rows.boot_isinstance (q0 (pv 0) (q0 (q58 (v:=.ty "int") rfl Z.int_ PyProof.Rows.boot_int rfl) qC))) (pe_one (pe_not (qV q5N rfl Z.isinstance_ PyProof.Rows.boot_isinstance (q0 (pv 0) (q0 (q58 (v:=.ty "bool") rfl Z.bool_ PyProof.Rows.boot_bool rfl) qC)))))))
 lk
 refine ⟨_,_,_,_,rfl,.int _,kit_ii,_,rfl,iteT ?_⟩
 lk
 refine ⟨_,_,_,_,rfl,.int _,kit_ib,_,rfl,?_⟩
 exact q
noncomputable def q0w:Sp:=fun vs H Q _=>∃ (p:Addr) (a b m:Int),vs=[.ref p,.int m]∧H p=some (.tup [.int a,.int b])∧Q (.bl (decide (0≤a∧a < b∧b≤m))) H
theorem q5k {k:Nat} {f:Addr} {fd:FuncData} (F:Fun K "is_stretch" "is_stretch" q12 f fd) (Z:Blt mg)
  (D_is_whole:Def P w K mg base k "is_whole" ["thing"] q2d):FnOk P w K mg base CX0 (k+1) f fd ["stretch","many"] q0w:=by
 refine F.ok sc_is_stretch (fun vs H Q E h=>?_) (fun cdv A outer s H vs Q E hr h=>?_)
 ·obtain ⟨p,a,b,m,rfl,_⟩:=h
  rfl
 obtain ⟨p,a,b,m,rfl,hp,q⟩:=h
 apply Exists.intro
 apply And.intro
 case left =>
  apply qB
  case h1 =>
   apply qZ
   case hc=>exact (PW.pt (q35 (q0I (q1o (qV q5N rfl Z.isinstance_ PyProof.Rows.boot_isinstance (q0 (pv 0) (q0 (q58 (v:=.ty "tuple") rfl Z.tuple_ PyProof.Rows.boot_tuple rfl) qC))))) (q21 (qO q5i (qV (qS (K:=K) rfl) rfl Z.len_ PySem.boot_len (q0 (pv 0) qC)) qE (qT _)))))
   case ha =>
    apply qD
    exact (qL q5h)
   case hb =>
    exact qP
  apply qB
  case h1 =>
   exact (qQ (i:=2) sc_is_stretch.nd rfl (by walk_at "lr") (qJ (qG (K:=K) rfl) (pv 0) qE (fun _ _=>rfl)))
  apply qB
  case h1 =>
   exact (qQ (i:=3) sc_is_stretch.nd rfl (by walk_at "lr") (qJ (qG (K:=K) rfl) (pv 0) qE (fun _ _=>rfl)))
  apply qB
  case h1 =>
   apply qZ
   case hc=>exact (PW.pt (q35 (q0I (q1o (qM D_is_whole hr rfl (q0 (pv 2) qC)))) (q21 (q0I (q1o (qM D_is_whole hr rfl (q0 (pv 3) qC)))))))
   case ha =>
    apply qD
    exact (qL q5h)
   case hb =>
    exact qP
  apply qD
  exact (qL (pe_chain3 q40 q1q q40 qE (pv 2) (pv 3) (pv 1)))
 lk
 refine ⟨_,_,_,_,rfl,.tup hp,kit_tt,_,rfl,iteF ?_⟩
 lk
 refine ⟨p,_,rfl,.inr (SqT.of hp),?_⟩
 refine ⟨rfl,_,rfl,?_⟩
 refine ifIN (fun z=>absurd rfl z) (fun _=>?_)
 lk
 refine ⟨p,_,0,_,rfl,rfl,SqT.of hp,rfl,?_⟩
 lk
 refine ⟨p,_,1,_,rfl,rfl,SqT.of hp,rfl,?_⟩
 lk
 refine ifD (fun h1=>?_) (fun h1=>?_)
 ·lk
  refine ifD (fun h2=>?_) (fun h2=>?_)
  ·lk
   have e:decide (0≤a∧a < b∧b≤m)=decide (b≤m):=by simp only [h1,h2,true_and]
   rw [e] at q
   exact q
  ·rw [decide_eq_false (by omega)] at q
   exact q
 ·rw [decide_eq_false (by omega)] at q
  exact q
noncomputable def q3E (d:Nat):Sp:=fun vs H Q _=>∃ (p:Addr) (i n:Int) (ns:List Int),vs=[.ref p,.int i,.int n]∧IsKept H d p ns∧0≤i∧i < (ns.length:Int)∧∀ t H',Same H H'→IsKept H' d t (ns.set i.toNat n)→Q (.ref t) H'
theorem none_put {k:Nat} {f:Addr} {fd:FuncData} {ps:List Str}:FnOk P w K mg base CX0 k f fd ps (q3E 0):=by
 have no:∀ vs H Q E,¬ q3E 0 vs H Q E:=fun vs H Q E h=>by
  obtain ⟨p,i,n,ns,_,hk,_⟩:=h
  cases hk
 exact ⟨fun vs H Q E h=>absurd h (no vs H Q E),fun A outer s H args us vs Q E _ _ _ _ h=>absurd h (no vs H Q E)⟩
theorem ok_put {k d:Nat} {f:Addr} {fd:FuncData} (F:Fun K "with_put" "with_put" q1N f fd) (Z:Blt mg) (CC:Cons mg)
  (D_single:Def P w K mg base k "single" ["number"] q1H) (D_paired:Def P w K mg base k "paired" ["left","right"] q1I) (D_many_of:Def P w K mg base k "many_of" ["held"] q0B)
  (D_with_put:Def P w K mg base k "with_put" ["held","place","number"] (q3E d)):FnOk P w K mg base CX0 (k+1) f fd ["held","place","number"] (q3E (d+1)):=by
 refine F.ok sc_with_put (fun vs H Q E h=>?_) (fun cdv A outer s H vs Q E hr h=>?_)
 ·obtain ⟨p,i,n,ns,rfl,_⟩:=h
  rfl
 obtain ⟨p,i,n,ns,rfl,hk,h0,h1,fin⟩:=h
 apply Exists.intro
 apply And.intro
 case left =>
  apply qB
  case h1 =>
   apply qZ
   case hc=>exact (qO q1B (qJ (qG (K:=K) rfl) (pv 0) (qW (n:=1) rfl CC.LEFT) (fun _ _=>rfl)) qj (qT _))
   case ha =>
    apply qD
    exact (qL (qM D_single hr rfl (q0 (pv 2) qC)))
   case hb =>
    exact qP
  apply qB
  case h1 =>
   exact (qQ (i:=3) sc_with_put.nd rfl (by walk_at "lr") (qM D_many_of hr rfl (q0 (qJ (qG (K:=K) rfl) (pv 0) (qW (n:=1) rfl CC.LEFT) (fun _ _=>rfl)) qC)))
  apply qB
  case h1 =>
   apply qZ
   case hc=>exact (qO q1q (pv 1) (pv 3) (qT _))
   case ha =>
    apply qD
    exact (qL (qM D_paired hr rfl (q0 (qM D_with_put hr rfl (q0 (qJ (qG (K:=K) rfl) (pv 0) (qW (n:=1) rfl CC.LEFT) (fun _ _=>rfl)) (q0 (pv 1) (q0 (pv 2) qC)))) (q0 (qJ (qG (K:=K) rfl) (pv 0) (qW (n:=2) rfl CC.RIGHT) (fun _ _=>rfl)) qC))))
   case hb =>
    exact qP
  apply qD
  exact (qL (qM D_paired hr rfl (q0 (qJ (qG (K:=K) rfl) (pv 0) (qW (n:=1) rfl CC.LEFT) (fun _ _=>rfl)) (q0 (qM D_with_put hr rfl (q0 (qJ (qG (K:=K) rfl) (pv 0) (qW (n:=2) rfl CC.RIGHT) (fun _ _=>rfl)) (q0 (qU q0J (pv 1) (pv 3)) (q0 (pv 2) qC)))) qC))))
 cases hk with
 | @leaf _ _ kp n0 h hk =>
  lk
  refine ⟨_,_,_,_,rfl,rfl,SqT.of h,rfl,?_⟩
  lk
  refine fun t H1 s1 hk1=>fin t H1 s1 ?_
  simp only [List.length_singleton] at h1
  have e:i.toNat=0:=by omega
  rw [e]
  exact hk1 d
 | @node _ _ kp l r xs ys a h hk ok hl hr' hm =>
  rw [List.length_append] at h1
  obtain ⟨kl,al,x1,y1,el,knl,okl⟩:=hl.known
  obtain ⟨kr,ar,x2,y2,er,knr,okr⟩:=hr'.known
  lk
  refine ⟨_,_,_,_,rfl,rfl,SqT.of h,rfl,?_⟩
  lk
  refine ⟨_,_,_,_,rfl,rfl,SqT.of h,rfl,?_⟩
  refine ⟨d,l,xs,rfl,hl,?_⟩
  lk
  refine ifD (fun hlt=>?_) (fun hge=>?_)
  ·lk
   refine ⟨_,_,_,_,rfl,rfl,SqT.of h,rfl,?_⟩
   lk
   refine ⟨l,i,n,xs,rfl,hl,h0,hlt,fun t1 H1 s1 hk1=>?_⟩
   lk
   refine ⟨_,_,_,_,rfl,rfl,SqT.of (s1 _ _ h),rfl,?_⟩
   obtain ⟨kp1,a1,x,y,e1,ka,oka⟩:=hk1.known
   refine ⟨t1,r,kp1,kr,a1,ar,x,y,x2,y2,rfl,e1,s1 _ _ er,ka,knr.keep s1,fun t kt H3 s3 h3 hk3=>?_⟩
   refine fin t H3 (s1.trans s3) ?_
   rw [List.set_append_left _ _ (by omega)]
   exact .node h3 hk3 (q5E oka okr) (hk1.keep s3) ((hr'.keep s1).keep s3) (by rw [List.length_set];exact hm)
  ·lk
   refine ⟨_,_,_,_,rfl,rfl,SqT.of h,rfl,?_⟩
   lk
   refine ⟨_,_,_,_,rfl,rfl,SqT.of h,rfl,?_⟩
   lk
   refine ⟨r,_,n,ys,rfl,hr',by omega,by omega,fun t1 H1 s1 hk1=>?_⟩
   obtain ⟨kp1,a1,x,y,e1,ka,oka⟩:=hk1.known
   refine ⟨l,t1,kl,kp1,al,a1,x1,y1,x,y,rfl,s1 _ _ el,e1,knl.keep s1,ka,fun t kt H3 s3 h3 hk3=>?_⟩
   refine fin t H3 (s1.trans s3) ?_
   have ei:i.toNat-xs.length=(i-(xs.length:Int)).toNat:=by omega
   rw [List.set_append_right _ _ (by omega),ei]
   exact .node h3 hk3 (q5E okl oka) ((hl.keep s1).keep s3) (hk1.keep s3) (by rw [List.length_set];exact hm)
theorem rec_put {k:Nat} {f:Addr} {fd:FuncData} (F:Fun K "with_put" "with_put" q1N f fd) (Z:Blt mg) (CC:Cons mg) (b:Binds K fd ["held","place","number"] []) (kp:PySem.W.keepIn K (.ref f)=true) (m:mg "with_put" = some (.ref f))
  (D_single:Def P w K mg base k "single" ["number"] q1H) (D_paired:Def P w K mg base k "paired" ["left","right"] q1I) (D_many_of:Def P w K mg base k "many_of" ["held"] q0B):∀ d,FnOk P w K mg base CX0 (k+d) f fd ["held","place","number"] (q3E d)
 | 0=>none_put
 | d+1=>ok_put F Z CC (D_single.mono (Nat.le_add_right _ _)) (D_paired.mono (Nat.le_add_right _ _)) (D_many_of.mono (Nat.le_add_right _ _)) ⟨f,fd,rec_put F Z CC b kp m D_single D_paired D_many_of d,b,kp,m⟩
noncomputable def q3g:Sp:=fun vs H Q _=>∃ (d:Nat) (p:Addr) (i:Int) (ns:List Int),vs=[.ref p,.int i]∧IsKept H d p ns∧0≤i∧i < (ns.length:Int)∧Q .non H
theorem ok_rpl {k:Nat} {f:Addr} {fd:FuncData} (F:Fun K "refuse_place" "refuse_place" q0E f fd) (Z:Blt mg)
  (D_is_whole:Def P w K mg base k "is_whole" ["thing"] q2d) (D_many_of:Def P w K mg base k "many_of" ["held"] q0B):FnOk P w K mg base CX0 (k+1) f fd ["held","place"] q3g:=by
 refine F.ok q1x (fun vs H Q E h=>?_) (fun cdv A outer s H vs Q E hr h=>?_)
 ·obtain ⟨d,p,i,ns,rfl,_⟩:=h
  rfl
 obtain ⟨d,p,i,ns,rfl,hk,h0,h1,fin⟩:=h
 apply Exists.intro
 apply And.intro
 case left =>
  apply qD
  apply qZ
  case hc=>exact (PW.pt (q35 (q0I (q1o (qM D_is_whole hr rfl (q0 (pv 1) qC)))) (q21 (q0I (q3Y q40 q1q qE (pv 1) (qM D_many_of hr rfl (q0 (pv 0) qC)))))))
  case ha =>
   apply qD
   exact q0G
  case hb =>
   exact qP
 lk
 refine ifD (fun _=>?_) (fun z=>absurd h0 z)
 lk
 refine ⟨d,p,ns,rfl,hk,?_⟩
 lk
 rw [decide_eq_true h1]
 exact fin
noncomputable def Chg (H:Hp):List V→List (Int×Int)→Prop
 | [],[]=>True
 | x::xs,c::cs=>(∃ p,x = .ref p∧H p=some (.tup [.int c.1,.int c.2]))∧Chg H xs cs
 | _,_=>False
theorem Chg.keep {H H':Hp} (s:Same H H'):∀ {xs:List V} {cs:List (Int×Int)},Chg H xs cs→Chg H' xs cs
 | [],[],_=>trivial
 | x::xs,c::cs,⟨⟨p,e,h⟩,t⟩=>⟨⟨p,e,s _ _ h⟩,Chg.keep s t⟩
 | [],_::_,h=>h.elim
 | _::_,[],h=>h.elim
theorem Chg.len {H:Hp}:∀ {xs:List V} {cs:List (Int×Int)},Chg H xs cs→xs.length=cs.length
 | [],[],_=>rfl
 | x::xs,c::cs,⟨_,t⟩=>by rw [List.length_cons,List.length_cons,Chg.len t]
 | [],_::_,h=>h.elim
 | _::_,[],h=>h.elim
theorem Chg.at {H:Hp}:∀ {xs:List V} {cs:List (Int×Int)} {i:Nat} {x:V},Chg H xs cs→xs[i]?=some x→∃ p c,x = .ref p∧cs[i]?=some c∧H p=some (.tup [.int c.1,.int c.2])
 | x::xs,c::cs,0,y,⟨⟨p,e,h⟩,_⟩,ey=>by simp at ey;subst ey;exact ⟨p,c,e,rfl,h⟩
 | x::xs,c::cs,i+1,y,⟨_,t⟩,ey=>by
  obtain ⟨p,c',e,e',h⟩:=Chg.at (i:=i) (x:=y) t (by simpa using ey)
  exact ⟨p,c',e,by simpa using e',h⟩
 | [],[],_,_,_,e=>by simp at e
 | [],_::_,_,_,h,_=>h.elim
 | _::_,[],_,_,h,_=>h.elim
noncomputable def q0A (ns:List Int):List (Int×Int)→List Int
 | []=>ns
 | c::cs=>q0A (ns.set c.1.toNat c.2) cs
theorem q2N:∀ {cs:List (Int×Int)} {ns:List Int},(q0A ns cs).length=ns.length
 | [],_=>rfl
 | c::cs,ns=>by rw [q0A,q2N,List.length_set]
theorem q1f:∀ {cs ds:List (Int×Int)} {ns:List Int},q0A ns (cs++ds)=q0A (q0A ns cs) ds
 | [],_,_=>rfl
 | c::cs,ds,ns=>by rw [List.cons_append,q0A,q1f,q0A]
theorem q3s {cs:List (Int×Int)} {ns:List Int} {i:Nat} {c:Int×Int} (h:cs[i]?=some c):q0A ns (cs.take (i+1))=(q0A ns (cs.take i)).set c.1.toNat c.2:=by
 obtain ⟨hi,rfl⟩:=List.getElem?_eq_some_iff.mp h
 rw [List.take_succ_eq_append_getElem hi,q1f]
 rfl
noncomputable def q2R (m:Int) (cs:List (Int×Int)):Prop:=∀ c,c∈cs→0≤c.1∧c.1 < m
noncomputable def q1K:Sp:=fun vs H Q _=>∃ (p l:Addr) (ns:List Int) (xs:List V) (cs:List (Int×Int)),vs=[.ref p,.ref l]∧IsKept H 13 p ns∧H l=some (.lst xs)∧Chg H xs cs∧q2R ns.length cs ∧
 ∀ t H',Same H H'→IsKept H' 13 t (q0A ns cs)→(cs=[]→t=p)→Q (.ref t) H'
theorem q4c {k:Nat} {f:Addr} {fd:FuncData} (F:Fun K "changed" "changed" q1z f fd) (Z:Blt mg)
  (D_refuse_place:Def P w K mg base k "refuse_place" ["held","place"] q3g) (D_with_put:Def P w K mg base k "with_put" ["held","place","number"] (q3E 13)):FnOk P w K mg base CX0 (k+1) f fd ["held","changes"] q1K:=by
 refine F.ok sc_changed (fun vs H Q E h=>?_) (fun cdv A outer s H vs Q E hr h=>?_)
 ·obtain ⟨p,l,ns,xs,cs,rfl,_⟩:=h
  rfl
 obtain ⟨p,l,ns,xs,cs,rfl,hk,hl,hc,hin,fin⟩:=h
 apply Exists.intro
 apply And.intro
 case left =>
  apply qB
  case h1 =>
   exact (qQ (i:=2) sc_changed.nd rfl (by walk_at "lr") (pv 0))
  apply qB
  case h1 =>
   apply q18 PassesOwn.never rfl
   case hi=>exact (q09 (K:=K) rfl (pv 1))
   case hg=>exact (qi (i:=3) sc_changed.nd rfl (by walk_at "lr"))
   case hb =>
    apply qB
    case h1 =>
     exact (qo (qM D_refuse_place hr rfl (q0 (pv 0) (q0 (qJ (qG (K:=K) rfl) (pv 3) qE (fun _ _=>rfl)) qC))))
    apply qD
    exact (qQ (i:=2) sc_changed.nd rfl (by walk_at "lr") (qM D_with_put hr rfl (q0 (pv 2) (q0 (qJ (qG (K:=K) rfl) (pv 3) qE (fun _ _=>rfl)) (q0 (qJ (qG (K:=K) rfl) (pv 3) qE (fun _ _=>rfl)) qC)))))
  apply qD
  exact (qL (pv 2))
 lk
 refine ⟨⟨_,SqL.of hl⟩,?_⟩
 refine q2Q (xs:=xs) (fun i σ H'=>∃ t o,Same H H'∧IsKept H' 13 t (q0A ns (cs.take i))∧(cs.take i=[]→t=p)∧σ=[some (.ref p),some (.ref l),some (.ref t),o]) ⟨p,none,Same.refl _,hk,fun _=>rfl,rfl⟩ ?_ ?_ ?_
 ·rintro i σ H' _ ⟨t,o,sm,_⟩
  exact SqL.of (sm _ _ hl)
 ·rintro i x σ H1 hx ⟨t,o,sm,hk1,_,rfl⟩
  obtain ⟨q,c,rfl,hc1,hq⟩:=(hc.keep sm).at hx
  have hcm:=hin c (List.mem_of_getElem? hc1)
  lk
  refine ⟨_,_,_,_,rfl,rfl,SqT.of hq,rfl,?_⟩
  refine ⟨13,p,_,ns,rfl,hk.keep sm,hcm.1,hcm.2,?_⟩
  lk
  refine ⟨_,_,_,_,rfl,rfl,SqT.of hq,rfl,?_⟩
  lk
  refine ⟨_,_,_,_,rfl,rfl,SqT.of hq,rfl,?_⟩
  refine ⟨t,_,_,_,rfl,hk1,hcm.1,by rw [q2N];exact hcm.2,fun t2 H2 s2 hk2=>?_⟩
  refine ⟨t2,_,sm.trans s2,by rw [q3s hc1];exact hk2,fun z=>?_,rfl⟩
  have hi:=(List.getElem?_eq_some_iff.mp hc1).1
  have e:=congrArg List.length z
  rw [List.length_take,List.length_nil] at e
  omega
 ·rintro σ H1 ⟨t,o,sm,hk1,ht,rfl⟩
  lk
  rw [hc.len,List.take_of_length_le (Nat.le_refl _)] at hk1 ht
  exact fin t H1 sm hk1 ht
noncomputable def q3B (H H':Hp):Prop:=∀ b xs,H b=some (.tup xs)→H' b=some (.tup xs)
theorem IsRd.keepT {H H':Hp} {v:V} {o:Option Sx} (h:IsRd H v o) (s:q3B H H'):IsRd H' v o:=by
 cases o with
 | none=>exact h
 | some x=>obtain ⟨p,e,hp⟩:=h;exact ⟨p,e,s _ _ hp⟩
theorem IsKn.keepT {H H':Hp} {p:Addr} {a:Kn} (h:IsKn H p a) (s:q3B H H'):IsKn H' p a:=by
 obtain ⟨pb,ph,pt,vr,h1,h2,h3,h4,h5⟩:=h.ex
 exact ⟨pb,ph,pt,vr,s _ _ h1,s _ _ h2,s _ _ h3,s _ _ h4,h5.keepT s⟩
theorem IsKept.keepT {H H':Hp} {d:Nat} {p:Addr} {ns:List Int} (h:IsKept H d p ns) (s:q3B H H'):IsKept H' d p ns:=by
 induction h with
 | leaf h hk=>exact .leaf (s _ _ h) (hk.keepT s)
 | node h hk ok _ _ hm ihl ihr=>exact .node (s _ _ h) (hk.keepT s) ok ihl ihr hm
theorem q77 {xs ys:List Int} {f b:Int} (h0:0≤f) (h1:f≤b) (h2:b≤(xs.length:Int)):cutI (xs++ys) f b=cutI xs f b:=by
 unfold cutI
 rw [List.drop_append_of_le_length (by omega),List.take_append_of_le_length (by rw [List.length_drop];omega)]
theorem q62 {xs ys:List Int} {f b:Int} (h0:(xs.length:Int)≤f) (h1:f≤b):cutI (xs++ys) f b=cutI ys (f-(xs.length:Int)) (b-(xs.length:Int)):=by
 unfold cutI
 have e1:f.toNat=xs.length+(f-(xs.length:Int)).toNat:=by omega
 have e2:b.toNat-f.toNat=(b-(xs.length:Int)).toNat-(f-(xs.length:Int)).toNat:=by omega
 rw [e2,e1,← List.drop_drop,List.drop_left' rfl]
noncomputable def q0P (d:Nat):Sp:=fun vs H Q _=>∃ (p:Addr) (f b:Int) (ns:List Int),vs=[.ref p,.int f,.int b]∧IsKept H d p ns∧0≤f∧f < b∧b≤(ns.length:Int)∧∀ kp a H',Same H H'→IsKn H' kp a→KnOk a (cutI ns f b)→Q (.ref kp) H'
theorem q7Y {k:Nat} {f:Addr} {fd:FuncData} {ps:List Str}:FnOk P w K mg base CX0 k f fd ps (q0P 0):=by
 have no:∀ vs H Q E,¬ q0P 0 vs H Q E:=fun vs H Q E h=>by
  obtain ⟨p,f,b,ns,_,hk,_⟩:=h
  cases hk
 exact ⟨fun vs H Q E h=>absurd h (no vs H Q E),fun A outer s H args us vs Q E _ _ _ _ h=>absurd h (no vs H Q E)⟩
theorem ok_known {k d:Nat} {f:Addr} {fd:FuncData} (F:Fun K "known_of" "known_of" q1O f fd) (Z:Blt mg) (CC:Cons mg)
  (D_joined:Def P w K mg base k "joined" ["one","other"] q1s) (D_many_of:Def P w K mg base k "many_of" ["held"] q0B) (D_known_of:Def P w K mg base k "known_of" ["held","first","beyond"] (q0P d)):FnOk P w K mg base CX0 (k+1) f fd ["held","first","beyond"] (q0P (d+1)):=by
 refine F.ok sc_known_of (fun vs H Q E h=>?_) (fun cdv A outer s H vs Q E hr h=>?_)
 ·obtain ⟨p,f,b,ns,rfl,_⟩:=h
  rfl
 obtain ⟨p,f,b,ns,rfl,hk,h0,h1,h2,fin⟩:=h
 apply Exists.intro
 apply And.intro
 case left =>
  apply qB
  case h1 =>
   apply qZ
   case hc=>exact (PW.pt (q4Y (qO q0C (pv 1) qE (qT _)) (q36 (qO q0C (pv 2) (qM D_many_of hr rfl (q0 (pv 0) qC)) (qT _)))))
   case ha =>
    apply qD
    exact (qL (qJ (qG (K:=K) rfl) (pv 0) (qW (n:=0) rfl CC.KNOWN) (fun _ _=>rfl)))
   case hb =>
    exact qP
  apply qB
  case h1 =>
   exact (qQ (i:=3) sc_known_of.nd rfl (by walk_at "lr") (qM D_many_of hr rfl (q0 (qJ (qG (K:=K) rfl) (pv 0) (qW (n:=1) rfl CC.LEFT) (fun _ _=>rfl)) qC)))
  apply qB
  case h1 =>
   apply qZ
   case hc=>exact (qO q40 (pv 2) (pv 3) (qT _))
   case ha =>
    apply qD
    exact (qL (qM D_known_of hr rfl (q0 (qJ (qG (K:=K) rfl) (pv 0) (qW (n:=1) rfl CC.LEFT) (fun _ _=>rfl)) (q0 (pv 1) (q0 (pv 2) qC)))))
   case hb =>
    exact qP
  apply qB
  case h1 =>
   apply qZ
   case hc=>exact (qO op_ge (pv 1) (pv 3) (qT _))
   case ha =>
    apply qD
    exact (qL (qM D_known_of hr rfl (q0 (qJ (qG (K:=K) rfl) (pv 0) (qW (n:=2) rfl CC.RIGHT) (fun _ _=>rfl)) (q0 (qU q0J (pv 1) (pv 3)) (q0 (qU q0J (pv 2) (pv 3)) qC)))))
   case hb =>
    exact qP
  apply qD
  exact (qL (qM D_joined hr rfl (q0 (qM D_known_of hr rfl (q0 (qJ (qG (K:=K) rfl) (pv 0) (qW (n:=1) rfl CC.LEFT) (fun _ _=>rfl)) (q0 (pv 1) (q0 (pv 3) qC)))) (q0 (qM D_known_of hr rfl (q0 (qJ (qG (K:=K) rfl) (pv 0) (qW (n:=2) rfl CC.RIGHT) (fun _ _=>rfl)) (q0 qE (q0 (qU q0J (pv 2) (pv 3)) qC)))) qC))))
 obtain ⟨kp,a,x,y,e,kn,ok⟩:=hk.known
 have whole:f=0→b=(ns.length:Int)→cutI ns f b=ns:=fun z1 z2=>by rw [z1,z2];exact q2x
 have one:(f=0∧b=(ns.length:Int))→Q (.ref kp) H:=fun z=>fin kp a H (Same.refl _) kn (by rw [whole z.1 z.2];exact ok)
 have two:¬ (f=0∧b=(ns.length:Int))→∃ l r xs ys,H p=some (.tup [.ref kp,.ref l,.ref r])∧ns=xs++ys∧IsKept H d l xs∧IsKept H d r ys:=fun z=>by
  cases hk with
  | @leaf _ _ kp n h hk=>exact absurd ⟨by simp only [List.length_singleton] at h2;omega,by simp only [List.length_singleton] at h2 ⊢;omega⟩ z
  | @node _ _ kp' l r xs ys a h hk ok hl hr' hm =>
   rw [h] at e
   injection e with e1
   injection e1 with e1
   injection e1 with e1 e2
   injection e1 with e1
   subst e1
   exact ⟨l,r,xs,ys,h,rfl,hl,hr'⟩
 refine seqU (fun σ' H'=>H=H'∧¬ (f=0∧b=(ns.length:Int))∧σ'=[some (.ref p),some (.int f),some (.int b),none]) ?_ (fun R hR=>?_)
 case refine_2 =>
  lk
  refine ifI (fun he=>?_) (fun hne=>?_)
  ·lk
   refine ⟨_,p,ns,rfl,hk,?_⟩
   lk
   refine ifI (fun he2=>?_) (fun hne2=>?_)
   ·lk
    refine ⟨_,_,_,_,rfl,rfl,SqT.of e,rfl,?_⟩
    exact one ⟨he,he2⟩
   ·exact hR _ _ ⟨rfl,fun z=>hne2 z.2,rfl⟩
  ·exact hR _ _ ⟨rfl,fun z=>hne z.1,rfl⟩
 rintro _ _ ⟨rfl,hno,rfl⟩
 obtain ⟨l,r,xs,ys,hp,rfl,hl,hr'⟩:=two hno
 rw [List.length_append] at h2
 lk
 refine ⟨_,_,_,_,rfl,rfl,SqT.of hp,rfl,?_⟩
 refine ⟨d,l,xs,rfl,hl,?_⟩
 lk
 refine ifD (fun hb=>?_) (fun hb=>?_)
 ·lk
  refine ⟨_,_,_,_,rfl,rfl,SqT.of hp,rfl,?_⟩
  lk
  refine ⟨l,f,b,xs,rfl,hl,h0,h1,hb,fun kp a H' s1 hk1 ok1=>?_⟩
  exact fin kp a H' s1 hk1 (by rw [q77 h0 (by omega) hb];exact ok1)
 ·lk
  refine ifD (fun hf=>?_) (fun hf=>?_)
  ·lk
   refine ⟨_,_,_,_,rfl,rfl,SqT.of hp,rfl,?_⟩
   lk
   refine ⟨r,_,_,ys,rfl,hr',by omega,by omega,by omega,fun kp a H' s1 hk1 ok1=>?_⟩
   exact fin kp a H' s1 hk1 (by rw [q62 hf (by omega)];exact ok1)
  ·lk
   refine ⟨_,_,_,_,rfl,rfl,SqT.of hp,rfl,?_⟩
   lk
   refine ⟨l,f,_,xs,rfl,hl,h0,by omega,by omega,fun k1 a1 H1 s1 hk1 ok1=>?_⟩
   lk
   refine ⟨_,_,_,_,rfl,rfl,SqT.of (s1 _ _ hp),rfl,?_⟩
   lk
   refine ⟨r,0,_,ys,rfl,hr'.keep s1,by decide,by omega,by omega,fun k2 a2 H2 s2 hk2 ok2=>?_⟩
   refine ⟨k1,k2,a1,a2,rfl,hk1.keep s2,hk2,fun t H3 s3 hk3=>?_⟩
   refine fin t _ H3 (s1.trans (s2.trans s3)) hk3 ?_
   have e1:cutI (xs++ys) f b=cutI xs f (xs.length:Int)++cutI ys 0 (b-(xs.length:Int)):=by
    rw [← q78 (m:=(xs.length:Int)) h0 (by omega) (by omega),q77 h0 (by omega) (Int.le_refl _),q62 (Int.le_refl _) (by omega),Int.sub_self]
   rw [e1]
   exact q5E ok1 ok2
theorem q5e {k:Nat} {f:Addr} {fd:FuncData} (F:Fun K "known_of" "known_of" q1O f fd) (Z:Blt mg) (CC:Cons mg) (b:Binds K fd ["held","first","beyond"] []) (kp:PySem.W.keepIn K (.ref f)=true) (m:mg "known_of" = some (.ref f))
  (D_joined:Def P w K mg base k "joined" ["one","other"] q1s) (D_many_of:Def P w K mg base k "many_of" ["held"] q0B):∀ d,FnOk P w K mg base CX0 (k+d) f fd ["held","first","beyond"] (q0P d)
 | 0=>q7Y
 | d+1=>ok_known F Z CC (D_joined.mono (Nat.le_add_right _ _)) (D_many_of.mono (Nat.le_add_right _ _)) ⟨f,fd,q5e F Z CC b kp m D_joined D_many_of d,b,kp,m⟩
noncomputable def q1U:Sp:=fun vs H Q _=>∃ (p t:Addr) (f b:Int) (ns:List Int),vs=[.ref p,.ref t]∧IsKept H 13 p ns∧H t=some (.tup [.int f,.int b])∧0≤f∧f < b∧b≤(ns.length:Int)∧∀ kp a H',Same H H'→IsKn H' kp a→KnOk a (cutI ns f b)→Q (.ref kp) H'
theorem q6y {k:Nat} {f:Addr} {fd:FuncData} (F:Fun K "known_of_part" "known_of_part" q08 f fd) (Z:Blt mg)
  (D_is_stretch:Def P w K mg base k "is_stretch" ["stretch","many"] q0w) (D_many_of:Def P w K mg base k "many_of" ["held"] q0B) (D_known_of:Def P w K mg base k "known_of" ["held","first","beyond"] (q0P 13)):FnOk P w K mg base CX0 (k+1) f fd ["held","stretch"] q1U:=by
 refine F.ok q1n (fun vs H Q E h=>?_) (fun cdv A outer s H vs Q E hr h=>?_)
 ·obtain ⟨p,t,f,b,ns,rfl,_⟩:=h
  rfl
 obtain ⟨p,t,f,b,ns,rfl,hk,ht,h0,h1,h2,fin⟩:=h
 apply Exists.intro
 apply And.intro
 case left =>
  apply qB
  case h1 =>
   apply qZ
   case hc=>exact (q0I (q1o (qM D_is_stretch hr rfl (q0 (pv 1) (q0 (qM D_many_of hr rfl (q0 (pv 0) qC)) qC)))))
   case ha =>
    apply qD
    exact q0G
   case hb =>
    exact qP
  apply qD
  exact (qL (qM D_known_of hr rfl (q0 (pv 0) (q0 (qJ (qG (K:=K) rfl) (pv 1) qE (fun _ _=>rfl)) (q0 (qJ (qG (K:=K) rfl) (pv 1) qE (fun _ _=>rfl)) qC)))))
 lk
 refine ⟨_,p,ns,rfl,hk,?_⟩
 refine ⟨t,f,b,_,rfl,ht,_,rfl,?_⟩
 rw [decide_eq_true (show 0≤f∧f < b∧b≤((ns.length:Nat):Int) from ⟨h0,h1,h2⟩)]
 refine iteF ?_
 lk
 refine ⟨_,_,_,_,rfl,rfl,SqT.of ht,rfl,?_⟩
 lk
 refine ⟨_,_,_,_,rfl,rfl,SqT.of ht,rfl,?_⟩
 exact ⟨p,f,b,ns,rfl,hk,h0,h1,h2,fin⟩
noncomputable def q1M:Sp:=fun vs H Q _=>∃ (p t:Addr) (f b:Int) (ns:List Int),vs=[.ref p,.ref t]∧IsKept H 13 p ns∧H t=some (.tup [.int f,.int b])∧0≤f∧f < b∧b≤(ns.length:Int)∧∀ u x H',Same H H'→H' u=some (Tx (qY x f))→Top (PB (cutI ns f b)) x→Q (.ref u) H'
theorem q5m {k:Nat} {f:Addr} {fd:FuncData} (F:Fun K "best_in" "best_in" q20 f fd) (Z:Blt mg) (CC:Cons mg)
  (D_moved:Def P w K mg base k "moved" ["stretch","places"] q29) (D_known_of_part:Def P w K mg base k "known_of_part" ["held","stretch"] q1U):FnOk P w K mg base CX0 (k+1) f fd ["held","stretch"] q1M:=by
 refine F.ok q4V (fun vs H Q E h=>?_) (fun cdv A outer s H vs Q E hr h=>?_)
 ·obtain ⟨p,t,f,b,ns,rfl,_⟩:=h
  rfl
 obtain ⟨p,t,f,b,ns,rfl,hk,ht,h0,h1,h2,fin⟩:=h
 apply Exists.intro
 apply And.intro
 case left =>
  apply qD
  exact (qL (qM D_moved hr rfl (q0 (qJ (qG (K:=K) rfl) (qM D_known_of_part hr rfl (q0 (pv 0) (q0 (pv 1) qC))) (qW (n:=2) rfl CC.BEST) (fun _ _=>rfl)) (q0 (qJ (qG (K:=K) rfl) (pv 1) qE (fun _ _=>rfl)) qC))))
 lk
 refine ⟨p,t,f,b,ns,rfl,hk,ht,h0,h1,h2,fun kp a H1 s1 hk1 ok1=>?_⟩
 obtain ⟨pb,ph,pt,vr,e,eb,_⟩:=hk1.ex
 lk
 refine ⟨_,_,_,_,rfl,rfl,SqT.of e,rfl,?_⟩
 lk
 refine ⟨_,_,_,_,rfl,rfl,SqT.of (s1 _ _ ht),rfl,?_⟩
 exact ⟨pb,f,a.best,rfl,eb,fun u H2 s2 hu=>fin u a.best H2 (s1.trans s2) hu ok1.best⟩
noncomputable def rg (ns:List Int) (f m:Nat):Int:=if f+m≤ns.length then psum ns (f+m)-psum ns f else psum ns ns.length-psum ns f+psum ns (f+m-ns.length)
noncomputable def PG (ns:List Int) (z:Sx):Prop:=∃ f m:Nat,f < ns.length∧1≤m∧m≤ns.length∧z=⟨rg ns f m,f,m⟩
noncomputable def q5y (x:Sx):Sx:=⟨x.s,x.f,x.b-x.f⟩
noncomputable def q6U (n:Int) (x:Sx):Sx:=⟨x.s,x.f,n-x.f+x.b⟩
theorem q73 {ns:List Int} {x:Sx} (h:Top (PB ns) x):Top (fun z=>∃ y,PB ns y∧z=q5y y) (q5y x):=by
 refine ⟨⟨x,h.has,rfl⟩,?_⟩
 rintro _ ⟨y,hy,rfl⟩
 have q:=h.le y hy
 unfold Sx.le at q ⊢
 simp only [q5y]
 omega
theorem over_top {ns:List Int} {n:Int} {x:Sx} (h:Top (PR ns) x):Top (fun z=>∃ y,PR ns y∧z=q6U n y) (q6U n x):=by
 refine ⟨⟨x,h.has,rfl⟩,?_⟩
 rintro _ ⟨y,hy,rfl⟩
 have q:=h.le y hy
 unfold Sx.le at q ⊢
 simp only [q6U]
 omega
theorem q6v {ns:List Int} {z:Sx}:PG ns z↔(∃ y,PB ns y∧z=q5y y)∨(∃ y,PR ns y∧z=q6U ns.length y):=by
 constructor
 ·rintro ⟨f,m,hf,h1,h2,rfl⟩
  by_cases h:f+m≤ns.length
  ·refine .inl ⟨_,⟨f,f+m,by omega,h,rfl⟩,?_⟩
   unfold rg
   rw [if_pos h]
   exact Sx.ext' rfl rfl (by show (m:Int)=((f+m:Nat):Int)-f;omega)
  ·refine .inr ⟨_,⟨f,f+m-ns.length,by omega,by omega,hf,rfl⟩,?_⟩
   unfold rg
   rw [if_neg h]
   exact Sx.ext' rfl rfl (by show (m:Int)=(ns.length:Int)-f+((f+m-ns.length:Nat):Int);omega)
 ·rintro (⟨_,⟨f,b,h1,h2,rfl⟩,rfl⟩ | ⟨_,⟨f,b,h1,h2,h3,rfl⟩,rfl⟩)
  ·refine ⟨f,b-f,by omega,by omega,by omega,?_⟩
   unfold rg
   rw [if_pos (by omega)]
   have e:f+(b-f)=b:=by omega
   rw [e]
   exact Sx.ext' rfl rfl (by show (b:Int)-f=((b-f:Nat):Int);omega)
  ·refine ⟨f,ns.length-f+b,h3,by omega,by omega,?_⟩
   unfold rg
   rw [if_neg (by omega)]
   have e:f+(ns.length-f+b)-ns.length=b:=by omega
   rw [e]
   exact Sx.ext' rfl rfl (by show (ns.length:Int)-f+b=((ns.length-f+b:Nat):Int);omega)
theorem ring_one {ns:List Int} {x:Sx} (h:Top (PB ns) x) (hn:ns.length=1):Top (PG ns) (q5y x):=(q73 h).iff fun z=>by
 rw [q6v]
 refine ⟨fun q=>q.elim id ?_,.inl⟩
 rintro ⟨_,⟨f,b,h1,h2,h3,_⟩,_⟩
 omega
theorem ring_two {ns:List Int} {x y:Sx} (h:Top (PB ns) x) (g:Top (PR ns) y):Top (PG ns) (q0N (q5y x) (q6U ns.length y)):=Top.or (q73 h) (over_top g) fun z=>q6v
noncomputable def q1u:Sp:=fun vs H Q _=>∃ (p:Addr) (ns:List Int),vs=[.ref p]∧IsKept H 13 p ns∧∀ u x H',Same H H'→H' u=some (Tx x)→Top (PG ns) x→Q (.ref u) H'
theorem ok_bround {k:Nat} {f:Addr} {fd:FuncData} (F:Fun K "best_round" "best_round" q15 f fd) (Z:Blt mg) (CC:Cons mg)
  (D_better_of:Def P w K mg base k "better_of" ["one","other"] q1v) (D_many_of:Def P w K mg base k "many_of" ["held"] q0B):FnOk P w K mg base CX0 (k+1) f fd ["held"] q1u:=by
 refine F.ok sc_best_round (fun vs H Q E h=>?_) (fun cdv A outer s H vs Q E hr h=>?_)
 ·obtain ⟨p,ns,rfl,_⟩:=h
  rfl
 obtain ⟨p,ns,rfl,hk,fin⟩:=h
 apply Exists.intro
 apply And.intro
 case left =>
  apply qB
  case h1 =>
   exact (qQ (i:=1) sc_best_round.nd rfl (by walk_at "lr") (qJ (qG (K:=K) rfl) (qJ (qG (K:=K) rfl) (pv 0) (qW (n:=0) rfl CC.KNOWN) (fun _ _=>rfl)) (qW (n:=2) rfl CC.BEST) (fun _ _=>rfl)))
  apply qB
  case h1 =>
   exact (qQ (i:=2) sc_best_round.nd rfl (by walk_at "lr") (qp (q0 (qJ (qG (K:=K) rfl) (pv 1) qE (fun _ _=>rfl)) (q0 (qJ (qG (K:=K) rfl) (pv 1) qE (fun _ _=>rfl)) (q0 (qU q0J (qJ (qG (K:=K) rfl) (pv 1) qE (fun _ _=>rfl)) (qJ (qG (K:=K) rfl) (pv 1) qE (fun _ _=>rfl))) qC)))))
  apply qB
  case h1 =>
   exact (qQ (i:=3) sc_best_round.nd rfl (by walk_at "lr") (qJ (qG (K:=K) rfl) (qJ (qG (K:=K) rfl) (pv 0) (qW (n:=0) rfl CC.KNOWN) (fun _ _=>rfl)) (qW (n:=5) rfl CC.ROUND) (fun _ _=>rfl)))
  apply qB
  case h1 =>
   apply qZ
   case hc=>exact (qO q1B (pv 3) qj (qT _))
   case ha =>
    apply qD
    exact (qL (pv 2))
   case hb =>
    exact qP
  apply qD
  exact (qL (qM D_better_of hr rfl (q0 (pv 2) (q0 (qp (q0 (qJ (qG (K:=K) rfl) (pv 3) qE (fun _ _=>rfl)) (q0 (qJ (qG (K:=K) rfl) (pv 3) qE (fun _ _=>rfl)) (q0 (qU qf (qU q0J (qM D_many_of hr rfl (q0 (pv 0) qC)) (qJ (qG (K:=K) rfl) (pv 3) qE (fun _ _=>rfl))) (qJ (qG (K:=K) rfl) (pv 3) qE (fun _ _=>rfl))) qC)))) qC))))
 obtain ⟨kp,a,x,y,e,⟨pb,ph,pt,vr,e2,eb,_,_,er⟩,ok⟩:=hk.known
 lk
 refine ⟨_,_,_,_,rfl,rfl,SqT.of e,rfl,?_⟩
 lk
 refine ⟨_,_,_,_,rfl,rfl,SqT.of e2,rfl,?_⟩
 lk
 refine ⟨_,_,_,_,rfl,rfl,SqT.of eb,rfl,?_⟩
 lk
 refine ⟨_,_,_,_,rfl,rfl,SqT.of eb,rfl,?_⟩
 lk
 refine ⟨_,_,_,_,rfl,rfl,SqT.of eb,rfl,?_⟩
 lk
 refine ⟨_,_,_,_,rfl,rfl,SqT.of eb,rfl,?_⟩
 lk
 refine ⟨by show 3≤sizeLine;decide,fun t1 h1=>?_⟩
 have s1:=Same.new h1 (.tup [.int a.best.s,.int a.best.f,.int (a.best.b-a.best.f)])
 have ht1:upd H t1 (.tup [.int a.best.s,.int a.best.f,.int (a.best.b-a.best.f)]) t1=some (Tx (q5y a.best)):=qA
 obtain ⟨H1,eH1⟩:∃ z,z=upd H t1 (.tup [.int a.best.s,.int a.best.f,.int (a.best.b-a.best.f)]):=⟨_,rfl⟩
 rw [← eH1] at s1 ht1
 lk
 rw [← eH1]
 refine ⟨_,_,_,_,rfl,rfl,SqT.of (s1 _ _ e),rfl,?_⟩
 lk
 refine ⟨_,_,_,_,rfl,rfl,SqT.of (s1 _ _ e2),rfl,?_⟩
 lk
 have rd:=ok.round
 cases ec:a.round with
 | none =>
  rw [ec] at er rd
  obtain rfl:vr = .non:=er
  refine iteT ?_
  lk
  exact fin t1 _ H1 s1 ht1 (ring_one ok.best rd)
 | some r =>
  rw [ec] at er rd
  obtain ⟨rp,rfl,hrp⟩:=er
  refine iteF ?_
  lk
  refine ⟨_,_,_,_,rfl,rfl,SqT.of (s1 _ _ hrp),rfl,?_⟩
  lk
  refine ⟨_,_,_,_,rfl,rfl,SqT.of (s1 _ _ hrp),rfl,?_⟩
  lk
  refine ⟨_,p,ns,rfl,hk.keep s1,?_⟩
  lk
  refine ⟨_,_,_,_,rfl,rfl,SqT.of (s1 _ _ hrp),rfl,?_⟩
  lk
  refine ⟨_,_,_,_,rfl,rfl,SqT.of (s1 _ _ hrp),rfl,?_⟩
  lk
  refine ⟨by show 3≤sizeLine;decide,fun t2 h2=>?_⟩
  have s2:=Same.new h2 (Tx (q6U ns.length r))
  refine ⟨t1,t2,q5y a.best,q6U ns.length r,rfl,s2 _ _ ht1,qA,fun t3 H3 s3 ht3=>?_⟩
  exact fin t3 _ H3 (s1.trans (s2.trans s3)) ht3 (ring_two ok.best rd)
noncomputable def MaxOf (P:Int→Prop) (m:Int):Prop:=P m∧∀ x,P x→x≤m
theorem MaxOf.uniq {P:Int→Prop} {m n:Int} (h:MaxOf P m) (g:MaxOf P n):m=n:=Int.le_antisymm (g.2 m h.1) (h.2 n g.1)
theorem MaxOf.iff {P Q:Int→Prop} {m:Int} (h:MaxOf P m) (e:∀ x,Q x↔P x):MaxOf Q m:=⟨(e m).mpr h.1,fun x q=>h.2 x ((e x).mp q)⟩
noncomputable def OutP (ns:List Int) (i:Nat) (w:Int):Prop:=∃ f b:Nat,f < b∧b≤ns.length∧(b≤i∨i < f)∧w=psum ns b-psum ns f
noncomputable def InP (ns:List Int) (i:Nat) (w:Int):Prop:=∃ f b:Nat,f≤i∧i < b∧b≤ns.length∧w=psum ns i-psum ns f+(psum ns b-psum ns (i+1))
noncomputable def MustIs (ns:List Int) (i:Nat) (v:Int):Prop:=∃ W B,MaxOf (OutP ns i) W∧MaxOf (InP ns i) B∧v=W-B
theorem MustIs.uniq {ns:List Int} {i:Nat} {v u:Int} (h:MustIs ns i v) (g:MustIs ns i u):v=u:=by
 obtain ⟨W,B,h1,h2,rfl⟩:=h
 obtain ⟨W',B',g1,g2,rfl⟩:=g
 rw [h1.uniq g1,h2.uniq g2]
noncomputable def LeftP (ns:List Int) (i:Nat) (w:Int):Prop:=∃ f:Nat,f≤i∧w=psum ns i-psum ns f
noncomputable def RightP (ns:List Int) (i:Nat) (w:Int):Prop:=∃ b:Nat,i < b∧b≤ns.length∧w=psum ns b-psum ns (i+1)
theorem in_max {ns:List Int} {i:Nat} {L R:Int} (h:MaxOf (LeftP ns i) L) (g:MaxOf (RightP ns i) R):MaxOf (InP ns i) (L+R):=by
 obtain ⟨f,h1,h2⟩:=h.1
 obtain ⟨b,g1,g2,g3⟩:=g.1
 refine ⟨⟨f,b,h1,g1,g2,by omega⟩,?_⟩
 rintro x ⟨f',b',a1,a2,a3,rfl⟩
 have:=h.2 _ ⟨f',a1,rfl⟩
 have:=g.2 _ ⟨b',a2,a3,rfl⟩
 omega
noncomputable def OutL (ns:List Int) (i:Nat) (w:Int):Prop:=∃ f b:Nat,f < b∧b≤i∧b≤ns.length∧w=psum ns b-psum ns f
noncomputable def OutR (ns:List Int) (i:Nat) (w:Int):Prop:=∃ f b:Nat,f < b∧b≤ns.length∧i < f∧w=psum ns b-psum ns f
theorem out_iff {ns:List Int} {i:Nat} {w:Int}:OutP ns i w↔OutL ns i w∨OutR ns i w:=by
 constructor
 ·rintro ⟨f,b,h1,h2,h3 | h3,e⟩
  ·exact .inl ⟨f,b,h1,h3,h2,e⟩
  ·exact .inr ⟨f,b,h1,h2,h3,e⟩
 ·rintro (⟨f,b,h1,h3,h2,e⟩ | ⟨f,b,h1,h2,h3,e⟩)
  ·exact ⟨f,b,h1,h2,.inl h3,e⟩
  ·exact ⟨f,b,h1,h2,.inr h3,e⟩
noncomputable def Withs (ns:List Int) (i:Nat) (ws:List Int):Prop:=∀ M,M∈ws→(∀ x,x∈ws→x≤M)→MaxOf (OutP ns i) M
noncomputable def WsL (ns:List Int) (i:Nat) (ws:List Int):Prop:=(i=0∧ws=[])∨∃ W,0 < i∧ws=[W]∧MaxOf (OutL ns i) W
noncomputable def WsR (ns:List Int) (i:Nat) (us ws:List Int):Prop:=(¬ i+1 < ns.length∧ws=us)∨∃ W,i+1 < ns.length∧ws=us++[W]∧MaxOf (OutR ns i) W
theorem withs_of {ns:List Int} {i:Nat} {us ws:List Int} (hi:i < ns.length) (h:WsL ns i us) (g:WsR ns i us ws):Withs ns i ws∧ws.length≤2∧(ws=[]↔ns.length=1):=by
 have nl:i=0→∀ x,¬ OutL ns i x:=by
  rintro z x ⟨f,b,h1,h2,_⟩
  omega
 have nr:¬ i+1 < ns.length→∀ x,¬ OutR ns i x:=by
  rintro z x ⟨f,b,h1,h2,h3,_⟩
  omega
 rcases h with ⟨h0,rfl⟩ | ⟨W,h0,rfl,h⟩
 ·rcases g with ⟨g0,rfl⟩ | ⟨V,g0,rfl,g⟩
  ·exact ⟨fun M hM _=>absurd hM List.not_mem_nil,Nat.zero_le _,by simp;omega⟩
  ·refine ⟨fun M hM _=>?_,by simp,by simp;omega⟩
   have e:M=V:=by simpa using hM
   subst e
   exact g.iff fun x=>by rw [out_iff];exact ⟨fun z=>z.elim (fun q=>absurd q (nl h0 x)) id,.inr⟩
 ·rcases g with ⟨g0,rfl⟩ | ⟨V,g0,rfl,g⟩
  ·refine ⟨fun M hM _=>?_,by simp,by simp;omega⟩
   have e:M=W:=by simpa using hM
   subst e
   exact h.iff fun x=>by rw [out_iff];exact ⟨fun z=>z.elim id (fun q=>absurd q (nr g0 x)),.inl⟩
  ·refine ⟨fun M hM hx=>?_,by simp,by simp;omega⟩
   have l1:=hx W (by simp)
   have l2:=hx V (by simp)
   have hM':M=W∨M=V:=by simpa using hM
   refine ⟨out_iff.mpr ?_,fun x hx'=>?_⟩
   ·rcases hM' with rfl | rfl
    ·exact .inl h.1
    ·exact .inr g.1
   ·rcases out_iff.mp hx' with z | z
    ·exact Int.le_trans (h.2 x z) l1
    ·exact Int.le_trans (g.2 x z) l2
theorem q5f {ns:List Int} {f b:Int} {j:Nat} (h0:0≤f) (h1:f≤b) (h2:b≤(ns.length:Int)) (hj:(j:Int)≤b-f):psum (cutI ns f b) j=psum ns (f.toNat+j)-psum ns f.toNat:=by
 unfold cutI
 have e:psum ((ns.drop f.toNat).take (b.toNat-f.toNat)) j=psum (ns.drop f.toNat) j:=by
  unfold psum
  rw [List.take_take,Nat.min_eq_left (by omega)]
 rw [e]
 unfold psum
 rw [List.take_add,List.sum_append]
 omega
theorem q7e {ns:List Int} {i:Nat} {a:Kn} (hi:i≤ns.length) (h0:0 < i) (ok:KnOk a (cutI ns 0 (i:Int))):MaxOf (OutL ns i) a.best.s∧MaxOf (LeftP ns i) (if 0 < a.tail.s then a.tail.s else 0):=by
 have l:=q5L (ns:=ns) (f:=0) (b:=(i:Int)) (by omega) (by omega) (by omega)
 have l':(cutI ns 0 (i:Int)).length=i:=by omega
 have ps:∀ j:Nat,j≤i→psum (cutI ns 0 (i:Int)) j=psum ns j:=fun j hj=>by
  rw [q5f (by omega) (by omega) (by omega) (by omega)]
  have e:(0:Int).toNat+j=j:=by simp
  have z:psum ns (0:Int).toNat=0:=rfl
  rw [e,z]
  omega
 refine ⟨?_,?_⟩
 ·obtain ⟨f,b,h1,h2,e⟩:=ok.best.has
  have es:a.best.s=psum ns b-psum ns f:=by rw [e];show psum _ b-psum _ f=_;rw [ps b (by omega),ps f (by omega)]
  refine ⟨⟨f,b,h1,by omega,by omega,es⟩,?_⟩
  rintro x ⟨f',b',a1,a2,a3,rfl⟩
  have q:=ok.best.le _ ⟨f',b',a1,by omega,rfl⟩
  rw [ps b' (by omega),ps f' (by omega)] at q
  unfold Sx.le at q
  dsimp only at q
  omega
 ·obtain ⟨f,h1,e⟩:=ok.tail.has
  have es:a.tail.s=psum ns i-psum ns f:=by rw [e];show psum _ _-psum _ f=_;rw [l',ps i (Nat.le_refl _),ps f (by omega)]
  have up:∀ f':Nat,f' < i→psum ns i-psum ns f'≤a.tail.s:=fun f' hf'=>by
   have q:=ok.tail.le _ ⟨f',by omega,rfl⟩
   rw [l',ps i (Nat.le_refl _),ps f' (by omega)] at q
   unfold Sx.le at q
   dsimp only at q
   omega
  refine ⟨?_,?_⟩
  ·split
   ·exact ⟨f,by omega,es⟩
   ·exact ⟨i,Nat.le_refl _,by omega⟩
  ·rintro x ⟨f',a1,rfl⟩
   by_cases hf:f'=i
   ·subst hf
    split <;> omega
   ·have:=up f' (by omega)
    split <;> omega
theorem q6R {ns:List Int} {i:Nat} {a:Kn} (hi:i+1 < ns.length) (ok:KnOk a (cutI ns ((i:Int)+1) (ns.length:Int))):MaxOf (OutR ns i) a.best.s∧MaxOf (RightP ns i) (if 0 < a.head.s then a.head.s else 0):=by
 have l:=q5L (ns:=ns) (f:=(i:Int)+1) (b:=(ns.length:Int)) (by omega) (by omega) (by omega)
 have ps:∀ j:Nat,j≤ns.length-(i+1)→psum (cutI ns ((i:Int)+1) (ns.length:Int)) j=psum ns (i+1+j)-psum ns (i+1):=fun j hj=>by
  rw [q5f (by omega) (by omega) (by omega) (by omega)]
  have e:((i:Int)+1).toNat=i+1:=by omega
  rw [e]
 refine ⟨?_,?_⟩
 ·obtain ⟨f,b,h1,h2,e⟩:=ok.best.has
  have es:a.best.s=psum ns (i+1+b)-psum ns (i+1+f):=by rw [e];show psum _ b-psum _ f=_;rw [ps b (by omega),ps f (by omega)];omega
  refine ⟨⟨i+1+f,i+1+b,by omega,by omega,by omega,es⟩,?_⟩
  rintro x ⟨f',b',a1,a2,a3,rfl⟩
  have q:=ok.best.le _ ⟨f'-(i+1),b'-(i+1),by omega,by omega,rfl⟩
  rw [ps _ (by omega),ps _ (by omega)] at q
  have e1:i+1+(b'-(i+1))=b':=by omega
  have e2:i+1+(f'-(i+1))=f':=by omega
  rw [e1,e2] at q
  unfold Sx.le at q
  dsimp only at q
  omega
 ·obtain ⟨b,h1,h2,e⟩:=ok.head.has
  have es:a.head.s=psum ns (i+1+b)-psum ns (i+1):=by rw [e];show psum _ b=_;rw [ps b (by omega)]
  have up:∀ b':Nat,i+1 < b'→b'≤ns.length→psum ns b'-psum ns (i+1)≤a.head.s:=fun b' h1 h2=>by
   have q:=ok.head.le _ ⟨b'-(i+1),by omega,by omega,rfl⟩
   rw [ps _ (by omega)] at q
   have e1:i+1+(b'-(i+1))=b':=by omega
   rw [e1] at q
   unfold Sx.le at q
   dsimp only at q
   omega
  refine ⟨?_,?_⟩
  ·split
   ·exact ⟨i+1+b,by omega,by omega,es⟩
   ·exact ⟨i+1,by omega,by omega,by omega⟩
  ·rintro x ⟨b',a1,a2,rfl⟩
   by_cases hb:b'=i+1
   ·subst hb
    split <;> omega
   ·have:=up b' (by omega) a2
    split <;> omega
noncomputable def sp_must:Sp:=fun vs H Q _=>∃ (p:Addr) (i:Int) (ns:List Int),vs=[.ref p,.int i]∧IsKept H 13 p ns∧0≤i∧i < (ns.length:Int)∧(ns.length=1→∀ H',Same H H'→Q .non H')∧(1 < ns.length→∀ v H',Same H H'→MustIs ns i.toNat v→Q (.int v) H')
theorem ok_must {k:Nat} {f:Addr} {fd:FuncData} (F:Fun K "must_be" "must_be" q1y f fd) (Z:Blt mg) (CC:Cons mg)
  (D_refuse_place:Def P w K mg base k "refuse_place" ["held","place"] q3g) (D_many_of:Def P w K mg base k "many_of" ["held"] q0B) (D_known_of:Def P w K mg base k "known_of" ["held","first","beyond"] (q0P 13)):FnOk P w K mg base CX0 (k+1) f fd ["held","place"] sp_must:=by
 refine F.ok sc_must_be (fun vs H Q E h=>?_) (fun cdv A outer s H vs Q E hr h=>?_)
 ·obtain ⟨p,i,ns,rfl,_⟩:=h
  rfl
 obtain ⟨p,i',ns,rfl,hk,h0,h1,f1,f2⟩:=h
 obtain ⟨i,ei⟩:∃ i:Nat,i'=i:=⟨i'.toNat,by omega⟩
 subst ei
 rw [Int.toNat_natCast] at f2
 apply Exists.intro
 apply And.intro
 case left =>
  apply qB
  case h1 =>
   exact (qo (qM D_refuse_place hr rfl (q0 (pv 0) (q0 (pv 1) qC))))
  apply qB
  case h1 =>
   exact (qQ (i:=2) sc_must_be.nd rfl (by walk_at "lr") (qM D_many_of hr rfl (q0 (pv 0) qC)))
  apply qB
  case h1 =>
   exact (qQ (i:=3) sc_must_be.nd rfl (by walk_at "lr") (qc qC))
  apply qB
  case h1 =>
   exact (qQ (i:=4) sc_must_be.nd rfl (by walk_at "lr") qE)
  apply qB
  case h1 =>
   apply qZ
   case hc=>exact (qO q4K (pv 1) qE (qT _))
   case ha =>
    apply qB
    case h1 =>
     exact (qQ (i:=5) sc_must_be.nd rfl (by walk_at "lr") (qM D_known_of hr rfl (q0 (pv 0) (q0 qE (q0 (pv 1) qC)))))
    apply qB
    case h1 =>
     exact (qo (q1Q (K:=K) rfl PySem.F.plainAttrs_list PySem.F.slot_list_append PySem.F.type_list_append q02 (pv 3) (q0 (qJ (qG (K:=K) rfl) (qJ (qG (K:=K) rfl) (pv 5) (qW (n:=2) rfl CC.BEST) (fun _ _=>rfl)) qE (fun _ _=>rfl)) qC)))
    apply qD
    exact (q3u (i:=4) sc_must_be.nd rfl (by walk_at "lr") (qV (q4C rfl) rfl Z.max_ PyProof.Rows.boot_max (q0 qE (q0 (qJ (qG (K:=K) rfl) (qJ (qG (K:=K) rfl) (pv 5) (qW (n:=4) rfl CC.TAIL) (fun _ _=>rfl)) qE (fun _ _=>rfl)) qC))) q4e)
   case hb =>
    exact qP
  apply qB
  case h1 =>
   apply qZ
   case hc=>exact (qO q1q (qU qf (pv 1) qE) (pv 2) (qT _))
   case ha =>
    apply qB
    case h1 =>
     exact (qQ (i:=6) sc_must_be.nd rfl (by walk_at "lr") (qM D_known_of hr rfl (q0 (pv 0) (q0 (qU qf (pv 1) qE) (q0 (pv 2) qC)))))
    apply qB
    case h1 =>
     exact (qo (q1Q (K:=K) rfl PySem.F.plainAttrs_list PySem.F.slot_list_append PySem.F.type_list_append q02 (pv 3) (q0 (qJ (qG (K:=K) rfl) (qJ (qG (K:=K) rfl) (pv 6) (qW (n:=2) rfl CC.BEST) (fun _ _=>rfl)) qE (fun _ _=>rfl)) qC)))
    apply qD
    exact (q3u (i:=4) sc_must_be.nd rfl (by walk_at "lr") (qV (q4C rfl) rfl Z.max_ PyProof.Rows.boot_max (q0 qE (q0 (qJ (qG (K:=K) rfl) (qJ (qG (K:=K) rfl) (pv 6) (qW (n:=3) rfl CC.HEAD) (fun _ _=>rfl)) qE (fun _ _=>rfl)) qC))) q4e)
   case hb =>
    exact qP
  apply qB
  case h1 =>
   apply qZ
   case hc=>exact (q0I (q2O (pv 3) (fun _=>rfl)))
   case ha =>
    apply qD
    exact (qL qj)
   case hb =>
    exact qP
  apply qD
  exact (qL (qU q0J (qV (q5p (K:=K) rfl rfl) rfl Z.max_ PyProof.Rows.boot_max (q0 (pv 3) qC)) (pv 4)))
 lk
 refine ⟨13,p,_,ns,rfl,hk,h0,h1,?_⟩
 lk
 refine ⟨13,p,ns,rfl,hk,?_⟩
 lk
 refine ⟨Nat.zero_le _,fun wl hwl=>?_⟩
 have s1:=Same.new hwl (.lst [])
 lk
 refine ifJ (fun σ' H'=>∃ (us:List Int) (L:Int) (o5:Option V),Same H H'∧H' wl=some (.lst (us.map V.int))∧us.length≤1∧WsL ns i us∧MaxOf (LeftP ns i) L∧σ'=[some (.ref p),some (.int i),some (.int ns.length),some (.ref wl),some (.int L),o5,none]) ?_ (fun hpos=>?_) (fun R hR hpos=>?_)
 case refine_2 =>
  obtain rfl:i=0:=by omega
  refine ⟨[],0,_,s1,qA,Nat.zero_le _,.inl ⟨rfl,rfl⟩,⟨⟨0,Nat.le_refl _,by omega⟩,?_⟩,rfl⟩
  rintro x ⟨f,hf,rfl⟩
  obtain rfl:f=0:=by omega
  omega
 case refine_3 =>
  lk
  refine ⟨p,0,_,ns,rfl,hk.keep s1,by decide,by omega,by omega,fun kp a H2 s2 hk2 ok2=>?_⟩
  obtain ⟨m1,m2⟩:=q7e (by omega) (by omega) ok2
  obtain ⟨pb,ph,pt,vr,ep,eb,_,et,_⟩:=hk2.ex
  have hwl2:=s2 _ _ (qA (H:=H) (a:=wl) (o:=.lst []))
  lk
  refine ⟨.inl ⟨rfl,_,SqL.of hwl2⟩,?_⟩
  lk
  refine ⟨_,_,_,_,rfl,rfl,SqT.of ep,rfl,?_⟩
  lk
  refine ⟨_,_,_,_,rfl,rfl,SqT.of eb,rfl,?_⟩
  refine ⟨wl,_,_,rfl,rfl,hwl2,by decide,?_⟩
  have nwl:∀ {x:Addr} {xs:List V},H2 x=some (.tup xs)→upd H2 wl (.lst ([]++[.int a.best.s])) x=some (.tup xs):=fun {x xs} e=>by
   rw [qF (fun z=>by rw [z,hwl2] at e;cases e)]
   exact e
  lk
  refine ⟨_,_,_,_,rfl,rfl,SqT.of (nwl ep),rfl,?_⟩
  lk
  refine ⟨_,_,_,_,rfl,rfl,SqT.of (nwl et),rfl,?_⟩
  refine ⟨_,_,rfl,?_⟩
  lk
  refine hR _ _ ⟨[a.best.s],0+(if a.tail.s > 0 then a.tail.s else 0),_,(s1.trans s2).upd hwl,qA,Nat.le_refl _,.inr ⟨_,by omega,rfl,m1⟩,?_,rfl⟩
  rw [Int.zero_add]
  exact m2
 rintro _ H2 ⟨us,L,o5,s2,hwl2,hul,hws,hL,rfl⟩
 lk
 refine ifJ (fun σ' H'=>∃ (ws:List Int) (B:Int) (o6:Option V),Same H H'∧H' wl=some (.lst (ws.map V.int))∧WsR ns i us ws∧MaxOf (InP ns i) B∧σ'=[some (.ref p),some (.int i),some (.int ns.length),some (.ref wl),some (.int B),o5,o6]) ?_ (fun hlt=>?_) (fun R hR hlt=>?_)
 case refine_2 =>
  refine ⟨us,L,_,s2,hwl2,.inl ⟨by omega,rfl⟩,?_,rfl⟩
  have hr0:MaxOf (RightP ns i) 0:=by
   refine ⟨⟨i+1,by omega,by omega,by omega⟩,?_⟩
   rintro x ⟨b,a1,a2,rfl⟩
   obtain rfl:b=i+1:=by omega
   omega
  have:=in_max hL hr0
  rw [Int.add_zero] at this
  exact this
 case refine_3 =>
  lk
  refine ⟨p,_,_,ns,rfl,hk.keep s2,by omega,by omega,by omega,fun kp a H3 s3 hk3 ok3=>?_⟩
  obtain ⟨m1,m2⟩:=q6R (by omega) ok3
  obtain ⟨pb,ph,pt,vr,ep,eb,eh,_,_⟩:=hk3.ex
  have hwl3:=s3 _ _ hwl2
  lk
  refine ⟨.inl ⟨rfl,_,SqL.of hwl3⟩,?_⟩
  lk
  refine ⟨_,_,_,_,rfl,rfl,SqT.of ep,rfl,?_⟩
  lk
  refine ⟨_,_,_,_,rfl,rfl,SqT.of eb,rfl,?_⟩
  refine ⟨wl,_,_,rfl,rfl,hwl3,small (by rw [List.length_map];omega),?_⟩
  have nwl:∀ {x:Addr} {xs:List V},H3 x=some (.tup xs)→upd H3 wl (.lst (us.map V.int++[.int a.best.s])) x=some (.tup xs):=fun {x xs} e=>by
   rw [qF (fun z=>by rw [z,hwl3] at e;cases e)]
   exact e
  lk
  refine ⟨_,_,_,_,rfl,rfl,SqT.of (nwl ep),rfl,?_⟩
  lk
  refine ⟨_,_,_,_,rfl,rfl,SqT.of (nwl eh),rfl,?_⟩
  refine ⟨_,_,rfl,?_⟩
  lk
  refine hR _ _ ⟨us++[a.best.s],L+(if a.head.s > 0 then a.head.s else 0),_,(s2.trans s3).upd hwl,by rw [qA,List.map_append];rfl,.inr ⟨_,by omega,rfl,m1⟩,in_max hL m2,rfl⟩
 rintro _ H3 ⟨ws,B,o6,s3,hwl3,hwr,hB,rfl⟩
 obtain ⟨hw,hwz,hwe⟩:=withs_of (by omega) hws hwr
 lk
 refine ⟨_,.inl ⟨_,SqL.of hwl3,rfl⟩,?_⟩
 by_cases hn:ns.length=1
 ·obtain rfl:=hwe.mpr hn
  exact f1 hn H3 s3
 ·have hne:ws≠[]:=fun z=>hn (hwe.mp z)
  have e:(!(!(ws.map V.int).isEmpty))=false:=by
   cases ws with
   | nil=>exact absurd rfl hne
   | cons _ _=>rfl
  show if (!(!(ws.map V.int).isEmpty))=true then _ else _
  rw [e]
  refine iteF ?_
  lk
  refine ⟨wl,ws,rfl,SqL.of hwl3,List.length_pos_iff.mpr hne,fun M hM1 hM2=>?_⟩
  lk
  exact f2 (by omega) _ H3 s3 ⟨M,B,hw M hM1 hM2,hB,rfl⟩
noncomputable def oV:Option Int→V
 | none=>.non
 | some i=>.int i
noncomputable def gm:Option Int→Option Int→Option Int
 | none,b=>b
 | some x,none=>some x
 | some x,some y=>some (if y > x then y else x)
theorem q1D {H H':Hp} {p:Addr} (s:Same H H') (h:H' p=none):H p=none:=by
 cases e:H p with
 | none=>rfl
 | some o=>rw [s p o e] at h;cases h
noncomputable def q3P:Sp:=fun vs H Q _=>∃ a b:Option Int,vs=[oV a,oV b]∧Q (oV (gm a b)) H
theorem ok_great {k:Nat} {f:Addr} {fd:FuncData} (F:Fun K "greater_of" "greater_of" q13 f fd) (Z:Blt mg):FnOk P w K mg base CX0 (k+1) f fd ["one","other"] q3P:=by
 refine F.ok q55 (fun vs H Q E h=>?_) (fun cdv A outer s H vs Q E hr h=>?_)
 ·obtain ⟨a,b,rfl,_⟩:=h
  rfl
 obtain ⟨a,b,rfl,q⟩:=h
 apply Exists.intro
 apply And.intro
 case left =>
  apply qB
  case h1 =>
   apply qZ
   case hc=>exact (qO q1B (pv 0) qj (qT _))
   case ha =>
    apply qD
    exact (qL (pv 1))
   case hb =>
    exact qP
  apply qB
  case h1 =>
   apply qZ
   case hc=>exact (qO q1B (pv 1) qj (qT _))
   case ha =>
    apply qD
    exact (qL (pv 0))
   case hb =>
    exact qP
  apply qD
  exact (qL (qV (q4C rfl) rfl Z.max_ PyProof.Rows.boot_max (q0 (pv 0) (q0 (pv 1) qC))))
 cases a with
 | none =>
  cases b with
  | none =>
   lk
   exact q
  | some y =>
   lk
   exact q
 | some x =>
  cases b with
  | none =>
   lk
   exact q
  | some y =>
   lk
   refine ⟨_,_,rfl,?_⟩
   exact q
noncomputable def sfx {α:Type} (op:α→α→α) (e:α) (n p:Nat) (f:Nat→α):α:=((List.range' p (n-p)).map f).foldr op e
theorem q1w {α:Type} {op:α→α→α} {e:α} {n p:Nat} {f:Nat→α} (h:n≤p):sfx op e n p f=e:=by
 unfold sfx
 rw [show n-p=0 by omega]
 rfl
theorem q0x {α:Type} {op:α→α→α} {e:α} {n p:Nat} {f:Nat→α} (h:p < n):sfx op e n p f=op (f p) (sfx op e n (p+1) f):=by
 unfold sfx
 rw [show n-p=(n-(p+1))+1 by omega,List.range'_succ,List.map_cons,List.foldr_cons]
theorem q34 {n:Nat} {C:Nat→Prop} (h0:∀ p,n≤p→C p) (hs:∀ p,p < n→C (p+1)→C p):∀ p,C p:=by
 intro p
 obtain ⟨d,hd⟩:∃ d,d=n-p:=⟨_,rfl⟩
 induction d generalizing p with
 | zero=>exact h0 p (by omega)
 | succ d ih=>exact hs p (by omega) (ih (p+1) (by omega))
noncomputable abbrev SL:=Int×List (Nat×Nat)
noncomputable def cb:Option SL→Option SL→Option SL
 | none,b=>b
 | some x,none=>some x
 | some x,some y=>some (if y.1 > x.1 then y else x)
noncomputable abbrev val (a:Option SL):Option Int:=a.map Prod.fst
theorem q3d (a b:Option SL):val (cb a b)=gm (val a) (val b):=by
 cases a with
 | none=>rfl
 | some x =>
  cases b with
  | none=>rfl
  | some y =>
   show some (if y.1 > x.1 then y else x).1=some (if y.1 > x.1 then y.1 else x.1)
   split <;> rfl
theorem cb_or (a b:Option SL):cb a b=a∨cb a b=b:=by
 cases a with
 | none=>exact .inr rfl
 | some x =>
  cases b with
  | none=>exact .inl rfl
  | some y =>
   show some (if y.1 > x.1 then y else x)=_∨some (if y.1 > x.1 then y else x)=_
   split
   ·exact .inr rfl
   ·exact .inl rfl
theorem cb_left {a b:Option SL} {x:SL} (e:cb a b=some x) (h:val a=val (cb a b)):a=some x:=by
 cases a with
 | none =>
  rw [e] at h
  cases h
 | some y =>
  cases b with
  | none=>exact e
  | some z =>
   rw [← e]
   have h':some y.1=some (if z.1 > y.1 then z else y).1:=h
   show some y=some (if z.1 > y.1 then z else y)
   split at h' <;> rename_i hz
   ·have:=Option.some.inj h'
    omega
   ·rw [if_neg hz]
theorem q7B {a b:Option SL} (h:val a≠val (cb a b)):cb a b=b:=by
 rcases cb_or a b with e | e
 ·exact absurd (by rw [e]) h
 ·exact e
theorem cb_none {a b:Option SL}:cb a b=none↔a=none∧b=none:=by
 cases a with
 | none=>exact ⟨fun e=>⟨rfl,e⟩,fun e=>e.2⟩
 | some x=>cases b <;> exact ⟨fun e=>(by cases e),fun e=>(by cases e.1)⟩
theorem gm_map {a b:Option Int} {k:Int}:(gm a b).map (k+·)=gm (a.map (k+·)) (b.map (k+·)):=by
 cases a with
 | none=>rfl
 | some x =>
  cases b with
  | none=>rfl
  | some y =>
   show some (k+(if y > x then y else x))=some (if k+y > k+x then k+y else k+x)
   by_cases h:y > x
   ·rw [if_pos h,if_pos (by omega)]
   ·rw [if_neg h,if_neg (by omega)]
noncomputable def put1 (ns:List Int) (f b:Nat) (s:SL):SL:=(psum ns b-psum ns f+s.1,(f,b)::s.2)
noncomputable def fgt (ns:List Int) (S:Nat→Option SL) (f b:Nat):Option SL:=sfx cb none (ns.length+1) b fun b'=>(S b').map (put1 ns f b')
noncomputable def fb (ns:List Int) (g:Nat):Nat→Nat→Option SL
 | 0,_=>some (0,[])
 | c+1,p=>sfx cb none ns.length p fun f=>fgt ns (fun b=>fb ns g c (b+g)) f (f+1)
noncomputable def fg (ns:List Int) (g c f:Nat):Option SL:=fgt ns (fun b=>fb ns g c (b+g)) f (f+1)
theorem q48 {ns:List Int} {g p:Nat}:fb ns g 0 p=some (0,[]):=by rw [fb]
theorem q4g {ns:List Int} {g c p:Nat} (h:ns.length≤p):fb ns g (c+1) p=none:=by rw [fb];exact q1w h
theorem q49 {ns:List Int} {g c p:Nat} (h:p < ns.length):fb ns g (c+1) p=cb (fg ns g c p) (fb ns g (c+1) (p+1)):=by
 rw [fb,q0x h,← fb]
 rfl
theorem q1h {ns:List Int} {S:Nat→Option SL} {f b:Nat} (h:ns.length+1≤b):fgt ns S f b=none:=q1w h
theorem q0m {ns:List Int} {S:Nat→Option SL} {f b:Nat} (h:b < ns.length+1):fgt ns S f b=cb ((S b).map (put1 ns f b)) (fgt ns S f (b+1)):=q0x h
theorem q1r {ns:List Int} {f b:Nat} {s:Option SL}:val (s.map (put1 ns f b))=(val s).map ((psum ns b-psum ns f)+·):=by
 cases s <;> rfl
theorem q60 {ns:List Int} {S:Nat→Option SL} {f f':Nat}:∀ b,val (fgt ns S f b)=(val (fgt ns S f' b)).map ((psum ns f'-psum ns f)+·):=by
 refine q34 (n:=ns.length+1) (fun p h=>?_) (fun p h ih=>?_)
 ·rw [q1h h,q1h h]
  rfl
 ·have e:∀ o:Option Int,o.map ((psum ns p-psum ns f)+·)=(o.map ((psum ns p-psum ns f')+·)).map ((psum ns f'-psum ns f)+·):=fun o=>by
   cases o with
   | none=>rfl
   | some x =>
    show some (psum ns p-psum ns f+x)=some (psum ns f'-psum ns f+(psum ns p-psum ns f'+x))
    rw [show psum ns p-psum ns f+x=psum ns f'-psum ns f+(psum ns p-psum ns f'+x) by omega]
  rw [q0m h,q0m h,q3d,q3d,gm_map,ih,q1r,q1r,e]
theorem fg_end {ns:List Int} {g c f:Nat} (h:ns.length≤f):fg ns g c f=none:=q1h (by omega)
theorem fg_val {ns:List Int} {g c f:Nat} (h:f < ns.length):val (fg ns g c f)=(gm (val (fb ns g c (f+1+g))) (val (fg ns g c (f+1)))).map (ns.getD f 0+·):=by
 have e1:=q0K (ns:=ns) (i:=f) h
 unfold fg
 rw [q0m (by omega),q3d,q1r,q60 (f':=f+1),gm_map]
 rw [show psum ns (f+1)-psum ns f=ns.getD f 0 by omega]
theorem fb_val {ns:List Int} {g c p:Nat} (h:p < ns.length):val (fb ns g (c+1) p)=gm (val (fg ns g c p)) (val (fb ns g (c+1) (p+1))):=by rw [q49 h,q3d]
theorem q6d {ns:List Int} {g:Nat}:∀ {c p:Nat},c=0∨(p≤ns.length∧c*(1+g)≤ns.length-p+g)→fb ns g c p≠none
 | 0,p,_=>by rw [q48];exact fun z=>by cases z
 | c+1,p,h=>by
  rcases h with h | ⟨hp,h⟩
  ·omega
  have hm:(c+1)*(1+g)=c*(1+g)+(1+g):=by rw [Nat.add_mul,Nat.one_mul]
  rw [q49 (by omega)]
  intro z
  have z1:=(cb_none.mp z).1
  unfold fg at z1
  rw [q0m (by omega)] at z1
  have z2:=(cb_none.mp z1).1
  refine q6d (ns:=ns) (g:=g) (c:=c) (p:=p+1+g) ?_ (Option.map_eq_none_iff.mp z2)
  by_cases hc:c=0
  ·exact .inl hc
  ·refine .inr ⟨?_,?_⟩
   ·have:1*(1+g)≤c*(1+g):=Nat.mul_le_mul_right _ (by omega)
    omega
   ·have:1*(1+g)≤c*(1+g):=Nat.mul_le_mul_right _ (by omega)
    omega
theorem q2v {ns:List Int} {g:Nat}:∀ {c p:Nat},c≠0→ns.length+g < c*(1+g)+p→fb ns g c p=none
 | 0,p,h,_=>absurd rfl h
 | c+1,p,_,h=>by
  have hm:(c+1)*(1+g)=c*(1+g)+(1+g):=by rw [Nat.add_mul,Nat.one_mul]
  have key:∀ b f,p≤f→f < b→fgt ns (fun b=>fb ns g c (b+g)) f b=none:=by
   intro b f hf hb
   revert hb
   refine q34 (n:=ns.length+1) (C:=fun b=>f < b→fgt ns (fun b=>fb ns g c (b+g)) f b=none) (fun b hb _=>q1h hb) (fun b hb ih hfb=>?_) b
   rw [q0m hb,ih (by omega)]
   by_cases hc:c=0
   ·subst hc
    omega
   ·rw [q2v hc (by omega)]
    rfl
  refine q34 (n:=ns.length) (C:=fun q=>p≤q→fb ns g (c+1) q=none) (fun q hq _=>q4g hq) (fun q hq ih hpq=>?_) p (Nat.le_refl _)
  rw [q49 hq,ih (by omega)]
  unfold fg
  rw [key _ _ hpq (by omega)]
  rfl
theorem ixN_ok {n:Nat} {k:Int} (h0:0≤k) (h:k < (n:Int)):ixN n k=some k.toNat:=by
 unfold ixN
 rw [if_pos h0,if_pos h]
noncomputable def qa (n:Nat) (g:Nat→Option Int):List (Option Int):=(List.range n).map g
theorem q0M {n:Nat} {g:Nat→Option Int}:(qa n g).length=n:=by
 unfold qa
 rw [List.length_map,List.length_range]
theorem q23 {n i:Nat} {g:Nat→Option Int} (h:i < n):(qa n g)[i]?=some (g i):=by
 unfold qa
 rw [List.getElem?_map,List.getElem?_range h]
 rfl
theorem q0H {n:Nat} {g h:Nat→Option Int} (e:∀ i,i < n→g i=h i):qa n g=qa n h:=List.map_congr_left fun i hi=>e i (List.mem_range.mp hi)
theorem line_set {n q:Nat} {g:Nat→Option Int} {x:Option Int}:(qa n g).set q x=qa n (fun k=>if k=q then x else g k):=by
 refine List.ext_getElem? fun i=>?_
 by_cases hi:i < n
 ·rw [q23 hi,List.getElem?_set]
  by_cases hq:q=i
  ·rw [if_pos hq,if_pos (by rw [q0M];omega),if_pos hq.symm]
  ·rw [if_neg hq,q23 hi,if_neg (fun z=>hq z.symm)]
 ·rw [List.getElem?_eq_none (by rw [List.length_set,q0M];omega),List.getElem?_eq_none (by rw [q0M];omega)]
theorem atO {n i:Nat} {g:Nat→Option Int} (h:i < n):atI ((qa n g).map oV) (i:Int)=some (oV (g i)):=qq (by rw [List.getElem?_map,q23 h];rfl)
theorem q5I {α:Type} {x:α}:∀ n:Nat,(List.replicate n [x]).flatten=List.replicate n x
 | 0=>rfl
 | n+1=>by rw [List.replicate_succ,List.flatten_cons,List.replicate_succ,q5I n];rfl
theorem q5C {n:Nat} {x:Option Int}:(List.replicate n [oV x]).flatten=(qa n (fun _=>x)).map oV:=by
 rw [q5I]
 unfold qa
 rw [List.map_map]
 have e:(oV ∘ fun (_:Nat)=>x)=fun _=>oV x:=rfl
 rw [e,List.map_const',List.length_range]
theorem q5q {m n i p:Nat} {g e:Nat→Option Int} (hp:p+(i+1)=n):qa m (fun k=>if k=p then g p else if n≤k+i then g k else e k)=qa m (fun k=>if n≤k+(i+1) then g k else e k):=by
 refine q0H fun k _=>?_
 by_cases h:k=p
 ·subst h
  rw [if_pos rfl,if_pos (by omega)]
 ·rw [if_neg h]
  by_cases h2:n≤k+i
  ·rw [if_pos h2,if_pos (by omega)]
  ·rw [if_neg h2,if_neg (by omega)]
theorem q5r {n q:Nat} {g:Nat→Option Int} {x:Option Int}:((qa n g).map oV).set q (oV x)=(qa n (fun k=>if k=q then x else g k)).map oV:=by rw [← List.map_set,line_set]
theorem gm_none {a:Option Int}:gm a none=a:=by cases a <;> rfl
theorem q6b {H:Hp} {l a d:Addr} {xs:List V} {n:Nat} {f:Nat→Option Int} (hl:H l=some (.lst xs)) (h0:xs[0]?=some (.ref d)) (ha:H a=some (.lst ((qa (n+1) f).map oV))):a≠l:=fun z=>by
 rw [z,hl] at ha
 have ha':xs=(qa (n+1) f).map oV:=by injection ha with q;injection q
 rw [ha',List.getElem?_map,q23 (by omega)] at h0
 cases e:f 0 with
 | none=>rw [e] at h0;cases h0
 | some x=>rw [e] at h0;cases h0
noncomputable def bgF (ns:List Int) (bf:Nat→Option Int) (p:Nat):Option Int:=val (fgt ns (fun b=>(bf b).map fun x=>(x,[])) p (p+1))
theorem bg_end {ns:List Int} {bf:Nat→Option Int} {p:Nat} (h:ns.length≤p):bgF ns bf p=none:=by
 unfold bgF
 rw [q1h (by omega)]
 rfl
theorem bg_step {ns:List Int} {bf:Nat→Option Int} {p:Nat} (h:p < ns.length):bgF ns bf p=(gm (bf (p+1)) (bgF ns bf (p+1))).map (ns.getD p 0+·):=by
 have e1:=q0K (ns:=ns) (i:=p) h
 have e2:∀ o:Option Int,val (o.map fun x=>((x,[]):SL))=o:=fun o=>by cases o <;> rfl
 unfold bgF
 rw [q0m (by omega),q3d,q1r,q60 (f':=p+1),gm_map,e2]
 rw [show psum ns (p+1)-psum ns p=ns.getD p 0 by omega]
theorem fgt_val {ns:List Int} {S S':Nat→Option SL} {f:Nat} (h:∀ b,b≤ns.length→val (S b)=val (S' b)):∀ b,val (fgt ns S f b)=val (fgt ns S' f b):=by
 refine q34 (n:=ns.length+1) (fun p hp=>?_) (fun p hp ih=>?_)
 ·rw [q1h hp,q1h hp]
 ·rw [q0m hp,q0m hp,q3d,q3d,ih,q1r,q1r,h p (by omega)]
theorem bg_fg {ns:List Int} {g c:Nat} {bf:Nat→Option Int} (h:∀ b,b≤ns.length→bf b=val (fb ns g c (b+g))) (p:Nat):bgF ns bf p=val (fg ns g c p):=by
 have e2:∀ o:Option Int,val (o.map fun x=>((x,[]):SL))=o:=fun o=>by cases o <;> rfl
 exact fgt_val (fun b hb=>by rw [e2,h b hb]) _
noncomputable def q51:Sp:=fun vs H Q _=>∃ (r b:Addr) (ns:List Int) (bf:Nat→Option Int),vs=[.ref r,.ref b]∧H r=some (.lst (ns.map V.int))∧H b=some (.lst ((qa (ns.length+1) bf).map oV))∧ns.length≤90000 ∧
 ∀ (l:Addr) (H':Hp),Same H H'→H l=none→H' l=some (.lst ((qa (ns.length+1) (bgF ns bf)).map oV))→Q (.ref l) H'
theorem ok_begun {k:Nat} {f:Addr} {fd:FuncData} (F:Fun K "begun_line" "begun_line" q16 f fd) (Z:Blt mg)
  (D_greater_of:Def P w K mg base k "greater_of" ["one","other"] q3P):FnOk P w K mg base CX0 (k+1) f fd ["row","behind"] q51:=by
 refine F.ok sc_begun_line (fun vs H Q E h=>?_) (fun cdv A outer s H vs Q E hr h=>?_)
 ·obtain ⟨r,b,ns,bf,rfl,_⟩:=h
  rfl
 obtain ⟨r,b,ns,bf,rfl,hR,hb,hn,q⟩:=h
 apply Exists.intro
 apply And.intro
 case left =>
  apply qB
  case h1 =>
   exact (qQ (i:=2) sc_begun_line.nd rfl (by walk_at "lr") (qU op_rep (qc (q0 qj qC)) (qU qf (qV (qS (K:=K) rfl) rfl Z.len_ PySem.boot_len (q0 (pv 0) qC)) qE)))
  apply qB
  case h1 =>
   apply q18 PassesOwn.never rfl
   case hi=>exact (q3v rfl Z.range_ (q0 (qU q0J (qV (qS (K:=K) rfl) rfl Z.len_ PySem.boot_len (q0 (pv 0) qC)) qE) (q0 (q3K q1l qE) (q0 (q3K q1l qE) qC))))
   case hg=>exact (qi (i:=3) sc_begun_line.nd rfl (by walk_at "lr"))
   case hb =>
    apply qB
    case h1 =>
     exact (qQ (i:=4) sc_begun_line.nd rfl (by walk_at "lr") (qM D_greater_of hr rfl (q0 (qJ (qK (K:=K) rfl) (pv 1) (qU qf (pv 3) qE) (fun _ _=>rfl)) (q0 (qJ (qK (K:=K) rfl) (pv 2) (qU qf (pv 3) qE) (fun _ _=>rfl)) qC))))
    apply qD
    apply qZ
    case hc=>exact (qO q3z (pv 4) qj (qT _))
    case ha =>
     apply qD
     exact (ps_asg (qU qf (qJ (qK (K:=K) rfl) (pv 0) (pv 3) (fun _ _=>rfl)) (pv 4)) (pg_sub (pv 2) (pv 3) q6t (fun _=>rfl)))
    case hb =>
     exact qP
  apply qD
  exact (qL (pv 2))
 have hl:(ns.map V.int).length=ns.length:=List.length_map _
 lk
 refine ⟨by show 1≤sizeLine;decide,fun l1 h1=>?_⟩
 lk
 refine ⟨r,_,rfl,.inl (SqL.of (Same.new h1 _ _ _ hR)),?_⟩
 lk
 rw [hl]
 refine ⟨l1,(ns.length:Int)+1,_,rfl,rfl,qA,by omega,by omega,?_,fun st hst=>?_⟩
 ·show 1*((ns.length:Int)+1).toNat≤sizeLine
  exact Nat.le_of_lt (small (by omega))
 have en:((ns.length:Int)+1).toNat=ns.length+1:=by omega
 have hsh:H st=none:=q1D (Same.new h1 _) hst
 have s1:Same H (upd (upd H l1 (.lst [.non])) st (.lst (List.replicate ((ns.length:Int)+1).toNat [V.non]).flatten)):=(Same.new h1 _).upd hsh
 lk
 refine ⟨r,_,rfl,.inl (SqL.of (s1 _ _ hR)),?_⟩
 lk
 refine ⟨_,_,rfl,⟨by omega,by omega,by omega,by omega⟩,?_⟩
 have eN:(((ns.map V.int).length:Int)-1 - -1).toNat=ns.length:=by omega
 rw [eN]
 refine q5H (fun i σ H'=>∃ o3 o4,Same H H'∧H' st=some (.lst ((qa (ns.length+1) (fun p=>if ns.length≤p+i then bgF ns bf p else none)).map oV))∧σ=[some (.ref r),some (.ref b),some (.ref st),o3,o4]) ⟨none,none,s1,?_,rfl⟩ ?_ ?_
 ·rw [qA,en,show V.non=oV none from rfl,q5C (x:=none)]
  refine congrArg (fun z=>some (HO.lst (List.map oV z))) (q0H fun i hi=>?_)
  split
  ·rw [bg_end (by omega)]
  ·rfl
 ·rintro i σ H1 hi ⟨o3,o4,sm,hl1,rfl⟩
  have ei:(((ns.map V.int).length:Int)-1-i)=((ns.length-1-i:Nat):Int):=by omega
  have hp1:ns.length-1-i+1 < ns.length+1:=by omega
  have hb1:=sm _ _ hb
  rw [ei]
  obtain ⟨p,hp⟩:∃ p,p=ns.length-1-i:=⟨_,rfl⟩
  rw [← hp]
  lk
  refine ⟨b,_,((p+1:Nat):Int),_,rfl,by push_cast;rfl,SqL.of hb1,atO (by omega),?_⟩
  lk
  refine ⟨st,_,((p+1:Nat):Int),_,rfl,by push_cast;rfl,SqL.of hl1,atO (by omega),?_⟩
  refine ⟨_,_,rfl,?_⟩
  rw [if_pos (by omega)]
  have e3:=bg_step (ns:=ns) (bf:=bf) (p:=p) (by omega)
  have hR1:=sm _ _ hR
  generalize gm (bf (p+1)) (bgF ns bf (p+1))=o at e3 ⊢
  have hld:=q5q (m:=ns.length+1) (n:=ns.length) (i:=i) (p:=p) (g:=bgF ns bf) (e:=fun _=>none) (by omega)
  cases o with
  | none =>
   lk
   refine ⟨_,_,sm,?_,rfl⟩
   rw [hl1,← hld]
   refine congrArg (fun z=>some (HO.lst (List.map oV z))) (q0H fun k hk=>?_)
   by_cases z:k=p
   ·subst z
    rw [if_pos rfl,e3,if_neg (by omega)]
    rfl
   ·rw [if_neg z]
  | some x =>
   lk
   refine ⟨r,_,_,_,rfl,rfl,SqL.of hR1,q2y (by omega) (by omega),?_⟩
   rw [show ((p:Nat):Int).toNat=p by omega]
   lk
   refine ⟨st,_,_,_,rfl,rfl,hl1,ixN_ok (by omega) (by rw [List.length_map,q0M];omega),?_⟩
   lk
   refine ⟨_,_,sm.upd hsh,?_,rfl⟩
   dsimp only
   rw [qA,show ((p:Nat):Int).toNat=p by omega,show V.int (ns.getD p 0+x)=oV (bgF ns bf p) by rw [e3];rfl,q5r,hld]
 ·rintro σ H1 ⟨o3,o4,sm,hl1,rfl⟩
  lk
  refine q st H1 sm hsh ?_
  rw [hl1]
  refine congrArg (fun z=>some (HO.lst (List.map oV z))) (q0H fun i hi=>?_)
  rw [if_pos (by omega)]
noncomputable def q50:Sp:=fun vs H Q _=>∃ (a:Addr) (m:Nat) (bf:Nat→Option Int),vs=[.ref a]∧H a=some (.lst ((qa (m+1) bf).map oV))∧m≤90000 ∧
 ∀ (l:Addr) (H':Hp),Same H H'→H l=none→H' l=some (.lst ((qa (m+1) (fun p=>sfx gm none (m+1) p bf)).map oV))→Q (.ref l) H'
theorem ok_bestl {k:Nat} {f:Addr} {fd:FuncData} (F:Fun K "best_line" "best_line" q1c f fd) (Z:Blt mg)
  (D_greater_of:Def P w K mg base k "greater_of" ["one","other"] q3P):FnOk P w K mg base CX0 (k+1) f fd ["begun"] q50:=by
 refine F.ok sc_best_line (fun vs H Q E h=>?_) (fun cdv A outer s H vs Q E hr h=>?_)
 ·obtain ⟨a,m,bf,rfl,_⟩:=h
  rfl
 obtain ⟨a,m,bf,rfl,hA,hm,q⟩:=h
 apply Exists.intro
 apply And.intro
 case left =>
  apply qB
  case h1 =>
   exact (qQ (i:=1) sc_best_line.nd rfl (by walk_at "lr") (qd (qm (K:=K) rfl) rfl Z.list_ PyProof.Rows.boot_list (q0 (pv 0) qC)))
  apply qB
  case h1 =>
   apply q18 PassesOwn.never rfl
   case hi=>exact (q3v rfl Z.range_ (q0 (qU q0J (qV (qS (K:=K) rfl) rfl Z.len_ PySem.boot_len (q0 (pv 0) qC)) qE) (q0 (q3K q1l qE) (q0 (q3K q1l qE) qC))))
   case hg=>exact (qi (i:=2) sc_best_line.nd rfl (by walk_at "lr"))
   case hb =>
    apply qD
    exact (ps_asg (qM D_greater_of hr rfl (q0 (qJ (qK (K:=K) rfl) (pv 0) (pv 2) (fun _ _=>rfl)) (q0 (qJ (qK (K:=K) rfl) (pv 1) (qU qf (pv 2) qE) (fun _ _=>rfl)) qC))) (pg_sub (pv 1) (pv 2) q6t (fun _=>rfl)))
  apply qD
  exact (qL (pv 1))
 have hl:((qa (m+1) bf).map oV).length=m+1:=by rw [List.length_map,q0M]
 lk
 refine ⟨a,_,rfl,.inl (SqL.of hA),fun st hst=>?_⟩
 have s1:Same H (upd H st (.lst ((qa (m+1) bf).map oV))):=Same.new hst _
 lk
 refine ⟨a,_,rfl,.inl (SqL.of (s1 _ _ hA)),?_⟩
 lk
 refine ⟨_,_,rfl,⟨by omega,by omega,by omega,by omega⟩,?_⟩
 have eN:((((qa (m+1) bf).map oV).length:Int)-2 - -1).toNat=m:=by omega
 rw [eN]
 refine q5H (fun i σ H'=>∃ o2,Same H H'∧H' st=some (.lst ((qa (m+1) (fun p=>if m≤p+i then sfx gm none (m+1) p bf else bf p)).map oV))∧σ=[some (.ref a),some (.ref st),o2]) ⟨none,s1,?_,rfl⟩ ?_ ?_
 ·rw [qA]
  refine congrArg (fun z=>some (HO.lst (List.map oV z))) (q0H fun i hi=>?_)
  split
  ·rw [q0x (by omega),q1w (by omega),gm_none]
  ·rfl
 ·rintro i σ H1 hi ⟨o2,sm,hl1,rfl⟩
  have ei:((((qa (m+1) bf).map oV).length:Int)-2-i)=((m-1-i:Nat):Int):=by omega
  have hA1:=sm _ _ hA
  rw [ei]
  obtain ⟨p,hp⟩:∃ p,p=m-1-i:=⟨_,rfl⟩
  rw [← hp]
  have hld:=q5q (m:=m+1) (n:=m) (i:=i) (p:=p) (g:=fun p=>sfx gm none (m+1) p bf) (e:=bf) (by omega)
  lk
  refine ⟨a,_,_,_,rfl,rfl,SqL.of hA1,atO (by omega),?_⟩
  lk
  refine ⟨st,_,((p+1:Nat):Int),_,rfl,by push_cast;rfl,SqL.of hl1,atO (by omega),?_⟩
  refine ⟨_,_,rfl,?_⟩
  rw [if_pos (by omega),← q0x (op:=gm) (e:=none) (n:=m+1) (p:=p) (f:=bf) (by omega)]
  lk
  refine ⟨st,_,_,_,rfl,rfl,hl1,ixN_ok (by omega) (by rw [List.length_map,q0M];omega),?_⟩
  lk
  refine ⟨_,sm.upd hst,?_,rfl⟩
  rw [qA,show ((p:Nat):Int).toNat=p by omega,q5r,hld]
 ·rintro σ H1 ⟨o2,sm,hl1,rfl⟩
  lk
  refine q st H1 sm hst ?_
  rw [hl1]
  refine congrArg (fun z=>some (HO.lst (List.map oV z))) (q0H fun i hi=>?_)
  rw [if_pos (by omega)]
noncomputable def q6I:Sp:=fun vs H Q _=>∃ (a:Addr) (m g:Nat) (bf:Nat→Option Int),vs=[.ref a,.int g]∧H a=some (.lst ((qa (m+1) bf).map oV))∧m≤40000 ∧
 ∀ (l:Addr) (H':Hp),Same H H'→H l=none→H' l=some (.lst ((qa (m+1) (fun p=>if p+g < m+1 then bf (p+g) else none)).map oV))→Q (.ref l) H'
theorem line_drop {n g:Nat} {bf:Nat→Option Int}:(qa n bf).drop (min g n)++List.replicate (min g n) none=qa n (fun p=>if p+g < n then bf (p+g) else none):=by
 have ll:=q0M (n:=n) (g:=bf)
 refine List.ext_getElem? fun i=>?_
 by_cases hi:i < n
 ·rw [q23 hi]
  by_cases h:i+g < n
  ·rw [if_pos h,List.getElem?_append_left (by rw [List.length_drop];omega),List.getElem?_drop,show min g n+i=i+g by omega,q23 h]
  ·rw [if_neg h,List.getElem?_append_right (by rw [List.length_drop];omega),List.length_drop,ll,List.getElem?_replicate,if_pos (by omega)]
 ·rw [List.getElem?_eq_none (by rw [List.length_append,List.length_drop,List.length_replicate];omega),List.getElem?_eq_none (by rw [q0M];omega)]
theorem ok_behl {k:Nat} {f:Addr} {fd:FuncData} (F:Fun K "behind_line" "behind_line" q0j f fd) (Z:Blt mg):FnOk P w K mg base CX0 (k+1) f fd ["best","gap"] q6I:=by
 refine F.ok q4I (fun vs H Q E h=>?_) (fun cdv A outer s H vs Q E hr h=>?_)
 ·obtain ⟨a,m,g,bf,rfl,_⟩:=h
  rfl
 obtain ⟨a,m,g,bf,rfl,hA,hm,q⟩:=h
 apply Exists.intro
 apply And.intro
 case left =>
  apply qD
  exact (qL (qU q2S (q1A (q2C (K:=K) rfl) (pv 0) (q1g (pv 1)) q2X) (qU op_rep (qc (q0 qj qC)) (qV (q65 rfl) rfl Z.min_ PyProof.Rows.boot_min (q0 (pv 1) (q0 (qV (qS (K:=K) rfl) rfl Z.len_ PySem.boot_len (q0 (pv 0) qC)) qC))))))
 have hl:((qa (m+1) bf).map oV).length=m+1:=by rw [List.length_map,q0M]
 lk
 refine ⟨a,_,rfl,SqL.of hA,fun p1 hp1=>?_⟩
 have s1:=Same.new hp1 (.lst (cutV ((qa (m+1) bf).map oV) (some (g:Int)) none))
 lk
 refine ⟨by show 1≤sizeLine;decide,fun p2 hp2=>?_⟩
 have hp2':=q1D s1 hp2
 have s2:=s1.upd (o:=.lst [.non]) hp2'
 lk
 refine ⟨a,_,rfl,.inl (SqL.of (s2 _ _ hA)),?_⟩
 refine ⟨_,_,rfl,?_⟩
 have ek:(if ((((qa (m+1) bf).map oV).length:Nat):Int) < (g:Int) then ((((qa (m+1) bf).map oV).length:Nat):Int) else (g:Int))=((min g (m+1):Nat):Int):=by
  rw [hl]
  split <;> omega
 rw [ek]
 refine ⟨p2,_,_,rfl,rfl,qA,by omega,by omega,?_,fun p3 hp3=>?_⟩
 ·show 1*((min g (m+1):Nat):Int).toNat≤sizeLine
  exact Nat.le_of_lt (small (by omega))
 have hp3':=q1D s2 hp3
 have s3:=s2.upd (o:=.lst (List.replicate ((min g (m+1):Nat):Int).toNat [V.non]).flatten) hp3'
 have e1:p1≠p2:=fun z=>by rw [z,qA] at hp2;cases hp2
 have e2:p1≠p3:=fun z=>by rw [← z,qF e1,qA] at hp3;cases hp3
 have ec:cutV ((qa (m+1) bf).map oV) (some (g:Int)) none=((qa (m+1) bf).drop (min g (m+1))).map oV:=by
  unfold cutV
  rw [HT.sIx_nat,HT.sIx_none,hl,List.map_drop,List.take_of_length_le (by rw [List.length_drop,hl];omega)]
 refine ⟨p1,p3,_,_,rfl,rfl,by rw [qF e2,qF e1,qA],qA,?_,fun p4 hp4=>?_⟩
 ·refine Nat.le_of_lt (small ?_)
  have:=q4B ((qa (m+1) bf).map oV) (some (g:Int)) none
  rw [q5I,List.length_replicate]
  omega
 have hp4':=q1D s3 hp4
 refine q p4 _ (s3.upd hp4') hp4' ?_
 rw [qA,ec,show ((min g (m+1):Nat):Int).toNat=min g (m+1) from rfl,show V.non=oV none from rfl,q5C,← List.map_append]
 have er:qa (min g (m+1)) (fun _=>none)=List.replicate (min g (m+1)) none:=by
  unfold qa
  rw [List.map_const',List.length_range]
 rw [er,line_drop]
noncomputable def bgV (ns:List Int) (g:Nat):Nat→Nat→Option Int
 | 0,_=>some 0
 | c+1,p=>val (fg ns g c p)
noncomputable def LnAt (H:Hp) (ns:List Int) (g c:Nat) (d:Addr):Prop:=∃ a b e:Addr,H d=some (.dK [(.inr "begun",.ref a),(.inr "best",.ref b),(.inr "behind",.ref e)])∧H a=some (.lst ((qa (ns.length+1) (bgV ns g c)).map oV))∧H b=some (.lst ((qa (ns.length+1) (fun p=>val (fb ns g c p))).map oV))∧H e=some (.lst ((qa (ns.length+1) (fun p=>val (fb ns g c (p+g)))).map oV))
theorem LnAt.keep {H H':Hp} {ns:List Int} {g c:Nat} {d:Addr} (h:LnAt H ns g c d) (s:Same H H'):LnAt H' ns g c d:=by
 obtain ⟨a,b,e,h1,h2,h3,h4⟩:=h
 exact ⟨a,b,e,s _ _ h1,s _ _ h2,s _ _ h3,s _ _ h4⟩
theorem LnAt.upd {H:Hp} {ns:List Int} {g c:Nat} {l d d0:Addr} {xs ys:List V} (h:LnAt H ns g c d) (hl:H l=some (.lst xs)) (h0:xs[0]?=some (.ref d0)):LnAt (upd H l (.lst ys)) ns g c d:=by
 obtain ⟨a,b,e,h1,h2,h3,h4⟩:=h
 exact ⟨a,b,e,by rw [qF (fun z=>by rw [z,hl] at h1;cases h1)];exact h1,by rw [qF (q6b hl h0 h2)];exact h2,by rw [qF (q6b hl h0 h3)];exact h3,by rw [qF (q6b hl h0 h4)];exact h4⟩
noncomputable def Lns (H:Hp) (ns:List Int) (g m:Nat) (xs:List V):Prop:=xs.length=m∧∀ c,c < m→∃ d,xs[c]?=some (.ref d)∧LnAt H ns g c d
noncomputable def q2A:Sp:=fun vs H Q _=>∃ (r:Addr) (ns:List Int) (m g:Nat),vs=[.ref r,.int m,.int g]∧H r=some (.lst (ns.map V.int))∧ns.length≤20000∧m≤40000 ∧
 ∀ (l:Addr) (xs:List V) (H':Hp),Same H H'→H l=none→H' l=some (.lst xs)→Lns H' ns g (m+1) xs→Q (.ref l) H'
theorem ok_lines {k:Nat} {f:Addr} {fd:FuncData} (F:Fun K "lines_of" "lines_of" q2G f fd) (Z:Blt mg)
  (D_begun_line:Def P w K mg base k "begun_line" ["row","behind"] q51) (D_best_line:Def P w K mg base k "best_line" ["begun"] q50) (D_behind_line:Def P w K mg base k "behind_line" ["best","gap"] q6I):FnOk P w K mg base CX0 (k+1) f fd ["row","many","gap"] q2A:=by
 refine F.ok sc_lines_of (fun vs H Q E h=>?_) (fun cdv A outer s H vs Q E hr h=>?_)
 ·obtain ⟨r,ns,m,g,rfl,_⟩:=h
  rfl
 obtain ⟨r,ns,m,g,rfl,hR,hn,hm,q⟩:=h
 apply Exists.intro
 apply And.intro
 case left =>
  apply qB
  case h1 =>
   exact (qQ (i:=3) sc_lines_of.nd rfl (by walk_at "lr") (qU op_rep (qc (q0 qE qC)) (qU qf (qV (qS (K:=K) rfl) rfl Z.len_ PySem.boot_len (q0 (pv 0) qC)) qE)))
  apply qB
  case h1 =>
   exact (qQ (i:=4) sc_lines_of.nd rfl (by walk_at "lr") (qc (q0 (q6T (q19 qR (pv 3) (q19 qR (pv 3) (q19 qR (pv 3) q6S))) rfl rfl (List.cons_ne_nil _ _) (by decide)) qC)))
  apply qB
  case h1 =>
   apply q18 PassesOwn.never rfl
   case hi=>exact (q3w rfl Z.range_ (q0 qE (q0 (qU qf (pv 1) qE) qC)))
   case hg=>exact (qi (i:=5) sc_lines_of.nd rfl (by walk_at "lr"))
   case hb =>
    apply qB
    case h1 =>
     exact (qQ (i:=6) sc_lines_of.nd rfl (by walk_at "lr") (qM D_begun_line hr rfl (q0 (pv 0) (q0 (q04 (q0l hr) (qJ (qK (K:=K) rfl) (pv 4) (qU q0J (pv 5) qE) (fun _ _=>rfl)) qR (fun _ _=>rfl)) qC))))
    apply qB
    case h1 =>
     exact (qQ (i:=7) sc_lines_of.nd rfl (by walk_at "lr") (qM D_best_line hr rfl (q0 (pv 6) qC)))
    apply qD
    exact (qo (q1Q (K:=K) rfl PySem.F.plainAttrs_list PySem.F.slot_list_append PySem.F.type_list_append q02 (pv 4) (q0 (q6T (q19 qR (pv 6) (q19 qR (pv 7) (q19 qR (qM D_behind_line hr rfl (q0 (pv 7) (q0 (pv 2) qC))) q6S))) rfl rfl (List.cons_ne_nil _ _) (by decide)) qC)))
  apply qD
  exact (qL (pv 4))
 have hl:(ns.map V.int).length=ns.length:=List.length_map _
 lk
 refine ⟨by show 1≤sizeLine;decide,fun p1 hp1=>?_⟩
 have s1:=Same.new hp1 (.lst [.int 0])
 lk
 refine ⟨r,_,rfl,.inl (SqL.of (s1 _ _ hR)),?_⟩
 lk
 rw [hl]
 refine ⟨p1,_,_,rfl,rfl,qA,by omega,by omega,?_,fun p2 hp2=>?_⟩
 ·show 1*((ns.length:Int)+1).toNat≤sizeLine
  exact Nat.le_of_lt (small (by omega))
 have hp2':=q1D s1 hp2
 have s2:=s1.upd (o:=.lst (List.replicate ((ns.length:Int)+1).toNat [V.int 0]).flatten) hp2'
 have h2:upd (upd H p1 (.lst [.int 0])) p2 (.lst (List.replicate ((ns.length:Int)+1).toNat [V.int 0]).flatten) p2=some (.lst ((qa (ns.length+1) (fun _=>some 0)).map oV)):=by
  rw [qA,show ((ns.length:Int)+1).toNat=ns.length+1 by omega,show V.int 0=oV (some 0) from rfl,q5C]
 generalize upd (upd H p1 (.lst [.int 0])) p2 (.lst (List.replicate ((ns.length:Int)+1).toNat [V.int 0]).flatten)=H2 at s2 h2 ⊢
 lk
 intro p3 hp3
 lk
 refine ⟨qA,[(.inr "begun",.ref p2),(.inr "best",.ref p2),(.inr "behind",.ref p2)],rfl,(by show 3≤15;decide),?_⟩
 have hp3':=q1D s2 hp3
 have L0:LnAt (upd (upd H2 p3 (.dK [])) p3 (.dK (q1R [] [(.inr "begun",.ref p2),(.inr "best",.ref p2),(.inr "behind",.ref p2)]))) ns g 0 p3:=by
  have h2':upd (upd H2 p3 (.dK [])) p3 (.dK (q1R [] [(.inr "begun",.ref p2),(.inr "best",.ref p2),(.inr "behind",.ref p2)])) p2=some (.lst ((qa (ns.length+1) (fun _=>some 0)).map oV)):=by
   have e:p2≠p3:=fun z=>by rw [← z,h2] at hp3;cases hp3
   rw [qF e,qF e,h2]
  refine ⟨p2,p2,p2,by rw [qA];rfl,h2',?_,?_⟩
  ·rw [h2']
   exact congrArg (fun z=>some (HO.lst (List.map oV z))) (q0H fun i hi=>by rw [q48];rfl)
  ·rw [h2']
   exact congrArg (fun z=>some (HO.lst (List.map oV z))) (q0H fun i hi=>by rw [q48];rfl)
 have s3:=(s2.upd (o:=.dK []) hp3').upd (o:=.dK (q1R [] [(.inr "begun",.ref p2),(.inr "best",.ref p2),(.inr "behind",.ref p2)])) hp3'
 generalize upd (upd H2 p3 (.dK [])) p3 (.dK (q1R [] [(.inr "begun",.ref p2),(.inr "best",.ref p2),(.inr "behind",.ref p2)]))=H3 at s3 L0 ⊢
 lk
 refine ⟨by show 1≤sizeLine;decide,fun l hl0=>?_⟩
 have hl0':=q1D s3 hl0
 have s4:=s3.upd (o:=.lst [.ref p3]) hl0'
 lk
 refine ⟨_,_,rfl,⟨by omega,by omega,by omega,by omega⟩,?_⟩
 rw [show ((m:Int)+1-1).toNat=m by omega]
 refine q27 (fun i σ H'=>∃ xs o5 o6 o7,Same H H'∧H' l=some (.lst xs)∧Lns H' ns g (i+1) xs∧σ=[some (.ref r),some (.int m),some (.int g),some (.ref p2),some (.ref l),o5,o6,o7]) ⟨_,none,none,none,s4,qA,⟨rfl,fun c hc=>?_⟩,rfl⟩ ?_ ?_
 ·have:c=0:=by omega
  subst this
  exact ⟨p3,rfl,L0.keep (Same.new hl0 _)⟩
 ·rintro i σ H4 hi ⟨xs,o5,o6,o7,sm,hl4,⟨hx,hc⟩,rfl⟩
  have hR4:=sm _ _ hR
  obtain ⟨d,hd,a,b,e,hd1,ha,hb,he⟩:=hc i (by omega)
  obtain ⟨d0,hd0,_⟩:=hc 0 (by omega)
  lk
  refine ⟨l,_,((i:Nat):Int),_,rfl,(by show V.int ((1:Int)+i-1)=_;rw [show (1:Int)+i-1=i by omega]),SqL.of hl4,qq hd,?_⟩
  lk
  refine ⟨d,_,rfl,(show DGet _ _ (.str "behind") (some (.ref e)) from DGet.k (k:=.inr "behind") hd1),?_⟩
  refine ⟨r,e,ns,_,rfl,hR4,he,by omega,fun lb H5 s5 hlb0 hlb=>?_⟩
  lk
  refine ⟨lb,ns.length,_,rfl,hlb,by omega,fun lt H6 s6 hlt0 hlt=>?_⟩
  have s46:Same H4 H6:=fun b o z=>s6 _ _ (s5 _ _ z)
  have hl6:=s46 _ _ hl4
  lk
  refine ⟨.inl ⟨rfl,_,SqL.of hl6⟩,?_⟩
  lk
  intro pd hpd
  have s7:=Same.new hpd (.dK [])
  lk
  refine ⟨lt,ns.length,g,_,rfl,s7 _ _ hlt,by omega,fun le H7 s8 hle0 hle=>?_⟩
  have s67:Same H6 H7:=fun b o z=>s8 _ _ (s7 _ _ z)
  have s47:Same H4 H7:=fun b o z=>s67 _ _ (s46 _ _ z)
  have hpd4:H4 pd=none:=q1D s46 hpd
  refine ⟨s8 _ _ qA,[(.inr "begun",.ref lb),(.inr "best",.ref lt),(.inr "behind",.ref le)],rfl,(by show 3≤15;decide),?_⟩
  have s48:=s47.upd (o:=.dK (q1R [] [(.inr "begun",.ref lb),(.inr "best",.ref lt),(.inr "behind",.ref le)])) hpd4
  have nle:le≠pd:=fun z=>by rw [z,s8 _ _ qA] at hle;cases hle
  have nlt:lt≠pd:=fun z=>by rw [← z,hlt] at hpd;cases hpd
  have nlb:lb≠pd:=fun z=>by rw [← z,s6 _ _ hlb] at hpd;cases hpd
  have fgE:∀ p,bgF ns (fun p=>val (fb ns g i (p+g))) p=val (fg ns g i p):=bg_fg fun b _=>rfl
  have fbE:∀ p,sfx gm none (ns.length+1) p (bgF ns (fun p=>val (fb ns g i (p+g))))=val (fb ns g (i+1) p):=by
   refine q34 (n:=ns.length) (fun p hp=>?_) (fun p hp ih=>?_)
   ·rw [q4g hp]
    by_cases z:p < ns.length+1
    ·rw [q0x z,q1w (by omega),gm_none,bg_end hp]
     rfl
    ·rw [q1w (by omega)]
     rfl
   ·rw [q0x (by omega),ih,fgE,fb_val hp]
  have L1:LnAt (upd H7 pd (.dK (q1R [] [(.inr "begun",.ref lb),(.inr "best",.ref lt),(.inr "behind",.ref le)]))) ns g (i+1) pd:=by
   refine ⟨lb,lt,le,by rw [qA];rfl,?_,?_,?_⟩
   ·rw [qF nlb,s67 _ _ (s6 _ _ hlb)]
    exact congrArg (fun z=>some (HO.lst (List.map oV z))) (q0H fun j _=>fgE j)
   ·rw [qF nlt,s67 _ _ hlt]
    exact congrArg (fun z=>some (HO.lst (List.map oV z))) (q0H fun j _=>fbE j)
   ·rw [qF nle,hle]
    refine congrArg (fun z=>some (HO.lst (List.map oV z))) (q0H fun j _=>?_)
    rw [fbE]
    split
    ·rfl
    ·rw [q4g (by omega)]
     rfl
  generalize upd H7 pd (.dK (q1R [] [(.inr "begun",.ref lb),(.inr "best",.ref lt),(.inr "behind",.ref le)]))=H8 at s48 L1 ⊢
  have hl8:=s48 _ _ hl4
  lk
  refine ⟨l,_,_,rfl,rfl,hl8,small (by omega),?_⟩
  refine ⟨_,_,_,_,(show Same H H8 from fun b o z=>s48 _ _ (sm _ _ z)).upd hl0',qA,⟨by rw [List.length_append,hx];rfl,fun c hc'=>?_⟩,rfl⟩
  by_cases z:c=i+1
  ·subst z
   exact ⟨pd,by rw [List.getElem?_append_right (by omega),hx,Nat.sub_self];rfl,L1.upd hl8 hd0⟩
  ·obtain ⟨dc,hdc,Lc⟩:=hc c (by omega)
   exact ⟨dc,by rw [List.getElem?_append_left (by omega)];exact hdc,(Lc.keep s48).upd hl8 hd0⟩
 ·rintro σ H4 ⟨xs,o5,o6,o7,sm,hl4,hL,rfl⟩
  lk
  exact q l xs H4 sm hl0' hl4 hL
noncomputable def Pairs (H:Hp) (xs:List V) (ps:List (Int×Int)):Prop:=xs.length=ps.length∧∀ (j:Nat) x,xs[j]?=some x→∃ (t:Addr) (p:Int×Int),ps[j]?=some p∧x = .ref t∧H t=some (.tup [.int p.1,.int p.2])
theorem Pairs.keep {H H':Hp} {xs:List V} {ps:List (Int×Int)} (h:Pairs H xs ps) (s:Same H H'):Pairs H' xs ps:=⟨h.1,fun j x e=>by
 obtain ⟨t,p,h1,h2,h3⟩:=h.2 j x e
 exact ⟨t,p,h1,h2,s _ _ h3⟩⟩
theorem Pairs.keepL {H H':Hp} {xs:List V} {ps:List (Int×Int)} {l:Addr} {o:List V} (h:Pairs H xs ps) (hl:H l=some (.lst o)) (s:∀ b u,b≠l→H b=some u→H' b=some u):Pairs H' xs ps:=⟨h.1,fun j x e=>by
 obtain ⟨t,p,h1,h2,h3⟩:=h.2 j x e
 exact ⟨t,p,h1,h2,s _ _ (fun z=>by subst z;rw [hl] at h3;cases h3) h3⟩⟩
theorem Pairs.nil {H:Hp}:Pairs H [] []:=⟨rfl,fun j x e=>by cases e⟩
theorem Pairs.snoc {H:Hp} {xs:List V} {ps:List (Int×Int)} {t:Addr} {a b:Int} (h:Pairs H xs ps) (ht:H t=some (.tup [.int a,.int b])):Pairs H (xs++[.ref t]) (ps++[(a,b)]):=⟨by rw [List.length_append,List.length_append,h.1];rfl,fun j x e=>by
 by_cases hj:j < xs.length
 ·rw [List.getElem?_append_left hj] at e
  obtain ⟨t',p,h1,h2,h3⟩:=h.2 j x e
  refine ⟨t',p,?_,h2,h3⟩
  rw [List.getElem?_append_left (by rw [← h.1];exact hj)]
  exact h1
 ·rw [List.getElem?_append_right (by omega)] at e
  have hj0:j-xs.length=0:=by
   cases z:j-xs.length with
   | zero=>rfl
   | succ n=>rw [z] at e;cases e
  rw [hj0] at e
  cases e
  refine ⟨t,(a,b),?_,rfl,ht⟩
  rw [List.getElem?_append_right (by rw [← h.1];omega),← h.1,hj0]
  rfl⟩
theorem oV_inj {u v:Option Int}:oV u=oV v↔u=v:=by cases u <;> cases v <;> simp [oV]
theorem scal_oV {u v:Option Int}:scal (oV u) (oV v)=true:=by cases u <;> cases v <;> rfl
theorem ifNe {u v:Option Int} {A B:Prop} (h1:u≠v→A) (h2:u=v→B):if (!decide (oV u=oV v))=true then A else B:=by
 by_cases h:u=v
 ·rw [if_neg (by rw [decide_eq_true (oV_inj.mpr h)];decide)]
  exact h2 h
 ·rw [if_pos (by rw [decide_eq_false (fun z=>h (oV_inj.mp z))];rfl)]
  exact h1 h
noncomputable def prI (p:Nat×Nat):Int×Int:=((p.1:Int),(p.2:Int))
theorem dBegun {H:Hp} {d:Addr} {a b e:Addr} (h:H d=some (.dK [(.inr "begun",.ref a),(.inr "best",.ref b),(.inr "behind",.ref e)])):DGet H d (.str "begun") (some (.ref a)):=DGet.k (k:=.inr "begun") h
theorem dBest {H:Hp} {d:Addr} {a b e:Addr} (h:H d=some (.dK [(.inr "begun",.ref a),(.inr "best",.ref b),(.inr "behind",.ref e)])):DGet H d (.str "best") (some (.ref b)):=DGet.k (k:=.inr "best") h
theorem dBehind {H:Hp} {d:Addr} {a b e:Addr} (h:H d=some (.dK [(.inr "begun",.ref a),(.inr "best",.ref b),(.inr "behind",.ref e)])):DGet H d (.str "behind") (some (.ref e)):=DGet.k (k:=.inr "behind") h
theorem fb_lt {ns:List Int} {g c p:Nat} {x:SL} (h:fb ns g (c+1) p=some x):p < ns.length:=by
 refine Nat.lt_of_not_le fun z=>?_
 rw [q4g z] at h
 cases h
noncomputable def sumL (ns:List Int) (L:List (Nat×Nat)):Int:=(L.map fun p=>psum ns p.2-psum ns p.1).sum
noncomputable def fm (ns:List Int) (ls:List (List (Nat×Nat))):Option SL:=(ls.map fun L=>some (sumL ns L,L)).foldr cb none
theorem cb_assoc (a b c:Option SL):cb (cb a b) c=cb a (cb b c):=by
 cases a with
 | none=>rfl
 | some x =>
  cases b with
  | none=>rfl
  | some y =>
   cases c with
   | none=>rfl
   | some z =>
    show some (if z.1 > (if y.1 > x.1 then y else x).1 then z else (if y.1 > x.1 then y else x))=some (if (if z.1 > y.1 then z else y).1 > x.1 then (if z.1 > y.1 then z else y) else x)
    by_cases h1:y.1 > x.1
    ·rw [if_pos h1]
     by_cases h2:z.1 > y.1
     ·rw [if_pos h2,if_pos (by omega)]
     ·rw [if_neg h2,if_pos h1]
    ·rw [if_neg h1]
     by_cases h2:z.1 > y.1
     ·rw [if_pos h2]
     ·rw [if_neg h2,if_neg h1,if_neg (by omega)]
theorem cb_foldr {xs:List (Option SL)} {z:Option SL}:xs.foldr cb z=cb (xs.foldr cb none) z:=by
 induction xs with
 | nil=>rfl
 | cons x xs ih=>rw [List.foldr_cons,List.foldr_cons,ih,cb_assoc]
theorem fm_app {ns:List Int} {A B:List (List (Nat×Nat))}:fm ns (A++B)=cb (fm ns A) (fm ns B):=by
 unfold fm
 rw [List.map_append,List.foldr_append,cb_foldr]
theorem cb_map {ns:List Int} {f b:Nat} {x y:Option SL}:(cb x y).map (put1 ns f b)=cb (x.map (put1 ns f b)) (y.map (put1 ns f b)):=by
 cases x with
 | none=>rfl
 | some x =>
  cases y with
  | none=>rfl
  | some y =>
   show some (put1 ns f b (if y.1 > x.1 then y else x))=some (if (put1 ns f b y).1 > (put1 ns f b x).1 then put1 ns f b y else put1 ns f b x)
   have e1:(put1 ns f b y).1=psum ns b-psum ns f+y.1:=rfl
   have e2:(put1 ns f b x).1=psum ns b-psum ns f+x.1:=rfl
   by_cases h:y.1 > x.1
   ·rw [if_pos h,if_pos (by omega)]
   ·rw [if_neg h,if_neg (by omega)]
theorem fm_cons {ns:List Int} {f b:Nat}:∀ {ls:List (List (Nat×Nat))},fm ns (ls.map ((f,b)::·))=(fm ns ls).map (put1 ns f b)
 | []=>rfl
 | L::ls=>by
  have ih:=fm_cons (ns:=ns) (f:=f) (b:=b) (ls:=ls)
  have e:fm ns (L::ls)=cb (some (sumL ns L,L)) (fm ns ls):=rfl
  have e':fm ns ((L::ls).map ((f,b)::·))=cb (some (sumL ns ((f,b)::L),(f,b)::L)) (fm ns (ls.map ((f,b)::·))):=rfl
  rw [e,e',ih,cb_map]
  rfl
theorem q6c {ns:List Int} {F:Nat→List (List (Nat×Nat))}:∀ {m p:Nat},fm ns ((List.range' p m).flatMap F)=sfx cb none (p+m) p (fun f=>fm ns (F f))
 | 0,p=>by rw [q1w (by omega)];rfl
 | m+1,p=>by
  rw [List.range'_succ,List.flatMap_cons,fm_app,q6c (m:=m) (p:=p+1),show p+1+m=p+(m+1) by omega,q0x (n:=p+(m+1)) (p:=p) (by omega)]
noncomputable def evB (S:Nat→List (List (Nat×Nat))) (f j:Nat):List (List (Nat×Nat)):=(List.range' (f+1) j).flatMap fun b=>(S b).map ((f,b)::·)
noncomputable def evA (n:Nat) (S:Nat→List (List (Nat×Nat))) (p i:Nat):List (List (Nat×Nat)):=(List.range' p i).flatMap fun f=>evB S f (n-f)
noncomputable def ev (n g:Nat):Nat→Nat→List (List (Nat×Nat))
 | 0,_=>[[]]
 | c+1,p=>evA n (fun b=>ev n g c (b+g)) p (n-p)
theorem fm_ev {ns:List Int} {g:Nat}:∀ {c p:Nat},fm ns (ev ns.length g c p)=fb ns g c p
 | 0,p=>by rw [q48];rfl
 | c+1,p=>by
  have key:∀ f,f < ns.length→fm ns (evB (fun b=>ev ns.length g c (b+g)) f (ns.length-f))=fg ns g c f:=fun f hf=>by
   unfold evB
   rw [q6c,show f+1+(ns.length-f)=ns.length+1 by omega]
   unfold fg fgt
   congr 1
   funext b
   rw [fm_cons,fm_ev]
  rw [ev]
  unfold evA
  rw [q6c]
  by_cases hp:p≤ns.length
  ·rw [show p+(ns.length-p)=ns.length by omega]
   refine q34 (n:=ns.length) (C:=fun q=>sfx cb none ns.length q (fun f=>fm ns (evB (fun b=>ev ns.length g c (b+g)) f (ns.length-f)))=fb ns g (c+1) q) (fun q hq=>?_) (fun q hq ih=>?_) p
   ·rw [q1w hq,q4g hq]
   ·rw [q0x hq,ih,key q hq,← q49 hq]
  ·rw [q1w (by omega),q4g (by omega)]
noncomputable def WfL (n:Nat) (L:List (Nat×Nat)):Prop:=∀ q,q∈L→q.1 < q.2∧q.2≤n
theorem ev_wf {n g:Nat}:∀ {c p:Nat} {L:List (Nat×Nat)},L∈ev n g c p→WfL n L∧L.length=c
 | 0,p,L,h=>by
  cases List.mem_singleton.mp h
  exact ⟨fun q hq=>absurd hq List.not_mem_nil,rfl⟩
 | c+1,p,L,h=>by
  obtain ⟨f,hf,h1⟩:=List.mem_flatMap.mp (show L∈(List.range' p (n-p)).flatMap fun f=>evB (fun b=>ev n g c (b+g)) f (n-f) from h)
  obtain ⟨b,hb,h2⟩:=List.mem_flatMap.mp h1
  obtain ⟨M,hM,rfl⟩:=List.mem_map.mp h2
  obtain ⟨w1,w2⟩:=ev_wf hM
  have hf':=List.mem_range'_1.mp hf
  have hb':=List.mem_range'_1.mp hb
  refine ⟨fun q hq=>?_,by rw [List.length_cons,w2]⟩
  rcases List.mem_cons.mp hq with rfl | hq
  ·exact ⟨by show f < b;omega,by show b≤n;omega⟩
  ·exact w1 q hq
theorem fm_mem {ns:List Int}:∀ {ls:List (List (Nat×Nat))} {x:SL},fm ns ls=some x→x.2∈ls∧x.1=sumL ns x.2
 | [],x,h=>by cases h
 | L::ls,x,h=>by
  have e:fm ns (L::ls)=cb (some (sumL ns L,L)) (fm ns ls):=rfl
  rw [e] at h
  rcases cb_or (some (sumL ns L,L)) (fm ns ls) with z | z
  ·rw [z] at h
   cases h
   exact ⟨List.mem_cons_self,rfl⟩
  ·rw [z] at h
   obtain ⟨h1,h2⟩:=fm_mem h
   exact ⟨List.mem_cons_of_mem _ h1,h2⟩
theorem fb_wf {ns:List Int} {g c p:Nat} {x:SL} (h:fb ns g c p=some x):WfL ns.length x.2∧x.2.length=c∧x.1=sumL ns x.2:=by
 rw [← fm_ev] at h
 obtain ⟨h1,h2⟩:=fm_mem h
 obtain ⟨h3,h4⟩:=ev_wf h1
 exact ⟨h3,h4,h2⟩
noncomputable def Okl (n g p:Nat) (L:List (Nat×Nat)):Prop:=(∀ q,q∈L→p≤q.1∧q.1 < q.2∧q.2≤n)∧L.Pairwise (fun q r=>q.2+g≤r.1)
theorem Okl.cons {n g p f b:Nat} {L:List (Nat×Nat)}:Okl n g p ((f,b)::L)↔(p≤f∧f < b∧b≤n)∧Okl n g (b+g) L:=by
 unfold Okl
 rw [List.pairwise_cons]
 constructor
 ·rintro ⟨h1,h2,h3⟩
  have h0:=h1 (f,b) List.mem_cons_self
  refine ⟨h0,fun q hq=>?_,h3⟩
  have:=h1 q (List.mem_cons_of_mem _ hq)
  exact ⟨h2 q hq,this.2⟩
 ·rintro ⟨h0,h1,h2⟩
  refine ⟨fun q hq=>?_,fun q hq=>(h1 q hq).1,h2⟩
  rcases List.mem_cons.mp hq with rfl | hq
  ·exact h0
  ·have:=h1 q hq
   exact ⟨by omega,this.2⟩
theorem ev_iff {n g:Nat}:∀ {c p:Nat} {L:List (Nat×Nat)},L∈ev n g c p↔Okl n g p L∧L.length=c
 | 0,p,L=>by
  rw [show ev n g 0 p=[[]] from rfl,List.mem_singleton]
  constructor
  ·rintro rfl
   exact ⟨⟨fun q hq=>absurd hq List.not_mem_nil,List.Pairwise.nil⟩,rfl⟩
  ·rintro ⟨_,h⟩
   exact List.eq_nil_of_length_eq_zero h
 | c+1,p,L=>by
  have e:(L∈ev n g (c+1) p)↔∃ f,f∈List.range' p (n-p)∧∃ b,b∈List.range' (f+1) (n-f)∧∃ M,M∈ev n g c (b+g)∧(f,b)::M=L:=by
   show (L∈(List.range' p (n-p)).flatMap fun f=>evB (fun b=>ev n g c (b+g)) f (n-f))↔_
   rw [List.mem_flatMap]
   constructor
   ·rintro ⟨f,hf,h⟩
    obtain ⟨b,hb,h⟩:=List.mem_flatMap.mp h
    obtain ⟨M,hM,h⟩:=List.mem_map.mp h
    exact ⟨f,hf,b,hb,M,hM,h⟩
   ·rintro ⟨f,hf,b,hb,M,hM,h⟩
    exact ⟨f,hf,List.mem_flatMap.mpr ⟨b,hb,List.mem_map.mpr ⟨M,hM,h⟩⟩⟩
  rw [e]
  constructor
  ·rintro ⟨f,hf,b,hb,M,hM,rfl⟩
   have hf':=List.mem_range'_1.mp hf
   have hb':=List.mem_range'_1.mp hb
   obtain ⟨h1,h2⟩:=ev_iff.mp hM
   exact ⟨Okl.cons.mpr ⟨⟨by omega,by omega,by omega⟩,h1⟩,by rw [List.length_cons,h2]⟩
  ·rintro ⟨h1,h2⟩
   match L,h1,h2 with
   | (f,b)::M,h1,h2 =>
    obtain ⟨h0,h3⟩:=Okl.cons.mp h1
    exact ⟨f,List.mem_range'_1.mpr (by omega),b,List.mem_range'_1.mpr (by omega),M,ev_iff.mpr ⟨h3,by rw [List.length_cons] at h2;omega⟩,rfl⟩
theorem fm_max {ns:List Int}:∀ {ls:List (List (Nat×Nat))} {L:List (Nat×Nat)},L∈ls→∃ x,fm ns ls=some x∧sumL ns L≤x.1
 | M::ls,L,h=>by
  have e:fm ns (M::ls)=cb (some (sumL ns M,M)) (fm ns ls):=rfl
  rw [e]
  rcases List.mem_cons.mp h with rfl | h
  ·cases fm ns ls with
   | none=>exact ⟨_,rfl,Int.le_refl _⟩
   | some y=>exact ⟨_,rfl,by show sumL ns L≤(if y.1 > sumL ns L then y else (sumL ns L,L)).1;split;omega;exact Int.le_refl _⟩
  ·obtain ⟨x,hx,hle⟩:=fm_max h
   rw [hx]
   exact ⟨_,rfl,by show sumL ns L≤(if x.1 > sumL ns M then x else (sumL ns M,M)).1;split;exact hle;show sumL ns L≤sumL ns M;omega⟩
theorem fb_le {ns:List Int} {g c p:Nat} {L:List (Nat×Nat)} (hL:Okl ns.length g p L) (hc:L.length=c):∃ x,fb ns g c p=some x∧sumL ns L≤x.1:=by
 rw [← fm_ev]
 exact fm_max (ev_iff.mpr ⟨hL,hc⟩)
theorem fb_ok {ns:List Int} {g c p:Nat} {x:SL} (h:fb ns g c p=some x):Okl ns.length g p x.2∧x.2.length=c∧x.1=sumL ns x.2:=by
 rw [← fm_ev] at h
 obtain ⟨h1,h2⟩:=fm_mem h
 obtain ⟨h3,h4⟩:=ev_iff.mp h1
 exact ⟨h3,h4,h2⟩
theorem val_le {ns ns':List Int} {g g' c c' p p':Nat} (T:List (Nat×Nat)→List (Nat×Nat)) (hT:∀ L,Okl ns.length g p L→L.length=c→Okl ns'.length g' p' (T L)∧(T L).length=c'∧sumL ns L≤sumL ns' (T L)) {x:SL} (hx:fb ns g c p=some x):∃ y,fb ns' g' c' p'=some y∧x.1≤y.1:=by
 obtain ⟨h1,h2,h3⟩:=fb_ok hx
 obtain ⟨h4,h5,h6⟩:=hT x.2 h1 h2
 obtain ⟨y,hy,hle⟩:=fb_le h4 h5
 exact ⟨y,hy,by omega⟩
theorem val_eq {ns ns':List Int} {g g' c c' p p':Nat} (T U:List (Nat×Nat)→List (Nat×Nat)) (hT:∀ L,Okl ns.length g p L→L.length=c→Okl ns'.length g' p' (T L)∧(T L).length=c'∧sumL ns L≤sumL ns' (T L)) (hU:∀ L,Okl ns'.length g' p' L→L.length=c'→Okl ns.length g p (U L)∧(U L).length=c∧sumL ns' L≤sumL ns (U L)):val (fb ns g c p)=val (fb ns' g' c' p'):=by
 cases h:fb ns g c p with
 | none =>
  cases h':fb ns' g' c' p' with
  | none=>rfl
  | some y =>
   obtain ⟨x,hx,_⟩:=val_le U hU h'
   rw [h] at hx
   cases hx
 | some x =>
  obtain ⟨y,hy,h1⟩:=val_le T hT h
  obtain ⟨x',hx',h2⟩:=val_le U hU hy
  rw [h] at hx'
  cases hx'
  rw [hy]
  show some x.1=some y.1
  rw [show x.1=y.1 by omega]
theorem sum_rev (xs:List Int):xs.reverse.sum=xs.sum:=by
 induction xs with
 | nil=>rfl
 | cons x xs ih=>rw [List.reverse_cons,List.sum_append,List.sum_singleton,List.sum_cons,ih];omega
noncomputable def rvL (n:Nat) (L:List (Nat×Nat)):List (Nat×Nat):=(L.map fun q=>(n-q.2,n-q.1)).reverse
theorem rvL_len {n:Nat} {L:List (Nat×Nat)}:(rvL n L).length=L.length:=by unfold rvL;rw [List.length_reverse,List.length_map]
theorem rvL_ok {n g p p' m:Nat} {L:List (Nat×Nat)} (h:Okl m g p L) (hm:m≤n) (h1:p'+m≤n):Okl (n-p) g p' (rvL n L):=by
 obtain ⟨a,b⟩:=h
 refine ⟨fun q hq=>?_,?_⟩
 ·obtain ⟨r,hr,rfl⟩:=List.mem_map.mp (List.mem_reverse.mp hq)
  have:=a r hr
  exact ⟨by show p'≤n-r.2;omega,by show n-r.2 < n-r.1;omega,by show n-r.1≤n-p;omega⟩
 ·unfold rvL
  rw [List.pairwise_reverse,List.pairwise_map]
  refine List.Pairwise.imp_of_mem (fun {q r} hq hr h=>?_) b
  have h1:=a q hq
  have h2:=a r hr
  show n-r.1+g≤n-q.2
  omega
theorem q2q {ns:List Int}:∀ i,i≤ns.length→psum ns.reverse i=psum ns ns.length-psum ns (ns.length-i)
 | 0,_=>by
  show psum ns.reverse 0=psum ns ns.length-psum ns ns.length
  have:psum ns.reverse 0=0:=rfl
  omega
 | i+1,h=>by
  have ih:=q2q (ns:=ns) i (by omega)
  have a:=q0K (ns:=ns.reverse) (i:=i) (by rw [List.length_reverse];omega)
  have b:=q0K (ns:=ns) (i:=ns.length-1-i) (by omega)
  have e:ns.reverse.getD i 0=ns.getD (ns.length-1-i) 0:=by
   rw [List.getD_eq_getElem?_getD,List.getD_eq_getElem?_getD,List.getElem?_reverse (by omega)]
  have e1:ns.length-1-i+1=ns.length-i:=by omega
  have e2:ns.length-(i+1)=ns.length-1-i:=by omega
  rw [e1] at b
  rw [a,ih,e,e2]
  omega
theorem q3Z {ns:List Int} {m i:Nat} (h:i≤m):psum (ns.take m) i=psum ns i:=by
 unfold psum
 rw [List.take_take,Nat.min_eq_left h]
theorem sumL_rv {ms rs:List Int} {n:Nat} {L:List (Nat×Nat)} (h:∀ q,q∈L→psum ms (n-q.1)-psum ms (n-q.2)=psum rs q.2-psum rs q.1):sumL ms (rvL n L)=sumL rs L:=by
 unfold sumL rvL
 rw [List.map_reverse,sum_rev,List.map_map]
 exact congrArg List.sum (List.map_congr_left fun q hq=>h q hq)
theorem fb_rev {ns:List Int} {g c p:Nat} (hp:p≤ns.length):val (fb ns.reverse g c p)=val (fb (ns.take (ns.length-p)) g c 0):=by
 have hl:ns.reverse.length=ns.length:=List.length_reverse
 have ht:(ns.take (ns.length-p)).length=ns.length-p:=by rw [List.length_take];omega
 refine val_eq (rvL ns.length) (rvL ns.length) (fun L hL hc=>?_) (fun L hL hc=>?_)
 ·rw [hl] at hL
  refine ⟨by rw [ht];exact rvL_ok hL (Nat.le_refl _) (by omega),by rw [rvL_len,hc],?_⟩
  rw [sumL_rv fun q hq=>?_]
  ·exact Int.le_refl _
  ·have:=hL.1 q hq
   rw [q3Z (by omega),q3Z (by omega),q2q _ (by omega),q2q _ (by omega)]
   omega
 ·rw [ht] at hL
  refine ⟨by rw [hl];exact rvL_ok (p:=0) hL (by omega) (by omega),by rw [rvL_len,hc],?_⟩
  rw [sumL_rv fun q hq=>?_]
  ·exact Int.le_refl _
  ·have:=hL.1 q hq
   rw [q3Z (by omega),q3Z (by omega),q2q _ (by omega),q2q _ (by omega),show ns.length-(ns.length-q.1)=q.1 by omega,show ns.length-(ns.length-q.2)=q.2 by omega]
   omega
noncomputable def q0q:Sp:=fun vs H Q _=>∃ m l g:Int,vs=[.int m,.int l,.int g]∧l≤m∧0≤g∧Q .non H
theorem q5l {k:Nat} {f:Addr} {fd:FuncData} (F:Fun K "refuse_counts" "refuse_counts" q07 f fd) (Z:Blt mg):FnOk P w K mg base CX0 (k+1) f fd ["many","least","gap"] q0q:=by
 refine F.ok q1m (fun vs H Q E h=>?_) (fun cdv A outer s H vs Q E hr h=>?_)
 ·obtain ⟨m,l,g,rfl,_⟩:=h
  rfl
 obtain ⟨m,l,g,rfl,hm,hg,q⟩:=h
 apply Exists.intro
 apply And.intro
 case left =>
  apply qD
  apply qZ
  case hc=>exact (PW.pt (q35 (qO q1q (pv 0) (pv 1) (qT _)) (q21 (qO q1q (pv 2) qE (qT _)))))
  case ha =>
   apply qD
   exact q0G
  case hb =>
   exact qP
 lk
 refine ifD (fun z=>absurd z (by omega)) (fun _=>?_)
 lk
 exact ifD (fun z=>absurd z (by omega)) (fun _=>q)
noncomputable def q31:Sp:=fun vs H Q _=>∃ n g:Nat,vs=[.int n,.int g]∧g < 2 ^ 150∧Q (.int ((n+g)/(1+g):Nat)) H
theorem ok_room {k:Nat} {f:Addr} {fd:FuncData} (F:Fun K "room_for" "room_for" q2D f fd) (Z:Blt mg):FnOk P w K mg base CX0 (k+1) f fd ["numbers","gap"] q31:=by
 refine F.ok q6K (fun vs H Q E h=>?_) (fun cdv A outer s H vs Q E hr h=>?_)
 ·obtain ⟨n,g,rfl,_⟩:=h
  rfl
 obtain ⟨n,g,rfl,hg,q⟩:=h
 apply Exists.intro
 apply And.intro
 case left =>
  apply qD
  exact (qL (qU op_fdivL (qU qf (pv 0) (pv 1)) (qU qf qE (pv 1))))
 lk
 refine ⟨⟨by omega,by omega⟩,?_⟩
 show Q (.int (((n:Int)+g)/(1+g))) H
 have e:((n:Int)+g)/(1+g)=(((n+g)/(1+g):Nat):Int):=by push_cast;rfl
 rw [e]
 exact q
theorem q6Q {n g m:Nat} (h:m≤(n+g)/(1+g)):m*(1+g)≤n+g:=(Nat.le_div_iff_mul_le (by omega)).mp h
theorem room_gt {n g m:Nat} (h:(n+g)/(1+g) < m):n+g < m*(1+g):=(Nat.div_lt_iff_lt_mul (by omega)).mp h
theorem room_n {n g m:Nat} (h:m≤(n+g)/(1+g)):m≤n:=by
 have h1:=q6Q h
 refine Nat.le_of_not_lt fun z=>?_
 have h2:(n+1)*(1+g)≤m*(1+g):=Nat.mul_le_mul_right _ (by omega)
 have h3:(n+1)*(1+g)=n*(1+g)+(1+g):=by rw [Nat.add_mul,Nat.one_mul]
 have h4:n*1≤n*(1+g):=Nat.mul_le_mul_left _ (by omega)
 omega
noncomputable def q4y:Sp:=fun vs H Q _=>∃ (d:Addr) (ns:List Int) (g c p:Nat) (x:SL),vs=[.ref d,.int p]∧LnAt H ns g (c+1) d∧fb ns g (c+1) p=some x∧ns.length≤90000∧∀ f:Nat,p≤f→f < ns.length→fg ns g c f=some x→Q (.int f) H
theorem ok_first {k:Nat} {f:Addr} {fd:FuncData} (F:Fun K "first_from" "first_from" q14 f fd) (Z:Blt mg):FnOk P w K mg base CX0 (k+1) f fd ["line","start"] q4y:=by
 refine F.ok sc_first_from (fun vs H Q E h=>?_) (fun cdv A outer s H vs Q E hr h=>?_)
 ·obtain ⟨d,ns,g,c,p,x,rfl,_⟩:=h
  rfl
 obtain ⟨d,ns,g,c,p,x,rfl,⟨a,b,e,hd,ha,hb,he⟩,hx,hn,q⟩:=h
 apply Exists.intro
 apply And.intro
 case left =>
  apply qB
  case h1 =>
   exact (qQ (i:=2) sc_first_from.nd rfl (by walk_at "lr") (pv 1))
  apply qB
  case h1 =>
   apply q57 PassesOwn.never
   case hc=>exact (qO q5i (qJ (qK (K:=K) rfl) (q04 (q0l hr) (pv 0) qR (fun _ _=>rfl)) (pv 2) (fun _ _=>rfl)) (qJ (qK (K:=K) rfl) (q04 (q0l hr) (pv 0) qR (fun _ _=>rfl)) (pv 2) (fun _ _=>rfl)) (qT _))
   case hb =>
    apply qD
    exact (q3u (i:=2) sc_first_from.nd rfl (by walk_at "lr") qE q4e)
  apply qD
  exact (qL (pv 2))
 lk
 refine ⟨fun m σ H'=>∃ f:Nat,m=ns.length-f∧H=H'∧p≤f∧fb ns g (c+1) f=some x∧σ=[some (.ref d),some (.int p),some (.int f)],⟨_,p,rfl,rfl,Nat.le_refl _,hx,rfl⟩,?_⟩
 rintro _ _ _ ⟨f,rfl,rfl,hpf,hf,rfl⟩
 have hfn:=fb_lt hf
 lk
 refine ⟨d,_,rfl,dBegun hd,?_⟩
 lk
 refine ⟨a,_,_,_,rfl,rfl,SqL.of ha,atO (by omega),?_⟩
 lk
 refine ⟨d,_,rfl,dBest hd,?_⟩
 lk
 refine ⟨b,_,_,_,rfl,rfl,SqL.of hb,atO (by omega),?_⟩
 refine ⟨scal_oV,?_⟩
 lk
 have est:=q49 (ns:=ns) (g:=g) (c:=c) hfn
 refine ifNe (fun hne=>?_) (fun heq=>?_)
 ·have e1:cb (fg ns g c f) (fb ns g (c+1) (f+1))=fb ns g (c+1) (f+1):=q7B fun z=>hne (by rw [est];exact z)
  refine ⟨fun σ H'=>H=H'∧σ=[some (.ref d),some (.int p),some (.int ((f+1:Nat):Int))],?_,?_⟩
  ·rintro _ _ ⟨rfl,rfl⟩
   exact ⟨ns.length-(f+1),by omega,f+1,rfl,rfl,by omega,by rw [← e1,← est];exact hf,rfl⟩
  ·lk
   push_cast
   rfl
 ·lk
  refine q f hpf hfn ?_
  rw [est] at hf
  refine cb_left hf ?_
  rw [← est]
  exact heq
noncomputable def q3m:Sp:=fun vs H Q _=>∃ (r e:Addr) (ns:List Int) (g c f:Nat) (x:SL),vs=[.ref r,.int f,.int x.1,.ref e]∧H r=some (.lst (ns.map V.int))∧H e=some (.lst ((qa (ns.length+1) (fun p=>val (fb ns g c (p+g)))).map oV))∧fg ns g c f=some x∧f < ns.length∧ns.length≤90000 ∧
 ∀ (b:Nat) (y:SL),f < b→b≤ns.length→fb ns g c (b+g)=some y→x=put1 ns f b y→Q (.int b) H
theorem ok_beyond {k:Nat} {f:Addr} {fd:FuncData} (F:Fun K "beyond_from" "beyond_from" q0i f fd) (Z:Blt mg):FnOk P w K mg base CX0 (k+1) f fd ["row","first","total","behind"] q3m:=by
 refine F.ok sc_beyond_from (fun vs H Q E h=>?_) (fun cdv A outer s H vs Q E hr h=>?_)
 ·obtain ⟨r,e,ns,g,c,f,x,rfl,_⟩:=h
  rfl
 obtain ⟨r,e,ns,g,c,f,x,rfl,hR,he,hx,hfn,hn,q⟩:=h
 apply Exists.intro
 apply And.intro
 case left =>
  apply qB
  case h1 =>
   exact (qQ (i:=4) sc_beyond_from.nd rfl (by walk_at "lr") (qU qf (pv 1) qE))
  apply qB
  case h1 =>
   exact (qQ (i:=5) sc_beyond_from.nd rfl (by walk_at "lr") (qU q0J (pv 2) (qJ (qK (K:=K) rfl) (pv 0) (pv 1) (fun _ _=>rfl))))
  apply qB
  case h1 =>
   apply q57 PassesOwn.never
   case hc=>exact (qO q5i (qJ (qK (K:=K) rfl) (pv 3) (pv 4) (fun _ _=>rfl)) (pv 5) (qT _))
   case hb =>
    apply qB
    case h1 =>
     exact (q3u (i:=5) sc_beyond_from.nd rfl (by walk_at "lr") (qJ (qK (K:=K) rfl) (pv 0) (pv 4) (fun _ _=>rfl)) ip_sub)
    apply qD
    exact (q3u (i:=4) sc_beyond_from.nd rfl (by walk_at "lr") qE q4e)
  apply qD
  exact (qL (pv 4))
 have hl:(ns.map V.int).length=ns.length:=List.length_map _
 lk
 refine ⟨r,_,_,_,rfl,rfl,SqL.of hR,q2y (by omega) (by omega),?_⟩
 rw [show ((f:Nat):Int).toNat=f from rfl]
 lk
 have e0:=q0K (ns:=ns) (i:=f) hfn
 refine ⟨fun m σ H'=>∃ b:Nat,m=ns.length+1-b∧H=H'∧f < b∧fgt ns (fun b=>fb ns g c (b+g)) f b=some x∧σ=[some (.ref r),some (.int f),some (.int x.1),some (.ref e),some (.int b),some (.int (x.1-(psum ns b-psum ns f)))],⟨_,f+1,rfl,rfl,by omega,hx,?_⟩,?_⟩
 ·rw [show psum ns (f+1)-psum ns f=ns.getD f 0 by omega]
  rfl
 rintro _ _ _ ⟨b,rfl,rfl,hfb,hb,rfl⟩
 have hbn:b < ns.length+1:=Nat.lt_of_not_le fun z=>by rw [q1h z] at hb;cases hb
 have est:=q0m (ns:=ns) (S:=fun b=>fb ns g c (b+g)) (f:=f) hbn
 lk
 refine ⟨e,_,_,_,rfl,rfl,SqL.of he,atO (by omega),?_⟩
 lk
 refine ⟨scal_oV (v:=some _),?_⟩
 lk
 refine ifNe (v:=some (x.1-(psum ns b-psum ns f))) (fun hne=>?_) (fun heq=>?_)
 ·have hb':=hb
  rw [est,q7B] at hb'
  ·have hb1:b+1 < ns.length+1:=Nat.lt_of_not_le fun z=>by rw [q1h z] at hb';cases hb'
   have e1:=q0K (ns:=ns) (i:=b) (by omega)
   refine ⟨fun σ H'=>H=H'∧σ=[some (.ref r),some (.int f),some (.int x.1),some (.ref e),some (.int ((b+1:Nat):Int)),some (.int (x.1-(psum ns (b+1)-psum ns f)))],?_,?_⟩
   ·rintro _ _ ⟨rfl,rfl⟩
    exact ⟨ns.length+1-(b+1),by omega,b+1,rfl,rfl,by omega,hb',rfl⟩
   ·lk
    refine ⟨r,_,_,_,rfl,rfl,SqL.of hR,q2y (by omega) (by omega),?_⟩
    lk
    rw [show x.1-(psum ns (b+1)-psum ns f)=x.1-(psum ns b-psum ns f)-ns.getD b 0 by omega]
    push_cast
    rfl
  ·rw [← est,hb,q1r]
   intro z
   refine hne ?_
   cases ev:val (fb ns g c (b+g)) with
   | none=>rw [ev] at z;cases z
   | some v =>
    rw [ev] at z
    have z':psum ns b-psum ns f+v=x.1:=Option.some.inj z
    rw [show x.1-(psum ns b-psum ns f)=v by omega]
 ·lk
  have hb':=hb
  rw [est] at hb'
  have hc:=cb_left hb' (by
   rw [hb',q1r,heq]
   show some (psum ns b-psum ns f+(x.1-(psum ns b-psum ns f)))=some x.1
   rw [show psum ns b-psum ns f+(x.1-(psum ns b-psum ns f))=x.1 by omega])
  obtain ⟨y,hy,ey⟩:=Option.map_eq_some_iff.mp hc
  exact q b y hfb (by omega) hy ey.symm
noncomputable def q4q:Sp:=fun vs H Q _=>∃ (r l:Addr) (ns:List Int) (xs:List V) (m M g:Nat) (x:SL),vs=[.ref r,.ref l,.int m,.int g]∧H r=some (.lst (ns.map V.int))∧H l=some (.lst xs)∧Lns H ns g M xs∧m < M∧m≤40000∧ns.length≤20000∧fb ns g m 0=some x ∧
 ∀ (st:Addr) (ys:List V) (H':Hp),Same H H'→H st=none→H' st=some (.lst ys)→Pairs H' ys (x.2.map prI)→Q (.ref st) H'
theorem ok_strs {k:Nat} {f:Addr} {fd:FuncData} (F:Fun K "stretches_of" "stretches_of" q0Q f fd) (Z:Blt mg)
  (D_first_from:Def P w K mg base k "first_from" ["line","start"] q4y) (D_beyond_from:Def P w K mg base k "beyond_from" ["row","first","total","behind"] q3m):FnOk P w K mg base CX0 (k+1) f fd ["row","lines","many","gap"] q4q:=by
 refine F.ok sc_stretches_of (fun vs H Q E h=>?_) (fun cdv A outer s H vs Q E hr h=>?_)
 ·obtain ⟨r,l,ns,xs,m,M,g,x,rfl,_⟩:=h
  rfl
 obtain ⟨r,l,ns,xs,m,M,g,x,rfl,hR,hL,hLn,hmM,hm,hn,hx,q⟩:=h
 apply Exists.intro
 apply And.intro
 case left =>
  apply qB
  case h1 =>
   exact (qQ (i:=4) sc_stretches_of.nd rfl (by walk_at "lr") (qc qC))
  apply qB
  case h1 =>
   exact (qQ (i:=5) sc_stretches_of.nd rfl (by walk_at "lr") qE)
  apply qB
  case h1 =>
   apply q18 PassesOwn.never rfl
   case hi=>exact (q3v rfl Z.range_ (q0 (pv 2) (q0 qE (q0 (q3K q1l qE) qC))))
   case hg=>exact (qi (i:=6) sc_stretches_of.nd rfl (by walk_at "lr"))
   case hb =>
    apply qB
    case h1 =>
     exact (qQ (i:=7) sc_stretches_of.nd rfl (by walk_at "lr") (qM D_first_from hr rfl (q0 (qJ (qK (K:=K) rfl) (pv 1) (pv 6) (fun _ _=>rfl)) (q0 (pv 5) qC))))
    apply qB
    case h1 =>
     exact (qQ (i:=8) sc_stretches_of.nd rfl (by walk_at "lr") (qJ (qK (K:=K) rfl) (q04 (q0l hr) (qJ (qK (K:=K) rfl) (pv 1) (pv 6) (fun _ _=>rfl)) qR (fun _ _=>rfl)) (pv 7) (fun _ _=>rfl)))
    apply qB
    case h1 =>
     exact (qQ (i:=9) sc_stretches_of.nd rfl (by walk_at "lr") (qM D_beyond_from hr rfl (q0 (pv 0) (q0 (pv 7) (q0 (pv 8) (q0 (q04 (q0l hr) (qJ (qK (K:=K) rfl) (pv 1) (qU q0J (pv 6) qE) (fun _ _=>rfl)) qR (fun _ _=>rfl)) qC))))))
    apply qB
    case h1 =>
     exact (qo (q1Q (K:=K) rfl PySem.F.plainAttrs_list PySem.F.slot_list_append PySem.F.type_list_append q02 (pv 4) (q0 (qp (q0 (pv 7) (q0 (pv 9) qC))) qC)))
    apply qD
    exact (qQ (i:=5) sc_stretches_of.nd rfl (by walk_at "lr") (qU qf (pv 9) (pv 3)))
  apply qD
  exact (qL (pv 4))
 lk
 refine ⟨Nat.zero_le _,fun st hst=>?_⟩
 lk
 refine ⟨_,_,rfl,⟨by omega,by omega,by omega,by omega⟩,?_⟩
 rw [show ((m:Int)-0).toNat=m by omega]
 refine q5H (fun i σ H'=>∃ (ys:List V) (T:List (Nat×Nat)) (p:Nat) (y:SL) (o6 o7 o8 o9:Option V),Same H H'∧H' st=some (.lst ys)∧Pairs H' ys (T.map prI)∧T.length=i∧fb ns g (m-i) p=some y∧x.2=T++y.2∧σ=[some (.ref r),some (.ref l),some (.int m),some (.int g),some (.ref st),some (.int p),o6,o7,o8,o9]) ⟨[],[],0,x,none,none,none,none,Same.new hst _,qA,Pairs.nil,rfl,hx,rfl,rfl⟩ ?_ ?_
 ·rintro i σ H1 hi ⟨ys,T,p,y,o6,o7,o8,o9,sm,hys,hP,hT,hy,hxy,rfl⟩
  obtain ⟨c,hc⟩:∃ c,m-i=c+1:=⟨m-i-1,by omega⟩
  have ec:(m:Int)-i=((c+1:Nat):Int):=by omega
  rw [hc] at hy
  rw [ec]
  have hR1:=sm _ _ hR
  have hL1:=sm _ _ hL
  obtain ⟨d,hd,hA⟩:=hLn.2 (c+1) (by omega)
  have hA1:=hA.keep sm
  obtain ⟨d',hd',hB⟩:=hLn.2 c (by omega)
  have hB1:=hB.keep sm
  obtain ⟨a2,b2,e2,hd2,ha2,hb2,he2⟩:=hB1
  lk
  refine ⟨l,_,_,_,rfl,rfl,SqL.of hL1,qq hd,?_⟩
  lk
  refine ⟨d,ns,g,c,p,y,rfl,hA1,hy,by omega,fun f hpf hfn hf=>?_⟩
  obtain ⟨a,b,e,hd1,ha,hb,he⟩:=hA1
  lk
  refine ⟨l,_,_,_,rfl,rfl,SqL.of hL1,qq hd,?_⟩
  lk
  refine ⟨d,_,rfl,dBegun hd1,?_⟩
  lk
  refine ⟨a,_,_,_,rfl,rfl,SqL.of ha,atO (by omega),?_⟩
  rw [show bgV ns g (c+1) f=some y.1 by show val (fg ns g c f)=_;rw [hf];rfl]
  lk
  refine ⟨l,_,((c:Nat):Int),_,rfl,(by show V.int (((c+1:Nat):Int)-1)=_;rw [show ((c+1:Nat):Int)-1=(c:Int) by omega]),SqL.of hL1,qq hd',?_⟩
  lk
  refine ⟨d',_,rfl,dBehind hd2,?_⟩
  refine ⟨r,e2,ns,g,c,f,y,rfl,hR1,he2,hf,hfn,by omega,fun bb z hfb hbn hz ez=>?_⟩
  lk
  refine ⟨.inl ⟨rfl,_,SqL.of hys⟩,?_⟩
  lk
  refine ⟨by show 2≤sizeLine;decide,fun t ht=>?_⟩
  have s1:=Same.new ht (.tup [.int f,.int bb])
  lk
  refine ⟨st,_,_,rfl,rfl,s1 _ _ hys,small (by rw [hP.1,List.length_map];omega),?_⟩
  lk
  have hst1:H1 st≠none:=by rw [hys];exact fun z=>by cases z
  have hnt:t≠st:=fun z=>hst1 (by rw [← z];exact ht)
  refine ⟨_,T++[(f,bb)],bb+g,z,some (.int ((c+1:Nat):Int)),some (.int f),some (.int y.1),some (.int bb),(show Same H (upd H1 t (.tup [.int f,.int bb])) from fun b o w=>s1 _ _ (sm _ _ w)).upd hst,qA,?_,by rw [List.length_append,hT];rfl,by rw [show m-(i+1)=c by omega];exact hz,?_,?_⟩
  ·rw [List.map_append]
   refine Pairs.snoc ((hP.keep s1).keepL (s1 _ _ hys) (fun b u hb w=>by rw [qF hb];exact w)) ?_
   rw [qF hnt,qA]
  ·rw [hxy,ez,List.append_assoc]
   rfl
  ·rfl
 ·rintro σ H1 ⟨ys,T,p,y,o6,o7,o8,o9,sm,hys,hP,hT,hy,hxy,rfl⟩
  lk
  refine q st ys H1 sm hst hys ?_
  rw [Nat.sub_self,q48] at hy
  cases hy
  rw [hxy,List.append_nil]
  exact hP
noncomputable def q2h:Sp:=fun vs H Q _=>∃ (r:Addr) (ns:List Int) (m g:Nat),vs=[.ref r,.int m,.int g]∧H r=some (.lst (ns.map V.int))∧ns.length≤20000∧1≤m∧g < 2 ^ 150 ∧
 (fb ns g m 0=none→Q .non H)∧∀ (t st:Addr) (ys:List V) (x:SL) (H':Hp),fb ns g m 0=some x→m≤ns.length→Same H H'→H t=none→H st=none→H' t=some (.tup [.int x.1,.ref st])→H' st=some (.lst ys)→Pairs H' ys (x.2.map prI)→Q (.ref t) H'
theorem ok_apart {k:Nat} {f:Addr} {fd:FuncData} (F:Fun K "best_apart" "best_apart" q0a f fd) (Z:Blt mg)
  (D_refuse_counts:Def P w K mg base k "refuse_counts" ["many","least","gap"] q0q) (D_room_for:Def P w K mg base k "room_for" ["numbers","gap"] q31) (D_lines_of:Def P w K mg base k "lines_of" ["row","many","gap"] q2A) (D_stretches_of:Def P w K mg base k "stretches_of" ["row","lines","many","gap"] q4q):FnOk P w K mg base CX0 (k+1) f fd ["row","many","gap"] q2h:=by
 refine F.ok sc_best_apart (fun vs H Q E h=>?_) (fun cdv A outer s H vs Q E hr h=>?_)
 ·obtain ⟨r,ns,m,g,rfl,_⟩:=h
  rfl
 obtain ⟨r,ns,m,g,rfl,hR,hn,hm,hg,qN,q⟩:=h
 apply Exists.intro
 apply And.intro
 case left =>
  apply qB
  case h1 =>
   exact (qo (qM D_refuse_counts hr rfl (q0 (pv 1) (q0 qE (q0 (pv 2) qC)))))
  apply qB
  case h1 =>
   apply qZ
   case hc=>exact (qO q4K (pv 1) (qM D_room_for hr rfl (q0 (qV (qS (K:=K) rfl) rfl Z.len_ PySem.boot_len (q0 (pv 0) qC)) (q0 (pv 2) qC))) (qT _))
   case ha =>
    apply qD
    exact (qL qj)
   case hb =>
    exact qP
  apply qB
  case h1 =>
   exact (qQ (i:=3) sc_best_apart.nd rfl (by walk_at "lr") (qM D_lines_of hr rfl (q0 (pv 0) (q0 (pv 1) (q0 (pv 2) qC)))))
  apply qD
  exact (qL (qp (q0 (qJ (qK (K:=K) rfl) (q04 (q0l hr) (qJ (qK (K:=K) rfl) (pv 3) (pv 1) (fun _ _=>rfl)) qR (fun _ _=>rfl)) qE (fun _ _=>rfl)) (q0 (qM D_stretches_of hr rfl (q0 (pv 0) (q0 (pv 3) (q0 (pv 1) (q0 (pv 2) qC))))) qC))))
 have hl:(ns.map V.int).length=ns.length:=List.length_map _
 lk
 refine ⟨_,_,_,rfl,by omega,by omega,?_⟩
 lk
 refine ⟨r,_,rfl,.inl (SqL.of hR),?_⟩
 rw [hl]
 lk
 refine ⟨ns.length,g,rfl,hg,?_⟩
 lk
 refine ifD (fun z=>?_) (fun z=>?_)
 ·lk
  refine qN (q2v (by omega) ?_)
  have:=room_gt (n:=ns.length) (g:=g) (m:=m) (by omega)
  omega
 have hz:m≤(ns.length+g)/(1+g):=by omega
 have hmn:=room_n hz
 obtain ⟨x,hx⟩:∃ x,fb ns g m 0=some x:=Option.ne_none_iff_exists'.mp (q6d (.inr ⟨by omega,q6Q hz⟩))
 lk
 refine ⟨r,ns,m,g,rfl,hR,hn,by omega,fun l xs H1 s1 hl0 hl1 hL=>?_⟩
 obtain ⟨d,hd,a,b,e,hd1,ha,hb,he⟩:=hL.2 m (by omega)
 lk
 refine ⟨l,_,_,_,rfl,rfl,SqL.of hl1,qq hd,?_⟩
 lk
 refine ⟨d,_,rfl,dBest hd1,?_⟩
 lk
 refine ⟨b,_,((0:Nat):Int),_,rfl,rfl,SqL.of hb,atO (by omega),?_⟩
 rw [hx]
 lk
 refine ⟨r,l,ns,xs,m,m+1,g,x,rfl,s1 _ _ hR,hl1,hL,by omega,by omega,hn,hx,fun st ys H2 s2 hst0 hst hP=>?_⟩
 lk
 refine ⟨by show 2≤sizeLine;decide,fun t ht=>?_⟩
 have s3:=Same.new ht (.tup [.int x.1,.ref st])
 have s12:Same H H2:=fun b o z=>s2 _ _ (s1 _ _ z)
 exact q t st ys x _ hx hmn (fun b o z=>s3 _ _ (s12 _ _ z)) (q1D s12 ht) (q1D s1 hst0) qA (s3 _ _ hst) (hP.keep s3)
noncomputable def pv2 (ns:List Int) (g c i:Nat):Option Int:=val (fb (ns.take i) g c 0)
noncomputable def Ppr (ok:Addr→Prop) (H:Hp) (ns:List Int) (g m:Nat) (xs:List V):Prop:=xs.length=m∧∀ c,c < m→∃ a,xs[c]?=some (.ref a)∧ok a∧H a=some (.lst ((qa (ns.length+1) (pv2 ns g c)).map oV))
theorem line_rev {n:Nat} {f:Nat→Option Int}:((qa (n+1) f).map oV).reverse=(qa (n+1) (fun i=>f (n-i))).map oV:=by
 refine List.ext_getElem? fun i=>?_
 have hl:((qa (n+1) f).map oV).length=n+1:=by rw [List.length_map,q0M]
 by_cases hi:i < n+1
 ·rw [List.getElem?_reverse (by omega),hl,List.getElem?_map,List.getElem?_map,q23 (by omega),q23 hi,show n+1-1-i=n-i by omega]
 ·rw [List.getElem?_eq_none (by rw [List.length_reverse,hl];omega),List.getElem?_eq_none (by rw [List.length_map,q0M];omega)]
theorem q7Q {ns:List Int} {g c:Nat}:qa (ns.length+1) (fun i=>val (fb ns.reverse g c (ns.length-i)))=qa (ns.length+1) (pv2 ns g c):=q0H fun i hi=>by
 rw [fb_rev (by omega),show ns.length-(ns.length-i)=i by omega]
 rfl
noncomputable def q0X:Sp:=fun vs H Q _=>∃ (r:Addr) (ns:List Int) (m g:Nat),vs=[.ref r,.int m,.int g]∧H r=some (.lst (ns.map V.int))∧ns.length≤20000∧1≤m∧m≤40000 ∧
 ∀ (l:Addr) (xs:List V) (H':Hp),Same H H'→H l=none→H' l=some (.lst xs)→Ppr (fun a=>H a=none∧a≠l) H' ns g (m+1) xs→Q (.ref l) H'
theorem q5j {k:Nat} {f:Addr} {fd:FuncData} (F:Fun K "several_paper" "several_paper" q06 f fd) (Z:Blt mg)
  (D_refuse_counts:Def P w K mg base k "refuse_counts" ["many","least","gap"] q0q) (D_lines_of:Def P w K mg base k "lines_of" ["row","many","gap"] q2A):FnOk P w K mg base CX0 (k+1) f fd ["row","many","gap"] q0X:=by
 refine F.ok sc_several_paper (fun vs H Q E h=>?_) (fun cdv A outer s H vs Q E hr h=>?_)
 ·obtain ⟨r,ns,m,g,rfl,_⟩:=h
  rfl
 obtain ⟨r,ns,m,g,rfl,hR,hn,hm1,hm,q⟩:=h
 apply Exists.intro
 apply And.intro
 case left =>
  apply qB
  case h1 =>
   exact (qo (qM D_refuse_counts hr rfl (q0 (pv 1) (q0 qE (q0 (pv 2) qC)))))
  apply qB
  case h1 =>
   exact (qQ (i:=3) sc_several_paper.nd rfl (by walk_at "lr") (qM D_lines_of hr rfl (q0 (pe_rev (pv 0) (q3K q1l qE)) (q0 (pv 1) (q0 (pv 2) qC)))))
  apply qD
  exact (qL (q3x (N':=["line"]) (ix:=[none]) rfl rfl (by decide +kernel) rfl rfl rfl rfl (q09 (K:=K) rfl (pv 3)) (fun _ _ _ _=>(qi (i:=0) (show List.Nodup (["line"]:List Str) by decide +kernel) rfl (by walk_at "lr"))) (fun _ _ _ _=>q0b) (fun _ _ _ _=>(pe_revB (pe_dgetB (q0l hr) (pv 0) qR (fun _ _=>rfl)) (q3K q1l qE)))))
 have hl:(ns.map V.int).length=ns.length:=List.length_map _
 lk
 refine ⟨_,_,_,rfl,by omega,by omega,?_⟩
 lk
 refine ⟨r,_,rfl,rfl,SqL.of hR,fun p1 hp1=>?_⟩
 have s1:=Same.new hp1 (.lst (ns.map V.int).reverse)
 have hrl:ns.reverse.length=ns.length:=List.length_reverse
 lk
 refine ⟨p1,ns.reverse,m,g,rfl,by rw [qA,List.map_reverse],by rw [hrl];exact hn,hm,fun l xs H1 s2 hl0 hl1 hL=>?_⟩
 have s12:=s1.trans s2
 lk
 refine ⟨⟨_,SqL.of hl1⟩,?_⟩
 intro acc hacc
 have hxl:=hL.1
 refine q0d (n:=m+1) (fun i τ zs H'=>H' acc=some (.lst zs)∧Ppr (fun a=>H a=none∧a≠acc) H' ns g i zs∧Same H1 H'∧∃ o0,τ=[o0]) ⟨qA,⟨rfl,fun c hc=>by omega⟩,Same.new hacc _,none,rfl⟩ (by omega) ?_ ?_ ?_ ?_
 ·rintro i τ zs H' ⟨e,hp,_⟩
  exact ⟨e,by rw [hp.1];exact Nat.le_refl _⟩
 ·rintro i τ zs H' hi ⟨e,_,sm',_⟩
  exact ⟨_,xs[i]'(by omega),SqL.of (sm' _ _ hl1),List.getElem?_eq_getElem (by omega)⟩
 ·rintro τ zs H4 ⟨e,hp,s4,_⟩
  refine ⟨⟨_,SqL.of (s4 _ _ hl1),by rw [hxl];exact Nat.le_refl _⟩,?_⟩
  exact q acc zs H4 (s12.trans s4) (s12.free hacc) e hp
 ·rintro i τ zs H4 v H5 hi ⟨e,hp,s4,o0,rfl⟩ ⟨rfl,y⟩
  have ey:=y _ (SqL.of (s4 _ _ hl1))
  obtain ⟨d,hd,a,b,ee,hd1,ha,hb,he⟩:=hL.2 i hi
  rw [hd] at ey
  cases ey
  lk
  refine ⟨d,_,rfl,dBest (s4 _ _ hd1),?_⟩
  lk
  refine ⟨b,_,rfl,rfl,SqL.of (s4 _ _ hb),fun p5 hp5=>?_⟩
  rw [hrl,line_rev,q7Q]
  have s5:=Same.new hp5 (.lst ((qa (ns.length+1) (pv2 ns g i)).map oV))
  have h5n:p5≠acc:=fun z=>by rw [z,e] at hp5;cases hp5
  refine ⟨s5 _ _ e,Nx.mk hi ⟨qA,⟨by rw [List.length_append,hp.1];rfl,fun c hc=>?_⟩,(s4.trans s5).upd hacc,_,rfl⟩⟩
  by_cases z:c=i
  ·subst z
   exact ⟨p5,by rw [List.getElem?_append_right (by rw [hp.1];exact Nat.le_refl _),hp.1,Nat.sub_self];rfl,⟨(s12.trans s4).free hp5,h5n⟩,by rw [qF h5n,qA]⟩
  ·obtain ⟨a',ea,⟨o1,o2⟩,ha'⟩:=hp.2 c (by omega)
   exact ⟨a',by rw [List.getElem?_append_left (by rw [hp.1];omega)];exact ea,⟨o1,o2⟩,by rw [qF o2];exact s5 _ _ ha'⟩
theorem txtW_len {n:Int} (h:n.natAbs < 10 ^ 36):(txt n).length≤37:=by
 show (txt n).cps.size≤37
 rw [← Array.length_toList]
 cases n with
 | ofNat m =>
  have e:=q3e m
  have b:=q4A 35 m h
  rw [show (txt (Int.ofNat m)).cps.toList=_ from e,List.length_map]
  omega
 | negSucc m =>
  have b:=q4A 35 (m+1) h
  rw [q4m,List.length_cons,List.length_map]
  omega
theorem q5s:∀ {l:List Str},(∀ p,p∈l→p.length≤37)→(l.map (·.length)).sum≤37*l.length
 | [],_=>Nat.le_refl _
 | x::l,h=>by
  have a:=h x List.mem_cons_self
  have b:=q5s (l:=l) fun p hp=>h p (List.mem_cons_of_mem _ hp)
  rw [List.map_cons,List.sum_cons,List.length_cons]
  omega
theorem q1T {ns:List Int} (h:ns.length≤2000) (hb:∀ n,n∈ns→n.natAbs < 10 ^ 36):JoinOk (Str.ofString " ") (ns.map txt)=true:=by
 have hs:=q5s (l:=ns.map txt) fun p hp=>by
  obtain ⟨n,hn,rfl⟩:=List.mem_map.mp hp
  exact txtW_len (hb n hn)
 rw [List.length_map] at hs
 unfold JoinOk
 have e:=PySem.StrLaws.joinTotal (Str.ofString " ") (ns.map txt)
 rw [List.length_map] at e
 have e1:(Str.ofString " ").length=1:=rfl
 rw [e1] at e
 rw [e1,e]
 unfold Builtin.Str.tooLong
 rw [PySem.sizeLine_eq,Bool.not_eq_true']
 exact decide_eq_false (by omega)
theorem q6h {n:Int} (h:n.natAbs < 10 ^ 36):n.natAbs.log2 < 128:=by
 by_cases h0:n.natAbs=0
 ·rw [h0]
  decide
 ·exact (Nat.log2_lt h0).mpr (Nat.lt_trans h (by decide))
theorem qw (x:Str):Txt.join (Str.ofString " ") [x]=x:=by
 unfold Txt.join
 rfl
structure RowOk (ns:List Int):Prop where
 l1:1≤ns.length
 l2:ns.length≤40
 b:∀ n,n∈ns→n.natAbs < 10 ^ 30
theorem RowOk.at {ns:List Int} (h:RowOk ns) {i:Nat} (hi:i < ns.length) : -(10 ^ 30) < ns.getD i 0∧ns.getD i 0 < 10 ^ 30:=by
 have:=h.b _ (List.getElem_mem hi)
 rw [List.getD_eq_getElem?_getD,List.getElem?_eq_getElem hi]
 show -(10 ^ 30) < ns[i]∧ns[i] < 10 ^ 30
 omega
theorem RowOk.sum {ns:List Int} (h:RowOk ns):∀ {i:Nat},i≤ns.length→-(10 ^ 30)*(i:Int)≤psum ns i∧psum ns i≤10 ^ 30*(i:Int)
 | 0,_=>by
  show _≤(0:Int)∧(0:Int)≤_
  omega
 | i+1,hi=>by
  have ih:=RowOk.sum h (i:=i) (by omega)
  have e:=q0K (ns:=ns) (i:=i) (by omega)
  have b:=h.at (i:=i) (by omega)
  rw [e]
  push_cast
  omega
theorem RowOk.part {ns:List Int} (h:RowOk ns) {f b:Nat} (hb:b≤ns.length) (hf:f≤b):(psum ns b-psum ns f).natAbs < 10 ^ 36:=by
 have h1:=h.sum hb
 have h2:=h.sum (i:=f) (by omega)
 have:=h.l2
 omega
structure Dst where
 row:Option (List Int)
 earlier:List (List Int)
 undone:List (List Int)
noncomputable def HeldV (H:Hp) (v:V):Option (List Int)→Prop
 | none=>v = .non
 | some ns=>∃ p,v = .ref p∧IsKept H 13 p ns
structure KL (H:Hp) (xs:List V) (rs:List (List Int)):Prop where
 len:xs.length=rs.length
 at_:∀ (i:Nat) (v:V) (r:List Int),xs[i]?=some v→rs[i]?=some r→∃ p,v = .ref p∧IsKept H 13 p r
theorem KL.nil {H:Hp}:KL H [] []:=⟨rfl,fun i v r e=>by simp at e⟩
theorem KL.keep {H H':Hp} {xs:List V} {rs:List (List Int)} (h:KL H xs rs) (s:q3B H H'):KL H' xs rs:=⟨h.len,fun i v r e1 e2=>by
 obtain ⟨p,e,k⟩:=h.at_ i v r e1 e2
 exact ⟨p,e,k.keepT s⟩⟩
theorem KL.push {H:Hp} {xs:List V} {rs:List (List Int)} {p:Addr} {r:List Int} (h:KL H xs rs) (k:IsKept H 13 p r):KL H (xs++[.ref p]) (rs++[r]):=⟨by rw [List.length_append,List.length_append,h.len];rfl,fun i v q e1 e2=>by
 by_cases hi:i < xs.length
 ·rw [List.getElem?_append_left hi] at e1
  rw [List.getElem?_append_left (by rw [← h.len];exact hi)] at e2
  exact h.at_ i v q e1 e2
 ·rw [List.getElem?_append_right (by omega)] at e1
  rw [List.getElem?_append_right (by rw [← h.len];omega),← h.len] at e2
  cases hd:i-xs.length with
  | zero =>
   rw [hd] at e1 e2
   cases e1
   cases e2
   exact ⟨p,rfl,k⟩
  | succ j=>rw [hd] at e1;simp at e1⟩
theorem KL.last {H:Hp} {xs:List V} {rs:List (List Int)} {r:List Int} (h:KL H xs (rs++[r])):∃ p ys,xs=ys++[.ref p]∧IsKept H 13 p r∧KL H ys rs:=by
 have hl:=h.len
 rw [List.length_append,List.length_singleton] at hl
 have hne:xs≠[]:=fun z=>by rw [z] at hl;simp at hl
 obtain ⟨ys,v,rfl⟩:∃ ys v,xs=ys++[v]:=⟨xs.dropLast,xs.getLast hne,(List.dropLast_concat_getLast hne).symm⟩
 have hy:ys.length=rs.length:=by rw [List.length_append,List.length_singleton] at hl;omega
 obtain ⟨p,rfl,k⟩:=h.at_ ys.length v r (by rw [List.getElem?_append_right (Nat.le_refl _),Nat.sub_self];rfl) (by rw [hy,List.getElem?_append_right (Nat.le_refl _),Nat.sub_self];rfl)
 refine ⟨p,ys,rfl,k,hy,fun i w q e1 e2=>?_⟩
 have hi:i < ys.length:=(List.getElem?_eq_some_iff.mp e1).1
 exact h.at_ i w q (by rw [List.getElem?_append_left hi];exact e1) (by rw [List.getElem?_append_left (by omega)];exact e2)
theorem HeldV.keep {H H':Hp} {v:V} {o:Option (List Int)} (h:HeldV H v o) (s:q3B H H'):HeldV H' v o:=by
 cases o with
 | none=>exact h
 | some ns=>obtain ⟨p,e,k⟩:=h;exact ⟨p,e,k.keepT s⟩
structure DeskAt (C:Addr) (H:Hp) (d e u:Addr) (st:Dst):Prop where
 ex:∃ (dx:Addr) (v:V) (xe xu:List V),H d=some (.ins C dx [("held",v),("earlier",.ref e),("undone",.ref u)])∧HeldV H v st.row∧H e=some (.lst xe)∧KL H xe st.earlier∧H u=some (.lst xu)∧KL H xu st.undone
 ne:e≠u
 rows:(∀ r,st.row=some r→RowOk r)∧(∀ r,r∈st.earlier→RowOk r)∧(∀ r,r∈st.undone→RowOk r)
 few:st.earlier.length+st.undone.length≤1000
noncomputable def FrD (d e u:Addr) (H H':Hp):Prop:=∀ b o,b≠d→b≠e→b≠u→H b=some o→H' b=some o
theorem DeskAt.keep {C:Addr} {H H':Hp} {d e u:Addr} {st:Dst} (h:DeskAt C H d e u st) (s:Same H H'):DeskAt C H' d e u st:=by
 obtain ⟨dx,v,xe,xu,h1,h2,h3,h4,h5,h6⟩:=h.ex
 have t:q3B H H':=fun b xs z=>s _ _ z
 exact ⟨⟨dx,v,xe,xu,s _ _ h1,h2.keep t,s _ _ h3,h4.keep t,s _ _ h5,h6.keep t⟩,h.ne,h.rows,h.few⟩
noncomputable def q1t:Sp:=fun vs H Q _=>∃ (p:Addr) (ns:List Int),vs=[.ref p]∧IsKept H 13 p ns∧RowOk ns∧∀ (x:Sx) (H':Hp),Same H H'→Top (PB ns) x→Q (.str (txt x.s)) H'
theorem ok_bsum {k:Nat} {f:Addr} {fd:FuncData} (F:Fun K "best_sum" "best_sum" q2K f fd) (Z:Blt mg)
  (D_many_of:Def P w K mg base k "many_of" ["held"] q0B) (D_best_in:Def P w K mg base k "best_in" ["held","stretch"] q1M) (D_shown_row:Def P w K mg base k "shown_row" ["row"] q2f):FnOk P w K mg base CX0 (k+1) f fd ["held"] q1t:=by
 refine F.ok q6N (fun vs H Q E h=>?_) (fun cdv A outer s H vs Q E hr h=>?_)
 ·obtain ⟨p,ns,rfl,_⟩:=h
  rfl
 obtain ⟨p,ns,rfl,hk,hR,fin⟩:=h
 apply Exists.intro
 apply And.intro
 case left =>
  apply qD
  exact (qL (qM D_shown_row hr rfl (q0 (qc (q0 (qJ (qG (K:=K) rfl) (qM D_best_in hr rfl (q0 (pv 0) (q0 (qp (q0 qE (q0 (qM D_many_of hr rfl (q0 (pv 0) qC)) qC))) qC))) qE (fun _ _=>rfl)) qC)) qC)))
 have l1:=hR.l1
 lk
 refine ⟨_,p,ns,rfl,hk,?_⟩
 refine ⟨by show 2≤sizeLine;decide,fun t ht=>?_⟩
 have s1:=Same.new ht (.tup [.int 0,.int (ns.length:Int)])
 lk
 refine ⟨p,t,0,(ns.length:Int),ns,rfl,hk.keep s1,qA,by decide,by omega,Int.le_refl _,fun u x H2 s2 hu hx=>?_⟩
 rw [q2x] at hx
 lk
 refine ⟨u,_,0,_,rfl,rfl,SqT.of hu,rfl,?_⟩
 refine ⟨by show 1≤sizeLine;decide,fun l hl=>?_⟩
 have s3:=Same.new hl (.lst [.int x.s])
 have hb:∀ n,n∈[x.s]→n.natAbs < 10 ^ 36:=fun n hn=>by
  rw [List.mem_singleton.mp hn]
  obtain ⟨f,b,h1,h2,rfl⟩:=hx.has
  exact hR.part h2 (by omega)
 refine ⟨l,[x.s],rfl,qA,by show 1≤1000;decide,fun n hn=>q6h (hb n hn),q1T (by show 1≤2000;decide) hb,fun H4 s4=>?_⟩
 rw [show Txt.join (Str.ofString " ") ([x.s].map txt)=txt x.s from qw _]
 exact fin x H4 ((s1.trans s2).trans (s3.trans s4)) hx
structure DC (K:PySem.W.Frag) (C:Addr):Prop where
 cl:Cls K C
 nh:NoAttr K C "held"
 ne:NoAttr K C "earlier"
 nu:NoAttr K C "undone"
noncomputable def q6G (C:Addr):Sp:=fun vs H Q _=>∃ d dx:Addr,vs=[.ref d]∧H d=some (.ins C dx [])∧∀ (e u:Addr) (H':Hp),H e=none→H u=none→(∀ b o,b≠d→H b=some o→H' b=some o)→DeskAt C H' d e u ⟨none,[],[]⟩→Q .non H'
theorem ok_init {k:Nat} {f C:Addr} {fd:FuncData} (F:Fun K "__init__" "Desk.__init__" q1e f fd) (Z:Blt mg) (DD:DC K C):FnOk P w K mg base CX0 (k+1) f fd ["self"] (q6G C):=by
 refine F.ok q5b (fun vs H Q E h=>?_) (fun cdv A outer s H vs Q E hr h=>?_)
 ·obtain ⟨d,dx,rfl,_⟩:=h
  rfl
 obtain ⟨d,dx,rfl,hd,fin⟩:=h
 apply Exists.intro
 apply And.intro
 case left =>
  apply qB
  case h1 =>
   exact (q1E (K:=K) rfl (pv 0) qj)
  apply qB
  case h1 =>
   exact (q1E (K:=K) rfl (pv 0) (qc qC))
  apply qD
  exact (q1E (K:=K) rfl (pv 0) (qc qC))
 lk
 refine ⟨d,C,dx,_,rfl,hd,DD.cl,DD.nh,by decide,?_⟩
 lk
 refine ⟨by show 0≤sizeLine;decide,fun e he=>?_⟩
 have hde:d≠e:=fun z=>by rw [← z,qA] at he;cases he
 have he0:H e=none:=by rw [qF (Ne.symm hde)] at he;exact he
 lk
 refine ⟨d,C,dx,_,rfl,by rw [qF hde,qA],DD.cl,DD.ne,by show 1 < 1000;decide,?_⟩
 lk
 refine ⟨by show 0≤sizeLine;decide,fun u hu=>?_⟩
 have hdu:d≠u:=fun z=>by rw [← z,qA] at hu;cases hu
 have heu:e≠u:=fun z=>by rw [← z,qF (Ne.symm hde),qA] at hu;cases hu
 have hu0:H u=none:=by rw [qF (Ne.symm hdu),qF (Ne.symm heu),qF (Ne.symm hdu)] at hu;exact hu
 lk
 refine ⟨d,C,dx,_,rfl,by rw [qF hdu,qA],DD.cl,DD.nu,by show 2 < 1000;decide,?_⟩
 refine fin e u _ he0 hu0 (fun b o hb z=>?_) ⟨⟨dx,.non,[],[],by rw [qA];rfl,rfl,?_,KL.nil,?_,KL.nil⟩,heu,⟨fun r z=>(by cases z),fun r z=>(by cases z),fun r z=>(by cases z)⟩,by show 0≤1000;decide⟩
 ·rw [qF hb,qF (qI z hu0),qF hb,qF (qI z he0),qF hb]
  exact z
 ·rw [qF (Ne.symm hde),qF heu,qF (Ne.symm hde),qA]
 ·rw [qF (Ne.symm hdu),qA]
noncomputable def sp_lay (C:Addr):Sp:=fun vs H Q _=>∃ (d e u r:Addr) (st:Dst) (ns:List Int),vs=[.ref d,.ref r]∧DeskAt C H d e u st∧H r=some (.lst (ns.map V.int))∧r≠e∧r≠u∧RowOk ns ∧
 ∀ (e' u':Addr) (H':Hp),H e'=none→H u'=none→FrD d e u H H'→DeskAt C H' d e' u' ⟨some ns,[],[]⟩→Q (.str (txt (ns.length:Int))) H'
theorem ok_lay {k:Nat} {f C:Addr} {fd:FuncData} (F:Fun K "lay" "Desk.lay" q2M f fd) (Z:Blt mg) (DD:DC K C)
  (D_kept:Def P w K mg base k "kept" ["row"] q3i) (D_shown_row:Def P w K mg base k "shown_row" ["row"] q2f):FnOk P w K mg base CX0 (k+1) f fd ["self","row"] (sp_lay C):=by
 refine F.ok q6O (fun vs H Q E h=>?_) (fun cdv A outer s H vs Q E hr h=>?_)
 ·obtain ⟨d,e,u,r,st,ns,rfl,_⟩:=h
  rfl
 obtain ⟨d,e,u,r,st,ns,rfl,hD,hR,hre,hru,hO,fin⟩:=h
 obtain ⟨dx,v,xe,xu,h1,_⟩:=hD.ex
 have hrd:r≠d:=fun z=>by rw [z,h1] at hR;cases hR
 have l1:=hO.l1
 have l2:=hO.l2
 have hl:(ns.map V.int).length=ns.length:=List.length_map _
 apply Exists.intro
 apply And.intro
 case left =>
  apply qB
  case h1 =>
   exact (q1E (K:=K) rfl (pv 0) (qM D_kept hr rfl (q0 (pv 1) qC)))
  apply qB
  case h1 =>
   exact (q1E (K:=K) rfl (pv 0) (qc qC))
  apply qB
  case h1 =>
   exact (q1E (K:=K) rfl (pv 0) (qc qC))
  apply qD
  exact (qL (qM D_shown_row hr rfl (q0 (qc (q0 (qV (qS (K:=K) rfl) rfl Z.len_ PySem.boot_len (q0 (pv 1) qC)) qC)) qC)))
 lk
 refine ⟨r,ns,rfl,hR,l1,by omega,fun t H1 s1 hk=>?_⟩
 have h11:=s1 _ _ h1
 lk
 refine ⟨d,C,dx,_,rfl,h11,DD.cl,DD.nh,by show 3 < 1000;decide,?_⟩
 lk
 refine ⟨by show 0≤sizeLine;decide,fun e' he=>?_⟩
 have hde:d≠e':=fun z=>by rw [← z,qA] at he;cases he
 have he1:H1 e'=none:=by rw [qF (Ne.symm hde)] at he;exact he
 lk
 refine ⟨d,C,dx,_,rfl,by rw [qF hde,qA],DD.cl,DD.ne,by show 3 < 1000;decide,?_⟩
 lk
 refine ⟨by show 0≤sizeLine;decide,fun u' hu=>?_⟩
 have hdu:d≠u':=fun z=>by rw [← z,qA] at hu;cases hu
 have heu:e'≠u':=fun z=>by rw [← z,qF (Ne.symm hde),qA] at hu;cases hu
 have hu1:H1 u'=none:=by rw [qF (Ne.symm hdu),qF (Ne.symm heu),qF (Ne.symm hdu)] at hu;exact hu
 lk
 refine ⟨d,C,dx,_,rfl,by rw [qF hdu,qA],DD.cl,DD.nu,by show 3 < 1000;decide,?_⟩
 obtain ⟨H2,eH2⟩:∃ z,z=upd (upd (upd (upd (upd H1 d (HO.ins C dx (putF (Str.ofString "held") (V.ref t) [("held",v),("earlier",.ref e),("undone",.ref u)]))) e' (HO.lst [])) d (HO.ins C dx (putF (Str.ofString "earlier") (V.ref e') (putF (Str.ofString "held") (V.ref t) [("held",v),("earlier",.ref e),("undone",.ref u)])))) u' (HO.lst [])) d (HO.ins C dx (putF (Str.ofString "undone") (V.ref u') (putF (Str.ofString "earlier") (V.ref e') (putF (Str.ofString "held") (V.ref t) [("held",v),("earlier",.ref e),("undone",.ref u)])))):=⟨_,rfl⟩
 have old:∀ b o,b≠d→H1 b=some o→H2 b=some o:=fun b o hb z=>by
  rw [eH2,qF hb,qF (qI z hu1),qF hb,qF (qI z he1),qF hb]
  exact z
 have hd2:H2 d=some (.ins C dx [("held",.ref t),("earlier",.ref e'),("undone",.ref u')]):=by rw [eH2,qA];rfl
 have he2:H2 e'=some (.lst []):=by rw [eH2,qF (Ne.symm hde),qF heu,qF (Ne.symm hde),qA]
 have hu2:H2 u'=some (.lst []):=by rw [eH2,qF (Ne.symm hdu),qA]
 have t2:q3B H1 H2:=fun b xs z=>old b _ (fun y=>by rw [y,h11] at z;cases z) z
 have hR2:H2 r=some (.lst (ns.map V.int)):=old r _ hrd (s1 _ _ hR)
 rw [← eH2]
 lk
 refine ⟨r,_,rfl,.inl (SqL.of hR2),?_⟩
 rw [hl]
 refine ⟨by show 1≤sizeLine;decide,fun l hl0=>?_⟩
 have s3:=Same.new hl0 (.lst [.int (ns.length:Int)])
 have hb:∀ n,n∈[(ns.length:Int)]→n.natAbs < 10 ^ 36:=fun n hn=>by
  rw [List.mem_singleton.mp hn]
  omega
 refine ⟨l,[(ns.length:Int)],rfl,qA,by show 1≤1000;decide,fun n hn=>q6h (hb n hn),q1T (by show 1≤2000;decide) hb,fun H4 s4=>?_⟩
 rw [show Txt.join (Str.ofString " ") ([(ns.length:Int)].map txt)=txt (ns.length:Int) from qw _]
 have s24:Same H2 H4:=s3.trans s4
 refine fin e' u' H4 (s1.free he1) (s1.free hu1) (fun b o h1 _ _ z=>s24 _ _ (old b o h1 (s1 _ _ z))) (DeskAt.keep ⟨⟨dx,.ref t,[],[],hd2,⟨t,rfl,hk.keepT t2⟩,he2,KL.nil,hu2,KL.nil⟩,heu,⟨fun r z=>(by cases z;exact hO),fun r z=>(by cases z),fun r z=>(by cases z)⟩,by show 0≤1000;decide⟩ s24)
theorem RowOk.put {ns:List Int} {cs:List (Int×Int)} (h:RowOk ns) (hc:∀ c,c∈cs→c.2.natAbs < 10 ^ 30):RowOk (q0A ns cs):=by
 induction cs generalizing ns with
 | nil=>exact h
 | cons c cs ih =>
  refine ih ⟨by rw [List.length_set];exact h.l1,by rw [List.length_set];exact h.l2,fun n hn=>?_⟩ fun d hd=>hc d (List.mem_cons_of_mem _ hd)
  rcases List.mem_or_eq_of_mem_set hn with z | z
  ·exact h.b n z
  ·rw [z]
   exact hc c List.mem_cons_self
noncomputable def sp_dput (C:Addr):Sp:=fun vs H Q _=>∃ (d e u l:Addr) (st:Dst) (ns:List Int) (xs:List V) (cs:List (Int×Int)),vs=[.ref d,.ref l]∧DeskAt C H d e u st∧st.row=some ns∧H l=some (.lst xs)∧Chg H xs cs∧q2R ns.length cs∧(∀ c,c∈cs→c.2.natAbs < 10 ^ 30)∧st.earlier.length≤900 ∧
 ∀ (u':Addr) (x:Sx) (H':Hp),H u'=none→FrD d e u H H'→DeskAt C H' d e u' ⟨some (q0A ns cs),st.earlier++[ns],[]⟩→Top (PB (q0A ns cs)) x→Q (.str (txt x.s)) H'
theorem ok_dput {k:Nat} {f C:Addr} {fd:FuncData} (F:Fun K "put" "Desk.put" q1P f fd) (Z:Blt mg) (DD:DC K C)
  (D_changed:Def P w K mg base k "changed" ["held","changes"] q1K) (D_best_sum:Def P w K mg base k "best_sum" ["held"] q1t):FnOk P w K mg base CX0 (k+1) f fd ["self","changes"] (sp_dput C):=by
 refine F.ok sc_Desk_put (fun vs H Q E h=>?_) (fun cdv A outer s H vs Q E hr h=>?_)
 ·obtain ⟨d,e,u,l,st,ns,xs,cs,rfl,_⟩:=h
  rfl
 obtain ⟨d,e,u,l,st,ns,xs,cs,rfl,hD,hrow,hl,hC,hin,hb,hfew,fin⟩:=h
 obtain ⟨dx,v,xe,xu,h1,hv,h3,h4,h5,h6⟩:=hD.ex
 rw [hrow] at hv
 obtain ⟨p,rfl,hk⟩:=hv
 have hO:=hD.rows.1 ns hrow
 apply Exists.intro
 apply And.intro
 case left =>
  apply qB
  case h1 =>
   exact (qQ (i:=2) sc_Desk_put.nd rfl (by walk_at "lr") (qM D_changed hr rfl (q0 (q03 (K:=K) rfl (pv 0)) (q0 (pv 1) qC))))
  apply qB
  case h1 =>
   exact (qo (q1Q (K:=K) rfl PySem.F.plainAttrs_list PySem.F.slot_list_append PySem.F.type_list_append q02 (q03 (K:=K) rfl (pv 0)) (q0 (q03 (K:=K) rfl (pv 0)) qC)))
  apply qB
  case h1 =>
   exact (q1E (K:=K) rfl (pv 0) (qc qC))
  apply qB
  case h1 =>
   exact (q1E (K:=K) rfl (pv 0) (pv 2))
  apply qD
  exact (qL (qM D_best_sum hr rfl (q0 (pv 2) qC)))
 lk
 refine ⟨d,C,dx,_,_,rfl,h1,DD.cl,DD.nh,rfl,?_⟩
 lk
 refine ⟨p,l,ns,xs,cs,rfl,hk,hl,hC,hin,fun t H1 s1 hkt _=>?_⟩
 have h11:=s1 _ _ h1
 have h31:=s1 _ _ h3
 have hde:d≠e:=fun z=>by rw [z,h3] at h1;cases h1
 lk
 refine ⟨d,C,dx,_,_,rfl,h11,DD.cl,DD.ne,rfl,?_⟩
 refine ⟨.inl ⟨rfl,_,SqL.of h31⟩,?_⟩
 lk
 refine ⟨d,C,dx,_,_,rfl,h11,DD.cl,DD.nh,rfl,?_⟩
 lk
 refine ⟨e,_,_,rfl,rfl,h31,small (by rw [h4.len];omega),?_⟩
 lk
 refine ⟨by show 0≤sizeLine;decide,fun u' hu=>?_⟩
 have heu:e≠u':=fun z=>by rw [← z,qA] at hu;cases hu
 have hu1:H1 u'=none:=by rw [qF (Ne.symm heu)] at hu;exact hu
 have hdu:d≠u':=fun z=>by rw [← z,h11] at hu1;cases hu1
 lk
 refine ⟨d,C,dx,_,rfl,by rw [qF hdu,qF hde];exact h11,DD.cl,DD.nu,by show 3 < 1000;decide,?_⟩
 lk
 refine ⟨d,C,dx,_,rfl,qA,DD.cl,DD.nh,by show 3 < 1000;decide,?_⟩
 rw [q4k]
 obtain ⟨H2,eH2⟩:∃ z,z=upd (upd (upd H1 e (.lst (xe++[.ref p]))) u' (.lst [])) d (.ins C dx (putF "held" (.ref t) (putF "undone" (.ref u') [("held",.ref p),("earlier",.ref e),("undone",.ref u)]))):=⟨_,rfl⟩
 have old:∀ b o,b≠d→b≠e→H1 b=some o→H2 b=some o:=fun b o hb he z=>by
  rw [eH2,qF hb,qF (qI z hu1),qF he]
  exact z
 have t2:q3B H1 H2:=fun b xs z=>old b _ (fun y=>by rw [y,h11] at z;cases z) (fun y=>by rw [y,h31] at z;cases z) z
 have t1:q3B H H1:=fun b xs z=>s1 _ _ z
 have hd2:H2 d=some (.ins C dx [("held",.ref t),("earlier",.ref e),("undone",.ref u')]):=by rw [eH2,qA];rfl
 have he2:H2 e=some (.lst (xe++[.ref p])):=by rw [eH2,qF (Ne.symm hde),qF heu,qA]
 have hu2:H2 u'=some (.lst []):=by rw [eH2,qF (Ne.symm hdu),qA]
 rw [← eH2]
 lk
 have hO2:=hO.put hb
 refine ⟨t,_,rfl,hkt.keepT t2,hO2,fun x H3 s3 hx=>?_⟩
 have kl:KL H2 (xe++[.ref p]) (st.earlier++[ns]):=((h4.keep t1).push (hk.keep s1)).keep t2
 refine fin u' x H3 (s1.free hu1) (fun b o b1 b2 b3 z=>s3 _ _ (old b o b1 b2 (s1 _ _ z))) (DeskAt.keep ⟨⟨dx,.ref t,_,[],hd2,⟨t,rfl,hkt.keepT t2⟩,he2,kl,hu2,KL.nil⟩,heu,⟨fun r z=>(by cases z;exact hO2),fun r z=>?_,fun r z=>(by cases z)⟩,?_⟩ s3) hx
 ·rcases List.mem_append.mp z with y | y
  ·exact hD.rows.2.1 r y
  ·rw [List.mem_singleton.mp y]
   exact hO
 ·show (st.earlier++[ns]).length+0≤1000
  rw [List.length_append,List.length_singleton]
  omega
noncomputable def q6p (C:Addr):Sp:=fun vs H Q _=>∃ (d e u:Addr) (ns r:List Int) (rs us:List (List Int)),vs=[.ref d]∧DeskAt C H d e u ⟨some ns,rs++[r],us⟩ ∧
 ∀ (x:Sx) (H':Hp),FrD d e u H H'→DeskAt C H' d e u ⟨some r,rs,us++[ns]⟩→Top (PB r) x→Q (.str (txt x.s)) H'
theorem ok_dundo {k:Nat} {f C:Addr} {fd:FuncData} (F:Fun K "undo" "Desk.undo" q0r f fd) (Z:Blt mg) (DD:DC K C)
  (D_best_sum:Def P w K mg base k "best_sum" ["held"] q1t):FnOk P w K mg base CX0 (k+1) f fd ["self"] (q6p C):=by
 refine F.ok q3F (fun vs H Q E h=>?_) (fun cdv A outer s H vs Q E hr h=>?_)
 ·obtain ⟨d,e,u,ns,r,rs,us,rfl,_⟩:=h
  rfl
 obtain ⟨d,e,u,ns,r,rs,us,rfl,hD,fin⟩:=h
 obtain ⟨dx,v,xe,xu,h1,hv,h3,h4,h5,h6⟩:=hD.ex
 obtain ⟨p,rfl,hk⟩:=hv
 obtain ⟨q,ys,rfl,hq,hys⟩:=h4.last
 have hde:d≠e:=fun z=>by rw [z,h3] at h1;cases h1
 have hdu:d≠u:=fun z=>by rw [z,h5] at h1;cases h1
 have heu:=hD.ne
 have hfew:=hD.few
 rw [show (Dst.mk (some ns) (rs++[r]) us).earlier=rs++[r] from rfl,show (Dst.mk (some ns) (rs++[r]) us).undone=us from rfl,List.length_append,List.length_singleton] at hfew
 have hx6:xu.length=us.length:=h6.len
 apply Exists.intro
 apply And.intro
 case left =>
  apply qB
  case h1 =>
   apply qZ
   case hc=>exact (q0I (q2O (q03 (K:=K) rfl (pv 0)) (fun _=>rfl)))
   case ha =>
    apply qD
    exact q0G
   case hb =>
    exact qP
  apply qB
  case h1 =>
   exact (qo (q1Q (K:=K) rfl PySem.F.plainAttrs_list PySem.F.slot_list_append PySem.F.type_list_append q02 (q03 (K:=K) rfl (pv 0)) (q0 (q03 (K:=K) rfl (pv 0)) qC)))
  apply qB
  case h1 =>
   exact (q1E (K:=K) rfl (pv 0) (q3y (K:=K) rfl PySem.F.plainAttrs_list PySem.F.slot_list_pop PySem.F.type_list_pop q5o (q03 (K:=K) rfl (pv 0))))
  apply qD
  exact (qL (qM D_best_sum hr rfl (q0 (q03 (K:=K) rfl (pv 0)) qC)))
 lk
 refine ⟨d,C,dx,_,_,rfl,h1,DD.cl,DD.ne,rfl,?_⟩
 lk
 refine ⟨true,.inl ⟨_,SqL.of h3,by simp⟩,?_⟩
 refine iteF ?_
 lk
 refine ⟨d,C,dx,_,_,rfl,h1,DD.cl,DD.nu,rfl,?_⟩
 refine ⟨.inl ⟨rfl,_,SqL.of h5⟩,?_⟩
 lk
 refine ⟨d,C,dx,_,_,rfl,h1,DD.cl,DD.nh,rfl,?_⟩
 lk
 refine ⟨u,_,_,rfl,rfl,h5,small (by omega),?_⟩
 have h31:upd H u (.lst (xu++[.ref p])) e=some (.lst (ys++[.ref q])):=by rw [qF heu];exact h3
 have h11:upd H u (.lst (xu++[.ref p])) d=some (.ins C dx [("held",.ref p),("earlier",.ref e),("undone",.ref u)]):=by rw [qF hdu];exact h1
 lk
 refine ⟨d,C,dx,_,_,rfl,h11,DD.cl,DD.ne,rfl,?_⟩
 refine ⟨.inl ⟨rfl,_,SqL.of h31⟩,?_⟩
 lk
 refine ⟨e,_,.ref q,rfl,rfl,h31,by rw [List.length_append,List.length_singleton,Nat.add_sub_cancel,List.getElem?_append_right (Nat.le_refl _),Nat.sub_self];rfl,?_⟩
 rw [List.dropLast_concat]
 lk
 refine ⟨d,C,dx,_,rfl,by rw [qF hde];exact h11,DD.cl,DD.nh,by show 3 < 1000;decide,?_⟩
 obtain ⟨H2,eH2⟩:∃ z,z=upd (upd (upd H u (.lst (xu++[.ref p]))) e (.lst ys)) d (.ins C dx (putF "held" (.ref q) [("held",.ref p),("earlier",.ref e),("undone",.ref u)])):=⟨_,rfl⟩
 have old:∀ b o,b≠d→b≠e→b≠u→H b=some o→H2 b=some o:=fun b o b1 b2 b3 z=>by
  rw [eH2,qF b1,qF b2,qF b3]
  exact z
 have t2:q3B H H2:=fun b xs z=>old b _ (fun y=>by rw [y,h1] at z;cases z) (fun y=>by rw [y,h3] at z;cases z) (fun y=>by rw [y,h5] at z;cases z) z
 have hd2:H2 d=some (.ins C dx [("held",.ref q),("earlier",.ref e),("undone",.ref u)]):=by rw [eH2,qA];rfl
 have he2:H2 e=some (.lst ys):=by rw [eH2,qF (Ne.symm hde),qA]
 have hu2:H2 u=some (.lst (xu++[.ref p])):=by rw [eH2,qF (Ne.symm hdu),qF (Ne.symm heu),qA]
 have hO:=hD.rows.2.1 r (List.mem_append_right _ List.mem_cons_self)
 rw [← eH2]
 lk
 refine ⟨d,C,dx,_,_,rfl,hd2,DD.cl,DD.nh,rfl,?_⟩
 lk
 refine ⟨q,r,rfl,hq.keepT t2,hO,fun x H3 s3 hx=>?_⟩
 refine fin x H3 (fun b o b1 b2 b3 z=>s3 _ _ (old b o b1 b2 b3 z)) (DeskAt.keep ⟨⟨dx,.ref q,ys,_,hd2,⟨q,rfl,hq.keepT t2⟩,he2,hys.keep t2,hu2,(h6.push hk).keep t2⟩,heu,⟨fun r' z=>(by cases z;exact hO),fun r' z=>hD.rows.2.1 r' (List.mem_append_left _ z),fun r' z=>?_⟩,?_⟩ s3) hx
 ·rcases List.mem_append.mp z with y | y
  ·exact hD.rows.2.2 r' y
  ·rw [List.mem_singleton.mp y]
   exact hD.rows.1 ns rfl
 ·show rs.length+(us++[ns]).length≤1000
  rw [List.length_append,List.length_singleton]
  omega
noncomputable def q6q (C:Addr):Sp:=fun vs H Q _=>∃ (d e u:Addr) (ns r:List Int) (rs us:List (List Int)),vs=[.ref d]∧DeskAt C H d e u ⟨some ns,rs,us++[r]⟩ ∧
 ∀ (x:Sx) (H':Hp),FrD d e u H H'→DeskAt C H' d e u ⟨some r,rs++[ns],us⟩→Top (PB r) x→Q (.str (txt x.s)) H'
theorem ok_dredo {k:Nat} {f C:Addr} {fd:FuncData} (F:Fun K "redo" "Desk.redo" q0s f fd) (Z:Blt mg) (DD:DC K C)
  (D_best_sum:Def P w K mg base k "best_sum" ["held"] q1t):FnOk P w K mg base CX0 (k+1) f fd ["self"] (q6q C):=by
 refine F.ok q3G (fun vs H Q E h=>?_) (fun cdv A outer s H vs Q E hr h=>?_)
 ·obtain ⟨d,e,u,ns,r,rs,us,rfl,_⟩:=h
  rfl
 obtain ⟨d,e,u,ns,r,rs,us,rfl,hD,fin⟩:=h
 obtain ⟨dx,v,xe,xu,h1,hv,h3,h4,h5,h6⟩:=hD.ex
 obtain ⟨p,rfl,hk⟩:=hv
 obtain ⟨q,ys,rfl,hq,hys⟩:=h6.last
 have hde:d≠e:=fun z=>by rw [z,h3] at h1;cases h1
 have hdu:d≠u:=fun z=>by rw [z,h5] at h1;cases h1
 have heu:=hD.ne
 have hfew:=hD.few
 rw [show (Dst.mk (some ns) rs (us++[r])).earlier=rs from rfl,show (Dst.mk (some ns) rs (us++[r])).undone=us++[r] from rfl,List.length_append,List.length_singleton] at hfew
 have hx6:xe.length=rs.length:=h4.len
 apply Exists.intro
 apply And.intro
 case left =>
  apply qB
  case h1 =>
   apply qZ
   case hc=>exact (q0I (q2O (q03 (K:=K) rfl (pv 0)) (fun _=>rfl)))
   case ha =>
    apply qD
    exact q0G
   case hb =>
    exact qP
  apply qB
  case h1 =>
   exact (qo (q1Q (K:=K) rfl PySem.F.plainAttrs_list PySem.F.slot_list_append PySem.F.type_list_append q02 (q03 (K:=K) rfl (pv 0)) (q0 (q03 (K:=K) rfl (pv 0)) qC)))
  apply qB
  case h1 =>
   exact (q1E (K:=K) rfl (pv 0) (q3y (K:=K) rfl PySem.F.plainAttrs_list PySem.F.slot_list_pop PySem.F.type_list_pop q5o (q03 (K:=K) rfl (pv 0))))
  apply qD
  exact (qL (qM D_best_sum hr rfl (q0 (q03 (K:=K) rfl (pv 0)) qC)))
 lk
 refine ⟨d,C,dx,_,_,rfl,h1,DD.cl,DD.nu,rfl,?_⟩
 lk
 refine ⟨true,.inl ⟨_,SqL.of h5,by simp⟩,?_⟩
 refine iteF ?_
 lk
 refine ⟨d,C,dx,_,_,rfl,h1,DD.cl,DD.ne,rfl,?_⟩
 refine ⟨.inl ⟨rfl,_,SqL.of h3⟩,?_⟩
 lk
 refine ⟨d,C,dx,_,_,rfl,h1,DD.cl,DD.nh,rfl,?_⟩
 lk
 refine ⟨e,_,_,rfl,rfl,h3,small (by omega),?_⟩
 have h31:upd H e (.lst (xe++[.ref p])) u=some (.lst (ys++[.ref q])):=by rw [qF (Ne.symm heu)];exact h5
 have h11:upd H e (.lst (xe++[.ref p])) d=some (.ins C dx [("held",.ref p),("earlier",.ref e),("undone",.ref u)]):=by rw [qF hde];exact h1
 lk
 refine ⟨d,C,dx,_,_,rfl,h11,DD.cl,DD.nu,rfl,?_⟩
 refine ⟨.inl ⟨rfl,_,SqL.of h31⟩,?_⟩
 lk
 refine ⟨u,_,.ref q,rfl,rfl,h31,by rw [List.length_append,List.length_singleton,Nat.add_sub_cancel,List.getElem?_append_right (Nat.le_refl _),Nat.sub_self];rfl,?_⟩
 rw [List.dropLast_concat]
 lk
 refine ⟨d,C,dx,_,rfl,by rw [qF hdu];exact h11,DD.cl,DD.nh,by show 3 < 1000;decide,?_⟩
 obtain ⟨H2,eH2⟩:∃ z,z=upd (upd (upd H e (.lst (xe++[.ref p]))) u (.lst ys)) d (.ins C dx (putF "held" (.ref q) [("held",.ref p),("earlier",.ref e),("undone",.ref u)])):=⟨_,rfl⟩
 have old:∀ b o,b≠d→b≠e→b≠u→H b=some o→H2 b=some o:=fun b o b1 b2 b3 z=>by
  rw [eH2,qF b1,qF b3,qF b2]
  exact z
 have t2:q3B H H2:=fun b xs z=>old b _ (fun y=>by rw [y,h1] at z;cases z) (fun y=>by rw [y,h3] at z;cases z) (fun y=>by rw [y,h5] at z;cases z) z
 have hd2:H2 d=some (.ins C dx [("held",.ref q),("earlier",.ref e),("undone",.ref u)]):=by rw [eH2,qA];rfl
 have hu2:H2 u=some (.lst ys):=by rw [eH2,qF (Ne.symm hdu),qA]
 have he2:H2 e=some (.lst (xe++[.ref p])):=by rw [eH2,qF (Ne.symm hde),qF heu,qA]
 have hO:=hD.rows.2.2 r (List.mem_append_right _ List.mem_cons_self)
 rw [← eH2]
 lk
 refine ⟨d,C,dx,_,_,rfl,hd2,DD.cl,DD.nh,rfl,?_⟩
 lk
 refine ⟨q,r,rfl,hq.keepT t2,hO,fun x H3 s3 hx=>?_⟩
 refine fin x H3 (fun b o b1 b2 b3 z=>s3 _ _ (old b o b1 b2 b3 z)) (DeskAt.keep ⟨⟨dx,.ref q,_,ys,hd2,⟨q,rfl,hq.keepT t2⟩,he2,(h4.push hk).keep t2,hu2,hys.keep t2⟩,heu,⟨fun r' z=>(by cases z;exact hO),fun r' z=>?_,fun r' z=>hD.rows.2.2 r' (List.mem_append_left _ z)⟩,?_⟩ s3) hx
 ·rcases List.mem_append.mp z with y | y
  ·exact hD.rows.2.1 r' y
  ·rw [List.mem_singleton.mp y]
   exact hD.rows.1 ns rfl
 ·show (rs++[ns]).length+us.length≤1000
  rw [List.length_append,List.length_singleton]
  omega
noncomputable def q3k (C N:Addr):Sp:=fun vs H Q E=>q6p C vs H Q E∨∃ (d e u:Addr) (st:Dst),vs=[.ref d]∧DeskAt C H d e u st∧st.earlier=[]∧E (.ref N) none H
theorem ok_dundoE {k:Nat} {f C N:Addr} {fd:FuncData} (F:Fun K "undo" "Desk.undo" q0r f fd) (Z:Blt mg) (DD:DC K C)
  (D_best_sum:Def P w K mg base k "best_sum" ["held"] q1t) (O:PyProof.Rows.OwnCls "NoRound" N bmV "ValueError.__new__" mg base):FnOk P w K mg base (CXE P w) (k+1) f fd ["self"] (q3k C N):=by
 refine (ok_dundo F Z DD D_best_sum).toE.two ?_
 refine F.okE q3F (fun vs H Q E h=>?_) (fun cdv A outer s H vs Q E hr h=>?_)
 ·obtain ⟨d,e,u,st,rfl,_⟩:=h
  rfl
 obtain ⟨d,e,u,st,rfl,hD,h0,q⟩:=h
 obtain ⟨dx,v,xe,xu,h1,hv,h3,h4,h5,h6⟩:=hD.ex
 have hx:xe=[]:=List.eq_nil_of_length_eq_zero (by rw [h4.len,h0];rfl)
 refine ⟨_,qB (qZ (q0I (q2O (q03 (K:=K) rfl (pv 0)) (fun _=>rfl))) (qD (q17 thrE rfl O PySem.F.excBase_ValueError rfl (q0 qR qC))) qP) q0L,?_⟩
 lk
 refine ⟨d,C,dx,_,_,rfl,h1,DD.cl,DD.ne,rfl,?_⟩
 lk
 refine ⟨false,.inl ⟨_,SqL.of h3,by rw [hx];rfl⟩,?_⟩
 refine iteT ?_
 exact ⟨by decide,q⟩
noncomputable def q3l (C N:Addr):Sp:=fun vs H Q E=>q6q C vs H Q E∨∃ (d e u:Addr) (st:Dst),vs=[.ref d]∧DeskAt C H d e u st∧st.undone=[]∧E (.ref N) none H
theorem ok_dredoE {k:Nat} {f C N:Addr} {fd:FuncData} (F:Fun K "redo" "Desk.redo" q0s f fd) (Z:Blt mg) (DD:DC K C)
  (D_best_sum:Def P w K mg base k "best_sum" ["held"] q1t) (O:PyProof.Rows.OwnCls "NoRound" N bmV "ValueError.__new__" mg base):FnOk P w K mg base (CXE P w) (k+1) f fd ["self"] (q3l C N):=by
 refine (ok_dredo F Z DD D_best_sum).toE.two ?_
 refine F.okE q3G (fun vs H Q E h=>?_) (fun cdv A outer s H vs Q E hr h=>?_)
 ·obtain ⟨d,e,u,st,rfl,_⟩:=h
  rfl
 obtain ⟨d,e,u,st,rfl,hD,h0,q⟩:=h
 obtain ⟨dx,v,xe,xu,h1,hv,h3,h4,h5,h6⟩:=hD.ex
 have hx:xu=[]:=List.eq_nil_of_length_eq_zero (by rw [h6.len,h0];rfl)
 refine ⟨_,qB (qZ (q0I (q2O (q03 (K:=K) rfl (pv 0)) (fun _=>rfl))) (qD (q17 thrE rfl O PySem.F.excBase_ValueError rfl (q0 qR qC))) qP) q0L,?_⟩
 lk
 refine ⟨d,C,dx,_,_,rfl,h1,DD.cl,DD.nu,rfl,?_⟩
 lk
 refine ⟨false,.inl ⟨_,SqL.of h5,by rw [hx];rfl⟩,?_⟩
 refine iteT ?_
 exact ⟨by decide,q⟩
noncomputable def q2u (ps:List (Int×Int)):List Int:=ps.flatMap fun p=>[p.1,p.2]
theorem q2t:∀ ps:List (Int×Int),(q2u ps).length=2*ps.length
 | []=>rfl
 | p::ps=>by
  have:=q2t ps
  unfold q2u at *
  rw [List.flatMap_cons,List.length_append,this,List.length_cons]
  show 2+2*ps.length=2*(ps.length+1)
  omega
theorem q4f {ps:List (Int×Int)} {i:Nat} (h:i < ps.length):q2u (ps.take (i+1))=q2u (ps.take i)++[ps[i].1,ps[i].2]:=by
 unfold q2u
 rw [List.take_succ_eq_append_getElem h,List.flatMap_append]
 rfl
noncomputable def q3M:Sp:=fun vs H Q _=>(vs=[.non]∧Q .non H)∨∃ (t st:Addr) (x:Int) (ys:List V) (ps:List (Int×Int)),vs=[.ref t]∧H t=some (.tup [.int x,.ref st])∧H st=some (.lst ys)∧Pairs H ys ps∧ps.length≤1000 ∧
 ∀ (l:Addr) (H':Hp),Same H H'→H l=none→H' l=some (.lst ((x::q2u ps).map V.int))→Q (.ref l) H'
theorem ok_withs {k:Nat} {f:Addr} {fd:FuncData} (F:Fun K "with_stretches" "with_stretches" q0F f fd) (Z:Blt mg):FnOk P w K mg base CX0 (k+1) f fd ["told"] q3M:=by
 refine F.ok sc_with_stretches (fun vs H Q E h=>?_) (fun cdv A outer s H vs Q E hr h=>?_)
 ·rcases h with ⟨rfl,_⟩ | ⟨t,st,x,ys,ps,rfl,_⟩ <;> rfl
 apply Exists.intro
 apply And.intro
 case left =>
  apply qB
  case h1 =>
   apply qZ
   case hc=>exact (qO q1B (pv 0) qj (qT _))
   case ha =>
    apply qD
    exact (qL qj)
   case hb =>
    exact qP
  apply qB
  case h1 =>
   exact (qQ (i:=1) sc_with_stretches.nd rfl (by walk_at "lr") (qc (q0 (qJ (qG (K:=K) rfl) (pv 0) qE (fun _ _=>rfl)) qC)))
  apply qB
  case h1 =>
   apply q18 PassesOwn.never rfl
   case hi=>exact (q09 (K:=K) rfl (qJ (qG (K:=K) rfl) (pv 0) qE (fun _ _=>rfl)))
   case hg=>exact (qi (i:=2) sc_with_stretches.nd rfl (by walk_at "lr"))
   case hb =>
    apply qD
    exact (qo (q1Q (K:=K) rfl PySem.F.plainAttrs_list PySem.F.slot_list_extend PySem.F.type_list_extend (q7Z (K:=K) rfl) (pv 1) (q0 (pv 2) qC)))
  apply qD
  exact (qL (pv 1))
 rcases h with ⟨rfl,q⟩ | ⟨t,st,x,ys,ps,rfl,ht,hst,hP,hz,fin⟩
 ·lk
  refine ifD (fun _=>q) (fun z=>absurd rfl z)
 have hyl:=hP.1
 lk
 refine ⟨t,_,0,_,rfl,rfl,SqT.of ht,rfl,?_⟩
 refine ⟨by show 1≤sizeLine;decide,fun l hl=>?_⟩
 have s1:=Same.new hl (.lst [.int x])
 lk
 refine ⟨t,_,1,_,rfl,rfl,SqT.of (s1 _ _ ht),rfl,?_⟩
 refine ⟨st,rfl,⟨_,SqL.of (s1 _ _ hst)⟩,?_⟩
 refine q2Q (xs:=ys) (fun i σ H'=>∃ o2,Same H H'∧H' l=some (.lst ((x::q2u (ps.take i)).map V.int))∧σ=[some (.ref t),some (.ref l),o2]) ⟨_,s1,by rw [qA];rfl,rfl⟩ ?_ ?_ ?_
 ·rintro i σ H' _ ⟨_,sm,_⟩
  exact SqL.of (sm _ _ hst)
 ·rintro i v σ H2 hv ⟨o2,s2,hl2,rfl⟩
  obtain ⟨a,p,hp,rfl,ha⟩:=hP.2 i v hv
  have hi:i < ps.length:=(List.getElem?_eq_some_iff.mp hp).1
  have ep:ps[i]=p:=(List.getElem?_eq_some_iff.mp hp).2
  have ha2:=s2 _ _ ha
  have hfl:=q2t (ps.take i)
  rw [List.length_take] at hfl
  lk
  refine ⟨.inl ⟨rfl,_,SqL.of hl2⟩,?_⟩
  lk
  refine ⟨l,a,_,[.int p.1,.int p.2],rfl,rfl,hl2,SqT.of ha2,?_,?_⟩
  ·rw [List.length_map,List.length_cons,hfl]
   exact Nat.le_of_lt (small (by show _+2≤_;omega))
  ·refine ⟨_,s2.upd hl,?_,rfl⟩
   rw [qA,q4f hi,ep,← List.cons_append,List.map_append]
   rfl
 ·rintro σ H2 ⟨o2,s2,hl2,rfl⟩
  lk
  rw [hyl,List.take_length] at hl2
  exact fin l H2 s2 hl hl2
noncomputable def q4s:Sp:=fun vs H Q _=>(vs=[.non]∧Q (.str (Str.ofString "none")) H)∨∃ (r:Addr) (ns:List Int),vs=[.ref r]∧H r=some (.lst (ns.map V.int))∧ns.length≤1000∧(∀ n,n∈ns→n.natAbs < 10 ^ 36)∧∀ H',Same H H'→Q (.str (Txt.join (Str.ofString " ") (ns.map txt))) H'
theorem ok_sans {k:Nat} {f:Addr} {fd:FuncData} (F:Fun K "shown_answer" "shown_answer" q0S f fd) (Z:Blt mg)
  (D_shown_row:Def P w K mg base k "shown_row" ["row"] q2f):FnOk P w K mg base CX0 (k+1) f fd ["answer"] q4s:=by
 refine F.ok q3o (fun vs H Q E h=>?_) (fun cdv A outer s H vs Q E hr h=>?_)
 ·rcases h with ⟨rfl,_⟩ | ⟨r,ns,rfl,_⟩ <;> rfl
 apply Exists.intro
 apply And.intro
 case left =>
  apply qD
  exact (qL (q6x (qO q1B (pv 0) qj (qT _)) qR (qM D_shown_row hr rfl (q0 (pv 0) qC))))
 rcases h with ⟨rfl,q⟩ | ⟨r,ns,rfl,hR,hn,hb,fin⟩
 ·lk
  exact ifD (fun _=>q) (fun z=>absurd rfl z)
 ·lk
  exact ⟨r,ns,rfl,hR,hn,fun n h=>q6h (hb n h),q1T (by omega) hb,fin⟩
noncomputable def sp_bars:Sp:=fun vs H Q _=>∃ (r:Addr) (ns:List Int) (m g:Nat) (x:SL),vs=[.ref r,.int m,.int g]∧H r=some (.lst (ns.map V.int))∧ns.length≤1000∧1≤m∧m≤1000∧g < 2 ^ 150∧fb ns g m 0=some x∧∀ H',Same H H'→Q (.int x.1) H'
theorem ok_bars {k:Nat} {f:Addr} {fd:FuncData} (F:Fun K "bars" "bars" q5c f fd) (Z:Blt mg)
  (D_room_for:Def P w K mg base k "room_for" ["numbers","gap"] q31) (D_several_paper:Def P w K mg base k "several_paper" ["row","many","gap"] q0X):FnOk P w K mg base CX0 (k+1) f fd ["row","many","gap"] sp_bars:=by
 refine F.ok sc_bars (fun vs H Q E h=>?_) (fun cdv A outer s H vs Q E hr h=>?_)
 ·obtain ⟨r,ns,m,g,x,rfl,_⟩:=h
  rfl
 obtain ⟨r,ns,m,g,x,rfl,hR,hn,hm1,hm2,hg,hx,fin⟩:=h
 apply Exists.intro
 apply And.intro
 case left =>
  apply qB
  case h1 =>
   apply qZ
   case hc=>exact (qO q4K (pv 1) (qM D_room_for hr rfl (q0 (qV (qS (K:=K) rfl) rfl Z.len_ PySem.boot_len (q0 (pv 0) qC)) (q0 (pv 2) qC))) (qT _))
   case ha =>
    apply qD
    exact q0G
   case hb =>
    exact qP
  apply qD
  exact (qL (qJ (qK (K:=K) rfl) (qJ (qK (K:=K) rfl) (qM D_several_paper hr rfl (q0 (pv 0) (q0 (pv 1) (q0 (pv 2) qC)))) (pv 1) (fun _ _=>rfl)) (qV (qS (K:=K) rfl) rfl Z.len_ PySem.boot_len (q0 (pv 0) qC)) (fun _ _=>rfl)))
 have hl:(ns.map V.int).length=ns.length:=List.length_map _
 lk
 refine ⟨r,_,rfl,.inl (SqL.of hR),?_⟩
 rw [hl]
 lk
 refine ⟨ns.length,g,rfl,hg,?_⟩
 lk
 refine ifD (fun z=>?_) (fun z=>?_)
 ·have h1:=room_gt (n:=ns.length) (g:=g) (m:=m) (by omega)
  have h2:=q2v (ns:=ns) (g:=g) (c:=m) (p:=0) (by omega) (by omega)
  rw [hx] at h2
  cases h2
 lk
 refine ⟨r,ns,m,g,rfl,hR,by omega,hm1,by omega,fun l xs H1 s1 hl0 hl1 hP=>?_⟩
 obtain ⟨a,ea,_,hA⟩:=hP.2 m (by omega)
 lk
 refine ⟨l,_,_,_,rfl,rfl,SqL.of hl1,qq ea,?_⟩
 lk
 refine ⟨r,_,rfl,.inl (SqL.of (s1 _ _ hR)),?_⟩
 rw [hl]
 refine ⟨a,_,_,_,rfl,rfl,SqL.of hA,atO (by omega),?_⟩
 have e:pv2 ns g m ns.length=some x.1:=by
  unfold pv2
  rw [List.take_length,hx]
  rfl
 rw [e]
 exact fin _ s1
theorem EqD.bls {K:PySem.W.Frag} {H:Hp} {a b:Addr} {bs:List Bool} (ha:SqL K H a (bs.map V.bl)) (hb:SqL K H b (bs.map V.bl)):EqD K H 1 (.ref a) (.ref b) true:=by
 have q:=EqD.lst (n:=0) (e:=fun _=>true) ha hb rfl fun j x y ex ey=>by
  rw [ex] at ey
  cases ey
  rw [List.getElem?_map] at ex
  cases e1:bs[j]? with
  | none=>rw [e1] at ex;cases ex
  | some c =>
   rw [e1] at ex
   cases ex
   have z:=EqD.flat (K:=K) (H:=H) (x:=V.bl c) (y:=V.bl c) rfl rfl
   have e:eqV (V.bl c) (V.bl c)=true:=by cases c <;> rfl
   rw [e] at z
   exact z
 have e:(List.range (bs.map V.bl).length).all (fun _=>true)=true:=by rw [List.all_eq_true];exact fun _ _=>rfl
 rw [e] at q
 exact q
noncomputable def q4t (C:Addr):Sp:=fun vs H Q E=>q3g vs H Q E∨∃ (d:Nat) (p:Addr) (i:Int) (ns:List Int),vs=[.ref p,.int i]∧IsKept H d p ns∧¬ (0≤i∧i < (ns.length:Int))∧E (.ref C) none H
theorem ok_rplE {k:Nat} {f C:Addr} {fd:FuncData} (F:Fun K "refuse_place" "refuse_place" q0E f fd) (Z:Blt mg)
  (D_is_whole:Def P w K mg base k "is_whole" ["thing"] q2d) (D_many_of:Def P w K mg base k "many_of" ["held"] q0B) (O:PyProof.Rows.OwnCls "NoPlace" C bmV "ValueError.__new__" mg base):FnOk P w K mg base (CXE P w) (k+1) f fd ["held","place"] (q4t C):=by
 refine (ok_rpl F Z D_is_whole D_many_of).toE.two ?_
 refine F.okE q1x (fun vs H Q E h=>?_) (fun cdv A outer s H vs Q E hr h=>?_)
 ·obtain ⟨d,p,i,ns,rfl,_⟩:=h
  rfl
 obtain ⟨d,p,i,ns,rfl,hk,hno,q⟩:=h
 refine ⟨_,qD (qZ (PW.pt (q35 (q0I (q1o (qM D_is_whole hr rfl (q0 (pv 1) qC)))) (q21 (q0I (q3Y q40 q1q qE (pv 1) (qM D_many_of hr rfl (q0 (pv 0) qC)))))))
  (qD (q17 thrE rfl O PySem.F.excBase_ValueError rfl (q0 qR qC))) qP),?_⟩
 lk
 refine ifD (fun h0=>?_) (fun h0=>?_)
 ·lk
  refine ⟨d,p,ns,rfl,hk,?_⟩
  lk
  rw [decide_eq_false (show ¬ i < (ns.length:Int) by omega)]
  exact ⟨by decide,q⟩
 ·lk
  exact ⟨by decide,q⟩
noncomputable def q2W (C:Addr):Sp:=fun vs H Q E=>q1K vs H Q E∨∃ (p l:Addr) (ns:List Int) (xs:List V) (pre post:List (Int×Int)) (c:Int×Int),vs=[.ref p,.ref l]∧IsKept H 13 p ns∧H l=some (.lst xs)∧Chg H xs (pre++c::post)∧q2R ns.length pre∧¬ (0≤c.1∧c.1 < (ns.length:Int))∧∀ H',Same H H'→E (.ref C) none H'
theorem q6W {k:Nat} {f C:Addr} {fd:FuncData} (F:Fun K "changed" "changed" q1z f fd) (Z:Blt mg)
  (D_refuse_place:Def P w K mg base k "refuse_place" ["held","place"] q3g) (D_with_put:Def P w K mg base k "with_put" ["held","place","number"] (q3E 13))
  (DE_refuse_place:DefE P w K mg base k "refuse_place" ["held","place"] (q4t C)):FnOk P w K mg base (CXE P w) (k+1) f fd ["held","changes"] (q2W C):=by
 have DE_with_put:=D_with_put.toE
 refine (q4c F Z D_refuse_place D_with_put).toE.two ?_
 refine F.okE sc_changed (fun vs H Q E h=>?_) (fun cdv A outer s H vs Q E hr h=>?_)
 ·obtain ⟨p,l,ns,xs,pre,post,c,rfl,_⟩:=h
  rfl
 obtain ⟨p,l,ns,xs,pre,post,c,rfl,hk,hl,hc,hin,hno,q⟩:=h
 apply Exists.intro
 apply And.intro
 case left =>
  apply qB
  case h1 =>
   exact (qQ (i:=2) sc_changed.nd rfl (by walk_at "lr") (pv 0))
  apply qB
  case h1 =>
   apply q18 PassesOwn.leaving rfl
   case hi=>exact (q09 (K:=K) rfl (pv 1))
   case hg=>exact (qi (i:=3) sc_changed.nd rfl (by walk_at "lr"))
   case hb =>
    apply qB
    case h1 =>
     exact (qo (qe DE_refuse_place hr rfl qz (q0 (pv 0) (q0 (qJ (qG (K:=K) rfl) (pv 3) qE (fun _ _=>rfl)) qC))))
    apply qD
    exact (qQ (i:=2) sc_changed.nd rfl (by walk_at "lr") (qe DE_with_put hr rfl qz (q0 (pv 2) (q0 (qJ (qG (K:=K) rfl) (pv 3) qE (fun _ _=>rfl)) (q0 (qJ (qG (K:=K) rfl) (pv 3) qE (fun _ _=>rfl)) qC)))))
  apply qD
  exact (qL (pv 2))
 have hlen:=hc.len
 rw [List.length_append,List.length_cons] at hlen
 lk
 refine ⟨⟨_,SqL.of hl⟩,?_⟩
 refine q2Q (xs:=xs) (fun i σ H'=>∃ t o,i≤pre.length∧Same H H'∧IsKept H' 13 t (q0A ns (pre.take i))∧σ=[some (.ref p),some (.ref l),some (.ref t),o]) ⟨p,none,Nat.zero_le _,Same.refl _,hk,rfl⟩ ?_ ?_ ?_
 ·rintro i σ H' _ ⟨t,o,_,sm,_⟩
  exact SqL.of (sm _ _ hl)
 ·rintro i x σ H1 hx ⟨t,o,hi,sm,hk1,rfl⟩
  obtain ⟨u,e,rfl,hc1,hu⟩:=(hc.keep sm).at hx
  lk
  refine ⟨_,_,_,_,rfl,rfl,SqT.of hu,rfl,?_⟩
  by_cases hlt:i < pre.length
  ·rw [List.getElem?_append_left hlt] at hc1
   have hcm:=hin e (List.mem_of_getElem? hc1)
   refine .inl ⟨13,p,_,ns,rfl,hk.keep sm,hcm.1,hcm.2,?_⟩
   lk
   refine ⟨_,_,_,_,rfl,rfl,SqT.of hu,rfl,?_⟩
   lk
   refine ⟨_,_,_,_,rfl,rfl,SqT.of hu,rfl,?_⟩
   refine ⟨t,_,_,_,rfl,hk1,hcm.1,by rw [q2N];exact hcm.2,fun t2 H2 s2 hk2=>?_⟩
   exact ⟨t2,_,hlt,sm.trans s2,by rw [q3s hc1];exact hk2,rfl⟩
  ·obtain rfl:i=pre.length:=by omega
   rw [List.getElem?_append_right (Nat.le_refl _),Nat.sub_self] at hc1
   simp only [List.getElem?_cons_zero,Option.some.injEq] at hc1
   subst hc1
   exact .inr ⟨13,p,_,ns,rfl,hk.keep sm,hno,q _ sm⟩
 ·rintro σ H1 ⟨t,o,hi,_⟩
  omega
noncomputable def q3C (sp:Sp) (C:Addr):Sp:=fun vs H Q E=>sp vs H Q E∨∃ (p t:Addr) (f b:Int) (ns:List Int),vs=[.ref p,.ref t]∧IsKept H 13 p ns∧H t=some (.tup [.int f,.int b])∧¬ (0≤f∧f < b∧b≤(ns.length:Int))∧E (.ref C) none H
theorem ok_kpartE {k:Nat} {f C:Addr} {fd:FuncData} (F:Fun K "known_of_part" "known_of_part" q08 f fd) (Z:Blt mg)
  (D_is_stretch:Def P w K mg base k "is_stretch" ["stretch","many"] q0w) (D_many_of:Def P w K mg base k "many_of" ["held"] q0B) (D_known_of:Def P w K mg base k "known_of" ["held","first","beyond"] (q0P 13)) (O:PyProof.Rows.OwnCls "NoStretch" C bmV "ValueError.__new__" mg base):FnOk P w K mg base (CXE P w) (k+1) f fd ["held","stretch"] (q3C q1U C):=by
 refine (q6y F Z D_is_stretch D_many_of D_known_of).toE.two ?_
 refine F.okE q1n (fun vs H Q E h=>?_) (fun cdv A outer s H vs Q E hr h=>?_)
 ·obtain ⟨p,t,f,b,ns,rfl,_⟩:=h
  rfl
 obtain ⟨p,t,f,b,ns,rfl,hk,ht,hno,q⟩:=h
 refine ⟨_,qB (qZ (q0I (q1o (qM D_is_stretch hr rfl (q0 (pv 1) (q0 (qM D_many_of hr rfl (q0 (pv 0) qC)) qC)))))
  (qD (q17 thrE rfl O PySem.F.excBase_ValueError rfl (q0 qR qC))) qP) q0L,?_⟩
 lk
 refine ⟨_,p,ns,rfl,hk,?_⟩
 refine ⟨t,f,b,_,rfl,ht,_,rfl,?_⟩
 rw [decide_eq_false hno]
 refine iteT ?_
 exact ⟨by decide,q⟩
theorem q7W {k:Nat} {f C:Addr} {fd:FuncData} (F:Fun K "best_in" "best_in" q20 f fd) (Z:Blt mg) (CC:Cons mg)
  (D_moved:Def P w K mg base k "moved" ["stretch","places"] q29) (D_known_of_part:Def P w K mg base k "known_of_part" ["held","stretch"] q1U) (DE_known_of_part:DefE P w K mg base k "known_of_part" ["held","stretch"] (q3C q1U C)):FnOk P w K mg base (CXE P w) (k+1) f fd ["held","stretch"] (q3C q1M C):=by
 have DE_moved:=D_moved.toE
 refine (q5m F Z CC D_moved D_known_of_part).toE.two ?_
 refine F.okE q4V (fun vs H Q E h=>?_) (fun cdv A outer s H vs Q E hr h=>?_)
 ·obtain ⟨p,t,f,b,ns,rfl,_⟩:=h
  rfl
 obtain ⟨p,t,f,b,ns,rfl,hk,ht,hno,q⟩:=h
 apply Exists.intro
 apply And.intro
 case left =>
  apply qD
  exact (qL (qe DE_moved hr rfl qz (q0 (qJ (qG (K:=K) rfl) (qe DE_known_of_part hr rfl qz (q0 (pv 0) (q0 (pv 1) qC))) (qW (n:=2) rfl CC.BEST) (fun _ _=>rfl)) (q0 (qJ (qG (K:=K) rfl) (pv 1) qE (fun _ _=>rfl)) qC))))
 lk
 exact .inr ⟨p,t,f,b,ns,rfl,hk,ht,hno,q⟩
noncomputable def q3N (C:Addr):Sp:=fun vs H Q E=>sp_must vs H Q E∨∃ (p:Addr) (i:Int) (ns:List Int),vs=[.ref p,.int i]∧IsKept H 13 p ns∧¬ (0≤i∧i < (ns.length:Int))∧E (.ref C) none H
theorem ok_mustE {k:Nat} {f C:Addr} {fd:FuncData} (F:Fun K "must_be" "must_be" q1y f fd) (Z:Blt mg) (CC:Cons mg)
  (D_refuse_place:Def P w K mg base k "refuse_place" ["held","place"] q3g) (D_many_of:Def P w K mg base k "many_of" ["held"] q0B) (D_known_of:Def P w K mg base k "known_of" ["held","first","beyond"] (q0P 13)) (DE_refuse_place:DefE P w K mg base k "refuse_place" ["held","place"] (q4t C)):FnOk P w K mg base (CXE P w) (k+1) f fd ["held","place"] (q3N C):=by
 refine (ok_must F Z CC D_refuse_place D_many_of D_known_of).toE.two ?_
 refine F.okE sc_must_be (fun vs H Q E h=>?_) (fun cdv A outer s H vs Q E hr h=>?_)
 ·obtain ⟨p,i,ns,rfl,_⟩:=h
  rfl
 obtain ⟨p,i,ns,rfl,hk,hno,q⟩:=h
 refine ⟨_,qB (qo (qe DE_refuse_place hr rfl qz (q0 (pv 0) (q0 (pv 1) qC)))) q0L,?_⟩
 lk
 exact .inr ⟨13,p,i,ns,rfl,hk,hno,q⟩
noncomputable def q2V (C:Addr):Sp:=fun vs H Q E=>q1J vs H Q E∨∃ n L M:Int,vs=[.int n,.int L,.int M]∧¬ (1≤L∧L≤M∧L≤n)∧E (.ref C) none H
theorem q6V {k:Nat} {f C:Addr} {fd:FuncData} (F:Fun K "longest_of" "longest_of" q0Y f fd) (Z:Blt mg)
  (O:PyProof.Rows.OwnCls "NoLength" C bmV "ValueError.__new__" mg base):FnOk P w K mg base (CXE P w) (k+1) f fd ["many","least","most"] (q2V C):=by
 refine (q4b F Z).toE.two ?_
 refine F.okE q2i (fun vs H Q E h=>?_) (fun cdv A outer s H vs Q E hr h=>?_)
 ·obtain ⟨n,L,M,rfl,_⟩:=h
  rfl
 obtain ⟨n,L,M,rfl,hn,q⟩:=h
 refine ⟨_,qB (qZ (PW.pt (q35 (qO q1q (q2r (i:=1) rfl (.inl rfl)) qE (qT _)) (q35 (qO q1q (q2r (i:=2) rfl (.inl rfl)) (q2r (i:=1) rfl (.inl rfl)) (qT _)) (q21 (qO q4K (q2r (i:=1) rfl (.inl rfl)) (q2r (i:=0) rfl (.inl rfl)) (qT _))))))
  (qD (q17 thrE rfl O PySem.F.excBase_ValueError rfl (q0 qR qC))) qP) q0L,?_⟩
 lk
 refine ifD (fun h1=>?_) (fun h1=>?_)
 ·exact ⟨by decide,q⟩
 ·lk
  refine ifD (fun h2=>?_) (fun h2=>?_)
  ·exact ⟨by decide,q⟩
  ·lk
   refine ifD (fun h3=>?_) (fun h3=>?_)
   ·exact ⟨by decide,q⟩
   ·exact absurd (show 1≤L∧L≤M∧L≤n by omega) hn
noncomputable def q2e (C:Addr):Sp:=fun vs H Q E=>q6n vs H Q E∨∃ (r:Addr) (ns:List Int) (L M:Int),vs=[.ref r,.int L,.int M]∧H r=some (.lst (ns.map V.int))∧¬ (1≤L∧L≤M∧L≤(ns.length:Int))∧E (.ref C) none H
theorem ok_sizedE {k:Nat} {f C:Addr} {fd:FuncData} (F:Fun K "best_sized" "best_sized" q0Z f fd) (Z:Blt mg)
  (D_longest_of:Def P w K mg base k "longest_of" ["many","least","most"] q1J) (D_sums_ahead:Def P w K mg base k "sums_ahead" ["row"] q3T) (D_enter_first:Def P w K mg base k "enter_first" ["firsts","ahead","first"] q3S) (DE_longest_of:DefE P w K mg base k "longest_of" ["many","least","most"] (q2V C)):FnOk P w K mg base (CXE P w) (k+1) f fd ["row","least","most"] (q2e C):=by
 refine (ok_sized F Z D_longest_of D_sums_ahead D_enter_first).toE.two ?_
 refine F.okE sc_best_sized (fun vs H Q E h=>?_) (fun cdv A outer s H vs Q E hr h=>?_)
 ·obtain ⟨r,ns,L,M,rfl,_⟩:=h
  rfl
 obtain ⟨r,ns,L,M,rfl,hR,hn,q⟩:=h
 refine ⟨_,qB (qQ (i:=3) sc_best_sized.nd rfl (.inl rfl) (qe DE_longest_of hr rfl qz (q0 (qV q3J rfl Z.len_ PySem.boot_len (q0 (q2r (i:=0) rfl (.inl rfl)) qC)) (q0 (q2r (i:=1) rfl (.inl rfl)) (q0 (q2r (i:=2) rfl (.inl rfl)) qC))))) q0L,?_⟩
 lk
 refine ⟨r,_,rfl,.inl (SqL.of hR),?_⟩
 lk
 exact .inr ⟨_,_,_,rfl,by rw [List.length_map];exact hn,q⟩
noncomputable def q2B (C:Addr):Sp:=fun vs H Q E=>q0q vs H Q E∨∃ m l g:Int,vs=[.int m,.int l,.int g]∧(m < l∨g < 0)∧E (.ref C) none H
theorem q7V {k:Nat} {f C:Addr} {fd:FuncData} (F:Fun K "refuse_counts" "refuse_counts" q07 f fd) (Z:Blt mg)
  (O:PyProof.Rows.OwnCls "NoCount" C bmV "ValueError.__new__" mg base):FnOk P w K mg base (CXE P w) (k+1) f fd ["many","least","gap"] (q2B C):=by
 refine (q5l F Z).toE.two ?_
 refine F.okE q1m (fun vs H Q E h=>?_) (fun cdv A outer s H vs Q E hr h=>?_)
 ·obtain ⟨m,l,g,rfl,_⟩:=h
  rfl
 obtain ⟨m,l,g,rfl,hn,q⟩:=h
 refine ⟨_,qD (qZ (PW.pt (q35 (qO q1q (pv 0) (pv 1) (qT _)) (q21 (qO q1q (pv 2) qE (qT _))))) (qD (q17 thrE rfl O PySem.F.excBase_ValueError rfl (q0 qR qC))) qP),?_⟩
 lk
 refine ifD (fun _=>?_) (fun z=>?_)
 ·exact ⟨by decide,q⟩
 ·lk
  refine ifD (fun _=>?_) (fun y=>absurd hn (by omega))
  exact ⟨by decide,q⟩
noncomputable def badC (C:Addr) (l:Int) (sp:Sp):Sp:=fun vs H Q E=>sp vs H Q E∨∃ (r:Addr) (m g:Int),vs=[.ref r,.int m,.int g]∧(m < l∨g < 0)∧E (.ref C) none H
theorem ok_apartE {k:Nat} {f C:Addr} {fd:FuncData} (F:Fun K "best_apart" "best_apart" q0a f fd) (Z:Blt mg)
  (D_refuse_counts:Def P w K mg base k "refuse_counts" ["many","least","gap"] q0q) (D_room_for:Def P w K mg base k "room_for" ["numbers","gap"] q31) (D_lines_of:Def P w K mg base k "lines_of" ["row","many","gap"] q2A) (D_stretches_of:Def P w K mg base k "stretches_of" ["row","lines","many","gap"] q4q)
  (DE_refuse_counts:DefE P w K mg base k "refuse_counts" ["many","least","gap"] (q2B C)):FnOk P w K mg base (CXE P w) (k+1) f fd ["row","many","gap"] (badC C 1 q2h):=by
 refine (ok_apart F Z D_refuse_counts D_room_for D_lines_of D_stretches_of).toE.two ?_
 refine F.okE sc_best_apart (fun vs H Q E h=>?_) (fun cdv A outer s H vs Q E hr h=>?_)
 ·obtain ⟨r,m,g,rfl,_⟩:=h
  rfl
 obtain ⟨r,m,g,rfl,hn,q⟩:=h
 refine ⟨_,qB (qo (qe DE_refuse_counts hr rfl qz (q0 (pv 1) (q0 qE (q0 (pv 2) qC))))) q0L,?_⟩
 lk
 exact .inr ⟨m,_,g,rfl,hn,q⟩
theorem q7S {k:Nat} {f C:Addr} {fd:FuncData} (F:Fun K "several_paper" "several_paper" q06 f fd) (Z:Blt mg)
  (D_refuse_counts:Def P w K mg base k "refuse_counts" ["many","least","gap"] q0q) (D_lines_of:Def P w K mg base k "lines_of" ["row","many","gap"] q2A)
  (DE_refuse_counts:DefE P w K mg base k "refuse_counts" ["many","least","gap"] (q2B C)):FnOk P w K mg base (CXE P w) (k+1) f fd ["row","many","gap"] (badC C 1 q0X):=by
 refine (q5j F Z D_refuse_counts D_lines_of).toE.two ?_
 refine F.okE sc_several_paper (fun vs H Q E h=>?_) (fun cdv A outer s H vs Q E hr h=>?_)
 ·obtain ⟨r,m,g,rfl,_⟩:=h
  rfl
 obtain ⟨r,m,g,rfl,hn,q⟩:=h
 refine ⟨_,qB (qo (qe DE_refuse_counts hr rfl qz (q0 (pv 1) (q0 qE (q0 (pv 2) qC))))) q0L,?_⟩
 lk
 exact .inr ⟨m,_,g,rfl,hn,q⟩
noncomputable def q52 (C:Addr):Sp:=fun vs H Q E=>sp_bars vs H Q E∨∃ (r:Addr) (ns:List Int) (m g:Nat),vs=[.ref r,.int m,.int g]∧H r=some (.lst (ns.map V.int))∧ns.length≤1000∧g < 2 ^ 150∧(m=0∨(1≤m∧fb ns g m 0=none))∧E (.ref C) none H
theorem ok_barsE {k:Nat} {f C:Addr} {fd:FuncData} (F:Fun K "bars" "bars" q5c f fd) (Z:Blt mg)
  (D_room_for:Def P w K mg base k "room_for" ["numbers","gap"] q31) (D_several_paper:Def P w K mg base k "several_paper" ["row","many","gap"] q0X) (DE_several_paper:DefE P w K mg base k "several_paper" ["row","many","gap"] (badC C 1 q0X))
  (O:PyProof.Rows.OwnCls "NoCount" C bmV "ValueError.__new__" mg base):FnOk P w K mg base (CXE P w) (k+1) f fd ["row","many","gap"] (q52 C):=by
 refine (ok_bars F Z D_room_for D_several_paper).toE.two ?_
 refine F.okE sc_bars (fun vs H Q E h=>?_) (fun cdv A outer s H vs Q E hr h=>?_)
 ·obtain ⟨r,ns,m,g,rfl,_⟩:=h
  rfl
 obtain ⟨r,ns,m,g,rfl,hR,hn,hg,hb,q⟩:=h
 have hl:(ns.map V.int).length=ns.length:=List.length_map _
 refine ⟨_,qB (qZ (qO q4K (pv 1) (qM D_room_for hr rfl (q0 (qV (qS (K:=K) rfl) rfl Z.len_ PySem.boot_len (q0 (pv 0) qC)) (q0 (pv 2) qC))) (qT _)) (qD (q17 thrE rfl O PySem.F.excBase_ValueError rfl (q0 qR qC))) qP)
  (qD (qL (qJ (qK (K:=K) rfl) (qJ (qK (K:=K) rfl) (qe DE_several_paper hr rfl qz (q0 (pv 0) (q0 (pv 1) (q0 (pv 2) qC)))) (pv 1) (fun _ _=>rfl)) (qV (qS (K:=K) rfl) rfl Z.len_ PySem.boot_len (q0 (pv 0) qC)) (fun _ _=>rfl)))),?_⟩
 lk
 refine ⟨r,_,rfl,.inl (SqL.of hR),?_⟩
 rw [hl]
 lk
 refine ⟨ns.length,g,rfl,hg,?_⟩
 lk
 refine ifD (fun z=>⟨by decide,q⟩) (fun z=>?_)
 lk
 rcases hb with rfl | ⟨h1,h2⟩
 ·exact .inr ⟨r,_,_,rfl,.inl (by decide),q⟩
 ·have h3:=q6Q (n:=ns.length) (g:=g) (m:=m) (by omega)
  exact absurd h2 (q6d (.inr ⟨by omega,h3⟩))
noncomputable def q4z (C N:Addr):Sp:=fun vs H Q E=>sp_dput C vs H Q E∨∃ (d e u l:Addr) (st:Dst) (ns:List Int) (xs:List V) (pre post:List (Int×Int)) (c:Int×Int),vs=[.ref d,.ref l]∧DeskAt C H d e u st∧st.row=some ns∧H l=some (.lst xs)∧Chg H xs (pre++c::post)∧q2R ns.length pre∧¬ (0≤c.1∧c.1 < (ns.length:Int))∧∀ H',Same H H'→E (.ref N) none H'
theorem ok_dputE {k:Nat} {f C N:Addr} {fd:FuncData} (F:Fun K "put" "Desk.put" q1P f fd) (Z:Blt mg) (DD:DC K C)
  (D_changed:Def P w K mg base k "changed" ["held","changes"] q1K) (D_best_sum:Def P w K mg base k "best_sum" ["held"] q1t) (DE_changed:DefE P w K mg base k "changed" ["held","changes"] (q2W N)):FnOk P w K mg base (CXE P w) (k+1) f fd ["self","changes"] (q4z C N):=by
 refine (ok_dput F Z DD D_changed D_best_sum).toE.two ?_
 refine F.okE sc_Desk_put (fun vs H Q E h=>?_) (fun cdv A outer s H vs Q E hr h=>?_)
 ·obtain ⟨d,e,u,l,st,ns,xs,pre,post,c,rfl,_⟩:=h
  rfl
 obtain ⟨d,e,u,l,st,ns,xs,pre,post,c,rfl,hD,hrow,hl,hC,hin,hno,q⟩:=h
 obtain ⟨dx,v,xe,xu,h1,hv,h3,h4,h5,h6⟩:=hD.ex
 rw [hrow] at hv
 obtain ⟨p,rfl,hk⟩:=hv
 refine ⟨_,qB (qQ (i:=2) sc_Desk_put.nd rfl (.inl rfl) (qe DE_changed hr rfl qz (q0 (q03 (K:=K) rfl (pv 0)) (q0 (pv 1) qC)))) q0L,?_⟩
 lk
 refine ⟨d,C,dx,_,_,rfl,h1,DD.cl,DD.nh,rfl,?_⟩
 lk
 exact .inr ⟨p,l,ns,xs,pre,post,c,rfl,hk,hl,hC,hin,hno,q⟩
inductive Ask where
 | best | ring | row
 | part (f b:Nat)
 | length (f b:Nat)
 | apart (m g:Nat)
 | bars (m g:Nat)
 | must (i:Nat)
noncomputable def Ask.word:Ask→Str
 | .best=>"best" | .ring=>"ring" | .row=>"row" | .part ..=>"part" | .length ..=>"length" | .apart ..=>"apart" | .bars ..=>"bars" | .must ..=>"must"
noncomputable def Ask.nums:Ask→List Int
 | .best=>[] | .ring=>[] | .row=>[] | .part f b=>[(f:Int),(b:Int)] | .length f b=>[(f:Int),(b:Int)] | .apart m g=>[(m:Int),(g:Int)] | .bars m g=>[(m:Int),(g:Int)] | .must i=>[(i:Int)]
noncomputable def Ask.few:Ask→Prop
 | .apart m g=>m≤1000∧g < 2 ^ 150
 | .bars m g=>m≤1000∧g < 2 ^ 150
 | _=>True
inductive Out where
 | ans (o:Option (List Int))
 | ref (i:Nat)
inductive Tells (ns:List Int):Ask→Out→Prop where
 | best {x:Sx}:Top (PB ns) x→Tells ns .best (.ans (some [x.s,x.f,x.b]))
 | ring {x:Sx}:Top (PG ns) x→Tells ns .ring (.ans (some [x.s,x.f,x.b]))
 | row:Tells ns .row (.ans (some ns))
 | part {f b:Nat} {x:Sx}:f < b→b≤ns.length→Top (PB (cutI ns f b)) x→Tells ns (.part f b) (.ans (some [x.s,x.f+f,x.b+f]))
 | partN {f b:Nat}:¬ (f < b∧b≤ns.length)→Tells ns (.part f b) (.ref 0)
 | length {L M:Nat} {s:Int} {f b:Nat}:1≤L→L≤M→L≤ns.length→q7E ns L M s f b→Tells ns (.length L M) (.ans (some [s,(f:Int),(b:Int)]))
 | lengthN {L M:Nat}:¬ (1≤L∧L≤M∧L≤ns.length)→Tells ns (.length L M) (.ref 1)
 | apart {m g:Nat} {x:SL}:1≤m→fb ns g m 0=some x→Tells ns (.apart m g) (.ans (some (x.1::q2u (x.2.map prI))))
 | apartO {m g:Nat}:1≤m→fb ns g m 0=none→Tells ns (.apart m g) (.ans none)
 | apartN {g:Nat}:Tells ns (.apart 0 g) (.ref 2)
 | bars {m g:Nat} {x:SL}:1≤m→fb ns g m 0=some x→Tells ns (.bars m g) (.ans (some [x.1]))
 | barsN {m g:Nat}:m=0∨(1≤m∧fb ns g m 0=none)→Tells ns (.bars m g) (.ref 2)
 | must1 {i:Nat}:i < ns.length→ns.length=1→Tells ns (.must i) (.ans none)
 | must {i:Nat} {v:Int}:i < ns.length→1 < ns.length→MustIs ns i v→Tells ns (.must i) (.ans (some [v]))
 | mustN {i:Nat}:¬ i < ns.length→Tells ns (.must i) (.ref 3)
noncomputable def AnsV (H:Hp) (v:V):Option (List Int)→Prop
 | none=>v = .non
 | some xs=>∃ r,v = .ref r∧H r=some (.lst (xs.map V.int))
noncomputable def clsOf (c1 c2 c3 c4:Addr):Nat→Addr
 | 0=>c1 | 1=>c2 | 2=>c3 | _=>c4
noncomputable def q6J (c1 c2 c3 c4:Addr):Sp:=fun vs H Q E=>∃ (p l:Addr) (ns:List Int) (a:Ask),vs=[.ref p,.str a.word,.ref l]∧IsKept H 13 p ns∧RowOk ns∧H l=some (.lst (a.nums.map V.int))∧a.few ∧
 (∀ (o:Option (List Int)) (v:V) (H':Hp),Same H H'→AnsV H' v o→Tells ns a (.ans o)→Q v H')∧∀ (i:Nat) (H':Hp),Same H H'→Tells ns a (.ref i)→E (.ref (clsOf c1 c2 c3 c4 i)) none H'
theorem ok_ansE {k:Nat} {f c1 c2 c3 c4:Addr} {fd:FuncData} (F:Fun K "answer_of" "answer_of" q1d f fd) (Z:Blt mg)
  (DE_many_of:DefE P w K mg base k "many_of" ["held"] q0B) (DE_best_in:DefE P w K mg base k "best_in" ["held","stretch"] (q3C q1M c1)) (DE_best_sized:DefE P w K mg base k "best_sized" ["row","least","most"] (q2e c2)) (DE_row_of:DefE P w K mg base k "row_of" ["held"] (q0v 13))
  (DE_best_round:DefE P w K mg base k "best_round" ["held"] q1u) (DE_with_stretches:DefE P w K mg base k "with_stretches" ["told"] q3M) (DE_best_apart:DefE P w K mg base k "best_apart" ["row","many","gap"] (badC c3 1 q2h)) (DE_bars:DefE P w K mg base k "bars" ["row","many","gap"] (q52 c3)) (DE_must_be:DefE P w K mg base k "must_be" ["held","place"] (q3N c4)) :
  FnOk P w K mg base (CXE P w) (k+1) f fd ["held","word","numbers"] (q6J c1 c2 c3 c4):=by
 refine F.okE sc_answer_of (fun vs H Q E h=>?_) (fun cdv A outer s H vs Q E hr h=>?_)
 ·obtain ⟨p,l,ns,a,rfl,_⟩:=h
  rfl
 obtain ⟨p,l,ns,a,rfl,hk,hO,hl,hf,fin,bad⟩:=h
 have l1:=hO.l1
 have l2:=hO.l2
 apply Exists.intro
 apply And.intro
 case left =>
  apply qB
  case h1 =>
   apply qZ
   case hc=>exact (qO q0C (pv 1) qR (qT _))
   case ha =>
    apply qD
    exact (qL (qd (qm (K:=K) rfl) rfl Z.list_ PyProof.Rows.boot_list (q0 (qe DE_best_in hr rfl qz (q0 (pv 0) (q0 (qp (q0 qE (q0 (qe DE_many_of hr rfl qz (q0 (pv 0) qC)) qC))) qC))) qC)))
   case hb =>
    exact qP
  apply qB
  case h1 =>
   apply qZ
   case hc=>exact (qO q0C (pv 1) qR (qT _))
   case ha =>
    apply qD
    exact (qL (qd (qm (K:=K) rfl) rfl Z.list_ PyProof.Rows.boot_list (q0 (qe DE_best_in hr rfl qz (q0 (pv 0) (q0 (qp (q0 (qJ (qK (K:=K) rfl) (pv 2) qE (fun _ _=>rfl)) (q0 (qJ (qK (K:=K) rfl) (pv 2) qE (fun _ _=>rfl)) qC))) qC))) qC)))
   case hb =>
    exact qP
  apply qB
  case h1 =>
   apply qZ
   case hc=>exact (qO q0C (pv 1) qR (qT _))
   case ha =>
    apply qD
    exact (qL (qd (qm (K:=K) rfl) rfl Z.list_ PyProof.Rows.boot_list (q0 (qe DE_best_sized hr rfl qz (q0 (qe DE_row_of hr rfl qz (q0 (pv 0) qC)) (q0 (qJ (qK (K:=K) rfl) (pv 2) qE (fun _ _=>rfl)) (q0 (qJ (qK (K:=K) rfl) (pv 2) qE (fun _ _=>rfl)) qC)))) qC)))
   case hb =>
    exact qP
  apply qB
  case h1 =>
   apply qZ
   case hc=>exact (qO q0C (pv 1) qR (qT _))
   case ha =>
    apply qD
    exact (qL (qd (qm (K:=K) rfl) rfl Z.list_ PyProof.Rows.boot_list (q0 (qe DE_best_round hr rfl qz (q0 (pv 0) qC)) qC)))
   case hb =>
    exact qP
  apply qB
  case h1 =>
   apply qZ
   case hc=>exact (qO q0C (pv 1) qR (qT _))
   case ha =>
    apply qD
    exact (qL (qe DE_with_stretches hr rfl qz (q0 (qe DE_best_apart hr rfl qz (q0 (qe DE_row_of hr rfl qz (q0 (pv 0) qC)) (q0 (qJ (qK (K:=K) rfl) (pv 2) qE (fun _ _=>rfl)) (q0 (qJ (qK (K:=K) rfl) (pv 2) qE (fun _ _=>rfl)) qC)))) qC)))
   case hb =>
    exact qP
  apply qB
  case h1 =>
   apply qZ
   case hc=>exact (qO q0C (pv 1) qR (qT _))
   case ha =>
    apply qD
    exact (qL (qc (q0 (qe DE_bars hr rfl qz (q0 (qe DE_row_of hr rfl qz (q0 (pv 0) qC)) (q0 (qJ (qK (K:=K) rfl) (pv 2) qE (fun _ _=>rfl)) (q0 (qJ (qK (K:=K) rfl) (pv 2) qE (fun _ _=>rfl)) qC)))) qC)))
   case hb =>
    exact qP
  apply qB
  case h1 =>
   apply qZ
   case hc=>exact (qO q0C (pv 1) qR (qT _))
   case ha =>
    apply qB
    case h1 =>
     exact (qQ (i:=3) sc_answer_of.nd rfl (by walk_at "lr") (qe DE_must_be hr rfl qz (q0 (pv 0) (q0 (qJ (qK (K:=K) rfl) (pv 2) qE (fun _ _=>rfl)) qC))))
    apply qD
    exact (qL (q6x (qO q1B (pv 3) qj (qT _)) qj (qc (q0 (pv 3) qC))))
   case hb =>
    exact qP
  apply qD
  exact (qL (qe DE_row_of hr rfl qz (q0 (pv 0) qC)))
 cases a with
 | best =>
  lk
  refine ⟨_,p,ns,rfl,hk,?_⟩
  refine ⟨by show 2≤sizeLine;decide,fun t ht=>?_⟩
  have s1:=Same.new ht (.tup [.int 0,.int (ns.length:Int)])
  refine .inl ⟨p,t,0,(ns.length:Int),ns,rfl,hk.keep s1,qA,by decide,by omega,Int.le_refl _,fun u x H2 s2 hu hx=>?_⟩
  rw [q2x] at hx
  lk
  refine ⟨u,_,rfl,.inr (SqT.of hu),fun r hr0=>?_⟩
  refine fin (some [x.s,x.f,x.b]) (.ref r) _ ((s1.trans s2).trans (Same.new hr0 _)) ⟨r,rfl,?_⟩ (.best hx)
  rw [qA]
  show some (HO.lst [V.int x.s,V.int (x.f+0),V.int (x.b+0)])=_
  rw [Int.add_zero,Int.add_zero]
  rfl
 | ring =>
  lk
  refine ⟨p,ns,rfl,hk,fun u x H2 s2 hu hx=>?_⟩
  lk
  refine ⟨u,_,rfl,.inr (SqT.of hu),fun r hr0=>?_⟩
  exact fin (some [x.s,x.f,x.b]) (.ref r) _ (s2.trans (Same.new hr0 _)) ⟨r,rfl,by rw [qA];rfl⟩ (.ring hx)
 | row =>
  lk
  refine ⟨p,ns,rfl,hk,by omega,fun r H2 s2 hr0 hr2=>?_⟩
  exact fin (some ns) (.ref r) _ s2 ⟨r,rfl,hr2⟩ .row
 | part f b =>
  have hl':H l=some (.lst [V.int (f:Int),V.int (b:Int)]):=hl
  lk
  refine ⟨l,_,0,_,rfl,rfl,SqL.of hl',rfl,?_⟩
  lk
  refine ⟨l,_,1,_,rfl,rfl,SqL.of hl',rfl,?_⟩
  refine ⟨by show 2≤sizeLine;decide,fun t ht=>?_⟩
  have s1:=Same.new ht (.tup [.int (f:Int),.int (b:Int)])
  by_cases hg:f < b∧b≤ns.length
  ·refine .inl ⟨p,t,(f:Int),(b:Int),ns,rfl,hk.keep s1,qA,by omega,by omega,by omega,fun u x H2 s2 hu hx=>?_⟩
   lk
   refine ⟨u,_,rfl,.inr (SqT.of hu),fun r hr0=>?_⟩
   exact fin (some [x.s,x.f+f,x.b+f]) (.ref r) _ ((s1.trans s2).trans (Same.new hr0 _)) ⟨r,rfl,by rw [qA];rfl⟩ (.part hg.1 hg.2 hx)
  ·exact .inr ⟨p,t,_,_,ns,rfl,hk.keep s1,qA,fun z=>hg (by omega),bad 0 _ s1 (.partN hg)⟩
 | length f b =>
  have hl':H l=some (.lst [V.int (f:Int),V.int (b:Int)]):=hl
  lk
  refine ⟨p,ns,rfl,hk,by omega,fun r H2 s2 hr0 hr2=>?_⟩
  lk
  refine ⟨l,_,0,_,rfl,rfl,SqL.of (s2 _ _ hl'),rfl,?_⟩
  lk
  refine ⟨l,_,1,_,rfl,rfl,SqL.of (s2 _ _ hl'),rfl,?_⟩
  by_cases hg:1≤f∧f≤b∧f≤ns.length
  ·refine .inl ⟨r,ns,f,(b:Int),rfl,hr2,by omega,hg.1,hg.2.2,by omega,fun t s' f' b' H3 s3 ht hB=>?_⟩
   lk
   refine ⟨t,_,rfl,.inr (SqT.of ht),fun r4 hr4=>?_⟩
   exact fin (some [s',(f':Int),(b':Int)]) (.ref r4) _ ((s2.trans s3).trans (Same.new hr4 _)) ⟨r4,rfl,by rw [qA];rfl⟩ (.length hg.1 hg.2.1 hg.2.2 hB)
  ·exact .inr ⟨r,ns,_,_,rfl,hr2,fun z=>hg (by omega),bad 1 _ s2 (.lengthN hg)⟩
 | apart m g =>
  have hl':H l=some (.lst [V.int (m:Int),V.int (g:Int)]):=hl
  have hf':m≤1000∧g < 2 ^ 150:=hf
  lk
  refine ⟨p,ns,rfl,hk,by omega,fun r H2 s2 hr0 hr2=>?_⟩
  lk
  refine ⟨l,_,0,_,rfl,rfl,SqL.of (s2 _ _ hl'),rfl,?_⟩
  lk
  refine ⟨l,_,1,_,rfl,rfl,SqL.of (s2 _ _ hl'),rfl,?_⟩
  by_cases hm:1≤m
  ·refine .inl ⟨r,ns,m,g,rfl,hr2,by omega,hm,hf'.2,fun hN=>?_,fun t st ys x H3 hx hmn s3 ht0 hst0 ht hst hP=>?_⟩
   ·lk
    exact .inl ⟨rfl,fin none .non _ s2 rfl (.apartO hm hN)⟩
   ·lk
    have hw:=fb_wf hx
    refine .inr ⟨t,st,x.1,ys,x.2.map prI,rfl,ht,hst,hP,by rw [List.length_map,hw.2.1];omega,fun r4 H4 s4 hr4 hr5=>?_⟩
    exact fin (some (x.1::q2u (x.2.map prI))) (.ref r4) _ ((s2.trans s3).trans s4) ⟨r4,rfl,hr5⟩ (.apart hm hx)
  ·obtain rfl:m=0:=by omega
   exact .inr ⟨r,_,_,rfl,.inl (by decide),bad 2 _ s2 .apartN⟩
 | bars m g =>
  have hl':H l=some (.lst [V.int (m:Int),V.int (g:Int)]):=hl
  have hf':m≤1000∧g < 2 ^ 150:=hf
  lk
  refine ⟨p,ns,rfl,hk,by omega,fun r H2 s2 hr0 hr2=>?_⟩
  lk
  refine ⟨l,_,0,_,rfl,rfl,SqL.of (s2 _ _ hl'),rfl,?_⟩
  lk
  refine ⟨l,_,1,_,rfl,rfl,SqL.of (s2 _ _ hl'),rfl,?_⟩
  by_cases hm:m=0∨(1≤m∧fb ns g m 0=none)
  ·exact .inr ⟨r,ns,m,g,rfl,hr2,by omega,hf'.2,hm,bad 2 _ s2 (.barsN hm)⟩
  ·have h1:1≤m:=by omega
   cases hx:fb ns g m 0 with
   | none=>exact absurd (.inr ⟨h1,hx⟩) hm
   | some x =>
    refine .inl ⟨r,ns,m,g,x,rfl,hr2,by omega,h1,hf'.1,hf'.2,hx,fun H3 s3=>?_⟩
    refine ⟨by show 1≤sizeLine;decide,fun r4 hr4=>?_⟩
    exact fin (some [x.1]) (.ref r4) _ ((s2.trans s3).trans (Same.new hr4 _)) ⟨r4,rfl,by rw [qA];rfl⟩ (.bars h1 hx)
 | must i =>
  have hl':H l=some (.lst [V.int (i:Int)]):=hl
  lk
  refine ⟨l,_,0,_,rfl,rfl,SqL.of hl',rfl,?_⟩
  by_cases hi:i < ns.length
  ·refine .inl ⟨p,(i:Int),ns,rfl,hk,by omega,by omega,fun h1 H2 s2=>?_,fun h1 v H2 s2 hv=>?_⟩
   ·lk
    exact fin none .non _ s2 rfl (.must1 hi h1)
   ·lk
    refine ⟨by show 1≤sizeLine;decide,fun r4 hr4=>?_⟩
    exact fin (some [v]) (.ref r4) _ (s2.trans (Same.new hr4 _)) ⟨r4,rfl,by rw [qA];rfl⟩ (.must hi h1 hv)
  ·exact .inr ⟨p,_,ns,rfl,hk,fun z=>hi (by omega),bad 3 _ (Same.refl _) (.mustN hi)⟩
noncomputable def q3R:Sp:=fun vs H Q _=>∃ (z:Str) (m q:Nat),vs=[.str z,.int ((q+1:Nat):Int)]∧q≤29∧z.cps.toList=(Nat.toDigits 10 m).map Char.toNat∧m < 10 ^ (q+1)∧∀ H',Same H H'→Q (.bl true) H'
theorem ok_figsQ {k:Nat} {f:Addr} {fd:FuncData} (F:Fun K "are_figures" "are_figures" q0k f fd) (Z:Blt mg) (CC:Cons mg):FnOk P w K mg base CX0 (k+1) f fd ["word","most"] q3R:=by
 refine F.ok q4J (fun vs H Q E h=>?_) (fun cdv A outer s H vs Q E hr h=>?_)
 ·obtain ⟨z,m,q,rfl,_⟩:=h
  rfl
 obtain ⟨z,m,q,rfl,hq,hz,hm,fin⟩:=h
 apply Exists.intro
 apply And.intro
 case left =>
  apply qB
  case h1 =>
   apply qZ
   case hc=>exact (q0I (q3Y q40 q40 qE (qV q3I rfl Z.len_ PySem.boot_len (q0 (pv 0) qC)) (pv 1)))
   case ha =>
    apply qD
    exact (qL q5h)
   case hb =>
    exact qP
  apply qB
  case h1 =>
   apply qZ
   case hc=>exact (PW.pt (q4Y (qO q0C (qJ ix_str (pv 0) qE (fun _ _=>rfl)) qR (qT _)) (q36 (qO q5i (pv 0) qR (qT _)))))
   case ha =>
    apply qD
    exact (qL q5h)
   case hb =>
    exact qP
  apply qD
  exact (qL (qV (q7C rfl) rfl Z.all_ PyProof.Rows.boot_all (q0 (q3x (N':=["sign"]) (ix:=[none]) rfl rfl (by decide +kernel) rfl rfl rfl rfl (pi_str (pv 0)) (fun _ _ _ _=>(qi (i:=0) (show List.Nodup (["sign"]:List Str) by decide +kernel) rfl (by walk_at "lr"))) (fun _ _ _ _=>q0b) (fun _ _ _ _=>(q2Y q7R (pv 0) (pe_conS (z:="0123456789") rfl CC.FIGURES) rfl))) qC)))
 have hl:z.length=(Nat.toDigits 10 m).length:=by
  have:=congrArg List.length hz
  rw [List.length_map,Array.length_toList] at this
  exact this
 have h30:z.length≤q+1:=by rw [hl];exact q4A q m hm
 have h1:1≤z.length:=by
  rw [hl]
  cases e:Nat.toDigits 10 m with
  | nil=>exact absurd e (dg_ne m)
  | cons a b=>rw [List.length_cons];omega
 lk
 refine ⟨Nat.le_of_lt (small (by omega)),?_⟩
 lk
 refine ifD (fun _=>?_) (fun h=>absurd (show (1:Int)≤(z.length:Int) by omega) h)
 lk
 rw [decide_eq_true (show (z.length:Int)≤((q+1:Nat):Int) by omega)]
 lk
 have hn0:(⟨#[48]⟩:Str)=Str.ofString "0":=by rfl
 obtain ⟨c,hc,hc0⟩:∃ c,atI z.cps.toList 0=some c∧(c=48→z=Str.ofString "0"):=by
  by_cases h0:m=0
  ·have e:z.cps.toList=[48]:=by rw [hz,h0];rfl
   refine ⟨48,by rw [e];rfl,fun _=>?_⟩
   rw [← hn0]
   cases z with
   | mk cps=>exact congrArg Str.mk (Array.toList_inj.mp e)
  ·obtain ⟨d,r,d1,d2,e⟩:=dg_head m (by omega)
   rw [hz,e,List.map_cons,q3A d d2]
   exact ⟨48+d,qq (j:=0) rfl,fun h=>absurd h (by omega)⟩
 refine ⟨z,0,c,rfl,rfl,Nat.le_of_lt (small (by omega)),hc,?_⟩
 lk
 have hs:z.cps.size=z.cps.toList.length:=(Array.length_toList).symm
 refine ifD (fun he=>?_) (fun _=>?_)
 ·have hz0:z=Str.ofString "0":=hc0 (by
   have e:=V.str.inj he
   rw [← hn0] at e
   have e2:=congrArg (fun q=>q.cps.toList) e
   simpa using e2)
  lk
  rw [decide_eq_true (congrArg V.str hz0)]
  refine iteF ?_
  lk
  intro acc hacc
  refine q0d (n:=z.cps.size) (fun i τ zs H'=>H' acc=some (.lst zs)∧zs=(List.replicate i true).map V.bl∧Same H H'∧∃ o0,τ=[o0]) ⟨qA,rfl,Same.new hacc _,none,rfl⟩ (by show z.length≤_;omega) ?_ ?_ ?_ ?_
  ·rintro i τ zs H' ⟨e,rfl,_⟩
   exact ⟨e,by rw [List.length_map,List.length_replicate];exact Nat.le_refl _⟩
  ·rintro i τ zs H' hi _
   exact hi
  ·rintro τ zs H' ⟨e,rfl,sm,_⟩
   refine ⟨Nat.le_refl _,?_⟩
   refine ⟨acc,List.replicate z.cps.size true,rfl,SqL.of e,?_⟩
   have ea:(List.replicate z.cps.size true).all id=true:=by simp
   rw [ea]
   exact fin _ sm
  ·rintro i τ zs H' v H2 hi ⟨e,rfl,sm,o0,rfl⟩ ⟨rfl,c,hc',rfl⟩
   obtain ⟨d,hd,rfl⟩:∃ d,d < 10∧c=48+d:=by
    have mc:c∈z.cps.toList:=by
     rw [← Array.getElem?_toList] at hc'
     exact List.mem_of_getElem? hc'
    rw [hz] at mc
    obtain ⟨ch,h1,h2⟩:=List.mem_map.mp mc
    obtain ⟨d,hd,rfl⟩:=q74 m ch h1
    exact ⟨d,hd,by rw [← h2,q3A d hd]⟩
   lk
   refine ⟨e,Nx.mk hi ⟨qA,?_,sm.upd hacc,_,rfl⟩⟩
   rw [figs_in d hd,List.replicate_succ',List.map_append]
   rfl
 ·lk
  intro acc hacc
  refine q0d (n:=z.cps.size) (fun i τ zs H'=>H' acc=some (.lst zs)∧zs=(List.replicate i true).map V.bl∧Same H H'∧∃ o0,τ=[o0]) ⟨qA,rfl,Same.new hacc _,none,rfl⟩ (by show z.length≤_;omega) ?_ ?_ ?_ ?_
  ·rintro i τ zs H' ⟨e,rfl,_⟩
   exact ⟨e,by rw [List.length_map,List.length_replicate];exact Nat.le_refl _⟩
  ·rintro i τ zs H' hi _
   exact hi
  ·rintro τ zs H' ⟨e,rfl,sm,_⟩
   refine ⟨Nat.le_refl _,?_⟩
   refine ⟨acc,List.replicate z.cps.size true,rfl,SqL.of e,?_⟩
   have ea:(List.replicate z.cps.size true).all id=true:=by simp
   rw [ea]
   exact fin _ sm
  ·rintro i τ zs H' v H2 hi ⟨e,rfl,sm,o0,rfl⟩ ⟨rfl,c,hc',rfl⟩
   obtain ⟨d,hd,rfl⟩:∃ d,d < 10∧c=48+d:=by
    have mc:c∈z.cps.toList:=by
     rw [← Array.getElem?_toList] at hc'
     exact List.mem_of_getElem? hc'
    rw [hz] at mc
    obtain ⟨ch,h1,h2⟩:=List.mem_map.mp mc
    obtain ⟨d,hd,rfl⟩:=q74 m ch h1
    exact ⟨d,hd,by rw [← h2,q3A d hd]⟩
   lk
   refine ⟨e,Nx.mk hi ⟨qA,?_,sm.upd hacc,_,rfl⟩⟩
   rw [figs_in d hd,List.replicate_succ',List.map_append]
   rfl
theorem figs30:∀ vs H Q E,sp_figs vs H Q E→q3R vs H Q E:=fun vs H Q E ⟨z,m,e,hz,hm,fin⟩=>⟨z,m,29,e,by decide,hz,hm,fin⟩
noncomputable def q4u:Sp:=fun vs H Q _=>∃ m:Nat,vs=[.str (txt (m:Int))]∧m < 10 ^ 6∧∀ H',Same H H'→Q (.int (m:Int)) H'
theorem ok_rfig {k:Nat} {f:Addr} {fd:FuncData} (F:Fun K "read_figures" "read_figures" q0T f fd) (Z:Blt mg) (CC:Cons mg)
  (D_are_figures:Def P w K mg base k "are_figures" ["word","most"] q3R):FnOk P w K mg base CX0 (k+1) f fd ["word"] q4u:=by
 refine F.ok q3p (fun vs H Q E h=>?_) (fun cdv A outer s H vs Q E hr h=>?_)
 ·obtain ⟨n,rfl,_⟩:=h
  rfl
 obtain ⟨n,rfl,hn,fin⟩:=h
 have hn':(n:Int).natAbs < 10 ^ 30:=Nat.lt_trans hn (by decide)
 apply Exists.intro
 apply And.intro
 case left =>
  apply qB
  case h1 =>
   apply qZ
   case hc=>exact (q0I (q1o (qM D_are_figures hr rfl (q0 (pv 0) (q0 (qW (n:=6) rfl CC.MOST_FIGURES_desk) qC)))))
   case ha =>
    apply qD
    exact q0G
   case hb =>
    exact qP
  apply qD
  exact (qL (qd q1j rfl Z.int_ PyProof.Rows.boot_int (q0 (pv 0) qC)))
 lk
 refine ⟨_,n,5,rfl,by decide,q3e n,hn,fun H1 s1=>?_⟩
 lk
 exact ⟨_,_,rfl,q4l hn',Nat.le_trans (q0O hn') (by decide),fin _ s1⟩
noncomputable def q6D:Sp:=fun vs H Q _=>∃ n:Int,vs=[.str (txt n)]∧n.natAbs < 10 ^ 30∧∀ H',Same H H'→Q (.int n) H'
theorem ok_rnum {k:Nat} {f:Addr} {fd:FuncData} (F:Fun K "read_number" "read_number" q0e f fd) (Z:Blt mg)
  (D_is_number:Def P w K mg base k "is_number" ["word"] q3O):FnOk P w K mg base CX0 (k+1) f fd ["word"] q6D:=by
 refine F.ok q4F (fun vs H Q E h=>?_) (fun cdv A outer s H vs Q E hr h=>?_)
 ·obtain ⟨n,rfl,_⟩:=h
  rfl
 obtain ⟨n,rfl,hn,fin⟩:=h
 apply Exists.intro
 apply And.intro
 case left =>
  apply qB
  case h1 =>
   apply qZ
   case hc=>exact (q0I (q1o (qM D_is_number hr rfl (q0 (pv 0) qC))))
   case ha =>
    apply qD
    exact q0G
   case hb =>
    exact qP
  apply qD
  exact (qL (qd q1j rfl Z.int_ PyProof.Rows.boot_int (q0 (pv 0) qC)))
 lk
 refine ⟨hn,fun H1 s1=>?_⟩
 lk
 exact ⟨_,_,rfl,q4l hn,Nat.le_trans (q0O hn) (by decide),fin _ s1⟩
noncomputable def q1G:List (Nat×Int)→List V
 | []=>[]
 | c::cs=>.str (txt (c.1:Int))::.str (txt c.2)::q1G cs
theorem q4Q:∀ cs:List (Nat×Int),(q1G cs).length=2*cs.length
 | []=>rfl
 | c::cs=>by
  show (q1G cs).length+1+1=_
  rw [q4Q cs,List.length_cons]
  omega
theorem q5P:∀ {cs:List (Nat×Int)} {i:Nat} {c:Nat×Int},cs[i]?=some c→(q1G cs)[2*i]?=some (.str (txt (c.1:Int)))∧(q1G cs)[2*i+1]?=some (.str (txt c.2))
 | [],_,_,h=>by simp at h
 | c::cs,0,_,h=>by
  simp at h
  subst h
  exact ⟨rfl,rfl⟩
 | c::cs,i+1,d,h=>q5P (cs:=cs) (i:=i) h
noncomputable def intC (c:Nat×Int):Int×Int:=((c.1:Int),c.2)
theorem Chg.snoc {H:Hp} {c:Int×Int} {p:Addr} (hp:H p=some (.tup [.int c.1,.int c.2])):∀ {xs:List V} {cs:List (Int×Int)},Chg H xs cs→Chg H (xs++[.ref p]) (cs++[c])
 | [],[],_=>⟨⟨p,rfl,hp⟩,trivial⟩
 | x::xs,d::cs,⟨h,t⟩=>⟨h,Chg.snoc hp t⟩
theorem Chg.keepT {H H':Hp} (s:q3B H H'):∀ {xs:List V} {cs:List (Int×Int)},Chg H xs cs→Chg H' xs cs
 | [],[],_=>trivial
 | _::_,_::_,⟨⟨p,e,h⟩,t⟩=>⟨⟨p,e,s _ _ h⟩,Chg.keepT s t⟩
noncomputable def q6E:Sp:=fun vs H Q _=>∃ (l:Addr) (cs:List (Nat×Int)),vs=[.ref l]∧H l=some (.lst (q1G cs))∧1≤cs.length∧cs.length≤20∧(∀ c,c∈cs→c.1 < 10 ^ 6∧c.2.natAbs < 10 ^ 30) ∧
 ∀ (r:Addr) (xs:List V) (H':Hp),H r=none→Same H H'→H' r=some (.lst xs)→Chg H' xs (cs.map intC)→Q (.ref r) H'
theorem ok_rchg {k:Nat} {f:Addr} {fd:FuncData} (F:Fun K "read_changes" "read_changes" q0U f fd) (Z:Blt mg) (CC:Cons mg)
  (D_read_figures:Def P w K mg base k "read_figures" ["word"] q4u) (D_read_number:Def P w K mg base k "read_number" ["word"] q6D):FnOk P w K mg base CX0 (k+1) f fd ["words"] q6E:=by
 refine F.ok q3q (fun vs H Q E h=>?_) (fun cdv A outer s H vs Q E hr h=>?_)
 ·obtain ⟨l,cs,rfl,_⟩:=h
  rfl
 obtain ⟨l,cs,rfl,hl,h1,h2,hb,fin⟩:=h
 have hw:=q4Q cs
 apply Exists.intro
 apply And.intro
 case left =>
  apply qB
  case h1 =>
   apply qZ
   case hc=>exact (PW.pt (q35 (q0I (q3Y q40 q40 qE (qV (qS (K:=K) rfl) rfl Z.len_ PySem.boot_len (q0 (pv 0) qC)) (qU q4a qE (qW (n:=20) rfl CC.MOST_PAIRS)))) (q21 (qO q5i (qU qr (qV (qS (K:=K) rfl) rfl Z.len_ PySem.boot_len (q0 (pv 0) qC)) qE) qE (qT _)))))
   case ha =>
    apply qD
    exact q0G
   case hb =>
    exact qP
  apply qD
  exact (qL (q3x (N':=["turn","words"]) (ix:=[none,some 0]) rfl rfl (by decide +kernel) rfl rfl rfl rfl (pi_rangeT rfl Z.range_ (q0 qE (q0 (qV (qS (K:=K) rfl) rfl Z.len_ PySem.boot_len (q0 (pv 0) qC)) (q0 qE qC)))) (fun _ _ _ _=>(qi (i:=0) (show List.Nodup (["turn","words"]:List Str) by decide +kernel) rfl (by walk_at "lr"))) (fun _ _ _ _=>q0b) (fun _ _ _ _=>(qp (q0 (qM D_read_figures hr rfl (q0 (qJ q5F (pv 1) (pv 0) (fun _ _=>rfl)) qC)) (q0 (qM D_read_number hr rfl (q0 (qJ q5F (pv 1) (qU qf (pv 0) qE) (fun _ _=>rfl)) qC)) qC))))))
 lk
 refine ⟨l,_,rfl,.inl (SqL.of hl),?_⟩
 rw [hw]
 lk
 refine ifD (fun _=>?_) (fun h=>absurd (show (2:Int)≤((2*cs.length:Nat):Int) by omega) h)
 lk
 rw [decide_eq_true (show ((2*cs.length:Nat):Int)≤2*20 by omega)]
 lk
 refine ⟨l,_,rfl,.inl (SqL.of hl),?_⟩
 rw [hw]
 lk
 have hmod:((2*cs.length:Nat):Int)%2=0:=by omega
 refine if_b (c:=false) (show (!decide (V.int (((2*cs.length:Nat):Int)%2)=V.int 0))=false by rw [hmod];rfl) ?_
 refine iteF ?_
 lk
 refine ⟨l,_,rfl,.inl (SqL.of hl),?_⟩
 rw [hw]
 refine ⟨0,((2*cs.length:Nat):Int),rfl,⟨by decide,by decide,by omega,by omega⟩,?_⟩
 rw [show ((((2*cs.length:Nat):Int)-0+1)/2).toNat=cs.length by omega]
 intro acc hacc
 refine q0d (n:=cs.length) (fun i τ zs H'=>H' acc=some (.lst zs)∧Chg H' zs ((cs.take i).map intC)∧zs.length=i∧Same H H'∧∃ o0,τ=[o0,some (.ref l)]) ⟨qA,trivial,rfl,Same.new hacc _,none,rfl⟩ (by omega) ?_ ?_ ?_ ?_
 ·rintro i τ zs H' ⟨e,_,hz,_⟩
  exact ⟨e,by omega⟩
 ·rintro i τ zs H' hi _
  exact hi
 ·rintro τ zs H' ⟨e,hc,hz,sm,_⟩
  rw [List.take_length] at hc
  exact ⟨Nat.le_refl _,fin acc zs H' hacc sm e hc⟩
 ·rintro i τ zs H' v H2 hi ⟨e,hc,hz,sm,o0,rfl⟩ ⟨rfl,rfl⟩
  have hci:cs[i]?=some cs[i]:=List.getElem?_eq_getElem hi
  obtain ⟨w1,w2⟩:=q5P hci
  obtain ⟨b1,b2⟩:=hb _ (List.getElem_mem hi)
  have a1:atI (q1G cs) (0+(i:Int)*2)=some (.str (txt (cs[i].1:Int))):=by
   rw [show 0+(i:Int)*2=((2*i:Nat):Int) by omega]
   exact qq w1
  have a2:atI (q1G cs) (0+(i:Int)*2+1)=some (.str (txt cs[i].2)):=by
   rw [show 0+(i:Int)*2+1=((2*i+1:Nat):Int) by omega]
   exact qq w2
  lk
  refine ⟨l,_,_,_,rfl,rfl,SqL.of (sm _ _ hl),a1,?_⟩
  refine ⟨_,rfl,b1,fun H3 s3=>?_⟩
  lk
  refine ⟨l,_,_,_,rfl,rfl,SqL.of (s3 _ _ (sm _ _ hl)),a2,?_⟩
  refine ⟨_,rfl,b2,fun H4 s4=>?_⟩
  lk
  refine ⟨by show 2≤sizeLine;decide,fun p hp=>?_⟩
  have sp:=Same.new hp (.tup [.int (cs[i].1:Int),.int cs[i].2])
  have s5:=(s3.trans s4).trans sp
  refine ⟨s5 _ _ e,Nx.mk hi ⟨qA,?_,by rw [List.length_append,hz];rfl,(sm.trans s5).upd hacc,_,rfl⟩⟩
  rw [List.take_succ_eq_append_getElem hi,List.map_append]
  have hpa:p≠acc:=fun z=>by
   have:=s5 _ _ e
   rw [z,qA] at this
   cases this
  refine Chg.snoc (by rw [qF hpa,qA];rfl) (hc.keepT fun b xs z=>?_)
  rw [qF (fun y=>by rw [y,e] at z;cases z)]
  exact s5 _ _ z
noncomputable def nbl:List (Str×Int):=[("row",0),("undo",0),("again",0),("best",0),("part",2),("length",2),("ring",0),("apart",2),("bars",2),("must",1)]
theorem ok_rtext {k:Nat} {f:Addr} {fd:FuncData} (F:Fun K "read_text" "read_text" q1W f fd)
  (D_read_row:Def P w K mg base k "read_row" ["text"] q2U):FnOk P w K mg base CX0 (k+1) f fd ["text"] q2U:=by
 refine F.ok q5X (fun vs H Q E h=>?_) (fun cdv A outer s H vs Q E hr h=>?_)
 ·obtain ⟨ns,rfl,_⟩:=h
  rfl
 obtain ⟨ns,rfl,h1,h2,hb,fin⟩:=h
 apply Exists.intro
 apply And.intro
 case left =>
  apply qD
  exact ps_tryN fun pins xe=>(qD (qL (qM D_read_row hr rfl (q0 (pv 0) qC))))
 lk
 exact ⟨h1,h2,hb,fin⟩
noncomputable def q4v:Sp:=fun vs H Q _ =>
 (∃ (l:Addr) (cs:List (Nat×Int)),vs=[.str "put",.ref l]∧H l=some (.lst (q1G cs))∧1≤cs.length∧cs.length≤20∧(∀ c,c∈cs→c.1 < 10 ^ 6∧c.2.natAbs < 10 ^ 30) ∧
  ∀ (r:Addr) (xs:List V) (H':Hp),H r=none→Same H H'→H' r=some (.lst xs)→Chg H' xs (cs.map intC)→Q (.ref r) H') ∨
 ∃ (l:Addr) (z:Str) (ns:List Nat),vs=[.str z,.ref l]∧z≠"put"∧valD nbl z = .int (ns.length:Int)∧H l=some (.lst (ns.map fun n:Nat=>V.str (txt (n:Int))))∧ns.length≤2∧(∀ n,n∈ns→n < 10 ^ 6) ∧
  ∀ (r:Addr) (H':Hp),H r=none→Same H H'→H' r=some (.lst (ns.map fun n:Nat=>V.int (n:Int)))→Q (.ref r) H'
theorem ok_rbeh {k:Nat} {f AB:Addr} {fd:FuncData} (F:Fun K "read_behind" "read_behind" q0f f fd) (Z:Blt mg) (NB:NumD K w AB nbl) (mB:mg "NUMBERS_BEHIND" = some (.ref AB))
  (D_read_changes:Def P w K mg base k "read_changes" ["words"] q6E) (D_read_figures:Def P w K mg base k "read_figures" ["word"] q4u):FnOk P w K mg base CX0 (k+1) f fd ["word","words"] q4v:=by
 refine F.ok q4G (fun vs H Q E h=>?_) (fun cdv A outer s H vs Q E hr h=>?_)
 ·rcases h with ⟨l,cs,rfl,_⟩ | ⟨l,z,ns,rfl,_⟩ <;> rfl
 apply Exists.intro
 apply And.intro
 case left =>
  apply qB
  case h1 =>
   apply qZ
   case hc=>exact (qO q0C (pv 0) qR (qT _))
   case ha =>
    apply qD
    exact (qL (qM D_read_changes hr rfl (q0 (pv 1) qC)))
   case hb =>
    exact qP
  apply qB
  case h1 =>
   apply qZ
   case hc=>exact (qO q5i (pe_dgetK (K:=K) (w:=w) rfl rfl NB (q0c (v:=.ref _) rfl mB rfl) (pv 0) ⟨rfl,rfl,rfl,rfl⟩) (qV (qS (K:=K) rfl) rfl Z.len_ PySem.boot_len (q0 (pv 1) qC)) (qT _))
   case ha =>
    apply qD
    exact q0G
   case hb =>
    exact qP
  apply qD
  exact (qL (q3x (N':=["one"]) (ix:=[none]) rfl rfl (by decide +kernel) rfl rfl rfl rfl (q09 (K:=K) rfl (pv 1)) (fun _ _ _ _=>(qi (i:=0) (show List.Nodup (["one"]:List Str) by decide +kernel) rfl (by walk_at "lr"))) (fun _ _ _ _=>q0b) (fun _ _ _ _=>(qM D_read_figures hr rfl (q0 (pv 0) qC)))))
 rcases h with ⟨l,cs,rfl,hl,h1,h2,hb,fin⟩ | ⟨l,z,ns,rfl,hz,hv,hl,h2,hb,fin⟩
 ·lk
  exact ⟨l,cs,rfl,hl,h1,h2,hb,fin⟩
 ·lk
  rw [decide_eq_false (fun h=>hz (V.str.inj h))]
  lk
  refine ⟨l,_,rfl,.inl (SqL.of hl),?_⟩
  rw [hv,List.length_map]
  lk
  refine if_b (c:=false) (show (!decide (V.int (ns.length:Int)=V.int (ns.length:Int)))=false by rw [decide_eq_true rfl];rfl) ?_
  refine iteF ?_
  lk
  refine ⟨⟨_,SqL.of hl⟩,?_⟩
  intro acc hacc
  refine q0d (n:=ns.length) (fun i τ zs H'=>H' acc=some (.lst zs)∧zs=(ns.take i).map (fun n:Nat=>V.int (n:Int))∧Same H H'∧∃ o0,τ=[o0]) ⟨qA,rfl,Same.new hacc _,none,rfl⟩ (by omega) ?_ ?_ ?_ ?_
  ·rintro i τ zs H' ⟨e,rfl,_⟩
   exact ⟨e,by rw [List.length_map,List.length_take];omega⟩
  ·rintro i τ zs H' hi ⟨e,_,sm,_⟩
   exact ⟨_,V.str (txt (ns[i]:Int)),SqL.of (sm _ _ hl),by rw [List.getElem?_map,List.getElem?_eq_getElem hi];rfl⟩
  ·rintro τ zs H' ⟨e,rfl,sm,_⟩
   refine ⟨⟨_,SqL.of (sm _ _ hl),by rw [List.length_map];exact Nat.le_refl _⟩,?_⟩
   rw [List.take_length] at e
   exact fin _ _ hacc sm e
  ·rintro i τ zs H' v H2 hi ⟨e,rfl,sm,o0,rfl⟩ ⟨rfl,y⟩
   have ey:=y _ (SqL.of (sm _ _ hl))
   rw [List.getElem?_map,List.getElem?_eq_getElem hi] at ey
   obtain rfl:V.str (txt (ns[i]:Int))=v:=Option.some.inj ey
   lk
   refine ⟨hb _ (List.getElem_mem hi),fun H3 s3=>?_⟩
   refine ⟨s3 _ _ e,Nx.mk hi ⟨qA,?_,(sm.trans s3).upd hacc,_,rfl⟩⟩
   rw [List.take_succ_eq_append_getElem hi,List.map_append]
   rfl
theorem q7K {z:Str} {k:Nat} (h1:1≤k) (hk:k≤z.length):(Txt.slice z (some (k:Int)) none).cps.toList=z.cps.toList.drop k:=by
 obtain ⟨cps⟩:=z
 obtain ⟨l⟩:=cps
 have hk':k≤l.length:=hk
 have hl:(⟨⟨l⟩⟩:Str).length=l.length:=rfl
 have hi:Builtin.Str.strSliceIndices (some (k:Int)) none 1 l.length=(List.range (l.length-k)).map (·+k):=by
  have a:(max 0 (min (k:Int) (l.length:Int)))=(k:Int):=by omega
  have hneg:¬ ((k:Int) < 0):=by omega
  unfold Builtin.Str.strSliceIndices
  simp only [hneg,if_false,show (1:Int) > 0 by decide,if_true]
  rw [a]
  unfold sliceRange
  simp only [show (1:Int) > 0 by decide,if_true]
  have b:(if (k:Int) < (l.length:Int) then ((l.length:Int)-(k:Int)+1-1)/1 else 0).toNat=l.length-k:=by
   split
   ·rw [Int.ediv_one];omega
   ·omega
  rw [b]
  exact List.map_congr_left fun j _=>by omega
 unfold Txt.slice
 rw [hl,hi,if_neg (by simp;omega)]
 show ((List.range (l.length-k)).map (·+k)).filterMap (fun j=>l.toArray[j]?)=l.drop k
 rw [List.filterMap_map]
 have e:((fun j=>l.toArray[j]?) ∘ fun x=>x+k)=fun j=>(l.drop k)[j]?:=by
  funext j
  simp [Nat.add_comm]
 rw [e]
 have r:=q3r (l.drop k)
 rw [List.length_drop] at r
 exact r
theorem q25 {x y:Str} {l:List Str}:Txt.join (Str.ofString " ") (x::y::l)=x++⟨#[32]⟩++Txt.join (Str.ofString " ") (y::l):=by
 rw [q4n,q4n]
 rfl
theorem row_cut {y:Str} {l:List Str}:Txt.slice (Txt.join (Str.ofString " ") (Str.ofString "row"::y::l)) (some 4) none=Txt.join (Str.ofString " ") (y::l):=by
 rw [q25]
 have e:(Str.ofString "row"++⟨#[32]⟩++Txt.join (Str.ofString " ") (y::l)).cps.toList=[114,111,119]++32::(Txt.join (Str.ofString " ") (y::l)).cps.toList:=q1C
 have hl:4≤(Str.ofString "row"++⟨#[32]⟩++Txt.join (Str.ofString " ") (y::l)).length:=by
  show 4≤(Str.ofString "row"++⟨#[32]⟩++Txt.join (Str.ofString " ") (y::l)).cps.size
  rw [← Array.length_toList,e,List.length_append,List.length_cons]
  exact Nat.add_le_add (Nat.le_refl 3) (Nat.succ_le_succ (Nat.zero_le _))
 refine q6m ?_
 have d:=q7K (k:=4) (by decide) hl
 rw [e] at d
 exact d
theorem q7g {l:List Str} (h:l.length≤2000) (hb:∀ p,p∈l→p.length≤31):JoinOk (Str.ofString " ") l=true:=by
 have hs:=q5D hb
 unfold JoinOk
 have e:=PySem.StrLaws.joinTotal (Str.ofString " ") l
 have e1:(Str.ofString " ").length=1:=rfl
 rw [e1] at e
 rw [e1,e]
 unfold Builtin.Str.tooLong
 rw [PySem.sizeLine_eq,Bool.not_eq_true']
 exact decide_eq_false (by omega)
noncomputable def q0W:List (Nat×Int)→List Str
 | []=>[]
 | c::cs=>txt (c.1:Int)::txt c.2::q0W cs
theorem q5O:∀ cs:List (Nat×Int),q1G cs=(q0W cs).map V.str
 | []=>rfl
 | c::cs=>by
  show _::_::q1G cs=_::_::(q0W cs).map V.str
  rw [q5O cs]
noncomputable def Ask.nat:Ask→List Nat
 | .best=>[] | .ring=>[] | .row=>[] | .part f b=>[f,b] | .length f b=>[f,b] | .apart m g=>[m,g] | .bars m g=>[m,g] | .must i=>[i]
inductive Cmd where
 | row (ns:List Int)
 | put (cs:List (Nat×Int))
 | undo | again
 | ask (a:Ask)
noncomputable def Cmd.words:Cmd→List Str
 | .row ns=>"row"::ns.map txt
 | .put cs=>"put"::q0W cs
 | .undo=>["undo"]
 | .again=>["again"]
 | .ask a=>a.word::a.nat.map fun n:Nat=>txt (n:Int)
noncomputable def Cmd.text (c:Cmd):Str:=Txt.join (Str.ofString " ") c.words
noncomputable def Cmd.ok:Cmd→Prop
 | .row ns=>RowOk ns
 | .put cs=>1≤cs.length∧cs.length≤20∧∀ c,c∈cs→c.1 < 10 ^ 6∧c.2.natAbs < 10 ^ 30
 | .undo=>True
 | .again=>True
 | .ask a=>a.few∧∀ n,n∈a.nat→n < 10 ^ 6
noncomputable def q6s:Option (List Int)→Str
 | none=>"none"
 | some xs=>Txt.join (Str.ofString " ") (xs.map txt)
inductive Rep where
 | ans (z:Str)
 | ref (i:Nat)
inductive Says (st:Dst):Cmd→Rep→Dst→Prop where
 | row {ns:List Int}:Says st (.row ns) (.ans (txt (ns.length:Int))) ⟨some ns,[],[]⟩
 | none {c:Cmd}:(∀ ns,c≠.row ns)→st.row=none→Says st c (.ref 6) st
 | put {cs:List (Nat×Int)} {ns:List Int} {x:Sx}:st.row=some ns→q2R ns.length (cs.map intC)→Top (PB (q0A ns (cs.map intC))) x→Says st (.put cs) (.ans (txt x.s)) ⟨some (q0A ns (cs.map intC)),st.earlier++[ns],[]⟩
 | putN {cs:List (Nat×Int)} {ns:List Int}:st.row=some ns→¬ q2R ns.length (cs.map intC)→Says st (.put cs) (.ref 3) st
 | undo {ns r:List Int} {rs:List (List Int)} {x:Sx}:st.row=some ns→st.earlier=rs++[r]→Top (PB r) x→Says st .undo (.ans (txt x.s)) ⟨some r,rs,st.undone++[ns]⟩
 | undoN {ns:List Int}:st.row=some ns→st.earlier=[]→Says st .undo (.ref 7) st
 | again {ns r:List Int} {us:List (List Int)} {x:Sx}:st.row=some ns→st.undone=us++[r]→Top (PB r) x→Says st .again (.ans (txt x.s)) ⟨some r,st.earlier++[ns],us⟩
 | againN {ns:List Int}:st.row=some ns→st.undone=[]→Says st .again (.ref 7) st
 | ask {a:Ask} {ns:List Int} {o:Option (List Int)}:st.row=some ns→Tells ns a (.ans o)→Says st (.ask a) (.ans (q6s o)) st
 | askN {a:Ask} {ns:List Int} {i:Nat}:st.row=some ns→Tells ns a (.ref i)→Says st (.ask a) (.ref i) st
theorem Ask.nums_nat (a:Ask):a.nums=a.nat.map fun n:Nat=>(n:Int):=by cases a <;> rfl
theorem Ask.nat_few (a:Ask):a.nat.length≤2:=by cases a <;> (dsimp only [Ask.nat,List.length];decide)
theorem Ask.behind (a:Ask):valD nbl a.word = .int (a.nat.length:Int):=by cases a <;> (dsimp only [Ask.nat,Ask.word,List.length];decide)
theorem Ask.not_put (a:Ask):a.word≠"put":=by cases a <;> (dsimp only [Ask.word];decide)
theorem q4P:∀ cs:List (Nat×Int),(q0W cs).length=2*cs.length
 | []=>rfl
 | c::cs=>by
  show (q0W cs).length+1+1=_
  rw [q4P cs,List.length_cons]
  omega
theorem q4O:∀ {cs:List (Nat×Int)} {p:Str},p∈q0W cs→∃ c,c∈cs∧(p=txt (c.1:Int)∨p=txt c.2)
 | c::cs,p,h=>by
  rcases List.mem_cons.mp h with h | h
  ·exact ⟨c,List.mem_cons_self,.inl h⟩
  ·rcases List.mem_cons.mp h with h | h
   ·exact ⟨c,List.mem_cons_self,.inr h⟩
   ·obtain ⟨d,hd,e⟩:=q4O h
    exact ⟨d,List.mem_cons_of_mem _ hd,e⟩
theorem Ask.word_free (a:Ask):32∉a.word.cps.toList∧a.word.length≤31:=by cases a <;> (dsimp only [Ask.word];decide)
theorem Cmd.plain {c:Cmd} (h:c.ok):c.words≠[]∧c.words.length≤41∧∀ p,p∈c.words→32∉p.cps.toList∧p.length≤31:=by
 have nat6:∀ {n:Nat},n < 10 ^ 6→32∉(txt (n:Int)).cps.toList∧(txt (n:Int)).length≤31:=fun {n} hn=>⟨q3L _,q0O (Nat.lt_trans (show (n:Int).natAbs < 10 ^ 6 from hn) (by decide))⟩
 cases c with
 | row ns =>
  have h':RowOk ns:=h
  have l2:=h'.l2
  refine ⟨List.cons_ne_nil _ _,?_,fun p hp=>?_⟩
  ·show (ns.map txt).length+1≤41
   rw [List.length_map]
   omega
  ·rcases List.mem_cons.mp hp with rfl | hp
   ·decide
   ·obtain ⟨n,hn,rfl⟩:=List.mem_map.mp hp
    exact ⟨q3L n,q0O (h'.b n hn)⟩
 | put cs =>
  obtain ⟨h1,h2,hb⟩:1≤cs.length∧cs.length≤20∧∀ c,c∈cs→c.1 < 10 ^ 6∧c.2.natAbs < 10 ^ 30:=h
  refine ⟨List.cons_ne_nil _ _,?_,fun p hp=>?_⟩
  ·show (q0W cs).length+1≤41
   rw [q4P]
   omega
  ·rcases List.mem_cons.mp hp with rfl | hp
   ·decide
   ·obtain ⟨c,hc,e | e⟩:=q4O hp <;> subst e
    ·exact nat6 (hb c hc).1
    ·exact ⟨q3L _,q0O (hb c hc).2⟩
 | undo=>exact ⟨List.cons_ne_nil _ _,by decide,fun p hp=>by rw [List.mem_singleton.mp hp];decide⟩
 | again=>exact ⟨List.cons_ne_nil _ _,by decide,fun p hp=>by rw [List.mem_singleton.mp hp];decide⟩
 | ask a =>
  obtain ⟨_,hb⟩:a.few∧∀ n,n∈a.nat→n < 10 ^ 6:=h
  have:=a.nat_few
  refine ⟨List.cons_ne_nil _ _,?_,fun p hp=>?_⟩
  ·show (a.nat.map _).length+1≤41
   rw [List.length_map]
   omega
  ·rcases List.mem_cons.mp hp with rfl | hp
   ·exact a.word_free
   ·obtain ⟨n,hn,rfl⟩:=List.mem_map.mp hp
    exact nat6 (hb n hn)
theorem Cmd.split {c:Cmd} (h:c.ok):Txt.split c.text (Str.ofString " ")=c.words:=q4T (Cmd.plain h).1 fun p hp=>((Cmd.plain h).2.2 p hp).1
theorem Cmd.short {c:Cmd} (h:c.ok):c.text.length≤sizeLine:=PySem.joinOk_length (q7g (by have:=(Cmd.plain h).2.1;omega) fun p hp=>((Cmd.plain h).2.2 p hp).2)
noncomputable def clsD (c1 c2 c3 c4 n6 n7:Addr):Nat→Addr
 | 0=>c1 | 1=>c2 | 2=>c3 | 3=>c4 | 6=>n6 | _=>n7
theorem Tells.low {ns:List Int} {a:Ask} {i:Nat} (h:Tells ns a (.ref i)) {c1 c2 c3 c4 n6 n7:Addr}:clsOf c1 c2 c3 c4 i=clsD c1 c2 c3 c4 n6 n7 i:=by
 cases h <;> rfl
noncomputable def TellsOk:Prop:=∀ (ns:List Int) (a:Ask) (xs:List Int),RowOk ns→a.few→Tells ns a (.ans (some xs))→xs.length≤1000∧∀ n,n∈xs→n.natAbs < 10 ^ 36
noncomputable def sp_say (C:Addr) (cls:Nat→Addr):Sp:=fun vs H Q E=>∃ (d e u:Addr) (st:Dst) (c:Cmd),vs=[.ref d,.str c.text]∧DeskAt C H d e u st∧c.ok∧st.earlier.length≤900 ∧
 (∀ (z:Str) (st':Dst) (e' u':Addr) (H':Hp),(e'=e∨H e'=none)→(u'=u∨H u'=none)→FrD d e u H H'→DeskAt C H' d e' u' st'→Says st c (.ans z) st'→Q (.str z) H') ∧
 ∀ (i:Nat) (H':Hp),Same H H'→Says st c (.ref i) st→E (.ref (cls i)) none H'
theorem Ask.not_turn (a:Ask):a.word≠"undo"∧a.word≠"again":=by cases a <;> (dsimp only [Ask.word];decide)
theorem cut1 (x:Str) (l:List Str):cutV ((x::l).map V.str) (some 1) none=l.map V.str:=by
 unfold cutV HT.sIx
 simp
 exact List.take_of_length_le (by simp)
theorem q5z {n:Nat}:∀ {cs:List (Int×Int)},¬ q2R n cs→∃ pre c post,cs=pre++c::post∧q2R n pre∧¬ (0≤c.1∧c.1 < (n:Int))
 | [],h=>absurd (fun c hc=>by cases hc) h
 | c::cs,h=>by
  by_cases hc:0≤c.1∧c.1 < (n:Int)
  ·have h':¬ q2R n cs:=fun z=>h fun d hd=>by
    rcases List.mem_cons.mp hd with rfl | hd
    ·exact hc
    ·exact z d hd
   obtain ⟨pre,d,post,e,h1,h2⟩:=q5z h'
   refine ⟨c::pre,d,post,by rw [e];rfl,fun b hb=>?_,h2⟩
   rcases List.mem_cons.mp hb with rfl | hb
   ·exact hc
   ·exact h1 b hb
  ·exact ⟨[],c,cs,rfl,(fun b hb=>by cases hb),hc⟩
theorem ok_say {k:Nat} {f C c1 c2 c3 c4 n6 n7:Addr} {fd:FuncData} (F:Fun K "say" "Desk.say" q2L f fd) (Z:Blt mg) (DD:DC K C) (TB:TellsOk)
  (DE_read_text:DefE P w K mg base k "read_text" ["text"] q2U) (DE_read_behind:DefE P w K mg base k "read_behind" ["word","words"] q4v)
  (ME_Desk_lay:MDef (CXE P w) P w K mg base k C "lay" ["self","row"] (sp_lay C)) (ME_Desk_put:MDef (CXE P w) P w K mg base k C "put" ["self","changes"] (q4z C c4)) (ME_Desk_undo:MDef (CXE P w) P w K mg base k C "undo" ["self"] (q3k C n7))
  (ME_Desk_redo:MDef (CXE P w) P w K mg base k C "redo" ["self"] (q3l C n7)) (DE_shown_answer:DefE P w K mg base k "shown_answer" ["answer"] q4s) (DE_answer_of:DefE P w K mg base k "answer_of" ["held","word","numbers"] (q6J c1 c2 c3 c4))
  (O:PyProof.Rows.OwnCls "NoneYet" n6 bmV "ValueError.__new__" mg base):FnOk P w K mg base (CXE P w) (k+1) f fd ["self","row"] (sp_say C (clsD c1 c2 c3 c4 n6 n7)):=by
 refine F.okE sc_Desk_say (fun vs H Q E h=>?_) (fun cdv A outer s H vs Q E hr h=>?_)
 ·obtain ⟨d,e,u,st,c,rfl,_⟩:=h
  rfl
 obtain ⟨d,e,u,st,c,rfl,hD,hok,hfew,fin,bad⟩:=h
 have CL:=DD.cl
 have hsp:=Cmd.split hok
 have hsz:=Cmd.short hok
 obtain ⟨hne,h41,_⟩:=Cmd.plain hok
 apply Exists.intro
 apply And.intro
 case left =>
  apply qB
  case h1 =>
   exact (qQ (i:=2) sc_Desk_say.nd rfl (by walk_at "lr") (q7P PySem.F.plainAttrs_str PySem.F.slot_str_split PySem.F.type_str_split q70 (pv 1) (q0 qR qC)))
  apply qB
  case h1 =>
   exact (qQ (i:=3) sc_Desk_say.nd rfl (by walk_at "lr") (qJ (qK (K:=K) rfl) (pv 2) qE (fun _ _=>rfl)))
  apply qB
  case h1 =>
   apply qZ
   case hc=>exact (PW.pt (q4Y (qO q0C (pv 3) qR (qT _)) (q36 (qO q4K (qV (qS (K:=K) rfl) rfl Z.len_ PySem.boot_len (q0 (pv 2) qC)) qE (qT _)))))
   case ha =>
    apply qD
    exact (qL (pe_md ME_Desk_lay CL hr qz (pv 0) (q0 (qe DE_read_text hr rfl qz (q0 (q1A sl_str (pv 1) (q1g (qV q3I rfl Z.len_ PySem.boot_len (q0 qR qC))) q2X) qC)) qC)))
   case hb =>
    exact qP
  apply qB
  case h1 =>
   exact (qQ (i:=4) sc_Desk_say.nd rfl (by walk_at "lr") (qe DE_read_behind hr rfl qz (q0 (pv 3) (q0 (q1A (q2C (K:=K) rfl) (pv 2) (q1g qE) q2X) qC))))
  apply qB
  case h1 =>
   apply qZ
   case hc=>exact (qO q1B (q03 (K:=K) rfl (pv 0)) qj (qT _))
   case ha =>
    apply qD
    exact (q17 thrE rfl O PySem.F.excBase_ValueError rfl (q0 qR qC))
   case hb =>
    exact qP
  apply qB
  case h1 =>
   apply qZ
   case hc=>exact (qO q0C (pv 3) qR (qT _))
   case ha =>
    apply qD
    exact (qL (pe_md ME_Desk_put CL hr qz (pv 0) (q0 (pv 4) qC)))
   case hb =>
    exact qP
  apply qB
  case h1 =>
   apply qZ
   case hc=>exact (qO q0C (pv 3) qR (qT _))
   case ha =>
    apply qD
    exact (qL (pe_md0 ME_Desk_undo CL hr qz (pv 0)))
   case hb =>
    exact qP
  apply qB
  case h1 =>
   apply qZ
   case hc=>exact (qO q0C (pv 3) qR (qT _))
   case ha =>
    apply qD
    exact (qL (pe_md0 ME_Desk_redo CL hr qz (pv 0)))
   case hb =>
    exact qP
  apply qD
  exact (qL (qe DE_shown_answer hr rfl qz (q0 (qe DE_answer_of hr rfl qz (q0 (q03 (K:=K) rfl (pv 0)) (q0 (pv 3) (q0 (pv 4) qC)))) qC)))
 lk
 refine ⟨hsz,by rw [hsp];exact Nat.le_of_lt (small (by omega)),fun l hl0=>?_⟩
 rw [hsp]
 have s1:=Same.new hl0 (.lst (c.words.map V.str))
 obtain ⟨H1,eH1⟩:∃ z,z=upd H l (.lst (c.words.map V.str)):=⟨_,rfl⟩
 rw [← eH1] at s1 ⊢
 have hl:H1 l=some (.lst (c.words.map V.str)):=by rw [eH1,qA]
 have hD1:=hD.keep s1
 obtain ⟨dx,v,xe,xu,h1,hv,h3,h4,h5,h6⟩:=hD1.ex
 lk
 cases c with
 | row ns =>
  have hR:RowOk ns:=hok
  have l1:=hR.l1
  have l2:=hR.l2
  refine ⟨l,_,0,_,rfl,rfl,SqL.of hl,qq (j:=0) (v:=.str "row") rfl,?_⟩
  lk
  refine ⟨l,_,rfl,.inl (SqL.of hl),?_⟩
  have hlen:(((Cmd.row ns).words.map V.str).length:Int) > 1:=by
   rw [List.length_map]
   show (((ns.map txt).length+1:Nat):Int) > 1
   rw [List.length_map]
   omega
  lk
  rw [decide_eq_true hlen]
  lk
  refine ⟨d,dx,_,rfl,h1,rfl,?_⟩
  lk
  refine ⟨by decide,?_⟩
  lk
  refine ⟨hsz,?_⟩
  have hcut:Txt.slice (Cmd.row ns).text (some 4) none=Txt.join (Str.ofString " ") (ns.map txt):=by
   cases ns with
   | nil=>exact absurd l1 (by decide)
   | cons n ns=>exact row_cut
  refine ⟨ns,congrArg (fun z=>[V.str z]) hcut,l1,by omega,hR.b,fun r H3 hr0 s3 hr3=>?_⟩
  lk
  refine ⟨d,e,u,r,st,ns,rfl,hD1.keep s3,hr3,(qI h3 hr0).symm,(qI h5 hr0).symm,hR,fun e' u' H4 he' hu' f4 hD4=>?_⟩
  have s13:=s1.trans s3
  exact fin _ _ e' u' H4 (.inr (s13.free he')) (.inr (s13.free hu')) (fun b o n1 n2 n3 z=>f4 b o n1 n2 n3 (s13 _ _ z)) hD4 .row
 | put cs =>
  obtain ⟨p1,p2,pb⟩:1≤cs.length∧cs.length≤20∧∀ c,c∈cs→c.1 < 10 ^ 6∧c.2.natAbs < 10 ^ 30:=hok
  refine ⟨l,_,0,_,rfl,rfl,SqL.of hl,qq (j:=0) (v:=.str "put") rfl,?_⟩
  lk
  refine ⟨l,_,rfl,SqL.of hl,fun l2 hl2=>?_⟩
  have hc:cutV ((Cmd.put cs).words.map V.str) (some 1) none=q1G cs:=by
   rw [q5O]
   exact cut1 _ _
  rw [hc]
  have s2:=Same.new hl2 (.lst (q1G cs))
  refine .inl ⟨l2,cs,rfl,qA,p1,p2,pb,fun r xs H3 hr0 s3 hr3 hC=>?_⟩
  have hD3:=hD1.keep (s2.trans s3)
  obtain ⟨dx3,v3,xe3,xu3,d1,dv,d3,d4,d5,d6⟩:=hD3.ex
  lk
  refine ⟨d,C,dx3,_,_,rfl,d1,DD.cl,DD.nh,rfl,?_⟩
  have s13:=s1.trans (s2.trans s3)
  cases hrow:st.row with
  | none =>
   rw [hrow] at dv
   obtain rfl:v3 = .non:=dv
   lk
   exact ⟨by decide,bad 6 _ s13 (.none (fun ns z=>by cases z) hrow)⟩
  | some ns =>
   rw [hrow] at dv
   obtain ⟨p,rfl,hk⟩:=dv
   lk
   refine ⟨d,dx3,_,rfl,d1,rfl,?_⟩
   lk
   by_cases hin:q2R ns.length (cs.map intC)
   ·refine .inl ⟨d,e,u,r,st,ns,xs,cs.map intC,rfl,hD3,hrow,hr3,hC,hin,fun c hc=>?_,hfew,fun u' x H4 hu' f4 hD4 hx=>?_⟩
    ·obtain ⟨c0,h0,rfl⟩:=List.mem_map.mp hc
     exact (pb c0 h0).2
    ·exact fin (txt x.s) _ e u' H4 (.inl rfl) (.inr (s13.free hu')) (fun b o n1 n2 n3 z=>f4 b o n1 n2 n3 (s13 _ _ z)) hD4 (.put hrow hin hx)
   ·obtain ⟨pre,c,post,ep,hpre,hno⟩:=q5z hin
    refine .inr ⟨d,e,u,r,st,ns,xs,pre,post,c,rfl,hD3,hrow,hr3,ep▸hC,hpre,hno,fun H4 s4=>?_⟩
    exact bad 3 _ (s13.trans s4) (.putN hrow hin)
 | undo =>
  refine ⟨l,_,0,_,rfl,rfl,SqL.of hl,rfl,?_⟩
  lk
  refine ⟨l,_,rfl,SqL.of hl,fun l2 hl2=>?_⟩
  have s2:=Same.new hl2 (.lst (cutV ((Cmd.undo).words.map V.str) (some 1) none))
  refine .inr ⟨l2,"undo",[],rfl,by decide,by decide,?_,by decide,fun n hn=>(by cases hn),fun r H3 hr0 s3 hr3=>?_⟩
  ·rw [qA]
   rfl
  have hD3:=hD1.keep (s2.trans s3)
  obtain ⟨dx3,v3,xe3,xu3,d1,dv,d3,d4,d5,d6⟩:=hD3.ex
  lk
  refine ⟨d,C,dx3,_,_,rfl,d1,DD.cl,DD.nh,rfl,?_⟩
  have s13:=s1.trans (s2.trans s3)
  cases hrow:st.row with
  | none =>
   rw [hrow] at dv
   obtain rfl:v3 = .non:=dv
   lk
   exact ⟨by decide,bad 6 _ s13 (.none (fun ns z=>by cases z) hrow)⟩
  | some ns =>
   rw [hrow] at dv
   obtain ⟨p,rfl,hk⟩:=dv
   lk
   refine ⟨d,dx3,_,rfl,d1,rfl,?_⟩
   by_cases he:st.earlier=[]
   ·exact .inr ⟨d,e,u,st,rfl,hD3,he,bad 7 _ s13 (.undoN hrow he)⟩
   ·obtain ⟨rs,r,her⟩:∃ rs r,st.earlier=rs++[r]:=⟨_,_,(List.dropLast_concat_getLast he).symm⟩
    refine .inl ⟨d,e,u,ns,r,rs,st.undone,rfl,?_,fun x H4 f4 hD4 hx=>?_⟩
    ·rw [← hrow,← her]
     exact hD3
    ·exact fin (txt x.s) _ e u H4 (.inl rfl) (.inl rfl) (fun b o n1 n2 n3 z=>f4 b o n1 n2 n3 (s13 _ _ z)) hD4 (.undo hrow her hx)
 | again =>
  refine ⟨l,_,0,_,rfl,rfl,SqL.of hl,rfl,?_⟩
  lk
  refine ⟨l,_,rfl,SqL.of hl,fun l2 hl2=>?_⟩
  have s2:=Same.new hl2 (.lst (cutV ((Cmd.again).words.map V.str) (some 1) none))
  refine .inr ⟨l2,"again",[],rfl,by decide,by decide,?_,by decide,fun n hn=>(by cases hn),fun r H3 hr0 s3 hr3=>?_⟩
  ·rw [qA]
   rfl
  have hD3:=hD1.keep (s2.trans s3)
  obtain ⟨dx3,v3,xe3,xu3,d1,dv,d3,d4,d5,d6⟩:=hD3.ex
  lk
  refine ⟨d,C,dx3,_,_,rfl,d1,DD.cl,DD.nh,rfl,?_⟩
  have s13:=s1.trans (s2.trans s3)
  cases hrow:st.row with
  | none =>
   rw [hrow] at dv
   obtain rfl:v3 = .non:=dv
   lk
   exact ⟨by decide,bad 6 _ s13 (.none (fun ns z=>by cases z) hrow)⟩
  | some ns =>
   rw [hrow] at dv
   obtain ⟨p,rfl,hk⟩:=dv
   lk
   refine ⟨d,dx3,_,rfl,d1,rfl,?_⟩
   by_cases he:st.undone=[]
   ·exact .inr ⟨d,e,u,st,rfl,hD3,he,bad 7 _ s13 (.againN hrow he)⟩
   ·obtain ⟨us,r,her⟩:∃ us r,st.undone=us++[r]:=⟨_,_,(List.dropLast_concat_getLast he).symm⟩
    refine .inl ⟨d,e,u,ns,r,st.earlier,us,rfl,?_,fun x H4 f4 hD4 hx=>?_⟩
    ·rw [← hrow,← her]
     exact hD3
    ·exact fin (txt x.s) _ e u H4 (.inl rfl) (.inl rfl) (fun b o n1 n2 n3 z=>f4 b o n1 n2 n3 (s13 _ _ z)) hD4 (.again hrow her hx)
 | ask a =>
  obtain ⟨af,ab⟩:a.few∧∀ n,n∈a.nat→n < 10 ^ 6:=hok
  refine ⟨l,_,0,_,rfl,rfl,SqL.of hl,qq (j:=0) (v:=.str a.word) rfl,?_⟩
  lk
  refine (fun rest=>ifD (fun hw=>?_) (fun _=>rest)) ?_
  ·lk
   refine ⟨l,_,rfl,.inl (SqL.of hl),?_⟩
   have hlen:¬ (1:Int) < (((Cmd.ask a).words.map V.str).length:Int):=by
    rw [List.length_map]
    cases a <;> first | decide | exact absurd (V.str.inj hw) (by dsimp only [Ask.word];decide)
   lk
   rw [decide_eq_false hlen]
   exact rest
  lk
  refine ⟨l,_,rfl,SqL.of hl,fun l2 hl2=>?_⟩
  have hc:cutV ((Cmd.ask a).words.map V.str) (some 1) none=a.nat.map fun n:Nat=>V.str (txt (n:Int)):=by
   refine (cut1 _ _).trans ?_
   rw [List.map_map]
   rfl
  rw [hc]
  have s2:=Same.new hl2 (.lst (a.nat.map fun n:Nat=>V.str (txt (n:Int))))
  refine .inr ⟨l2,a.word,a.nat,rfl,a.not_put,a.behind,qA,a.nat_few,ab,fun r H3 hr0 s3 hr3=>?_⟩
  have hD3:=hD1.keep (s2.trans s3)
  obtain ⟨dx3,v3,xe3,xu3,d1,dv,d3,d4,d5,d6⟩:=hD3.ex
  lk
  refine ⟨d,C,dx3,_,_,rfl,d1,DD.cl,DD.nh,rfl,?_⟩
  have s13:=s1.trans (s2.trans s3)
  cases hrow:st.row with
  | none =>
   rw [hrow] at dv
   obtain rfl:v3 = .non:=dv
   lk
   exact ⟨by decide,bad 6 _ s13 (.none (fun ns z=>by cases z) hrow)⟩
  | some ns =>
   have hO:=hD.rows.1 ns hrow
   rw [hrow] at dv
   obtain ⟨p,rfl,hk⟩:=dv
   lk
   rw [decide_eq_false (fun h=>a.not_put (V.str.inj h))]
   lk
   rw [decide_eq_false (fun h=>a.not_turn.1 (V.str.inj h))]
   lk
   rw [decide_eq_false (fun h=>a.not_turn.2 (V.str.inj h))]
   lk
   refine ⟨d,C,dx3,_,_,rfl,d1,DD.cl,DD.nh,rfl,?_⟩
   lk
   refine ⟨p,r,ns,a,rfl,hk,hO,by rw [a.nums_nat,List.map_map];exact hr3,af,fun o v H4 s4 hA hT=>?_,fun i H4 s4 hT=>?_⟩
   ·lk
    cases o with
    | none =>
     obtain rfl:v = .non:=hA
     exact .inl ⟨rfl,fin "none" st e u H4 (.inl rfl) (.inl rfl) (fun b o _ _ _ z=>s4 _ _ (s13 _ _ z)) (hD3.keep s4) (.ask hrow hT)⟩
    | some xs =>
     obtain ⟨q,rfl,hq⟩:=hA
     obtain ⟨b1,b2⟩:=TB ns a xs hO af hT
     exact .inr ⟨q,xs,rfl,hq,b1,b2,fun H5 s5=>fin (q6s (some xs)) st e u H5 (.inl rfl) (.inl rfl) (fun b o _ _ _ z=>s5 _ _ (s4 _ _ (s13 _ _ z))) (hD3.keep (s4.trans s5)) (.ask hrow hT)⟩
   ·rw [hT.low (n6:=n6) (n7:=n7)]
    exact bad i _ (s13.trans s4) (.askN hrow hT)
noncomputable def q3Q (K:PySem.W.Frag) (T c1 c2 c3 c4 c5 c6 c7 c8:Addr):Sp:=fun vs H Q _=>∃ (a D:Addr) (b1 b2 b3 b4 b5 b6 b7 b8:Bool),vs=[.ref a]∧H a=some (exV a (.ref D))∧Fault K T c1 c2 c3 c4 c5 c6 c7 c8 D b1 b2 b3 b4 b5 b6 b7 b8 ∧
 ∀ (l:Addr) (H':Hp),Same H H'→H l=none→H' l=some (.lst ([b1,b2,b3,b4,b5,b6,b7,b8,false].map V.bl))→Q (.ref l) H'
theorem ok_flags {k:Nat} {f T c1 c2 c3 c4 c5 c6 c7 c8:Addr} {fd:FuncData} (F:Fun K "_law_flags" "_law_flags" q1Y f fd) (Z:Blt mg) (Y:Errs mg T c1 c2 c3 c4 c5 c6 c7 c8) :
  FnOk P w K mg base CX0 (k+1) f fd ["e"] (q3Q K T c1 c2 c3 c4 c5 c6 c7 c8):=by
 refine F.ok sc_law_flags (fun vs H Q E h=>?_) (fun cdv A outer s H vs Q E hr h=>?_)
 ·obtain ⟨a,D,b1,b2,b3,b4,b5,b6,b7,b8,rfl,_⟩:=h
  rfl
 obtain ⟨a,D,b1,b2,b3,b4,b5,b6,b7,b8,rfl,ha,W,fin⟩:=h
 apply Exists.intro
 apply And.intro
 case left =>
  apply qB
  case h1 =>
   exact (qQ (i:=1) sc_law_flags.nd rfl (by walk_at "lr") (qc (q0 (qV (q0n (K:=K) rfl) rfl Z.isinstance_ PyProof.Rows.boot_isinstance (q0 (pv 0) (q0 (q0c (v:=.ref _) rfl Y.n1 rfl) qC))) (q0 (qV (q0n (K:=K) rfl) rfl Z.isinstance_ PyProof.Rows.boot_isinstance (q0 (pv 0) (q0 (q0c (v:=.ref _) rfl Y.n2 rfl) qC))) (q0 (qV (q0n (K:=K) rfl) rfl Z.isinstance_ PyProof.Rows.boot_isinstance (q0 (pv 0) (q0 (q0c (v:=.ref _) rfl Y.n3 rfl) qC))) (q0 (qV (q0n (K:=K) rfl) rfl Z.isinstance_ PyProof.Rows.boot_isinstance (q0 (pv 0) (q0 (q0c (v:=.ref _) rfl Y.n4 rfl) qC))) qC))))))
  apply qB
  case h1 =>
   exact (qQ (i:=1) sc_law_flags.nd rfl (by walk_at "lr") (qU q2S (pv 1) (qc (q0 (qV (q0n (K:=K) rfl) rfl Z.isinstance_ PyProof.Rows.boot_isinstance (q0 (pv 0) (q0 (q0c (v:=.ref _) rfl Y.n5 rfl) qC))) (q0 (qV (q0n (K:=K) rfl) rfl Z.isinstance_ PyProof.Rows.boot_isinstance (q0 (pv 0) (q0 (q0c (v:=.ref _) rfl Y.n6 rfl) qC))) (q0 (qV (q0n (K:=K) rfl) rfl Z.isinstance_ PyProof.Rows.boot_isinstance (q0 (pv 0) (q0 (q0c (v:=.ref _) rfl Y.n7 rfl) qC))) (q0 (qV (q0n (K:=K) rfl) rfl Z.isinstance_ PyProof.Rows.boot_isinstance (q0 (pv 0) (q0 (q0c (v:=.ref _) rfl Y.n8 rfl) qC))) qC)))))))
  apply qD
  exact (qL (qU q2S (pv 1) (qc (q0 (pe_not (qV (q0n (K:=K) rfl) rfl Z.isinstance_ PyProof.Rows.boot_isinstance (q0 (pv 0) (q0 (q58 (v:=.ty "ValueError") rfl Y.val boot_VE rfl) qC)))) qC))))
 lk
 refine ⟨a,D,_,_,_,rfl,ha,W.exk,.inl ⟨_,rfl,rfl⟩,W.k1,?_⟩
 lk
 refine ⟨a,D,_,_,_,rfl,ha,W.exk,.inl ⟨_,rfl,rfl⟩,W.k2,?_⟩
 lk
 refine ⟨a,D,_,_,_,rfl,ha,W.exk,.inl ⟨_,rfl,rfl⟩,W.k3,?_⟩
 lk
 refine ⟨a,D,_,_,_,rfl,ha,W.exk,.inl ⟨_,rfl,rfl⟩,W.k4,?_⟩
 lk
 refine ⟨by show 4≤sizeLine;decide,fun l1 hl1=>?_⟩
 have s1:=Same.new hl1 (.lst [.bl b1,.bl b2,.bl b3,.bl b4])
 lk
 refine ⟨a,D,_,_,_,rfl,(s1 _ _ ha),W.exk,.inl ⟨_,rfl,rfl⟩,W.k5,?_⟩
 lk
 refine ⟨a,D,_,_,_,rfl,(s1 _ _ ha),W.exk,.inl ⟨_,rfl,rfl⟩,W.k6,?_⟩
 lk
 refine ⟨a,D,_,_,_,rfl,(s1 _ _ ha),W.exk,.inl ⟨_,rfl,rfl⟩,W.k7,?_⟩
 lk
 refine ⟨a,D,_,_,_,rfl,(s1 _ _ ha),W.exk,.inl ⟨_,rfl,rfl⟩,W.k8,?_⟩
 lk
 refine ⟨by show 4≤sizeLine;decide,fun l2 hl2=>?_⟩
 have s2:=Same.new hl2 (.lst [.bl b5,.bl b6,.bl b7,.bl b8])
 lk
 refine ⟨l1,l2,_,_,rfl,rfl,s2 _ _ qA,qA,by show 8≤sizeLine;decide,fun l3 hl3=>?_⟩
 have s3:=Same.new hl3 (.lst ([.bl b1,.bl b2,.bl b3,.bl b4]++[.bl b5,.bl b6,.bl b7,.bl b8]))
 lk
 refine ⟨a,D,_,_,_,rfl,s3 _ _ (s2 _ _ (s1 _ _ ha)),W.exk,.inr ⟨_,rfl,rfl⟩,W.kv,?_⟩
 lk
 refine ⟨by show 1≤sizeLine;decide,fun l4 hl4=>?_⟩
 have s4:=Same.new hl4 (.lst [.bl false])
 lk
 refine ⟨l3,l4,_,_,rfl,rfl,s4 _ _ qA,qA,by show 9≤sizeLine;decide,fun l5 hl5=>?_⟩
 have s5:=Same.new hl5 (.lst (([.bl b1,.bl b2,.bl b3,.bl b4]++[.bl b5,.bl b6,.bl b7,.bl b8])++[.bl false]))
 have s14:=s1.trans (s2.trans (s3.trans s4))
 exact fin l5 _ (s14.trans s5) (s14.free hl5) qA
noncomputable def due (i:Nat):List Bool:=(List.range 9).map fun k=>decide (k=i)
noncomputable def q4U:Sp:=fun vs H Q _=>∃ i:Nat,vs=[.int (i:Int)]∧∀ (l:Addr) (H':Hp),Same H H'→H l=none→H' l=some (.lst ((due i).map V.bl))→Q (.ref l) H'
theorem ok_due {k:Nat} {f:Addr} {fd:FuncData} (F:Fun K "_law_due" "_law_due" q2m f fd) (Z:Blt mg):FnOk P w K mg base CX0 (k+1) f fd ["at"] q4U:=by
 refine F.ok q7N (fun vs H Q E h=>?_) (fun cdv A outer s H vs Q E hr h=>?_)
 ·obtain ⟨i,rfl,_⟩:=h
  rfl
 obtain ⟨n,rfl,fin⟩:=h
 apply Exists.intro
 apply And.intro
 case left =>
  apply qD
  exact (qL (q3x (N':=["k","at"]) (ix:=[none,some 0]) rfl rfl (by decide +kernel) rfl rfl rfl rfl (q22 rfl Z.range_ (q0 qE qC)) (fun _ _ _ _=>(qi (i:=0) (show List.Nodup (["k","at"]:List Str) by decide +kernel) rfl (by walk_at "lr"))) (fun _ _ _ _=>q0b) (fun _ _ _ _=>(q2Y q0C (pv 0) (pv 1) (qT _)))))
 lk
 refine ⟨by decide,by decide,?_⟩
 intro acc hacc
 refine q0d (n:=9) (fun i τ zs H'=>H' acc=some (.lst zs)∧zs=(((List.range 9).map fun k=>decide (k=n)).take i).map V.bl∧Same H H'∧∃ o0,τ=[o0,some (.int (n:Int))]) ⟨qA,rfl,Same.new hacc _,none,rfl⟩ (by decide) ?_ ?_ ?_ ?_
 ·rintro i τ zs H' ⟨e,rfl,_⟩
  exact ⟨e,by rw [List.length_map,List.length_take];omega⟩
 ·rintro i τ zs H' hi _
  exact hi
 ·rintro τ zs H' ⟨e,rfl,sm,_⟩
  refine ⟨Nat.le_refl _,fin acc H' sm hacc ?_⟩
  exact e
 ·rintro i τ zs H' v H2 hi ⟨e,rfl,sm,o0,rfl⟩ ⟨rfl,rfl⟩
  lk
  refine ⟨e,Nx.mk hi ⟨qA,?_,sm.upd hacc,_,rfl⟩⟩
  have hi':i < ((List.range 9).map fun k=>decide (k=n)).length:=by rw [List.length_map,List.length_range];exact hi
  rw [List.take_succ_eq_append_getElem hi',List.map_append]
  refine congrArg _ (congrArg (fun b=>[V.bl b]) ?_)
  rw [List.getElem_map,List.getElem_range]
  refine decide_eq_decide.mpr ⟨fun h=>?_,fun h=>?_⟩
  ·have:=V.int.inj h
   omega
  ·rw [h,Int.zero_add]
structure Ws (K:PySem.W.Frag) (T c1 c2 c3 c4 c5 c6 c7 c8:Addr):Prop where
 w1:Fault K T c1 c2 c3 c4 c5 c6 c7 c8 c1 true false false false false false false false
 w2:Fault K T c1 c2 c3 c4 c5 c6 c7 c8 c2 false true false false false false false false
 w3:Fault K T c1 c2 c3 c4 c5 c6 c7 c8 c3 false false true false false false false false
 w4:Fault K T c1 c2 c3 c4 c5 c6 c7 c8 c4 false false false true false false false false
 w7:Fault K T c1 c2 c3 c4 c5 c6 c7 c8 c7 false false false false false false true false
 w8:Fault K T c1 c2 c3 c4 c5 c6 c7 c8 c8 false false false false false false false true
theorem Ws.at {K:PySem.W.Frag} {T c1 c2 c3 c4 c5 c6 c7 c8:Addr} (W:Ws K T c1 c2 c3 c4 c5 c6 c7 c8) {i:Nat} (hi:i=0∨i=1∨i=2∨i=3∨i=6∨i=7) :
  ∃ b1 b2 b3 b4 b5 b6 b7 b8,Fault K T c1 c2 c3 c4 c5 c6 c7 c8 (clsD c1 c2 c3 c4 c7 c8 i) b1 b2 b3 b4 b5 b6 b7 b8∧[b1,b2,b3,b4,b5,b6,b7,b8,false]=due i:=by
 rcases hi with rfl | rfl | rfl | rfl | rfl | rfl
 ·exact ⟨_,_,_,_,_,_,_,_,W.w1,by decide⟩
 ·exact ⟨_,_,_,_,_,_,_,_,W.w2,by decide⟩
 ·exact ⟨_,_,_,_,_,_,_,_,W.w3,by decide⟩
 ·exact ⟨_,_,_,_,_,_,_,_,W.w4,by decide⟩
 ·exact ⟨_,_,_,_,_,_,_,_,W.w7,by decide⟩
 ·exact ⟨_,_,_,_,_,_,_,_,W.w8,by decide⟩
theorem Tells.few {ns:List Int} {a:Ask} {i:Nat} (h:Tells ns a (.ref i)):i=0∨i=1∨i=2∨i=3∨i=6∨i=7:=by cases h <;> omega
theorem Says.few {st st':Dst} {c:Cmd} {i:Nat} (h:Says st c (.ref i) st'):i=0∨i=1∨i=2∨i=3∨i=6∨i=7:=by
 cases h with
 | askN _ t=>exact t.few
 | _=>omega
noncomputable def q6C (C:Addr):Sp:=fun vs H Q _=>∃ (d e u:Addr) (st:Dst) (c:Cmd),vs=[.ref d,.str c.text]∧DeskAt C H d e u st∧c.ok∧st.earlier.length≤900 ∧
 (∀ (z:Str) (st':Dst) (e' u':Addr) (H':Hp),(e'=e∨H e'=none)→(u'=u∨H u'=none)→FrD d e u H H'→DeskAt C H' d e' u' st'→Says st c (.ans z) st'→Q (.str z) H') ∧
 ∀ (i:Nat) (l:Addr) (H':Hp),Same H H'→H l=none→H' l=some (.lst ((due i).map V.bl))→Says st c (.ref i) st→Q (.ref l) H'
theorem ok_said {k:Nat} {f C T c1 c2 c3 c4 c5 c6 c7 c8:Addr} {fd:FuncData} (F:Fun K "_law_said" "_law_said" q2H f fd) (Y:Errs mg T c1 c2 c3 c4 c5 c6 c7 c8) (W:Ws K T c1 c2 c3 c4 c5 c6 c7 c8) (DD:DC K C)
  (ME_Desk_say:MDef (CXE P w) P w K mg base k C "say" ["self","row"] (sp_say C (clsD c1 c2 c3 c4 c7 c8))) (D_law_flags:Def P w K mg base k "_law_flags" ["e"] (q3Q K T c1 c2 c3 c4 c5 c6 c7 c8)):FnOk P w K mg base CX0 (k+1) f fd ["desk","row"] (q6C C):=by
 refine F.ok sc_law_said (fun vs H Q E h=>?_) (fun cdv A outer s H vs Q E hr h=>?_)
 ·obtain ⟨d,e,u,st,c,rfl,_⟩:=h
  rfl
 obtain ⟨d,e,u,st,c,rfl,hD,hok,hfew,fin,bad⟩:=h
 have CL:=DD.cl
 obtain ⟨dx,v,xe,xu,h1,_⟩:=id hD.ex
 apply Exists.intro
 apply And.intro
 case left =>
  apply qB
  case h1 =>
   exact (qQ (i:=2) sc_law_said.nd rfl (by walk_at "lr") qj)
  apply qB
  case h1 =>
   exact (qQ (i:=3) sc_law_said.nd rfl (by walk_at "lr") qj)
  apply qB
  case h1 =>
   refine' ps_tryK (i:=4) sc_law_said.nd rfl rfl rfl rfl rfl Y.top ?hb ?hh
   case hb=>exact fun pins xe E hp=>(qD (qQ (i:=3) sc_law_said.nd rfl (by walk_at "lr") (pe_md ME_Desk_say CL hr hp (pv 0) (q0 (pv 1) qC))))
   case hh =>
    intro a o pins C hC
    apply qD
    exact (qQ (i:=2) sc_law_said.nd rfl (by walk_at "lr") (pv 4))
  apply qB
  case h1 =>
   apply qZ
   case hc=>exact (qO q1B (pv 2) qj (qT _))
   case ha =>
    apply qD
    exact (qL (pv 3))
   case hb =>
    exact qP
  apply qD
  exact (qL (qM D_law_flags hr rfl (q0 (pv 2) qC)))
 lk
 refine ⟨d,dx,_,rfl,h1,rfl,?_⟩
 lk
 refine ⟨d,e,u,st,c,rfl,hD,hok,hfew,fun z st' e' u' H' he hu fr hD' hs=>?_,fun i H1 s1 hs=>?_⟩
 ·lk
  exact fin z st' e' u' H' he hu fr hD' hs
 ·obtain ⟨b1,b2,b3,b4,b5,b6,b7,b8,hW,hb⟩:=W.at hs.few
  refine ⟨hW.exm,fun a σ' ha hlen=>?_⟩
  match σ',hlen with
  | [u0,u1,u2,u3,u4],_ =>
   lk
   have s2:=Same.new ha (exV a (.ref (clsD c1 c2 c3 c4 c7 c8 i)))
   refine ⟨a,_,b1,b2,b3,b4,b5,b6,b7,b8,rfl,qA,hW,fun l H3 s3 hl hl3=>?_⟩
   rw [hb] at hl3
   have s12:=s1.trans s2
   exact bad i l H3 (s12.trans s3) (s12.free hl) hl3 hs
noncomputable def aI (x:Int):Int:=if x < 0 then -x else x
noncomputable def rst (c:Int):Nat→Int
 | 0=>aI c
 | k+1=>if aI c ≥ 10 ^ Int.toNat 18 then rst c k/1009 else rst c k
noncomputable def mix (r:Int) (k:Nat):Int :=
 ((r%2147483629+7919*((0+(k:Int))+1)*((0+(k:Int))+3))%2147483629*((r%2147483629+7919*((0+(k:Int))+1)*((0+(k:Int))+3))%2147483629)%2147483587+(r%2147483629+7919*((0+(k:Int))+1)*((0+(k:Int))+3))%2147483629/7)*48271%2147483647/16
noncomputable def numAt' (c:Int) (k:Nat):Int:=if aI c ≥ 10 ^ Int.toNat 18 then rst c k%1009 else mix (rst c k) k
noncomputable def numL (c:Int) (m:Nat):List Int:=(List.range m).map (numAt' c)
theorem q6z {c:Int} {m:Nat}:(numL c m).length=m:=by unfold numL;rw [List.length_map,List.length_range]
theorem q5n {c:Int} {m:Nat}:numL c (m+1)=numL c m++[numAt' c m]:=by
 unfold numL
 rw [List.range_succ,List.map_append]
 rfl
noncomputable def q32:Sp:=fun vs H Q _=>∃ (c:Int) (m:Nat),vs=[.int c,.int m]∧m≤1000∧∀ (l:Addr) (H':Hp),Same H H'→H l=none→H' l=some (.lst ((numL c m).map V.int))→Q (.ref l) H'
theorem q7T {k:Nat} {f:Addr} {fd:FuncData} (F:Fun K "_law_numbers" "_law_numbers" q0g f fd) (Z:Blt mg):FnOk P w K mg base CX0 (k+1) f fd ["cell","many"] q32:=by
 refine F.ok sc_law_numbers (fun vs H Q E h=>?_) (fun cdv A outer s H vs Q E hr h=>?_)
 ·obtain ⟨c,m,rfl,_⟩:=h
  rfl
 obtain ⟨c,m,rfl,hm,q⟩:=h
 apply Exists.intro
 apply And.intro
 case left =>
  apply qB
  case h1 =>
   exact (qQ (i:=2) sc_law_numbers.nd rfl (by walk_at "lr") (qc qC))
  apply qB
  case h1 =>
   exact (qQ (i:=3) sc_law_numbers.nd rfl (by walk_at "lr") (qV q7D rfl Z.abs_ PyProof.Rows.boot_abs (q0 (pv 0) qC)))
  apply qB
  case h1 =>
   apply q18 PassesOwn.never rfl
   case hi=>exact (q22 rfl Z.range_ (q0 (pv 1) qC))
   case hg=>exact (qi (i:=4) sc_law_numbers.nd rfl (by walk_at "lr"))
   case hb =>
    apply qD
    apply qZ
    case hc=>exact (qO op_ge (qV q7D rfl Z.abs_ PyProof.Rows.boot_abs (q0 (pv 0) qC)) (qU op_pow qE qE) (qT _))
    case ha =>
     apply qB
     case h1 =>
      exact (qo (q1Q (K:=K) rfl PySem.F.plainAttrs_list PySem.F.slot_list_append PySem.F.type_list_append q02 (pv 2) (q0 (qU qr (pv 3) qE) qC)))
     apply qD
     exact (qQ (i:=3) sc_law_numbers.nd rfl (by walk_at "lr") (qU q2Z (pv 3) qE))
    case hb =>
     apply qB
     case h1 =>
      exact (qQ (i:=5) sc_law_numbers.nd rfl (by walk_at "lr") (qU qr (qU qf (qU qr (pv 3) qE) (qU q4a (qU q4a qE (qU qf (pv 4) qE)) (qU qf (pv 4) qE))) qE))
     apply qB
     case h1 =>
      exact (qQ (i:=5) sc_law_numbers.nd rfl (by walk_at "lr") (qU qf (qU qr (qU q4a (pv 5) (pv 5)) qE) (qU q2Z (pv 5) qE)))
     apply qD
     exact (qo (q1Q (K:=K) rfl PySem.F.plainAttrs_list PySem.F.slot_list_append PySem.F.type_list_append q02 (pv 2) (q0 (qU q2Z (qU qr (qU q4a (pv 5) qE) qE) qE) qC)))
  apply qD
  exact (qL (pv 2))
 lk
 refine ⟨Nat.zero_le _,fun l hl0=>?_⟩
 have s1:=Same.new hl0 (.lst [])
 lk
 refine ⟨by omega,by omega,?_⟩
 have em:((m:Nat):Int).toNat=m:=Int.toNat_natCast m
 rw [em]
 refine q27 (fun i σ H'=>∃ o4 o5,Same H H'∧H' l=some (.lst ((numL c i).map V.int))∧σ=[some (.int c),some (.int m),some (.ref l),some (.int (rst c i)),o4,o5]) ⟨none,none,s1,qA,rfl⟩ ?_ ?_
 ·rintro i σ H1 hi ⟨o4,o5,sm,hl1,rfl⟩
  have hln:=q6z (c:=c) (m:=i)
  lk
  refine ifD (fun hge=>?_) (fun hlt=>?_)
  ·have hge':aI c ≥ 10 ^ Int.toNat 18:=hge
   lk
   refine ⟨.inl ⟨rfl,_,SqL.of hl1⟩,?_⟩
   lk
   refine ⟨l,_,_,rfl,rfl,hl1,small (by rw [List.length_map];omega),?_⟩
   lk
   refine ⟨some (.int (0+i)),o5,sm.upd hl0,?_,?_⟩
   ·rw [qA,q5n,List.map_append]
    show some (HO.lst (_++[V.int (rst c i%1009)]))=some (HO.lst (_++[V.int (if aI c ≥ 10 ^ Int.toNat 18 then rst c i%1009 else mix (rst c i) i)]))
    rw [if_pos hge']
   ·show _=[_,_,_,some (V.int (if aI c ≥ 10 ^ Int.toNat 18 then rst c i/1009 else rst c i)),_,_]
    rw [if_pos hge']
    rfl
  ·have hlt':¬ aI c ≥ 10 ^ Int.toNat 18:=hlt
   have m1:=mod_lt (a:=rst c i) (b:=2147483629) (by decide)
   refine ⟨_,rfl,_,_,rfl,rfl,cPos rfl,?_⟩
   refine ⟨_,rfl,_,_,rfl,rfl,_,_,rfl,rfl,cMulL rfl,?_⟩
   refine ⟨_,rfl,_,_,rfl,rfl,_,_,rfl,rfl,cMulL' (by omega) (by omega),?_⟩
   refine ⟨_,_,rfl,rfl,_,_,rfl,rfl,cPos rfl,?_⟩
   obtain ⟨x,ex⟩:∃ x,x=(rst c i%2147483629+7919*((0+(i:Int))+1)*((0+(i:Int))+3))%2147483629:=⟨_,rfl⟩
   have m2:=mod_lt (a:=rst c i%2147483629+7919*((0+(i:Int))+1)*((0+(i:Int))+3)) (b:=2147483629) (by decide)
   rw [← ex] at m2
   show tSeq _ _ _ _ _
   dsimp only [q7m]
   rw [← ex]
   refine ⟨_,rfl,_,rfl,_,_,rfl,rfl,cMulL' (by omega) (by omega),?_⟩
   refine ⟨_,_,rfl,rfl,cPos rfl,?_⟩
   refine ⟨_,rfl,_,_,rfl,rfl,cDiv rfl,?_⟩
   refine ⟨_,_,rfl,rfl,?_⟩
   refine ⟨_,rfl,.inl ⟨rfl,_,SqL.of hl1⟩,?_⟩
   refine ⟨_,rfl,_,_,rfl,rfl,cMulR rfl,?_⟩
   refine ⟨_,_,rfl,rfl,cPos rfl,?_⟩
   refine ⟨_,_,rfl,rfl,cDiv rfl,?_⟩
   refine ⟨l,_,_,rfl,rfl,hl1,small (by rw [List.length_map];omega),?_⟩
   refine ⟨some (.int (0+i)),some (.int (x*x%2147483587+x/7)),sm.upd hl0,?_,?_⟩
   ·rw [qA,q5n,List.map_append]
    show some (HO.lst (_++[V.int ((x*x%2147483587+x/7)*48271%2147483647/16)]))=some (HO.lst (_++[V.int (if aI c ≥ 10 ^ Int.toNat 18 then rst c i%1009 else mix (rst c i) i)]))
    rw [if_neg hlt',ex]
    rfl
   ·show _=[_,_,_,some (V.int (if aI c ≥ 10 ^ Int.toNat 18 then rst c i/1009 else rst c i)),_,_]
    rw [if_neg hlt']
    rfl
 ·rintro σ H1 ⟨o4,o5,sm,hl1,rfl⟩
  lk
  exact q l H1 sm hl0 hl1
noncomputable def q4x:Sp:=fun vs H Q _=>∃ (l:Addr) (ms:List Int) (j:Nat),vs=[.ref l,.int (j:Int)]∧H l=some (.lst (ms.map V.int))∧j+1 < ms.length∧∀ (v:Int) (H':Hp),Same H H'→v.natAbs≤10 ^ 29→Q (.int v) H'
theorem ok_lnum {k:Nat} {f:Addr} {fd:FuncData} (F:Fun K "_law_number" "_law_number" q10 f fd) (Z:Blt mg):FnOk P w K mg base CX0 (k+1) f fd ["numbers","k"] q4x:=by
 refine F.ok sc_law_number (fun vs H Q E h=>?_) (fun cdv A outer s H vs Q E hr h=>?_)
 ·obtain ⟨l,ms,j,rfl,_⟩:=h
  rfl
 obtain ⟨l,ms,j,rfl,hl,hj,fin⟩:=h
 obtain ⟨a,ha⟩:∃ a,ms[j]?=some a:=⟨_,List.getElem?_eq_getElem (by omega)⟩
 obtain ⟨b,hb⟩:∃ b,ms[j+1]?=some b:=⟨_,List.getElem?_eq_getElem hj⟩
 have a1:atI (ms.map V.int) (j:Int)=some (.int a):=qq (by rw [List.getElem?_map,ha];rfl)
 have b1:atI (ms.map V.int) ((j:Int)+1)=some (.int b):=by
  rw [show (j:Int)+1=((j+1:Nat):Int) by omega]
  exact qq (by rw [List.getElem?_map,hb];rfl)
 apply Exists.intro
 apply And.intro
 case left =>
  apply qB
  case h1 =>
   exact (qQ (i:=2) sc_law_number.nd rfl (by walk_at "lr") (qc (q0 (qU q0J (qU qr (qJ (qK (K:=K) rfl) (pv 0) (pv 1) (fun _ _=>rfl)) qE) qE) (q0 (qU q0J (qU qr (qJ (qK (K:=K) rfl) (pv 0) (pv 1) (fun _ _=>rfl)) qE) qE) (q0 (qU q0J qE (qU op_pow qE qE)) (q0 (qU op_pow qE qE) qC))))))
  apply qD
  exact (qL (qJ (qK (K:=K) rfl) (pv 2) (qU q4a (qU q2Z (qU qr (qJ (qK (K:=K) rfl) (pv 0) (qU qf (pv 1) qE) (fun _ _=>rfl)) qE) qE) (qU qf qE (qU qr (qJ (qK (K:=K) rfl) (pv 0) (pv 1) (fun _ _=>rfl)) qE))) (fun _ _=>rfl)))
 lk
 refine ⟨l,_,_,_,rfl,rfl,SqL.of hl,a1,?_⟩
 lk
 refine ⟨l,_,_,_,rfl,rfl,SqL.of hl,a1,?_⟩
 lk
 refine ⟨by show 4≤sizeLine;decide,fun q hq=>?_⟩
 obtain ⟨xs,exs⟩:∃ z,z=[a%9-4,a%2000-1000,1-10 ^ Int.toNat 29,10 ^ Int.toNat 29]:=⟨_,rfl⟩
 have hb4:∀ i:Nat,i < 4→∃ v,xs[i]?=some v∧v.natAbs≤10 ^ 29:=by
  intro i hi
  rw [exs]
  have e10:(10:Int) ^ Int.toNat 29=100000000000000000000000000000:=by decide
  rw [e10]
  match i,hi with
  | 0,_=>exact ⟨_,rfl,by omega⟩
  | 1,_=>exact ⟨_,rfl,by omega⟩
  | 2,_=>exact ⟨_,rfl,by decide⟩
  | 3,_=>exact ⟨_,rfl,by decide⟩
 have hq1:upd H q (.lst (xs.map V.int)) q=some (.lst (xs.map V.int)):=qA
 have s1:=Same.new hq (.lst (xs.map V.int))
 rw [exs] at s1 hq1
 lk
 refine ⟨l,_,_,_,rfl,rfl,SqL.of (s1 _ _ hl),b1,?_⟩
 lk
 refine ⟨l,_,_,_,rfl,rfl,SqL.of (s1 _ _ hl),a1,?_⟩
 lk
 refine ⟨cMulL' (by omega) (by omega),?_⟩
 obtain ⟨v,hv,hvb⟩:=hb4 (b%16/13*(1+a%3)).toNat (by
  have m1:0≤b%16∧b%16 < 16:=⟨by omega,by omega⟩
  have m2:b%16/13=0∨b%16/13=1:=by omega
  rcases m2 with m2 | m2 <;> rw [m2] <;> omega)
 have hn:0≤b%16/13*(1+a%3):=by
  have m2:b%16/13=0∨b%16/13=1:=by omega
  rcases m2 with m2 | m2 <;> rw [m2] <;> omega
 refine ⟨q,_,_,.int v,rfl,rfl,SqL.of hq1,?_,fin v _ s1 hvb⟩
 rw [← exs]
 obtain ⟨i,hi⟩:∃ i:Nat,b%16/13*(1+a%3)=(i:Int):=⟨_,(Int.toNat_of_nonneg hn).symm⟩
 rw [hi] at hv ⊢
 exact qq (by rw [List.getElem?_map,show xs[i]?=some v from hv];rfl)
theorem RowOk.ps {ns:List Int} (h:RowOk ns) {i:Nat} (hi:i≤ns.length) : -(40*10 ^ 30)≤psum ns i∧psum ns i≤40*10 ^ 30:=by
 have a:=h.sum hi
 have:=h.l2
 omega
theorem RowOk.cut {ns:List Int} (h:RowOk ns) {f b:Nat} (h1:f < b) (h2:b≤ns.length):RowOk (cutI ns f b):=by
 have e:(cutI ns f b).length=b-f:=by
  unfold cutI
  rw [List.length_take,List.length_drop,Int.toNat_natCast,Int.toNat_natCast]
  omega
 have:=h.l2
 exact ⟨by omega,by omega,fun n hn=>h.b n (List.mem_of_mem_drop (List.mem_of_mem_take hn))⟩
theorem q30 {ns:List Int} (h:RowOk ns):∀ {L:List (Nat×Nat)},WfL ns.length L→-(80*10 ^ 30)*(L.length:Int)≤sumL ns L∧sumL ns L≤80*10 ^ 30*(L.length:Int)
 | [],_=>by
  show _≤(0:Int)∧(0:Int)≤_
  exact ⟨by rw [List.length_nil];decide,by rw [List.length_nil];decide⟩
 | p::L,hw=>by
  have ih:=q30 h (L:=L) fun q hq=>hw q (List.mem_cons_of_mem _ hq)
  have h1:=hw p List.mem_cons_self
  have a:=h.ps h1.2
  have b:=h.ps (i:=p.1) (by omega)
  have e:sumL ns (p::L)=psum ns p.2-psum ns p.1+sumL ns L:=rfl
  rw [e,List.length_cons]
  push_cast
  omega
theorem q6e {ns:List Int} {g m:Nat} {x:SL} (h1:1≤m) (h:fb ns g m 0=some x):m≤ns.length:=by
 refine Decidable.byContradiction fun hn=>?_
 have hg:g≤m*g:=Nat.le_mul_of_pos_left g h1
 have e:m*(1+g)=m+m*g:=by rw [Nat.mul_add,Nat.mul_one]
 rw [q2v (by omega) (by omega)] at h
 cases h
theorem flatP_mem:∀ {ps:List (Int×Int)} {n:Int},n∈q2u ps→∃ p,p∈ps∧(n=p.1∨n=p.2):=fun {ps n} h=>by
 unfold q2u at h
 obtain ⟨p,hp,hn⟩:=List.mem_flatMap.mp h
 exact ⟨p,hp,by simpa using hn⟩
theorem q6l:TellsOk:=fun ns a xs hO hf h=>by
 have l1:=hO.l1
 have l2:=hO.l2
 cases h with
 | best hx =>
  obtain ⟨f,b,h1,h2,rfl⟩:=hx.has
  have p1:=hO.ps h2
  have p2:=hO.ps (i:=f) (by omega)
  refine ⟨by show 3≤1000;decide,fun n hn=>?_⟩
  rcases List.mem_cons.mp hn with rfl | hn
  ·show (psum ns b-psum ns f).natAbs < _
   omega
  rcases List.mem_cons.mp hn with rfl | hn
  ·show ((f:Int)).natAbs < _
   omega
  rw [List.mem_singleton.mp hn]
  show ((b:Int)).natAbs < _
  omega
 | ring hx =>
  obtain ⟨f,m,h1,h2,h3,rfl⟩:=hx.has
  refine ⟨by show 3≤1000;decide,fun n hn=>?_⟩
  rcases List.mem_cons.mp hn with rfl | hn
  ·show (rg ns f m).natAbs < _
   unfold rg
   split
   ·have p1:=hO.ps (i:=f+m) (by omega)
    have p2:=hO.ps (i:=f) (by omega)
    omega
   ·have p1:=hO.ps (i:=ns.length) (Nat.le_refl _)
    have p2:=hO.ps (i:=f) (by omega)
    have p3:=hO.ps (i:=f+m-ns.length) (by omega)
    omega
  rcases List.mem_cons.mp hn with rfl | hn
  ·show ((f:Int)).natAbs < _
   omega
  rw [List.mem_singleton.mp hn]
  show ((m:Int)).natAbs < _
  omega
 | row=>exact ⟨by omega,fun n hn=>Nat.lt_trans (hO.b n hn) (by decide)⟩
 | @part f b _ h1 h2 hx =>
  have hC:=hO.cut h1 h2
  have c2:=hC.l2
  obtain ⟨f',b',h3,h4,rfl⟩:=hx.has
  have p1:=hC.ps h4
  have p2:=hC.ps (i:=f') (by omega)
  refine ⟨by show 3≤1000;decide,fun n hn=>?_⟩
  rcases List.mem_cons.mp hn with rfl | hn
  ·show (psum _ b'-psum _ f').natAbs < _
   omega
  rcases List.mem_cons.mp hn with rfl | hn
  ·show ((f':Int)+(f:Int)).natAbs < _
   omega
  rw [List.mem_singleton.mp hn]
  show ((b':Int)+(f:Int)).natAbs < _
  omega
 | @length L M s f b h1 h2 h3 hB =>
  have m1:=hB.mem.1
  have m3:b≤ns.length:=hB.mem.2.2
  have hv:s=psum ns b-psum ns f:=hB.val
  have p1:=hO.ps m3
  have p2:=hO.ps (i:=f) (by omega)
  refine ⟨by show 3≤1000;decide,fun n hn=>?_⟩
  rcases List.mem_cons.mp hn with rfl | hn
  ·omega
  rcases List.mem_cons.mp hn with rfl | hn
  ·omega
  rw [List.mem_singleton.mp hn]
  omega
 | apart h1 hx =>
  have hm:=q6e h1 hx
  obtain ⟨hw,hl,hs⟩:=fb_wf hx
  have b:=q30 hO hw
  rw [← hs] at b
  refine ⟨by rw [List.length_cons,q2t,List.length_map];omega,fun n hn=>?_⟩
  rcases List.mem_cons.mp hn with rfl | hn
  ·omega
  ·obtain ⟨p,hp,e⟩:=flatP_mem hn
   obtain ⟨q,hq,rfl⟩:=List.mem_map.mp hp
   have:=hw q hq
   rcases e with rfl | rfl
   ·show ((q.1:Int)).natAbs < _
    omega
   ·show ((q.2:Int)).natAbs < _
    omega
 | bars h1 hx =>
  have hm:=q6e h1 hx
  obtain ⟨hw,hl,hs⟩:=fb_wf hx
  have b:=q30 hO hw
  rw [← hs] at b
  refine ⟨by show 1≤1000;decide,fun n hn=>?_⟩
  rw [List.mem_singleton.mp hn]
  omega
 | @must i _ h1 h2 hv =>
  obtain ⟨W,B,⟨⟨f,b,o1,o2,o3,rfl⟩,_⟩,⟨⟨f',b',i1,i2,i3,rfl⟩,_⟩,rfl⟩:=hv
  have p1:=hO.ps o2
  have p2:=hO.ps (i:=f) (by omega)
  have p3:=hO.ps i3
  have p4:=hO.ps (i:=f') (by omega)
  have p5:=hO.ps (i:=i) (Nat.le_of_lt h1)
  have p6:=hO.ps (i:=i+1) h1
  refine ⟨by show 1≤1000;decide,fun n hn=>?_⟩
  rw [List.mem_singleton.mp hn]
  omega
theorem Tells.uniq {ns:List Int} {a:Ask} {r1 r2:Out} (h:Tells ns a r1) (g:Tells ns a r2):r1=r2:=by
 cases h with
 | best h=>cases g with
  | best g=>rw [h.uniq g]
 | ring h=>cases g with
  | ring g=>rw [h.uniq g]
 | row=>cases g;rfl
 | part h1 h2 h=>cases g with
  | part _ _ g=>rw [h.uniq g]
  | partN g=>exact absurd ⟨h1,h2⟩ g
 | partN h=>cases g with
  | part h1 h2 _=>exact absurd ⟨h1,h2⟩ h
  | partN g=>rfl
 | length h1 h2 h3 h=>cases g with
  | length _ _ _ g =>
   obtain ⟨rfl,rfl,rfl⟩:=h.uniq g
   rfl
  | lengthN g=>exact absurd ⟨h1,h2,h3⟩ g
 | lengthN h=>cases g with
  | length h1 h2 h3 _=>exact absurd ⟨h1,h2,h3⟩ h
  | lengthN g=>rfl
 | apart h1 h=>cases g with
  | apart _ g=>rw [h] at g;cases g;rfl
  | apartO _ g=>rw [h] at g;cases g
  | apartN=>exact absurd h1 (by decide)
 | apartO h1 h=>cases g with
  | apart _ g=>rw [h] at g;cases g
  | apartO _ g=>rfl
  | apartN=>exact absurd h1 (by decide)
 | apartN=>cases g with
  | apart h1 _=>exact absurd h1 (by decide)
  | apartO h1 _=>exact absurd h1 (by decide)
  | apartN=>rfl
 | bars h1 h=>cases g with
  | bars _ g=>rw [h] at g;cases g;rfl
  | barsN g =>
   rcases g with g | ⟨_,g⟩
   ·omega
   ·rw [h] at g;cases g
 | barsN h=>cases g with
  | bars h1 g =>
   rcases h with h | ⟨_,h⟩
   ·omega
   ·rw [h] at g;cases g
  | barsN g=>rfl
 | must1 h1 h2=>cases g with
  | must1 _ _=>rfl
  | must _ g _=>omega
  | mustN g=>exact absurd h1 g
 | must h1 h2 h=>cases g with
  | must1 _ g=>omega
  | must _ _ g=>rw [h.uniq g]
  | mustN g=>exact absurd h1 g
 | mustN h=>cases g with
  | must1 g _=>exact absurd g h
  | must g _ _=>exact absurd g h
  | mustN g=>rfl
theorem Says.uniq {st s1 s2:Dst} {c:Cmd} {r1 r2:Rep} (h:Says st c r1 s1) (g:Says st c r2 s2):r1=r2∧s1=s2:=by
 cases h with
 | row=>cases g with
  | row=>exact ⟨rfl,rfl⟩
  | none n _=>exact absurd rfl (n _)
 | none n e=>cases g with
  | row=>exact absurd rfl (n _)
  | none _ _=>exact ⟨rfl,rfl⟩
  | put e'=>rw [e] at e';cases e'
  | putN e'=>rw [e] at e';cases e'
  | undo e'=>rw [e] at e';cases e'
  | undoN e'=>rw [e] at e';cases e'
  | again e'=>rw [e] at e';cases e'
  | againN e'=>rw [e] at e';cases e'
  | ask e'=>rw [e] at e';cases e'
  | askN e'=>rw [e] at e';cases e'
 | put e i x=>cases g with
  | none _ e'=>rw [e] at e';cases e'
  | put e' _ y=>rw [e] at e';cases e';rw [x.uniq y];exact ⟨rfl,rfl⟩
  | putN e' i'=>rw [e] at e';cases e';exact absurd i i'
 | putN e i=>cases g with
  | none _ e'=>rw [e] at e';cases e'
  | put e' i' _=>rw [e] at e';cases e';exact absurd i' i
  | putN _ _=>exact ⟨rfl,rfl⟩
 | undo e l x=>cases g with
  | none _ e'=>rw [e] at e';cases e'
  | undo e' l' y =>
   rw [e] at e';cases e'
   rw [l] at l'
   obtain ⟨l1,l2⟩:=List.append_inj' l' rfl
   cases l1;cases l2
   rw [x.uniq y];exact ⟨rfl,rfl⟩
  | undoN _ l'=>rw [l] at l';exact absurd l' (List.append_ne_nil_of_right_ne_nil _ (List.cons_ne_nil _ _))
 | undoN e l=>cases g with
  | none _ e'=>rw [e] at e';cases e'
  | undo _ l' _=>rw [l] at l';exact absurd l'.symm (List.append_ne_nil_of_right_ne_nil _ (List.cons_ne_nil _ _))
  | undoN _ _=>exact ⟨rfl,rfl⟩
 | again e l x=>cases g with
  | none _ e'=>rw [e] at e';cases e'
  | again e' l' y =>
   rw [e] at e';cases e'
   rw [l] at l'
   obtain ⟨l1,l2⟩:=List.append_inj' l' rfl
   cases l1;cases l2
   rw [x.uniq y];exact ⟨rfl,rfl⟩
  | againN _ l'=>rw [l] at l';exact absurd l' (List.append_ne_nil_of_right_ne_nil _ (List.cons_ne_nil _ _))
 | againN e l=>cases g with
  | none _ e'=>rw [e] at e';cases e'
  | again _ l' _=>rw [l] at l';exact absurd l'.symm (List.append_ne_nil_of_right_ne_nil _ (List.cons_ne_nil _ _))
  | againN _ _=>exact ⟨rfl,rfl⟩
 | ask e t=>cases g with
  | none _ e'=>rw [e] at e';cases e'
  | ask e' t'=>rw [e] at e';cases e';cases t.uniq t';exact ⟨rfl,rfl⟩
  | askN e' t'=>rw [e] at e';cases e';cases t.uniq t'
 | askN e t=>cases g with
  | none _ e'=>rw [e] at e';cases e'
  | ask e' t'=>rw [e] at e';cases e';cases t.uniq t'
  | askN e' t'=>rw [e] at e';cases e';cases t.uniq t';exact ⟨rfl,rfl⟩
structure RowsAt (H:Hp) (xs:List V) (rs:List (List Int)):Prop where
 len:xs.length=rs.length
 at_:∀ (i:Nat) (v:V) (r:List Int),xs[i]?=some v→rs[i]?=some r→∃ p,v = .ref p∧H p=some (.lst (r.map V.int))
theorem RowsAt.nil {H:Hp}:RowsAt H [] []:=⟨rfl,fun i v r e=>by simp at e⟩
theorem RowsAt.push {H:Hp} {xs:List V} {rs:List (List Int)} {p:Addr} {r:List Int} (h:RowsAt H xs rs) (k:H p=some (.lst (r.map V.int))):RowsAt H (xs++[.ref p]) (rs++[r]):=⟨by rw [List.length_append,List.length_append,h.len];rfl,fun i v q e1 e2=>by
 by_cases hi:i < xs.length
 ·rw [List.getElem?_append_left hi] at e1
  rw [List.getElem?_append_left (by rw [← h.len];exact hi)] at e2
  exact h.at_ i v q e1 e2
 ·rw [List.getElem?_append_right (by omega)] at e1
  rw [List.getElem?_append_right (by rw [← h.len];omega),← h.len] at e2
  cases hd:i-xs.length with
  | zero =>
   rw [hd] at e1 e2
   cases e1
   cases e2
   exact ⟨p,rfl,k⟩
  | succ j=>rw [hd] at e1;simp at e1⟩
theorem RowsAt.last {H:Hp} {xs:List V} {rs:List (List Int)} {r:List Int} (h:RowsAt H xs (rs++[r])):∃ p ys,xs=ys++[.ref p]∧H p=some (.lst (r.map V.int))∧RowsAt H ys rs:=by
 have hl:=h.len
 rw [List.length_append,List.length_singleton] at hl
 have hne:xs≠[]:=fun z=>by rw [z] at hl;simp at hl
 obtain ⟨ys,v,rfl⟩:∃ ys v,xs=ys++[v]:=⟨xs.dropLast,xs.getLast hne,(List.dropLast_concat_getLast hne).symm⟩
 have hy:ys.length=rs.length:=by rw [List.length_append,List.length_singleton] at hl;omega
 obtain ⟨p,rfl,k⟩:=h.at_ ys.length v r (by rw [List.getElem?_append_right (Nat.le_refl _),Nat.sub_self];rfl) (by rw [hy,List.getElem?_append_right (Nat.le_refl _),Nat.sub_self];rfl)
 refine ⟨p,ys,rfl,k,hy,fun i w q e1 e2=>?_⟩
 have hi:i < ys.length:=(List.getElem?_eq_some_iff.mp e1).1
 exact h.at_ i w q (by rw [List.getElem?_append_left hi];exact e1) (by rw [List.getElem?_append_left (by omega)];exact e2)
theorem RowsAt.keep {H H':Hp} {xs:List V} {rs:List (List Int)} (h:RowsAt H xs rs) (s:∀ p (l:List V),V.ref p∈xs→H p=some (.lst l)→H' p=some (.lst l)):RowsAt H' xs rs:=⟨h.len,fun i v r e1 e2=>by
 obtain ⟨p,rfl,k⟩:=h.at_ i v r e1 e2
 exact ⟨p,rfl,s p _ (List.mem_of_getElem? e1) k⟩⟩
theorem RowsAt.mem {H:Hp} {xs:List V} {rs:List (List Int)} (h:RowsAt H xs rs) {p:Addr} (hp:V.ref p∈xs):∃ l:List V,H p=some (.lst l):=by
 obtain ⟨i,hi,e⟩:=List.mem_iff_getElem.mp hp
 have hi':i < rs.length:=h.len▸hi
 obtain ⟨q,e2,k⟩:=h.at_ i (.ref p) rs[i] (by rw [List.getElem?_eq_getElem hi,e]) (List.getElem?_eq_getElem hi')
 cases e2
 exact ⟨_,k⟩
theorem RowsAt.same {H H':Hp} {xs:List V} {rs:List (List Int)} (h:RowsAt H xs rs) (s:Same H H'):RowsAt H' xs rs:=⟨h.len,fun i v r e1 e2=>by
 obtain ⟨p,rfl,k⟩:=h.at_ i v r e1 e2
 exact ⟨p,rfl,s _ _ k⟩⟩
noncomputable def Dst.stand (st:Dst):List (List Int):=match st.row with | some ns=>st.earlier++[ns] | none=>[]
structure MineAt (H:Hp) (m a b:Addr) (st:Dst):Prop where
 dic:H m=some (.dK [(.inr "stand",.ref a),(.inr "gone",.ref b)])
 ne:a≠b
 ex:∃ xs ys,H a=some (.lst xs)∧RowsAt H xs st.stand∧H b=some (.lst ys)∧RowsAt H ys st.undone∧(∀ p,V.ref p∈xs++ys→p≠a∧p≠b)
theorem MineAt.same {H H':Hp} {m a b:Addr} {st:Dst} (h:MineAt H m a b st) (s:Same H H'):MineAt H' m a b st:=by
 obtain ⟨xs,ys,h1,h2,h3,h4,h5⟩:=h.ex
 exact ⟨s _ _ h.dic,h.ne,xs,ys,s _ _ h1,h2.same s,s _ _ h3,h4.same s,h5⟩
theorem q2w {H:Hp} {m a b:Addr} (h:H m=some (.dK [(.inr "stand",.ref a),(.inr "gone",.ref b)])):DGet H m (.str "stand") (some (.ref a)):=DGet.k (k:=.inr "stand") h
theorem dGone {H:Hp} {m a b:Addr} (h:H m=some (.dK [(.inr "stand",.ref a),(.inr "gone",.ref b)])):DGet H m (.str "gone") (some (.ref b)):=DGet.k (k:=.inr "gone") h
noncomputable def DueV (H:Hp) (v:V):Rep→Prop
 | .ans z=>v = .str z
 | .ref i=>∃ l,v = .ref l∧H l=some (.lst ((due i).map V.bl))
noncomputable def FrM (m a b:Addr) (H H':Hp):Prop:=∀ p o,p≠m→p≠a→p≠b→H p=some o→H' p=some o
theorem q0o {ns:List Int} {s:Int} {f b:Nat} (h:q7E ns 1 ns.length s f b):Top (PB ns) ⟨s,f,b⟩:=by
 have m:=h.mem
 unfold Val at m
 refine ⟨⟨f,b,by omega,m.2.2,by rw [h.val]⟩,?_⟩
 rintro _ ⟨f',b',h1,h2,rfl⟩
 have t:=h.top f' b' (by unfold Val;omega)
 unfold Sx.le
 dsimp only
 omega
noncomputable def q3f:Sp:=fun vs H Q _=>∃ (m a b:Addr) (st:Dst) (c:Cmd) (ns:List Int),vs=[.ref m,.str c.text]∧(c = .undo∨c = .again)∧MineAt H m a b st∧st.row=some ns∧(∀ r,r∈st.earlier∨r∈st.undone→RowOk r)∧st.earlier.length+st.undone.length≤900 ∧
 ∀ (t a' b':Addr) (v:V) (r:Rep) (st':Dst) (H':Hp),FrM m a b H H'→(a'=a∨H a'=none)→(b'=b∨H b'=none)→H' t=some (.tup [.str c.text,v])→DueV H' v r→Says st c r st'→MineAt H' m a' b' st'→Q (.ref t) H'
theorem EqD.none {K:PySem.W.Frag} {H:Hp} {a b:Addr} {xs:List V} (ha:SqL K H a xs) (hb:SqL K H b []):EqD K H 1 (.ref a) (.ref b) xs.isEmpty:=by
 cases xs with
 | nil=>exact EqD.lst (n:=0) (e:=fun _=>true) ha hb rfl fun j x y e=>by simp at e
 | cons x xs=>exact EqD.len ha hb (by simp)
theorem ok_turned {k:Nat} {f:Addr} {fd:FuncData} (F:Fun K "_law_turned" "_law_turned" q0z f fd) (Z:Blt mg)
  (D_law_due:Def P w K mg base k "_law_due" ["at"] q4U) (D_best_of:Def P w K mg base k "best_of" ["row"] q1L):FnOk P w K mg base CX0 (k+1) f fd ["mine","word"] q3f:=by
 refine F.ok q54 (fun vs H Q E h=>?_) (fun cdv A outer s H vs Q E hr h=>?_)
 ·obtain ⟨m,a,b,st,c,ns,rfl,_⟩:=h
  rfl
 obtain ⟨m,a,b,st,c,ns,rfl,hc,hM,hrow,hO,hfew,fin⟩:=h
 obtain ⟨xs,ys,h1,h2,h3,h4,h5⟩:=hM.ex
 have hst:st.stand=st.earlier++[ns]:=by unfold Dst.stand;rw [hrow]
 rw [hst] at h2
 have hxl:=h2.len
 rw [List.length_append,List.length_singleton] at hxl
 apply Exists.intro
 apply And.intro
 case left =>
  apply qB
  case h1 =>
   apply qZ
   case hc=>exact (qO q0C (pv 1) qR (qT _))
   case ha =>
    apply qB
    case h1 =>
     apply qZ
     case hc=>exact (qO q0C (qV (qS (K:=K) rfl) rfl Z.len_ PySem.boot_len (q0 (q04 (q0l hr) (pv 0) qR (fun _ _=>rfl)) qC)) qE (qT _))
     case ha =>
      apply qD
      exact (qL (qp (q0 (pv 1) (q0 (qM D_law_due hr rfl (q0 qE qC)) qC))))
     case hb =>
      exact qP
    apply qD
    exact (q37 (q0l hr) (pv 0) qR (qU q2S (q04 (q0l hr) (pv 0) qR (fun _ _=>rfl)) (qc (q0 (q3y (K:=K) rfl PySem.F.plainAttrs_list PySem.F.slot_list_pop PySem.F.type_list_pop q5o (q04 (q0l hr) (pv 0) qR (fun _ _=>rfl))) qC))) rfl)
   case hb =>
    apply qB
    case h1 =>
     apply qZ
     case hc=>exact (qO (op_eqDK (K:=K) hr rfl) (q04 (q0l hr) (pv 0) qR (fun _ _=>rfl)) (qc qC) (qT _))
     case ha =>
      apply qD
      exact (qL (qp (q0 (pv 1) (q0 (qM D_law_due hr rfl (q0 qE qC)) qC))))
     case hb =>
      exact qP
    apply qD
    exact (q37 (q0l hr) (pv 0) qR (qU q2S (q04 (q0l hr) (pv 0) qR (fun _ _=>rfl)) (qc (q0 (q3y (K:=K) rfl PySem.F.plainAttrs_list PySem.F.slot_list_pop PySem.F.type_list_pop q5o (q04 (q0l hr) (pv 0) qR (fun _ _=>rfl))) qC))) rfl)
  apply qD
  exact (qL (qp (q0 (pv 1) (q0 (qd qu rfl Z.str_ PyProof.Rows.boot_str (q0 (qJ (qG (K:=K) rfl) (qM D_best_of hr rfl (q0 (qJ (qK (K:=K) rfl) (q04 (q0l hr) (pv 0) qR (fun _ _=>rfl)) (q3K q1l qE) (fun _ _=>rfl)) qC)) qE (fun _ _=>rfl)) qC)) qC))))
 rcases hc with rfl | rfl
 ·have ht:Cmd.undo.text=Str.ofString "undo":=qw _
  rw [ht] at fin ⊢
  lk
  refine ⟨m,_,rfl,q2w hM.dic,?_⟩
  lk
  refine ⟨a,xs,rfl,.inl (SqL.of h1),?_⟩
  lk
  refine ifD (fun hl=>?_) (fun hl=>?_)
  ·have hl1:xs.length=1:=by have:=V.int.inj hl;omega
   have he:st.earlier=[]:=List.eq_nil_of_length_eq_zero (by omega)
   lk
   intro l H1 s1 hl0 hl1
   lk
   refine ⟨by show 2≤sizeLine;decide,fun t ht0=>?_⟩
   have s2:=Same.new ht0 (.tup [.str (Str.ofString "undo"),.ref l])
   exact fin t a b (.ref l) (.ref 7) st _ (fun p o _ _ _ z=>s2 _ _ (s1 _ _ z)) (.inl rfl) (.inl rfl) qA ⟨l,rfl,s2 _ _ hl1⟩ (.undoN hrow he) (hM.same (s1.trans s2))
  ·lk
   refine ⟨m,_,rfl,dGone hM.dic,?_⟩
   lk
   refine ⟨m,_,rfl,q2w hM.dic,?_⟩
   obtain ⟨p,zs,rfl,hp,hz⟩:=h2.last
   obtain ⟨rs,r,her⟩:∃ rs r,st.earlier=rs++[r]:=by
    have he:st.earlier≠[]:=fun z=>hl (by rw [List.length_append,List.length_singleton,hz.len,z];rfl)
    exact ⟨_,_,(List.dropLast_concat_getLast he).symm⟩
   rw [her] at hz
   obtain ⟨q,z2,rfl,hq,hz2⟩:=hz.last
   have hab:=hM.ne
   have hma:m≠a:=fun z=>by rw [← z,hM.dic] at h1;cases h1
   have hmb:m≠b:=fun z=>by rw [← z,hM.dic] at h3;cases h3
   have hpa:p≠a∧p≠b:=h5 p (by simp)
   have hqa:q≠a∧q≠b:=h5 q (by simp)
   lk
   refine ⟨.inl ⟨rfl,_,SqL.of h1⟩,?_⟩
   lk
   refine ⟨a,_,.ref p,rfl,rfl,h1,by rw [List.length_append,List.length_singleton,Nat.add_sub_cancel,List.getElem?_append_right (Nat.le_refl _),Nat.sub_self];rfl,?_⟩
   rw [List.dropLast_concat]
   obtain ⟨H1,eH1⟩:∃ z,z=upd H a (.lst (z2++[.ref q])):=⟨_,rfl⟩
   rw [← eH1]
   have m1:H1 m=some (.dK [(.inr "stand",.ref a),(.inr "gone",.ref b)]):=by rw [eH1,qF hma];exact hM.dic
   have b1:H1 b=some (.lst ys):=by rw [eH1,qF (Ne.symm hab)];exact h3
   have a1:H1 a=some (.lst (z2++[.ref q])):=by rw [eH1,qA]
   lk
   refine ⟨by show 1≤sizeLine;decide,fun l hl0=>?_⟩
   have s2:=Same.new hl0 (.lst [.ref p])
   lk
   have hyl:=h4.len
   refine ⟨b,l,ys,[.ref p],rfl,rfl,s2 _ _ b1,qA,Nat.le_of_lt (small (by rw [List.length_singleton];omega)),fun b' hb'=>?_⟩
   have s3:=Same.new hb' (.lst (ys++[.ref p]))
   have s13:=s2.trans s3
   lk
   refine ⟨m,_,rfl,DPut.k (k:=.inr "gone") (s13 _ _ m1) (by show 2 < sizeLine;decide),?_⟩
   obtain ⟨H2,eH2⟩:∃ z,z=upd (upd (upd H1 l (.lst [.ref p])) b' (.lst (ys++[.ref p]))) m (.dK (putK [(.inr "stand",.ref a),(.inr "gone",.ref b)] (.inr "gone") (.ref b'))):=⟨_,rfl⟩
   rw [← eH2]
   have hmb':m≠b':=qI (s2 _ _ m1) hb'
   have hab':a≠b':=qI (s2 _ _ a1) hb'
   have m2:H2 m=some (.dK [(.inr "stand",.ref a),(.inr "gone",.ref b')]):=by rw [eH2,qA];rfl
   have old:∀ x o,x≠m→x≠a→H x=some o→H2 x=some o:=fun x o n1 n2 z=>by
    rw [eH2,qF n1]
    exact s13 _ _ (by rw [eH1,qF n2];exact z)
   have a2:H2 a=some (.lst (z2++[.ref q])):=by rw [eH2,qF (Ne.symm hma)];exact s13 _ _ a1
   have b2:H2 b'=some (.lst (ys++[.ref p])):=by rw [eH2,qF (Ne.symm hmb'),qA]
   have hb0:H b'=none:=by
    have z:=s2.free hb'
    rw [eH1,qF (Ne.symm hab')] at z
    exact z
   have hR:RowOk r:=hO r (.inl (by rw [her];exact List.mem_append_right _ List.mem_cons_self))
   have r1:=hR.l1
   have r2:=hR.l2
   have hqm:q≠m:=fun z=>by rw [z,hM.dic] at hq;cases hq
   have hpm:p≠m:=fun z=>by rw [z,hM.dic] at hp;cases hp
   lk
   refine ⟨m,_,rfl,q2w m2,?_⟩
   lk
   refine ⟨a,_,_,.ref q,rfl,rfl,SqL.of a2,q2z _ _,?_⟩
   refine ⟨q,r,rfl,old q _ hqm hqa.1 hq,r1,by omega,fun t1 s f b0 H3 s3' ht hB=>?_⟩
   lk
   refine ⟨t1,_,0,_,rfl,rfl,SqT.of ht,rfl,?_⟩
   lk
   have hbit:s.natAbs < 10 ^ 36:=by
    rw [show s=psum r b0-psum r f from hB.val]
    have m1:=hB.mem.1
    have m3:b0≤r.length:=hB.mem.2.2
    exact hR.part m3 (by omega)
   refine ⟨Nat.lt_trans (q6h hbit) (by decide),?_⟩
   lk
   refine ⟨by show 2≤sizeLine;decide,fun t ht0=>?_⟩
   have s4:=Same.new ht0 (.tup [.str (Str.ofString "undo"),.str (txt s)])
   have s34:=s3'.trans s4
   refine fin t a b' (.str (txt s)) (.ans (txt s)) ⟨some r,rs,st.undone++[ns]⟩ _ (fun x o n1 n2 _ z=>s34 _ _ (old x o n1 n2 z)) (.inl rfl) (.inr hb0) qA rfl (.undo hrow her (q0o hB)) ?_
   refine MineAt.same ⟨m2,hab',z2++[.ref q],ys++[.ref p],a2,?_,b2,?_,?_⟩ s34
   ·exact (hz2.keep fun x l hx k=>old x _ (fun z=>by rw [z,hM.dic] at k;cases k) (h5 x (by simp [hx])).1 k).push (old q _ hqm hqa.1 hq)
   ·exact (h4.keep fun x l hx k=>old x _ (fun z=>by rw [z,hM.dic] at k;cases k) (h5 x (by simp [hx])).1 k).push (old p _ hpm hpa.1 hp)
   ·intro x hx
    have hx':V.ref x∈(z2++[V.ref q]++[V.ref p])++ys:=by
     simp only [List.mem_append,List.mem_singleton] at hx ⊢
     rcases hx with (hx | hx) | (hx | hx) <;> simp [hx]
    refine ⟨(h5 x hx').1,?_⟩
    rcases List.mem_append.mp hx' with g | g
    ·obtain ⟨l',k⟩:=h2.mem g
     exact qI k hb0
    ·obtain ⟨l',k⟩:=h4.mem g
     exact qI k hb0
 ·have ht:Cmd.again.text=Str.ofString "again":=qw _
  rw [ht] at fin ⊢
  lk
  refine ⟨m,_,rfl,dGone hM.dic,?_⟩
  lk
  refine ⟨by show 0≤sizeLine;decide,fun l0 hl0=>?_⟩
  have s0:=Same.new hl0 (.lst [])
  lk
  refine ⟨0,_,EqD.none (SqL.of (s0 _ _ h3)) (SqL.of qA),by decide,?_⟩
  obtain ⟨H0,eH0⟩:∃ z,z=upd H l0 (.lst []):=⟨_,rfl⟩
  rw [← eH0] at s0 ⊢
  have hM0:=hM.same s0
  cases hy:ys.isEmpty with
  | true =>
   have he:st.undone=[]:=List.eq_nil_of_length_eq_zero (by rw [← h4.len,List.isEmpty_iff.mp hy];rfl)
   lk
   intro l H1 s1 hl0 hl1
   lk
   refine ⟨by show 2≤sizeLine;decide,fun t ht0=>?_⟩
   have s2:=Same.new ht0 (.tup [.str (Str.ofString "again"),.ref l])
   exact fin t a b (.ref l) (.ref 7) st _ (fun p o _ _ _ z=>s2 _ _ (s1 _ _ (s0 _ _ z))) (.inl rfl) (.inl rfl) qA ⟨l,rfl,s2 _ _ hl1⟩ (.againN hrow he) (hM0.same (s1.trans s2))
  | false =>
   obtain ⟨us,r,her⟩:∃ us r,st.undone=us++[r]:=by
    have he:st.undone≠[]:=fun z=>by
     have:=h4.len
     rw [z] at this
     rw [List.eq_nil_of_length_eq_zero this] at hy
     cases hy
    exact ⟨_,_,(List.dropLast_concat_getLast he).symm⟩
   rw [her] at h4
   obtain ⟨q,z2,rfl,hq,hz2⟩:=h4.last
   have hab:=hM.ne
   have hma:m≠a:=fun z=>by rw [← z,hM.dic] at h1;cases h1
   have hmb:m≠b:=fun z=>by rw [← z,hM.dic] at h3;cases h3
   have hqa:q≠a∧q≠b:=h5 q (by simp)
   lk
   refine ⟨m,_,rfl,q2w hM0.dic,?_⟩
   lk
   refine ⟨m,_,rfl,dGone hM0.dic,?_⟩
   refine ⟨.inl ⟨rfl,_,SqL.of (s0 _ _ h3)⟩,?_⟩
   lk
   refine ⟨b,_,.ref q,rfl,rfl,s0 _ _ h3,by rw [List.length_append,List.length_singleton,Nat.add_sub_cancel,List.getElem?_append_right (Nat.le_refl _),Nat.sub_self];rfl,?_⟩
   rw [List.dropLast_concat]
   obtain ⟨H1,eH1⟩:∃ z,z=upd H0 b (.lst z2):=⟨_,rfl⟩
   rw [← eH1]
   have m1:H1 m=some (.dK [(.inr "stand",.ref a),(.inr "gone",.ref b)]):=by rw [eH1,qF hmb];exact hM0.dic
   have a1:H1 a=some (.lst xs):=by rw [eH1,qF hab];exact s0 _ _ h1
   have b1:H1 b=some (.lst z2):=by rw [eH1,qA]
   lk
   refine ⟨by show 1≤sizeLine;decide,fun l hl0=>?_⟩
   have s2:=Same.new hl0 (.lst [.ref q])
   lk
   refine ⟨a,l,xs,[.ref q],rfl,rfl,s2 _ _ a1,qA,Nat.le_of_lt (small (by rw [List.length_singleton];omega)),fun a' ha'=>?_⟩
   have s3:=Same.new ha' (.lst (xs++[.ref q]))
   have s13:=s2.trans s3
   lk
   refine ⟨m,_,rfl,DPut.k (k:=.inr "stand") (s13 _ _ m1) (by show 2 < sizeLine;decide),?_⟩
   obtain ⟨H2,eH2⟩:∃ z,z=upd (upd (upd H1 l (.lst [.ref q])) a' (.lst (xs++[.ref q]))) m (.dK (putK [(.inr "stand",.ref a),(.inr "gone",.ref b)] (.inr "stand") (.ref a'))):=⟨_,rfl⟩
   rw [← eH2]
   have hma':m≠a':=qI (s2 _ _ m1) ha'
   have hba':b≠a':=qI (s2 _ _ b1) ha'
   have m2:H2 m=some (.dK [(.inr "stand",.ref a'),(.inr "gone",.ref b)]):=by rw [eH2,qA];rfl
   have old:∀ x o,x≠m→x≠b→H x=some o→H2 x=some o:=fun x o n1 n2 z=>by
    rw [eH2,qF n1]
    exact s13 _ _ (by rw [eH1,qF n2];exact s0 _ _ z)
   have b2:H2 b=some (.lst z2):=by rw [eH2,qF (Ne.symm hmb)];exact s13 _ _ b1
   have a2:H2 a'=some (.lst (xs++[.ref q])):=by rw [eH2,qF (Ne.symm hma'),qA]
   have ha0:H a'=none:=by
    have z:=s2.free ha'
    rw [eH1,qF (Ne.symm hba')] at z
    exact s0.free z
   have hR:RowOk r:=hO r (.inr (by rw [her];exact List.mem_append_right _ List.mem_cons_self))
   have r1:=hR.l1
   have r2:=hR.l2
   have hqm:q≠m:=fun z=>by rw [z,hM.dic] at hq;cases hq
   lk
   refine ⟨m,_,rfl,q2w m2,?_⟩
   lk
   refine ⟨a',_,_,.ref q,rfl,rfl,SqL.of a2,q2z _ _,?_⟩
   refine ⟨q,r,rfl,old q _ hqm hqa.2 hq,r1,by omega,fun t1 s f b0 H3 s3' ht hB=>?_⟩
   lk
   refine ⟨t1,_,0,_,rfl,rfl,SqT.of ht,rfl,?_⟩
   lk
   have hbit:s.natAbs < 10 ^ 36:=by
    rw [show s=psum r b0-psum r f from hB.val]
    have m1:=hB.mem.1
    have m3:b0≤r.length:=hB.mem.2.2
    exact hR.part m3 (by omega)
   refine ⟨Nat.lt_trans (q6h hbit) (by decide),?_⟩
   lk
   refine ⟨by show 2≤sizeLine;decide,fun t ht0=>?_⟩
   have s4:=Same.new ht0 (.tup [.str (Str.ofString "again"),.str (txt s)])
   have s34:=s3'.trans s4
   refine fin t a' b (.str (txt s)) (.ans (txt s)) ⟨some r,st.earlier++[ns],us⟩ _ (fun x o n1 _ n2 z=>s34 _ _ (old x o n1 n2 z)) (.inr ha0) (.inl rfl) qA rfl (.again hrow her (q0o hB)) ?_
   refine MineAt.same ⟨m2,Ne.symm hba',xs++[.ref q],z2,a2,?_,b2,?_,?_⟩ s34
   ·exact (h2.keep fun x l hx k=>old x _ (fun z=>by rw [z,hM.dic] at k;cases k) (h5 x (by simp [hx])).2 k).push (old q _ hqm hqa.2 hq)
   ·exact hz2.keep fun x l hx k=>old x _ (fun z=>by rw [z,hM.dic] at k;cases k) (h5 x (by simp [hx])).2 k
   ·intro x hx
    have hx':V.ref x∈xs++(z2++[V.ref q]):=by
     simp only [List.mem_append,List.mem_singleton] at hx ⊢
     rcases hx with (hx | hx) | hx <;> simp [hx]
    refine ⟨?_,(h5 x hx').2⟩
    rcases List.mem_append.mp hx' with g | g
    ·obtain ⟨l',k⟩:=h2.mem g
     exact qI k ha0
    ·obtain ⟨l',k⟩:=h4.mem g
     exact qI k ha0
theorem str_assoc (x y z:Str):x++y++z=x++(y++z):=q6m (by simp only [Str.cps_append,Array.toList_append,List.append_assoc])
theorem q24 (z:Str):∀ (x:Str) (l:List Str),Txt.join (Str.ofString " ") (x::l++[z])=Txt.join (Str.ofString " ") (x::l)++Str.ofString " "++z
 | x,[]=>by
  have e:Str.ofString " " = ⟨#[32]⟩:=rfl
  show Txt.join (Str.ofString " ") (x::z::[])=_
  rw [q25,qw,qw,e]
 | x,y::l=>by
  have e:Str.ofString " " = ⟨#[32]⟩:=rfl
  show Txt.join (Str.ofString " ") (x::y::(l++[z]))=_
  rw [q25,show y::(l++[z])=y::l++[z] from rfl,q24 z y l,q25,← e]
  simp only [str_assoc]
theorem q3c (c:Nat×Int):∀ cs:List (Nat×Int),q0W (cs++[c])=q0W cs++[txt (c.1:Int)]++[txt c.2]
 | []=>rfl
 | d::cs=>by
  show txt (d.1:Int)::txt d.2::q0W (cs++[c])=_
  rw [q3c c cs]
  rfl
theorem q3X (cs:List (Nat×Int)) (c:Nat×Int):(Cmd.put (cs++[c])).text=(Cmd.put cs).text++Str.ofString " "++txt (c.1:Int)++Str.ofString " "++txt c.2:=by
 show Txt.join (Str.ofString " ") (Str.ofString "put"::q0W (cs++[c]))=Txt.join (Str.ofString " ") (Str.ofString "put"::q0W cs)++Str.ofString " "++txt (c.1:Int)++Str.ofString " "++txt c.2
 rw [q3c,show Str.ofString "put"::(q0W cs++[txt (c.1:Int)]++[txt c.2])=Str.ofString "put"::(q0W cs++[txt (c.1:Int)])++[txt c.2] from rfl,q24,
  show Str.ofString "put"::(q0W cs++[txt (c.1:Int)])=Str.ofString "put"::q0W cs++[txt (c.1:Int)] from rfl,q24]
noncomputable def q2p (row:List Int) (j:Nat) (v:Int):List Int:=row.take j++[v]++row.drop (j+1)
theorem q4W {row:List Int} {j:Nat} {v:Int} (h:j≤row.length):(q2p row j v).length=if j=row.length then row.length+1 else row.length:=by
 unfold q2p
 rw [List.length_append,List.length_append,List.length_take,List.length_singleton,List.length_drop]
 split <;> omega
theorem q7O {row:List Int} {j:Nat} {v:Int} (h:j < row.length):q2p row j v=row.set j v:=by
 unfold q2p
 rw [List.set_eq_take_append_cons_drop,if_pos h,List.append_assoc]
 rfl
theorem put_more {ns row:List Int} {cs:List (Nat×Int)} {bad:Bool} {j:Nat} {v:Int} (h:(bad=false∧q2R ns.length (cs.map intC)∧row=q0A ns (cs.map intC))∨(bad=true∧¬ q2R ns.length (cs.map intC))) (hj:j≤row.length) :
  ((bad || decide (j=row.length))=false∧q2R ns.length ((cs++[(j,v)]).map intC)∧q2p row j v=q0A ns ((cs++[(j,v)]).map intC))∨((bad || decide (j=row.length))=true∧¬ q2R ns.length ((cs++[(j,v)]).map intC)):=by
 rw [List.map_append]
 rcases h with ⟨rfl,h1,h2⟩ | ⟨rfl,h1⟩
 ·have hl:row.length=ns.length:=by rw [h2,q2N]
  by_cases e:j=row.length
  ·refine .inr ⟨by rw [decide_eq_true e];rfl,fun z=>?_⟩
   have:=z (intC (j,v)) (List.mem_append_right _ List.mem_cons_self)
   have e2:(intC (j,v)).1=(j:Int):=rfl
   omega
  ·refine .inl ⟨by rw [decide_eq_false e];rfl,fun c hc=>?_,?_⟩
   ·rcases List.mem_append.mp hc with hc | hc
    ·exact h1 c hc
    ·rw [List.mem_singleton.mp hc]
     show 0≤(j:Int)∧(j:Int) < _
     omega
   ·rw [q1f,← h2,q7O (by omega)]
    rfl
 ·exact .inr ⟨rfl,fun z=>h1 fun c hc=>z c (List.mem_append_left _ hc)⟩
theorem cut_row {row:List Int} {j:Nat} (h:j≤row.length):cutV (row.map V.int) none (some (j:Int))=(row.take j).map V.int:=by
 unfold cutV
 rw [HT.sIx_nat,List.length_map,Nat.min_eq_left h]
 simp [HT.sIx]
theorem q76 {row:List Int} {j:Nat}:cutV (row.map V.int) (some ((j:Int)+1)) none=(row.drop (j+1)).map V.int:=by
 unfold cutV
 rw [show (j:Int)+1=((j+1:Nat):Int) by omega,HT.sIx_nat,List.length_map]
 by_cases h:j+1≤row.length
 ·rw [Nat.min_eq_left h]
  show ((row.map V.int).drop (j+1)).take (row.length-(j+1))=_
  rw [List.take_of_length_le (by rw [List.length_drop,List.length_map];exact Nat.le_refl _),List.map_drop]
 ·rw [Nat.min_eq_right (by omega),List.drop_of_length_le (by rw [List.length_map];exact Nat.le_refl _),List.drop_of_length_le (l:=row) (by omega)]
  simp
noncomputable def q6F:Sp:=fun vs H Q _=>∃ (m a b l:Addr) (st:Dst) (ns ms:List Int),vs=[.ref m,.ref l]∧H l=some (.lst (ms.map V.int))∧ms.length=13∧MineAt H m a b st∧st.row=some ns∧RowOk ns∧st.earlier.length≤900 ∧
 ∀ (t a' b':Addr) (v:V) (r:Rep) (st':Dst) (cs:List (Nat×Int)) (H':Hp),FrM m a b H H'→(a'=a∨H a'=none)→(b'=b∨H b'=none)→(Cmd.put cs).ok→H' t=some (.tup [.str (Cmd.put cs).text,v])→DueV H' v r→Says st (.put cs) r st'→MineAt H' m a' b' st'→Q (.ref t) H'
theorem qv (x y:Str):(x++y).length=x.length+y.length:=by
 show (x++y).cps.size=_
 rw [Str.cps_append,Array.size_append]
 rfl
theorem ok_lput {k:Nat} {f:Addr} {fd:FuncData} (F:Fun K "_law_put" "_law_put" q2l f fd) (Z:Blt mg)
  (D_law_due:Def P w K mg base k "_law_due" ["at"] q4U) (D_best_of:Def P w K mg base k "best_of" ["row"] q1L) (D_law_number:Def P w K mg base k "_law_number" ["numbers","k"] q4x):FnOk P w K mg base CX0 (k+1) f fd ["mine","numbers"] q6F:=by
 refine F.ok sc_law_put (fun vs H Q E h=>?_) (fun cdv A outer s H vs Q E hr h=>?_)
 ·obtain ⟨m,a,b,l,st,ns,ms,rfl,_⟩:=h
  rfl
 obtain ⟨m,a,b,l,st,ns,ms,rfl,hl,h13,hM,hrow,hR,hfew,fin⟩:=h
 obtain ⟨xs,ys,h1,h2,h3,h4,h5⟩:=hM.ex
 have hst:st.stand=st.earlier++[ns]:=by unfold Dst.stand;rw [hrow]
 rw [hst] at h2
 have hxl:=h2.len
 rw [List.length_append,List.length_singleton] at hxl
 obtain ⟨p,zs,rfl,hp,hz⟩:=h2.last
 have r1:=hR.l1
 have r2:=hR.l2
 have at_:∀ j:Nat,j < 13→∃ x,atI (ms.map V.int) (j:Int)=some (.int x):=fun j hj=>⟨ms[j],qq (by rw [List.getElem?_map,List.getElem?_eq_getElem (by omega)];rfl)⟩
 obtain ⟨x1,e1⟩:=at_ 1 (by decide)
 obtain ⟨x9,e9⟩:=at_ 9 (by decide)
 apply Exists.intro
 apply And.intro
 case left =>
  apply qB
  case h1 =>
   exact (qQ (i:=2) sc_law_put.nd rfl (by walk_at "lr") (qJ (qK (K:=K) rfl) (q04 (q0l hr) (pv 0) qR (fun _ _=>rfl)) (q3K q1l qE) (fun _ _=>rfl)))
  apply qB
  case h1 =>
   exact (qQ (i:=3) sc_law_put.nd rfl (by walk_at "lr") qR)
  apply qB
  case h1 =>
   exact (qQ (i:=4) sc_law_put.nd rfl (by walk_at "lr") q5h)
  apply qB
  case h1 =>
   apply q18 PassesOwn.never rfl
   case hi=>exact (q22 rfl Z.range_ (q0 (qU qf qE (qU qr (qJ (qK (K:=K) rfl) (pv 1) qE (fun _ _=>rfl)) qE)) qC))
   case hg=>exact (qi (i:=5) sc_law_put.nd rfl (by walk_at "lr"))
   case hb =>
    apply qB
    case h1 =>
     exact (qQ (i:=6) sc_law_put.nd rfl (by walk_at "lr") (qU qr (qJ (qK (K:=K) rfl) (pv 1) (qU qf qE (pv 5)) (fun _ _=>rfl)) (qU qf (qV (qS (K:=K) rfl) rfl Z.len_ PySem.boot_len (q0 (pv 2) qC)) (qd q4D rfl Z.int_ PyProof.Rows.boot_int (q0 (q2Y q0C (qU qr (qJ (qK (K:=K) rfl) (pv 1) qE (fun _ _=>rfl)) qE) qE (qT _)) qC)))))
    apply qB
    case h1 =>
     exact (qQ (i:=7) sc_law_put.nd rfl (by walk_at "lr") (qM D_law_number hr rfl (q0 (pv 1) (q0 (qU qf qE (pv 5)) qC))))
    apply qB
    case h1 =>
     exact (qQ (i:=3) sc_law_put.nd rfl (by walk_at "lr") (qU qy (qU qy (qU qy (qU qy (pv 3) qR) (qd qu rfl Z.str_ PyProof.Rows.boot_str (q0 (pv 6) qC))) qR) (qd qu rfl Z.str_ PyProof.Rows.boot_str (q0 (pv 7) qC))))
    apply qB
    case h1 =>
     exact (qQ (i:=4) sc_law_put.nd rfl (by walk_at "lr") (pe_or (pv 4) (pe_one (q2Y q0C (pv 6) (qV (qS (K:=K) rfl) rfl Z.len_ PySem.boot_len (q0 (pv 2) qC)) (qT _)))))
    apply qD
    exact (qQ (i:=2) sc_law_put.nd rfl (by walk_at "lr") (qU q2S (qU q2S (q1A (q2C (K:=K) rfl) (pv 2) q2X (q1g (pv 6))) (qc (q0 (pv 7) qC))) (q1A (q2C (K:=K) rfl) (pv 2) (q1g (qU qf (pv 6) qE)) q2X)))
  apply qB
  case h1 =>
   apply qZ
   case hc=>exact (q1o (pv 4))
   case ha =>
    apply qD
    exact (qL (qp (q0 (pv 3) (q0 (qM D_law_due hr rfl (q0 qE qC)) qC))))
   case hb =>
    exact qP
  apply qB
  case h1 =>
   exact (q37 (q0l hr) (pv 0) qR (qU q2S (q04 (q0l hr) (pv 0) qR (fun _ _=>rfl)) (qc (q0 (pv 2) qC))) rfl)
  apply qB
  case h1 =>
   exact (q37 (q0l hr) (pv 0) qR (qc qC) rfl)
  apply qD
  exact (qL (qp (q0 (pv 3) (q0 (qd qu rfl Z.str_ PyProof.Rows.boot_str (q0 (qJ (qG (K:=K) rfl) (qM D_best_of hr rfl (q0 (pv 2) qC)) qE (fun _ _=>rfl)) qC)) qC))))
 lk
 refine ⟨m,_,rfl,q2w hM.dic,?_⟩
 lk
 refine ⟨a,_,_,.ref p,rfl,rfl,SqL.of h1,q2z _ _,?_⟩
 lk
 refine ⟨l,_,1,_,rfl,rfl,SqL.of hl,e1,?_⟩
 lk
 refine ⟨by omega,by omega,?_⟩
 obtain ⟨n,en⟩:∃ n:Nat,(1+x1%3).toNat=n:=⟨_,rfl⟩
 have hn1:1≤n:=by omega
 have hn3:n≤3:=by omega
 rw [en]
 refine q27 (fun i σ H'=>∃ (q:Addr) (cs:List (Nat×Int)) (row:List Int) (bad:Bool) (o5 o6 o7:Option V),Same H H'∧H' q=some (.lst (row.map V.int))∧cs.length=i∧(Cmd.put cs).text.length≤3+100*i∧(∀ c,c∈cs→c.1 < 10 ^ 6∧c.2.natAbs < 10 ^ 30)∧row.length≤40+i∧1≤row.length ∧
  ((bad=false∧q2R ns.length (cs.map intC)∧row=q0A ns (cs.map intC))∨(bad=true∧¬ q2R ns.length (cs.map intC)))∧σ=[some (.ref m),some (.ref l),some (.ref q),some (.str (Cmd.put cs).text),some (.bl bad),o5,o6,o7]) ⟨p,[],ns,false,none,none,none,Same.refl _,hp,rfl,by rw [show (Cmd.put []).text=Str.ofString "put" from qw _];decide,(fun c hc=>by cases hc),r2,r1,.inl ⟨rfl,(fun c hc=>by cases hc),rfl⟩,by rw [show (Cmd.put []).text=Str.ofString "put" from qw _];rfl⟩ ?_ ?_
 ·rintro i σ H1 hi ⟨q,cs,row,bad,o5,o6,o7,sm,hq,hcl,htl,hcb,hr1,hr2,hor,rfl⟩
  obtain ⟨y,ey⟩:=at_ (2+i) (by omega)
  have ey':atI (ms.map V.int) (2+(0+(i:Int)))=some (.int y):=by
   rw [show 2+(0+(i:Int))=((2+i:Nat):Int) by omega]
   exact ey
  lk
  refine ⟨l,_,_,_,rfl,rfl,SqL.of (sm _ _ hl),ey',?_⟩
  lk
  refine ⟨q,_,rfl,.inl (SqL.of hq),?_⟩
  rw [List.length_map]
  lk
  refine ⟨l,_,9,_,rfl,rfl,SqL.of (sm _ _ hl),e9,?_⟩
  lk
  refine .inr ⟨_,rfl,?_⟩
  lk
  generalize hd0:(if decide ((fun i j=>V.int (i%j)) x9 7=V.int 0)=true then (1:Int) else 0)=d
  have hd:d=0∨d=1:=by
   rw [← hd0]
   split <;> simp
  have hpos:(0:Int) < (row.length:Int)+d:=by omega
  refine ⟨hpos,?_⟩
  obtain ⟨pl,epl⟩:∃ pl:Nat,y%((row.length:Int)+d)=pl:=⟨(y%((row.length:Int)+d)).toNat,(Int.toNat_of_nonneg (Int.emod_nonneg _ (by omega))).symm⟩
  have hpl:(pl:Int) < row.length+d:=by rw [← epl];exact Int.emod_lt_of_pos _ hpos
  dsimp only
  rw [epl]
  lk
  refine ⟨l,ms,5+i,?_,sm _ _ hl,by omega,fun v H2 s2 hv=>?_⟩
  ·show [V.ref l,V.int (5+(0+(i:Int)))]=[V.ref l,V.int ((5+i:Nat):Int)]
   rw [show 5+(0+(i:Int))=((5+i:Nat):Int) by omega]
  have lp:(txt (pl:Int)).length≤31:=q0O (by omega)
  have lv:(txt v).length≤31:=q0O (Nat.lt_of_le_of_lt hv (by decide))
  have lb:(Str.ofString " ").length=1:=rfl
  lk
  refine ⟨Nat.le_of_lt (small (by omega)),?_⟩
  lk
  refine ⟨Nat.lt_trans (q2b (n:=(pl:Int)) (by omega)) (by decide),?_⟩
  lk
  refine ⟨Nat.le_of_lt (small (by rw [qv];show _+(txt (pl:Int)).length≤_;omega)),?_⟩
  lk
  refine ⟨Nat.le_of_lt (small (by rw [qv,qv];show _+(txt (pl:Int)).length+_≤_;omega)),?_⟩
  lk
  refine ⟨Nat.lt_trans (q2b (n:=v) (Nat.lt_of_le_of_lt hv (by decide))) (by decide),?_⟩
  lk
  refine ⟨Nat.le_of_lt (small (by rw [qv,qv,qv];show _+(txt (pl:Int)).length+_+(txt v).length≤_;omega)),?_⟩
  lk
  have hso:=put_more (v:=v) hor (show pl≤row.length by omega)
  cases bad with
  | true =>
   lk
   refine ⟨q,_,rfl,SqL.of (s2 _ _ hq),fun p1 hp1=>?_⟩
   rw [cut_row (show pl≤row.length by omega)]
   have t1:=Same.new hp1 (.lst ((row.take pl).map V.int))
   lk
   refine ⟨by show 1≤sizeLine;decide,fun p2 hp2=>?_⟩
   have t2:=Same.new hp2 (.lst [.int v])
   lk
   refine ⟨p1,p2,_,_,rfl,rfl,t2 _ _ qA,qA,Nat.le_of_lt (small (by rw [List.length_map,List.length_take,List.length_singleton];omega)),fun p3 hp3=>?_⟩
   have t3:=Same.new hp3 (.lst ((row.take pl).map V.int++[.int v]))
   have t13:=t1.trans (t2.trans t3)
   lk
   refine ⟨q,_,rfl,SqL.of (t13 _ _ (s2 _ _ hq)),fun p4 hp4=>?_⟩
   rw [q76]
   have t4:=Same.new hp4 (.lst ((row.drop (pl+1)).map V.int))
   lk
   refine ⟨p3,p4,_,_,rfl,rfl,t4 _ _ qA,qA,Nat.le_of_lt (small (by rw [List.length_append,List.length_map,List.length_map,List.length_take,List.length_drop,List.length_singleton];omega)),fun p5 hp5=>?_⟩
   have t5:=Same.new hp5 (.lst ((row.take pl).map V.int++[.int v]++(row.drop (pl+1)).map V.int))
   have hrl:=q4W (v:=v) (show pl≤row.length by omega)
   lk
   refine ⟨p5,cs++[(pl,v)],q2p row pl v,_,some (.int (0+(i:Int))),some (.int (pl:Int)),some (.int v),(sm.trans s2).trans (t13.trans (t4.trans t5)),?_,by rw [List.length_append,hcl];rfl,?_,fun c hc=>?_,by rw [hrl];split <;> omega,by rw [hrl];split <;> omega,hso,?_⟩
   ·rw [qA]
    unfold q2p
    rw [List.map_append,List.map_append]
    rfl
   ·rw [q3X,qv,qv,qv,qv]
    show (Cmd.put cs).text.length+1+(txt (pl:Int)).length+1+(txt v).length≤3+100*(i+1)
    omega
   ·rcases List.mem_append.mp hc with hc | hc
    ·exact hcb c hc
    ·rw [List.mem_singleton.mp hc]
     exact ⟨by omega,Nat.lt_of_le_of_lt hv (by decide)⟩
   ·rw [q3X]
    rfl
  | false =>
   lk
   refine ⟨q,_,rfl,.inl (SqL.of (s2 _ _ hq)),?_⟩
   rw [List.length_map]
   lk
   rw [show decide (V.int (pl:Int)=V.int (row.length:Int))=decide (pl=row.length) from decide_eq_decide.mpr ⟨fun h=>by have:=V.int.inj h;omega,fun h=>by rw [h]⟩]
   rw [Bool.false_or] at hso
   lk
   refine ⟨q,_,rfl,SqL.of (s2 _ _ hq),fun p1 hp1=>?_⟩
   rw [cut_row (show pl≤row.length by omega)]
   have t1:=Same.new hp1 (.lst ((row.take pl).map V.int))
   lk
   refine ⟨by show 1≤sizeLine;decide,fun p2 hp2=>?_⟩
   have t2:=Same.new hp2 (.lst [.int v])
   lk
   refine ⟨p1,p2,_,_,rfl,rfl,t2 _ _ qA,qA,Nat.le_of_lt (small (by rw [List.length_map,List.length_take,List.length_singleton];omega)),fun p3 hp3=>?_⟩
   have t3:=Same.new hp3 (.lst ((row.take pl).map V.int++[.int v]))
   have t13:=t1.trans (t2.trans t3)
   lk
   refine ⟨q,_,rfl,SqL.of (t13 _ _ (s2 _ _ hq)),fun p4 hp4=>?_⟩
   rw [q76]
   have t4:=Same.new hp4 (.lst ((row.drop (pl+1)).map V.int))
   lk
   refine ⟨p3,p4,_,_,rfl,rfl,t4 _ _ qA,qA,Nat.le_of_lt (small (by rw [List.length_append,List.length_map,List.length_map,List.length_take,List.length_drop,List.length_singleton];omega)),fun p5 hp5=>?_⟩
   have t5:=Same.new hp5 (.lst ((row.take pl).map V.int++[.int v]++(row.drop (pl+1)).map V.int))
   have hrl:=q4W (v:=v) (show pl≤row.length by omega)
   lk
   refine ⟨p5,cs++[(pl,v)],q2p row pl v,_,some (.int (0+(i:Int))),some (.int (pl:Int)),some (.int v),(sm.trans s2).trans (t13.trans (t4.trans t5)),?_,by rw [List.length_append,hcl];rfl,?_,fun c hc=>?_,by rw [hrl];split <;> omega,by rw [hrl];split <;> omega,hso,?_⟩
   ·rw [qA]
    unfold q2p
    rw [List.map_append,List.map_append]
    rfl
   ·rw [q3X,qv,qv,qv,qv]
    show (Cmd.put cs).text.length+1+(txt (pl:Int)).length+1+(txt v).length≤3+100*(i+1)
    omega
   ·rcases List.mem_append.mp hc with hc | hc
    ·exact hcb c hc
    ·rw [List.mem_singleton.mp hc]
     exact ⟨by omega,Nat.lt_of_le_of_lt hv (by decide)⟩
   ·rw [q3X]
    rfl
 ·rintro σ H1 ⟨q,cs,row,bad,o5,o6,o7,sm,hq,hcl,htl,hcb,hr1,hr2,hor,rfl⟩
  have hok:(Cmd.put cs).ok:=⟨by omega,by omega,hcb⟩
  cases bad with
  | true =>
   rcases hor with ⟨hb,_⟩ | ⟨_,hno⟩
   ·cases hb
   lk
   intro l2 H2 s2 hl2 hl3
   lk
   refine ⟨by show 2≤sizeLine;decide,fun t ht0=>?_⟩
   have s3:=Same.new ht0 (.tup [.str (Cmd.put cs).text,.ref l2])
   have s13:=sm.trans (s2.trans s3)
   exact fin t a b (.ref l2) (.ref 3) st cs _ (fun x o _ _ _ z=>s13 _ _ z) (.inl rfl) (.inl rfl) hok qA ⟨l2,rfl,s3 _ _ hl3⟩ (.putN hrow hno) (hM.same s13)
  | false =>
   rcases hor with ⟨_,hin,erow⟩ | ⟨hb,_⟩
   case inr=>cases hb
   have hM1:=hM.same sm
   have hma:m≠a:=fun z=>by rw [← z,hM.dic] at h1;cases h1
   lk
   refine ⟨m,_,rfl,q2w hM1.dic,?_⟩
   lk
   refine ⟨by show 1≤sizeLine;decide,fun l2 hl2=>?_⟩
   have s2:=Same.new hl2 (.lst [.ref q])
   lk
   refine ⟨a,l2,_,_,rfl,rfl,s2 _ _ (sm _ _ h1),qA,Nat.le_of_lt (small (by rw [List.length_singleton];omega)),fun a' ha'=>?_⟩
   have s3:=Same.new ha' (.lst (zs++[.ref p]++[.ref q]))
   have s23:=s2.trans s3
   lk
   refine ⟨m,_,rfl,DPut.k (k:=.inr "stand") (s23 _ _ hM1.dic) (by show 2 < sizeLine;decide),?_⟩
   obtain ⟨H2,eH2⟩:∃ z,z=upd (upd (upd H1 l2 (.lst [.ref q])) a' (.lst (zs++[.ref p]++[.ref q]))) m (.dK (putK [(.inr "stand",.ref a),(.inr "gone",.ref b)] (.inr "stand") (.ref a'))):=⟨_,rfl⟩
   rw [← eH2]
   have hma':m≠a':=qI (s2 _ _ hM1.dic) ha'
   have m2:H2 m=some (.dK [(.inr "stand",.ref a'),(.inr "gone",.ref b)]):=by rw [eH2,qA];rfl
   have old2:∀ x o,x≠m→H1 x=some o→H2 x=some o:=fun x o n1 z=>by
    rw [eH2,qF n1]
    exact s23 _ _ z
   have a2:H2 a'=some (.lst (zs++[.ref p]++[.ref q])):=by rw [eH2,qF (Ne.symm hma'),qA]
   have ha0:H a'=none:=(sm.trans s2).free ha'
   lk
   refine ⟨by show 0≤sizeLine;decide,fun b' hb'=>?_⟩
   have s4:=Same.new hb' (.lst [])
   lk
   refine ⟨m,_,rfl,DPut.k (k:=.inr "gone") (s4 _ _ m2) (by show 2 < sizeLine;decide),?_⟩
   obtain ⟨H3,eH3⟩:∃ z,z=upd (upd H2 b' (.lst [])) m (.dK (putK [(.inr "stand",.ref a'),(.inr "gone",.ref b)] (.inr "gone") (.ref b'))):=⟨_,rfl⟩
   rw [← eH3]
   have hmb':m≠b':=qI m2 hb'
   have hab':a'≠b':=qI a2 hb'
   have m3:H3 m=some (.dK [(.inr "stand",.ref a'),(.inr "gone",.ref b')]):=by rw [eH3,qA];rfl
   have old3:∀ x o,x≠m→H2 x=some o→H3 x=some o:=fun x o n1 z=>by
    rw [eH3,qF n1]
    exact s4 _ _ z
   have old:∀ x o,x≠m→H x=some o→H3 x=some o:=fun x o n1 z=>old3 x o n1 (old2 x o n1 (sm _ _ z))
   have hqm:q≠m:=fun z=>by rw [z,hM1.dic] at hq;cases hq
   have hq2:=old2 q _ hqm hq
   have hq3:=old3 q _ hqm hq2
   have b3:H3 b'=some (.lst []):=by rw [eH3,qF (Ne.symm hmb'),qA]
   have hb0:H b'=none:=by
    cases e:H b' with
    | none=>rfl
    | some o=>have z:=old2 b' o (Ne.symm hmb') (sm _ _ e);rw [hb'] at z;cases z
   have hRr:RowOk row:=by
    rw [erow]
    refine hR.put fun c hc=>?_
    obtain ⟨c0,h0,rfl⟩:=List.mem_map.mp hc
    exact (hcb c0 h0).2
   have q1:=hRr.l1
   have q2:=hRr.l2
   lk
   refine ⟨q,row,rfl,hq3,q1,by omega,fun t1 s f b0 H4 s5 ht hB=>?_⟩
   lk
   refine ⟨t1,_,0,_,rfl,rfl,SqT.of ht,rfl,?_⟩
   lk
   have hbit:s.natAbs < 10 ^ 36:=by
    rw [show s=psum row b0-psum row f from hB.val]
    have m1:=hB.mem.1
    have m3:b0≤row.length:=hB.mem.2.2
    exact hRr.part m3 (by omega)
   refine ⟨Nat.lt_trans (q6h hbit) (by decide),?_⟩
   lk
   refine ⟨by show 2≤sizeLine;decide,fun t ht0=>?_⟩
   have s6:=Same.new ht0 (.tup [.str (Cmd.put cs).text,.str (txt s)])
   have s56:=s5.trans s6
   refine fin t a' b' (.str (txt s)) (.ans (txt s)) ⟨some (q0A ns (cs.map intC)),st.earlier++[ns],[]⟩ cs _ (fun x o n1 _ _ z=>s56 _ _ (old x o n1 z)) (.inr ha0) (.inr hb0) hok qA rfl (.put hrow hin (erow▸q0o hB)) ?_
   refine MineAt.same ⟨m3,hab',zs++[.ref p]++[.ref q],[],old3 a' _ (Ne.symm hma') a2,?_,b3,.nil,fun x hx=>?_⟩ s56
   ·refine (h2.keep fun x l hx k=>old x _ (fun z=>by rw [z,hM.dic] at k;cases k) k).push ?_
    rw [← erow]
    exact hq3
   ·rw [List.append_nil] at hx
    rcases List.mem_append.mp hx with g | g
    ·obtain ⟨l',k⟩:=h2.mem g
     exact ⟨qI k ha0,qI k hb0⟩
    ·cases List.mem_singleton.mp g
     exact ⟨qI hq (s2.free ha'),qI hq2 hb'⟩
noncomputable def q2g:Sp:=fun vs H Q _=>∃ (r:Addr) (xs:List V) (zs:List Str),vs=[.ref r]∧H r=some (.lst xs)∧xs.length≤1000∧xs.length=zs.length∧(∀ (i:Nat) (v:V) (z:Str),xs[i]?=some v→zs[i]?=some z→ShowV v z)∧JoinOk " " zs=true∧∀ H',Same H H'→Q (.str (Txt.join " " zs)) H'
theorem ok_lshown {k:Nat} {f:Addr} {fd:FuncData} (F:Fun K "_law_shown" "_law_shown" q1X f fd) (Z:Blt mg):FnOk P w K mg base CX0 (k+1) f fd ["numbers"] q2g:=by
 refine F.ok q5Y (fun vs H Q E h=>?_) (fun cdv A outer s H vs Q E hr h=>?_)
 ·obtain ⟨r,xs,zs,rfl,_⟩:=h
  rfl
 obtain ⟨r,xs,zs,rfl,hR,hz,hl,hS,hj,fin⟩:=h
 apply Exists.intro
 apply And.intro
 case left =>
  apply qD
  exact (qL (q7P PySem.F.plainAttrs_str PySem.F.slot_str_join PySem.F.type_str_join mt_join qR (q0 (q3x (N':=["number"]) (ix:=[none]) rfl rfl (by decide +kernel) rfl rfl rfl rfl (q09 (K:=K) rfl (pv 0)) (fun _ _ _ _=>(qi (i:=0) (show List.Nodup (["number"]:List Str) by decide +kernel) rfl (by walk_at "lr"))) (fun _ _ _ _=>q0b) (fun _ _ _ _=>(qd call_strV rfl Z.str_ PyProof.Rows.boot_str (q0 (pv 0) qC)))) qC)))
 lk
 refine ⟨⟨_,SqL.of hR⟩,?_⟩
 intro acc hacc
 refine q0d (n:=xs.length) (fun i τ ys H'=>H' acc=some (.lst ys)∧ys=(zs.take i).map V.str∧Same H H'∧∃ o0,τ=[o0]) ⟨qA,rfl,Same.new hacc _,none,rfl⟩ (by omega) ?_ ?_ ?_ ?_
 ·rintro i τ ys H' ⟨e,rfl,_⟩
  exact ⟨e,by rw [List.length_map,List.length_take];omega⟩
 ·rintro i τ ys H' hi ⟨e,_,sm,_⟩
  exact ⟨_,xs[i],SqL.of (sm _ _ hR),List.getElem?_eq_getElem hi⟩
 ·rintro τ ys H' ⟨e,rfl,sm,_⟩
  refine ⟨⟨_,SqL.of (sm _ _ hR),Nat.le_refl _⟩,?_⟩
  rw [hl,List.take_length] at e
  exact ⟨_,acc,_,rfl,rfl,SqL.of e,hj,fin H' sm⟩
 ·rintro i τ ys H' v H2 hi ⟨e,rfl,sm,o0,rfl⟩ ⟨rfl,y⟩
  have ey:=y _ (SqL.of (sm _ _ hR))
  have hz':i < zs.length:=by omega
  lk
  refine ⟨v,zs[i],rfl,hS i v zs[i] ey (List.getElem?_eq_getElem hz'),?_⟩
  refine ⟨e,Nx.mk hi ⟨qA,?_,sm.upd hacc,_,rfl⟩⟩
  rw [List.take_succ_eq_append_getElem hz',List.map_append]
  rfl
noncomputable def Ask.at:Ask→Int→Int→Prop
 | .part f b,x,y=>x=(f:Int)∧y=(b:Int)
 | .length f b,x,y=>x=(f:Int)∧y=(b:Int)
 | .apart f b,x,y=>x=(f:Int)∧y=(b:Int)
 | .bars f b,x,y=>x=(f:Int)∧y=(b:Int)
 | .must i,x,_=>x=(i:Int)
 | _,_,_=>True
noncomputable def Ask.good (ns:List Int):Ask→Prop
 | .part f b=>f < b∧b≤ns.length
 | _=>True
noncomputable def ShowA (xs:List V):Option (List Int)→Prop
 | some ns=>xs=ns.map V.int
 | none=>xs=[.non]∨xs=[.str "none"]
noncomputable def q3h (c1 c2 c3 c4:Addr):Sp:=fun vs H Q E=>∃ (r:Addr) (ns:List Int) (a:Ask) (x y:Int),vs=[.ref r,.str a.word,.int x,.int y]∧H r=some (.lst (ns.map V.int))∧RowOk ns∧a.at x y∧a.good ns∧a.few ∧
 (∀ (o:Option (List Int)) (l:Addr) (xs:List V) (H':Hp),Same H H'→H' l=some (.lst xs)→ShowA xs o→Tells ns a (.ans o)→Q (.ref l) H') ∧
 (∀ H',Same H H'→Tells ns a (.ref 2)→Q .non H') ∧
 ∀ (i:Nat) (H':Hp),Same H H'→Tells ns a (.ref i)→E (.ref (clsOf c1 c2 c3 c4 i)) none H'
theorem ok_lasked {k:Nat} {f c1 c2 c3 c4:Addr} {fd:FuncData} (F:Fun K "_law_asked" "_law_asked" q1Z f fd) (Z:Blt mg)
  (DE_best_of:DefE P w K mg base k "best_of" ["row"] q1L) (DE_kept:DefE P w K mg base k "kept" ["row"] q3i) (DE_best_round:DefE P w K mg base k "best_round" ["held"] q1u) (DE_best_sized:DefE P w K mg base k "best_sized" ["row","least","most"] (q2e c2))
  (DE_must_be:DefE P w K mg base k "must_be" ["held","place"] (q3N c4)) (DE_best_apart:DefE P w K mg base k "best_apart" ["row","many","gap"] (badC c3 1 q2h)) (DE_several_paper:DefE P w K mg base k "several_paper" ["row","many","gap"] (badC c3 1 q0X)) :
  FnOk P w K mg base (CXE P w) (k+1) f fd ["row","word","one","other"] (q3h c1 c2 c3 c4):=by
 refine F.okE sc_law_asked (fun vs H Q E h=>?_) (fun cdv A outer s H vs Q E hr h=>?_)
 ·obtain ⟨r,ns,a,x,y,rfl,_⟩:=h
  rfl
 obtain ⟨r,ns,a,x,y,rfl,hR,hO,ha,hgd,hf,fin,non,bad⟩:=h
 have l1:=hO.l1
 have l2:=hO.l2
 have hln:(ns.map V.int).length=ns.length:=List.length_map _
 apply Exists.intro
 apply And.intro
 case left =>
  apply qB
  case h1 =>
   apply qZ
   case hc=>exact (qO q0C (pv 1) qR (qT _))
   case ha =>
    apply qD
    exact (qL (qd (qm (K:=K) rfl) rfl Z.list_ PyProof.Rows.boot_list (q0 (qe DE_best_of hr rfl qz (q0 (pv 0) qC)) qC)))
   case hb =>
    exact qP
  apply qB
  case h1 =>
   apply qZ
   case hc=>exact (qO q0C (pv 1) qR (qT _))
   case ha =>
    apply qD
    exact (qL (qd (qm (K:=K) rfl) rfl Z.list_ PyProof.Rows.boot_list (q0 (qe DE_best_round hr rfl qz (q0 (qe DE_kept hr rfl qz (q0 (pv 0) qC)) qC)) qC)))
   case hb =>
    exact qP
  apply qB
  case h1 =>
   apply qZ
   case hc=>exact (qO q0C (pv 1) qR (qT _))
   case ha =>
    apply qD
    exact (qL (pv 0))
   case hb =>
    exact qP
  apply qB
  case h1 =>
   apply qZ
   case hc=>exact (qO q0C (pv 1) qR (qT _))
   case ha =>
    apply qB
    case h1 =>
     exact (qQ (i:=4) sc_law_asked.nd rfl (by walk_at "lr") (qe DE_best_of hr rfl qz (q0 (q1A (q2C (K:=K) rfl) (pv 0) (q1g (pv 2)) (q1g (pv 3))) qC)))
    apply qD
    exact (qL (qc (q0 (qJ (qG (K:=K) rfl) (pv 4) qE (fun _ _=>rfl)) (q0 (qU qf (qJ (qG (K:=K) rfl) (pv 4) qE (fun _ _=>rfl)) (pv 2)) (q0 (qU qf (qJ (qG (K:=K) rfl) (pv 4) qE (fun _ _=>rfl)) (pv 2)) qC)))))
   case hb =>
    exact qP
  apply qB
  case h1 =>
   apply qZ
   case hc=>exact (qO q0C (pv 1) qR (qT _))
   case ha =>
    apply qD
    exact (qL (qd (qm (K:=K) rfl) rfl Z.list_ PyProof.Rows.boot_list (q0 (qe DE_best_sized hr rfl qz (q0 (pv 0) (q0 (pv 2) (q0 (pv 3) qC)))) qC)))
   case hb =>
    exact qP
  apply qB
  case h1 =>
   apply qZ
   case hc=>exact (qO q0C (pv 1) qR (qT _))
   case ha =>
    apply qD
    exact (qL (qc (q0 (qe DE_must_be hr rfl qz (q0 (qe DE_kept hr rfl qz (q0 (pv 0) qC)) (q0 (pv 2) qC))) qC)))
   case hb =>
    exact qP
  apply qB
  case h1 =>
   exact (qQ (i:=4) sc_law_asked.nd rfl (by walk_at "lr") (qe DE_best_apart hr rfl qz (q0 (pv 0) (q0 (pv 2) (q0 (pv 3) qC)))))
  apply qB
  case h1 =>
   apply qZ
   case hc=>exact (qO q0C (pv 1) qR (qT _))
   case ha =>
    apply qB
    case h1 =>
     apply qZ
     case hc=>exact (qO q1B (pv 4) qj (qT _))
     case ha =>
      apply qD
      exact (qL qj)
     case hb =>
      exact qP
    apply qD
    exact (qL (qc (q0 (qJ (qK (K:=K) rfl) (qJ (qK (K:=K) rfl) (qe DE_several_paper hr rfl qz (q0 (pv 0) (q0 (pv 2) (q0 (pv 3) qC)))) (pv 2) (fun _ _=>rfl)) (qV (qS (K:=K) rfl) rfl Z.len_ PySem.boot_len (q0 (pv 0) qC)) (fun _ _=>rfl)) qC)))
   case hb =>
    exact qP
  apply qB
  case h1 =>
   apply qZ
   case hc=>exact (qO q1B (pv 4) qj (qT _))
   case ha =>
    apply qD
    exact (qL (qc (q0 qR qC)))
   case hb =>
    exact qP
  apply qB
  case h1 =>
   exact (qQ (i:=5) sc_law_asked.nd rfl (by walk_at "lr") (qc (q0 (qJ (qG (K:=K) rfl) (pv 4) qE (fun _ _=>rfl)) qC)))
  apply qB
  case h1 =>
   apply q18 PassesOwn.leaving rfl
   case hi=>exact (q09 (K:=K) rfl (qJ (qG (K:=K) rfl) (pv 4) qE (fun _ _=>rfl)))
   case hg=>exact (pg_tupK (K:=K) (n:=2) rfl rfl (q3a (qi (i:=6) sc_law_asked.nd rfl (by walk_at "lr")) (q3a (qi (i:=7) sc_law_asked.nd rfl (by walk_at "lr")) pgs_nil)))
   case hb =>
    apply qD
    exact (qQ (i:=5) sc_law_asked.nd rfl (by walk_at "lr") (qU q2S (pv 5) (qc (q0 (pv 6) (q0 (pv 7) qC)))))
  apply qD
  exact (qL (pv 5))
 cases a with
 | best =>
  lk
  refine ⟨r,ns,rfl,hR,l1,by omega,fun t s' f' b' H1 s1 ht hB=>?_⟩
  lk
  refine ⟨t,_,rfl,.inr (SqT.of ht),fun r1 hr1=>?_⟩
  exact fin (some [s',(f':Int),(b':Int)]) r1 _ _ (s1.trans (Same.new hr1 _)) qA rfl (.best (q0o hB))
 | ring =>
  lk
  refine ⟨r,ns,rfl,hR,l1,by omega,fun p H1 s1 hk=>?_⟩
  lk
  refine ⟨p,ns,rfl,hk,fun u x' H2 s2 hu hx=>?_⟩
  lk
  refine ⟨u,_,rfl,.inr (SqT.of hu),fun r1 hr1=>?_⟩
  exact fin (some [x'.s,x'.f,x'.b]) r1 _ _ ((s1.trans s2).trans (Same.new hr1 _)) qA rfl (.ring hx)
 | row =>
  lk
  exact fin (some ns) r _ _ (Same.refl _) hR rfl .row
 | part f b =>
  obtain ⟨rfl,rfl⟩:x=(f:Int)∧y=(b:Int):=ha
  obtain ⟨g1,g2⟩:f < b∧b≤ns.length:=hgd
  lk
  refine ⟨r,_,rfl,SqL.of hR,fun p hp=>?_⟩
  rw [cut_ints (by omega) (by omega) (by omega)]
  have s1:=Same.new hp (.lst ((cutI ns (f:Int) (b:Int)).map V.int))
  have hC:=hO.cut g1 g2
  have c1':=hC.l1
  have c2':=hC.l2
  lk
  refine ⟨p,cutI ns (f:Int) (b:Int),rfl,qA,c1',by omega,fun t s' f' b' H1 s2 ht hB=>?_⟩
  lk
  refine ⟨t,_,0,_,rfl,rfl,SqT.of ht,rfl,?_⟩
  lk
  refine ⟨t,_,1,_,rfl,rfl,SqT.of ht,rfl,?_⟩
  lk
  refine ⟨t,_,2,_,rfl,rfl,SqT.of ht,rfl,?_⟩
  lk
  refine ⟨by show 3≤sizeLine;decide,fun r1 hr1=>?_⟩
  exact fin (some [s',(f':Int)+f,(b':Int)+f]) r1 _ _ ((s1.trans s2).trans (Same.new hr1 _)) qA rfl (.part g1 g2 (q0o hB))
 | length f b =>
  obtain ⟨rfl,rfl⟩:x=(f:Int)∧y=(b:Int):=ha
  lk
  by_cases hg:1≤f∧f≤b∧f≤ns.length
  ·refine .inl ⟨r,ns,f,(b:Int),rfl,hR,by omega,hg.1,hg.2.2,by omega,fun t s' f' b' H3 s3 ht hB=>?_⟩
   lk
   refine ⟨t,_,rfl,.inr (SqT.of ht),fun r4 hr4=>?_⟩
   exact fin (some [s',(f':Int),(b':Int)]) r4 _ _ (s3.trans (Same.new hr4 _)) qA rfl (.length hg.1 hg.2.1 hg.2.2 hB)
  ·exact .inr ⟨r,ns,_,_,rfl,hR,fun z=>hg (by omega),bad 1 _ (Same.refl _) (.lengthN hg)⟩
 | must i =>
  obtain rfl:x=(i:Int):=ha
  lk
  refine ⟨r,ns,rfl,hR,l1,by omega,fun p H1 s1 hk=>?_⟩
  lk
  by_cases hi:i < ns.length
  ·refine .inl ⟨p,(i:Int),ns,rfl,hk,by omega,by omega,fun h1 H2 s2=>?_,fun h1 v H2 s2 hv=>?_⟩
   ·lk
    refine ⟨by show 1≤sizeLine;decide,fun r4 hr4=>?_⟩
    exact fin none r4 _ _ ((s1.trans s2).trans (Same.new hr4 _)) qA (.inl rfl) (.must1 hi h1)
   ·lk
    refine ⟨by show 1≤sizeLine;decide,fun r4 hr4=>?_⟩
    exact fin (some [v]) r4 _ _ ((s1.trans s2).trans (Same.new hr4 _)) qA rfl (.must hi h1 hv)
  ·exact .inr ⟨p,_,ns,rfl,hk,fun z=>hi (by omega),bad 3 _ s1 (.mustN hi)⟩
 | bars m g =>
  obtain ⟨rfl,rfl⟩:x=(m:Int)∧y=(g:Int):=ha
  have hf':m≤1000∧g < 2 ^ 150:=hf
  lk
  by_cases hm:1≤m
  ·refine .inl ⟨r,ns,m,g,rfl,hR,by omega,hm,hf'.2,fun hN=>?_,fun t st ys x H3 hx hmn s3 ht0 hst0 ht hst hP=>?_⟩
   ·lk
    exact non _ (Same.refl _) (.barsN (.inr ⟨hm,hN⟩))
   ·lk
    refine .inl ⟨r,ns,m,g,rfl,s3 _ _ hR,by omega,hm,by omega,fun l xs H1 s1 hl0 hl1 hP'=>?_⟩
    obtain ⟨a,ea,_,hA⟩:=hP'.2 m (by omega)
    lk
    refine ⟨l,_,_,_,rfl,rfl,SqL.of hl1,qq ea,?_⟩
    lk
    refine ⟨r,_,rfl,.inl (SqL.of (s1 _ _ (s3 _ _ hR))),?_⟩
    rw [hln]
    refine ⟨a,_,_,_,rfl,rfl,SqL.of hA,atO (by omega),?_⟩
    have e:pv2 ns g m ns.length=some x.1:=by
     unfold pv2
     rw [List.take_length,hx]
     rfl
    rw [e]
    refine ⟨by show 1≤sizeLine;decide,fun r4 hr4=>?_⟩
    exact fin (some [x.1]) r4 _ _ ((s3.trans s1).trans (Same.new hr4 _)) qA rfl (.bars hm hx)
  ·obtain rfl:m=0:=by omega
   exact .inr ⟨r,_,_,rfl,.inl (by decide),bad 2 _ (Same.refl _) (.barsN (.inl rfl))⟩
 | apart m g =>
  obtain ⟨rfl,rfl⟩:x=(m:Int)∧y=(g:Int):=ha
  have hf':m≤1000∧g < 2 ^ 150:=hf
  lk
  by_cases hm:1≤m
  ·refine .inl ⟨r,ns,m,g,rfl,hR,by omega,hm,hf'.2,fun hN=>?_,fun t st ys x H3 hx hmn s3 ht0 hst0 ht hst hP=>?_⟩
   ·lk
    refine ⟨by show 1≤sizeLine;decide,fun r4 hr4=>?_⟩
    exact fin none r4 _ _ (Same.new hr4 _) qA (.inr rfl) (.apartO hm hN)
   ·lk
    have hw:=fb_wf hx
    have hps:(x.2.map prI).length=x.2.length:=List.length_map _
    have hm2:=q6e hm hx
    have hyl:=hP.1
    refine ⟨t,_,0,_,rfl,rfl,SqT.of ht,rfl,?_⟩
    refine ⟨by show 1≤sizeLine;decide,fun l hl=>?_⟩
    have s4:=Same.new hl (.lst [.int x.1])
    lk
    refine ⟨t,_,1,_,rfl,rfl,SqT.of (s4 _ _ ht),rfl,?_⟩
    refine ⟨st,rfl,⟨_,SqL.of (s4 _ _ hst)⟩,?_⟩
    refine q2Q (xs:=ys) (fun i σ H'=>∃ q o6 o7,Same H3 H'∧H' q=some (.lst ((x.1::q2u ((x.2.map prI).take i)).map V.int))∧σ=[some (.ref r),some (.str (Ask.apart m g).word),some (.int (m:Int)),some (.int (g:Int)),some (.ref t),some (.ref q),o6,o7]) ⟨_,_,_,s4,by rw [qA];rfl,rfl⟩ ?_ ?_ ?_
    ·rintro i σ H' _ ⟨q,o6,o7,sm,_⟩
     exact SqL.of (sm _ _ hst)
    ·rintro i v σ H2 hv ⟨q,o6,o7,s2,hl2,rfl⟩
     obtain ⟨a,p,hp,rfl,ha⟩:=hP.2 i v hv
     have hi:i < (x.2.map prI).length:=(List.getElem?_eq_some_iff.mp hp).1
     have ep:(x.2.map prI)[i]=p:=(List.getElem?_eq_some_iff.mp hp).2
     have ha2:=s2 _ _ ha
     have hfl:=q2t ((x.2.map prI).take i)
     rw [List.length_take] at hfl
     lk
     refine ⟨a,_,rfl,SqT.of ha2,rfl,_,_,rfl,?_⟩
     refine ⟨_,_,rfl,?_⟩
     refine ⟨rfl,?_⟩
     lk
     refine ⟨by show 2≤sizeLine;decide,fun l5 hl5=>?_⟩
     have s5:=Same.new hl5 (.lst [.int p.1,.int p.2])
     lk
     refine ⟨q,l5,_,_,rfl,rfl,s5 _ _ hl2,qA,?_,fun l6 hl6=>?_⟩
     ·rw [List.length_map,List.length_cons,hfl]
      exact Nat.le_of_lt (small (by show _+2≤_;omega))
     have s6:=Same.new hl6 (.lst ((x.1::q2u ((x.2.map prI).take i)).map V.int++[.int p.1,.int p.2]))
     refine ⟨_,_,_,s2.trans (s5.trans s6),?_,rfl⟩
     rw [qA,q4f hi,ep,← List.cons_append,List.map_append]
     rfl
    ·rintro σ H2 ⟨q,o6,o7,s2,hl2,rfl⟩
     lk
     rw [hyl,List.take_length] at hl2
     exact fin (some (x.1::q2u (x.2.map prI))) q _ H2 (s3.trans s2) hl2 rfl (.apart hm hx)
  ·obtain rfl:m=0:=by omega
   exact .inr ⟨r,_,_,rfl,.inl (by decide),bad 2 _ (Same.refl _) .apartN⟩
noncomputable def q33:Sp:=fun vs H Q _=>∃ (r:Addr) (ns:List Int) (a:Ask) (x y:Int),vs=[.ref r,.str a.word,.int x,.int y]∧H r=some (.lst (ns.map V.int))∧RowOk ns∧a.at x y∧a.few ∧
 ∀ (v:V) (o:Rep) (H':Hp),Same H H'→DueV H' v o→(∀ st:Dst,st.row=some ns→Says st (.ask a) o st)→Q v H'
theorem clsD_of {c1 c2 c3 c4 c7 c8:Addr} {ns:List Int} {a:Ask} {i:Nat} (h:Tells ns a (.ref i)):clsOf c1 c2 c3 c4 i=clsD c1 c2 c3 c4 c7 c8 i:=by cases h <;> rfl
noncomputable def q4R (v:V):V:=if v = .non then .str (Str.ofString "none") else v
theorem show_word {ns:List Int} {a:Ask} {o:Option (List Int)} {xs:List V} (hO:RowOk ns) (hf:a.few) (hT:Tells ns a (.ans o)) (hS:ShowA xs o) :
  ∃ zs:List Str,xs.length≤1000∧xs.length=zs.length∧(∀ (i:Nat) (v:V) (z:Str),(xs.map q4R)[i]?=some v→zs[i]?=some z→ShowV v z)∧JoinOk " " zs=true∧q6s o=Txt.join (Str.ofString " ") zs:=by
 cases o with
 | none =>
  refine ⟨[Str.ofString "none"],?_⟩
  have e:xs.length=1∧xs.map q4R=[.str (Str.ofString "none")]:=by
   rcases hS with rfl | rfl
   ·exact ⟨rfl,rfl⟩
   ·exact ⟨rfl,by decide⟩
  rw [e.1,e.2]
  refine ⟨by decide,rfl,fun i v z h1 h2=>?_,by decide,(qw _).symm⟩
  cases i with
  | zero=>cases h1;cases h2;rfl
  | succ j=>simp at h1
 | some ys =>
  obtain rfl:xs=ys.map V.int:=hS
  obtain ⟨hl,hb⟩:=q6l ns a ys hO hf hT
  refine ⟨ys.map txt,by rw [List.length_map];exact hl,by rw [List.length_map,List.length_map],fun i v z h1 h2=>?_,q1T (by omega) hb,rfl⟩
  rw [List.map_map,List.getElem?_map] at h1
  rw [List.getElem?_map] at h2
  cases hy:ys[i]? with
  | none=>rw [hy] at h1;cases h1
  | some n =>
   rw [hy] at h1 h2
   cases h1
   cases h2
   exact ⟨Nat.lt_trans (q6h (hb n (List.mem_of_getElem? hy))) (by decide),rfl⟩
theorem q7U {k:Nat} {f T c1 c2 c3 c4 c5 c6 c7 c8:Addr} {fd:FuncData} (F:Fun K "_law_answer" "_law_answer" q11 f fd) (Z:Blt mg) (Y:Errs mg T c1 c2 c3 c4 c5 c6 c7 c8) (W:Ws K T c1 c2 c3 c4 c5 c6 c7 c8)
  (D_law_due:Def P w K mg base k "_law_due" ["at"] q4U) (D_law_flags:Def P w K mg base k "_law_flags" ["e"] (q3Q K T c1 c2 c3 c4 c5 c6 c7 c8)) (D_law_shown:Def P w K mg base k "_law_shown" ["numbers"] q2g)
  (DE_law_asked:DefE P w K mg base k "_law_asked" ["row","word","one","other"] (q3h c1 c2 c3 c4)):FnOk P w K mg base CX0 (k+1) f fd ["row","word","one","other"] q33:=by
 refine F.ok sc_law_answer (fun vs H Q E h=>?_) (fun cdv A outer s H vs Q E hr h=>?_)
 ·obtain ⟨r,ns,a,x,y,rfl,_⟩:=h
  rfl
 obtain ⟨r,ns,a,x,y,rfl,hR,hO,ha,hf,fin⟩:=h
 have l1:=hO.l1
 have l2:=hO.l2
 have hln:(ns.map V.int).length=ns.length:=List.length_map _
 apply Exists.intro
 apply And.intro
 case left =>
  apply qB
  case h1 =>
   apply qZ
   case hc=>exact (PW.pt (q4Y (qO q0C (pv 1) qR (qT _)) (q36 (q0I (pt_chain3 q40 q1q q40 qE (pv 2) (pv 3) (qV (qS (K:=K) rfl) rfl Z.len_ PySem.boot_len (q0 (pv 0) qC)))))))
   case ha =>
    apply qD
    exact (qL (qM D_law_due hr rfl (q0 qE qC)))
   case hb =>
    exact qP
  apply qB
  case h1 =>
   exact (qQ (i:=4) sc_law_answer.nd rfl (by walk_at "lr") qj)
  apply qB
  case h1 =>
   exact (qQ (i:=5) sc_law_answer.nd rfl (by walk_at "lr") qj)
  apply qB
  case h1 =>
   refine' ps_tryK (i:=6) sc_law_answer.nd rfl rfl rfl rfl rfl Y.top ?hb ?hh
   case hb=>exact fun pins xe E hp=>(qD (qQ (i:=4) sc_law_answer.nd rfl (by walk_at "lr") (qe DE_law_asked hr rfl hp (q0 (qd (qm (K:=K) rfl) rfl Z.list_ PyProof.Rows.boot_list (q0 (pv 0) qC)) (q0 (pv 1) (q0 (pv 2) (q0 (pv 3) qC)))))))
   case hh =>
    intro a o pins C hC
    apply qD
    exact (qQ (i:=5) sc_law_answer.nd rfl (by walk_at "lr") (pv 6))
  apply qB
  case h1 =>
   apply qZ
   case hc=>exact (qO q3z (pv 5) qj (qT _))
   case ha =>
    apply qD
    exact (qL (qM D_law_flags hr rfl (q0 (pv 5) qC)))
   case hb =>
    exact qP
  apply qB
  case h1 =>
   apply qZ
   case hc=>exact (qO q1B (pv 4) qj (qT _))
   case ha =>
    apply qD
    exact (qL (qM D_law_due hr rfl (q0 qE qC)))
   case hb =>
    exact qP
  apply qD
  exact (qL (qM D_law_shown hr rfl (q0 (q3x (N':=["part"]) (ix:=[none]) rfl rfl (by decide +kernel) rfl rfl rfl rfl (q09 (K:=K) rfl (pv 4)) (fun _ _ _ _=>(qi (i:=0) (show List.Nodup (["part"]:List Str) by decide +kernel) rfl (by walk_at "lr"))) (fun _ _ _ _=>q0b) (fun _ _ _ _=>(qJ q5F (qc (q0 qR (q0 (pv 0) qC))) (qd q4D rfl Z.int_ PyProof.Rows.boot_int (q0 (q2Y q3z (pv 0) qj (qT _)) qC)) (fun _ _=>rfl)))) qC)))
 refine seqU (fun σ' H'=>a.good ns∧H=H'∧σ'=[some (.ref r),some (.str a.word),some (.int x),some (.int y),none,none,none]) ?_ (fun R hR'=>?_)
 case refine_2 =>
  cases a with
  | part f b =>
   obtain ⟨rfl,rfl⟩:x=(f:Int)∧y=(b:Int):=ha
   lk
   by_cases h1:(f:Int) < (b:Int)
   ·rw [decide_eq_true h1]
    refine iteT ?_
    lk
    refine ⟨r,_,rfl,.inl (SqL.of hR),?_⟩
    rw [hln]
    lk
    by_cases h2:(b:Int)≤(ns.length:Int)
    ·rw [decide_eq_true h2]
     exact iteF (hR' _ _ ⟨⟨by omega,by omega⟩,rfl,rfl⟩)
    ·rw [decide_eq_false h2]
     refine iteT ?_
     lk
     intro l H3 s3 hl0 hl1
     exact fin (.ref l) (.ref 0) H3 s3 ⟨l,rfl,hl1⟩ (fun st hst=>.askN hst (.partN fun z=>h2 (by omega)))
   ·rw [decide_eq_false h1]
    refine iteF ⟨_,rfl,?_⟩
    refine iteT ?_
    lk
    intro l H3 s3 hl0 hl1
    exact fin (.ref l) (.ref 0) H3 s3 ⟨l,rfl,hl1⟩ (fun st hst=>.askN hst (.partN fun z=>h1 (by omega)))
  | _ =>
   lk
   exact hR' _ _ ⟨trivial,rfl,rfl⟩
 rintro σ' H' ⟨hgd,rfl,rfl⟩
 lk
 refine ⟨r,_,rfl,.inl (SqL.of hR),fun r1 hr1=>?_⟩
 have s1:=Same.new hr1 (.lst (ns.map V.int))
 lk
 refine ⟨r1,ns,a,x,y,rfl,qA,hO,ha,hgd,hf,fun o l xs H2 s2 hl hS hT=>?_,fun H2 s2 hT=>?_,fun i H2 s2 hT=>?_⟩
 ·lk
  obtain ⟨zs,hz,hzl,hZ,hJ,hA⟩:=show_word hO hf hT hS
  refine ⟨⟨_,SqL.of hl⟩,?_⟩
  intro acc hacc
  refine q0d (n:=xs.length) (fun i τ ys H'=>H' acc=some (.lst ys)∧ys=(xs.take i).map q4R∧Same H2 H'∧∃ o0,τ=[o0]) ⟨qA,rfl,Same.new hacc _,none,rfl⟩ (by omega) ?_ ?_ ?_ ?_
  ·rintro i τ ys H' ⟨e,rfl,_⟩
   exact ⟨e,by rw [List.length_map,List.length_take];omega⟩
  ·rintro i τ ys H' hi ⟨e,_,sm,_⟩
   exact ⟨_,xs[i],SqL.of (sm _ _ hl),List.getElem?_eq_getElem hi⟩
  ·rintro τ ys H' ⟨e,rfl,sm,_⟩
   refine ⟨⟨_,SqL.of (sm _ _ hl),Nat.le_refl _⟩,?_⟩
   rw [List.take_length] at e
   refine ⟨acc,xs.map q4R,zs,rfl,e,by rw [List.length_map];exact hz,by rw [List.length_map];exact hzl,hZ,hJ,fun H3 s3=>?_⟩
   exact fin _ (.ans (q6s o)) H3 (s1.trans (s2.trans (sm.trans s3))) (by rw [hA];rfl) (fun st hst=>.ask hst hT)
  ·rintro i τ ys H' v H3 hi ⟨e,rfl,sm,o0,rfl⟩ ⟨rfl,y⟩
   have ey:=y _ (SqL.of (sm _ _ hl))
   lk
   refine ⟨by show 2≤sizeLine;decide,fun l5 hl5=>?_⟩
   have s5:=Same.new hl5 (.lst [.str (Str.ofString "none"),v])
   lk
   refine .inr ⟨_,rfl,?_⟩
   have hav:acc≠l5:=qI e hl5
   refine ⟨l5,[.str (Str.ofString "none"),v],_,q4R v,rfl,rfl,SqL.of qA,?_,?_⟩
   ·unfold q4R
    by_cases hv:v = .non
    ·rw [if_pos hv,hv]
     rfl
    ·rw [if_neg hv,decide_eq_false hv]
     rfl
   refine ⟨s5 _ _ e,Nx.mk hi ⟨qA,?_,?_,_,rfl⟩⟩
   ·obtain ⟨_,rfl⟩:=List.getElem?_eq_some_iff.mp ey
    rw [List.take_succ_eq_append_getElem hi,List.map_append]
    rfl
   ·exact (sm.trans s5).upd hacc
 ·lk
  intro l H3 s3 hl0 hl1
  exact fin (.ref l) (.ref 2) H3 (s1.trans (s2.trans s3)) ⟨l,rfl,hl1⟩ (fun st hst=>.askN hst hT)
 ·rw [clsD_of (c7:=c7) (c8:=c8) hT]
  obtain ⟨b1,b2,b3,b4,b5,b6,b7,b8,hW,hb⟩:=W.at hT.few
  refine ⟨hW.exm,fun e σ' he hlen=>?_⟩
  match σ',hlen with
  | [u0,u1,u2,u3,u4,u5,u6],_ =>
   lk
   have s3:=Same.new he (exV e (.ref (clsD c1 c2 c3 c4 c7 c8 i)))
   refine ⟨e,_,b1,b2,b3,b4,b5,b6,b7,b8,rfl,qA,hW,fun l H4 s4 hl hl4=>?_⟩
   rw [hb] at hl4
   exact fin (.ref l) (.ref i) H4 ((s1.trans s2).trans (s3.trans s4)) ⟨l,rfl,hl4⟩ (fun st hst=>.askN hst hT)
noncomputable def StOk (st:Dst):Prop:=(∀ r,st.row=some r→RowOk r)∧(∀ r,r∈st.earlier→RowOk r)∧(∀ r,r∈st.undone→RowOk r)
noncomputable def q6H:Sp:=fun vs H Q _=>∃ (m a b l:Addr) (st:Dst) (ms:List Int),vs=[.ref m,.ref l]∧H l=some (.lst (ms.map V.int))∧ms.length=13∧MineAt H m a b st∧StOk st∧st.earlier.length+st.undone.length≤900 ∧
 ∀ (t a' b':Addr) (v:V) (r:Rep) (st':Dst) (c:Cmd) (H':Hp),FrM m a b H H'→(a'=a∨H a'=none)→(b'=b∨H b'=none)→c.ok→H' t=some (.tup [.str c.text,v])→DueV H' v r→Says st c r st'→MineAt H' m a' b' st'→Q (.ref t) H'
noncomputable def qx:Nat→Str
 | 0=>Str.ofString "best" | 1=>Str.ofString "ring" | 2=>Str.ofString "row" | 3=>Str.ofString "part" | 4=>Str.ofString "length" | 5=>Str.ofString "apart" | 6=>Str.ofString "bars" | _=>Str.ofString "must"
theorem ifB {c:Bool} {A B:Prop} (h1:A) (h2:B):if c=true then A else B:=by
 cases c
 ·exact iteF h2
 ·exact iteT h1
theorem in_words:∀ j:Nat,j < 8→(if false=true then !inV (V.str (qx j)) [.str (Str.ofString "part"),.str (Str.ofString "length"),.str (Str.ofString "apart"),.str (Str.ofString "bars")] else inV (V.str (qx j)) [.str (Str.ofString "part"),.str (Str.ofString "length"),.str (Str.ofString "apart"),.str (Str.ofString "bars")])=decide (3≤j∧j≤6):=by decide
theorem word_len (j:Nat):(qx j).length≤6:=by
 unfold qx
 split <;> decide
theorem q71 (x y:Str):Txt.join (Str.ofString " ") [x,y]=x++Str.ofString " "++y:=by
 rw [show [x,y]=x::[]++[y] from rfl,q24,qw]
theorem q2P (x y z:Str):Txt.join (Str.ofString " ") [x,y,z]=x++Str.ofString " "++y++Str.ofString " "++z:=by
 rw [show [x,y,z]=x::[y]++[z] from rfl,q24,q71]
theorem q2c {f g n:Nat} (hf:f≤1000) (hg:g < 10 ^ 6) (h:n∈[f,g]):n < 10 ^ 6:=by
 rcases List.mem_cons.mp h with rfl | h
 ·exact Nat.lt_of_le_of_lt hf (by decide)
 ·rw [List.mem_singleton.mp h]
  exact hg
theorem row_text (ns:List Int) (h:1≤ns.length):(Cmd.row ns).text=Str.ofString "row "++Txt.join (Str.ofString " ") (ns.map txt):=by
 cases ns with
 | nil=>cases h
 | cons x r =>
  show Txt.join (Str.ofString " ") (Str.ofString "row"::txt x::r.map txt)=_++Txt.join (Str.ofString " ") (txt x::r.map txt)
  rw [q25]
  rfl
theorem ok_deed {k:Nat} {f:Addr} {fd:FuncData} (F:Fun K "_law_deed" "_law_deed" q2I f fd) (Z:Blt mg)
  (D_law_number:Def P w K mg base k "_law_number" ["numbers","k"] q4x) (D_law_shown:Def P w K mg base k "_law_shown" ["numbers"] q2g) (D_law_put:Def P w K mg base k "_law_put" ["mine","numbers"] q6F)
  (D_law_turned:Def P w K mg base k "_law_turned" ["mine","word"] q3f) (D_law_answer:Def P w K mg base k "_law_answer" ["row","word","one","other"] q33):FnOk P w K mg base CX0 (k+1) f fd ["mine","numbers"] q6H:=by
 refine F.ok sc_law_deed (fun vs H Q E h=>?_) (fun cdv A outer s H vs Q E hr h=>?_)
 ·obtain ⟨m,a,b,l,st,ms,rfl,_⟩:=h
  rfl
 obtain ⟨m,a,b,l,st,ms,rfl,hl,h13,hM,hO,hfew,fin⟩:=h
 have at_:∀ j:Nat,j < 13→∃ x,atI (ms.map V.int) (j:Int)=some (.int x):=fun j hj=>⟨ms[j],qq (by rw [List.getElem?_map,List.getElem?_eq_getElem (by omega)];rfl)⟩
 obtain ⟨x0,e0⟩:=at_ 0 (by decide)
 obtain ⟨x1,e1⟩:=at_ 1 (by decide)
 obtain ⟨x2,e2⟩:=at_ 2 (by decide)
 obtain ⟨x3,e3⟩:=at_ 3 (by decide)
 obtain ⟨x7,e7⟩:=at_ 7 (by decide)
 obtain ⟨x11,e11⟩:=at_ 11 (by decide)
 obtain ⟨x12,e12⟩:=at_ 12 (by decide)
 apply Exists.intro
 apply And.intro
 case left =>
  apply qB
  case h1 =>
   exact (qQ (i:=2) sc_law_deed.nd rfl (by walk_at "lr") (qU qr (qJ (qK (K:=K) rfl) (pv 1) qE (fun _ _=>rfl)) qE))
  apply qB
  case h1 =>
   apply qZ
   case hc=>exact (PW.pt (q35 (qO q0C (pv 2) qE (qT _)) (q21 (qO (op_eqDK (K:=K) hr rfl) (q04 (q0l hr) (pv 0) qR (fun _ _=>rfl)) (qc qC) (qT _)))))
   case ha =>
    apply qB
    case h1 =>
     exact (qQ (i:=3) sc_law_deed.nd rfl (by walk_at "lr") (qJ (qK (K:=K) rfl) (qc (q0 (qU qf qE (qU qr (qJ (qK (K:=K) rfl) (pv 1) qE (fun _ _=>rfl)) qE)) (q0 (qU qf qE (qU qr (qJ (qK (K:=K) rfl) (pv 1) qE (fun _ _=>rfl)) qE)) qC))) (qd q4D rfl Z.int_ PyProof.Rows.boot_int (q0 (q2Y q0C (qU qr (qJ (qK (K:=K) rfl) (pv 1) qE (fun _ _=>rfl)) qE) qE (qT _)) qC)) (fun _ _=>rfl)))
    apply qB
    case h1 =>
     first | exact (ps_lc (i:=4) sc_law_deed.nd rfl (by walk_at "lr") (N':=["k","numbers"]) (ix:=[none,some 1]) rfl rfl (by decide +kernel) rfl rfl rfl rfl (q22 rfl Z.range_ (q0 (pv 3) qC)) (fun _ _ _ _=>(qi (i:=0) (show List.Nodup (["k","numbers"]:List Str) by decide +kernel) rfl (by walk_at "lr"))) (fun _ _ _ _=>q0b) (fun _ _ _ _=>(qU qf (qM D_law_number hr rfl (q0 (pv 1) (q0 (qU qf qE (qU qr (pv 0) qE)) qC))) (qU q2Z (pv 0) qE)))) | exact (qQ (i:=4) sc_law_deed.nd rfl (by walk_at "lr") (q3x (N':=["k","numbers"]) (ix:=[none,some 1]) rfl rfl (by decide +kernel) rfl rfl rfl rfl (q22 rfl Z.range_ (q0 (pv 3) qC)) (fun _ _ _ _=>(qi (i:=0) (show List.Nodup (["k","numbers"]:List Str) by decide +kernel) rfl (by walk_at "lr"))) (fun _ _ _ _=>q0b) (fun _ _ _ _=>(qU qf (qM D_law_number hr rfl (q0 (pv 1) (q0 (qU qf qE (qU qr (pv 0) qE)) qC))) (qU q2Z (pv 0) qE)))))
    apply qB
    case h1 =>
     exact (q37 (q0l hr) (pv 0) qR (qc (q0 (pv 4) qC)) rfl)
    apply qB
    case h1 =>
     exact (q37 (q0l hr) (pv 0) qR (qc qC) rfl)
    apply qD
    exact (qL (qp (q0 (qU qy qR (qM D_law_shown hr rfl (q0 (pv 4) qC))) (q0 (qd qu rfl Z.str_ PyProof.Rows.boot_str (q0 (qV (qS (K:=K) rfl) rfl Z.len_ PySem.boot_len (q0 (pv 4) qC)) qC)) qC))))
   case hb =>
    exact qP
  apply qB
  case h1 =>
   apply qZ
   case hc=>exact (qO q1q (pv 2) qE (qT _))
   case ha =>
    apply qD
    exact (qL (qM D_law_put hr rfl (q0 (pv 0) (q0 (pv 1) qC))))
   case hb =>
    exact qP
  apply qB
  case h1 =>
   apply qZ
   case hc=>exact (qO q1q (pv 2) qE (qT _))
   case ha =>
    apply qD
    exact (qL (qM D_law_turned hr rfl (q0 (pv 0) (q0 (qJ (qK (K:=K) rfl) (qc (q0 qR (q0 qR qC))) (qU q0J (pv 2) qE) (fun _ _=>rfl)) qC))))
   case hb =>
    exact qP
  apply qB
  case h1 =>
   exact (qQ (i:=5) sc_law_deed.nd rfl (by walk_at "lr") (qJ (qK (K:=K) rfl) (qc (q0 qR (q0 qR (q0 qR (q0 qR (q0 qR (q0 qR (q0 qR (q0 qR qC))))))))) (qU qr (qJ (qK (K:=K) rfl) (pv 1) qE (fun _ _=>rfl)) qE) (fun _ _=>rfl)))
  apply qB
  case h1 =>
   exact (qQ (i:=6) sc_law_deed.nd rfl (by walk_at "lr") (qU qr (qJ (qK (K:=K) rfl) (pv 1) qE (fun _ _=>rfl)) (qJ (qK (K:=K) rfl) (qc (q0 qE (q0 qE qC))) (qU qr (qJ (qK (K:=K) rfl) (pv 1) qE (fun _ _=>rfl)) qE) (fun _ _=>rfl))))
  apply qB
  case h1 =>
   exact (qQ (i:=7) sc_law_deed.nd rfl (by walk_at "lr") (qU qr (qJ (qK (K:=K) rfl) (pv 1) qE (fun _ _=>rfl)) (qJ (qK (K:=K) rfl) (qc (q0 qE (q0 qE qC))) (qU qr (qJ (qK (K:=K) rfl) (pv 1) qE (fun _ _=>rfl)) qE) (fun _ _=>rfl))))
  apply qB
  case h1 =>
   exact (qQ (i:=4) sc_law_deed.nd rfl (by walk_at "lr") (qJ (qK (K:=K) rfl) (q04 (q0l hr) (pv 0) qR (fun _ _=>rfl)) (q3K q1l qE) (fun _ _=>rfl)))
  apply qB
  case h1 =>
   apply qZ
   case hc=>exact (PW.pt (q4Y (qO q41 (pv 5) (qc (q0 qR (q0 qR qC))) rfl) (q36 (qO q0C (qU qr (qJ (qK (K:=K) rfl) (pv 1) qE (fun _ _=>rfl)) qE) qE (qT _)))))
   case ha =>
    apply qD
    exact (ps_par (i:=6) (j:=7) rfl sc_law_deed.nd rfl rfl (by decide) rfl rfl (q0 (qU qr (qJ (qK (K:=K) rfl) (pv 1) qE (fun _ _=>rfl)) qE) (q0 qE qC)) rfl)
   case hb =>
    apply qD
    apply qZ
    case hc=>exact (qO q41 (pv 5) (qc (q0 qR (q0 qR qC))) rfl)
    case ha =>
     apply qD
     exact (ps_par (i:=6) (j:=7) rfl sc_law_deed.nd rfl rfl (by decide) rfl rfl (q0 (qU qr (qJ (qK (K:=K) rfl) (pv 1) qE (fun _ _=>rfl)) (qJ (qK (K:=K) rfl) (qc (q0 qE (q0 qE qC))) (qU qr (qJ (qK (K:=K) rfl) (pv 1) qE (fun _ _=>rfl)) qE) (fun _ _=>rfl))) (q0 (qU qr (qJ (qK (K:=K) rfl) (pv 1) qE (fun _ _=>rfl)) qE) qC)) rfl)
    case hb =>
     exact qP
  apply qB
  case h1 =>
   exact (qQ (i:=8) sc_law_deed.nd rfl (by walk_at "lr") (pv 5))
  apply qB
  case h1 =>
   apply qZ
   case hc=>exact (qO q41 (pv 5) (qc (q0 qR (q0 qR (q0 qR (q0 qR qC))))) rfl)
   case ha =>
    apply qD
    exact (qQ (i:=8) sc_law_deed.nd rfl (by walk_at "lr") (qU qy (qU qy (qU qy (qU qy (pv 5) qR) (qd qu rfl Z.str_ PyProof.Rows.boot_str (q0 (pv 6) qC))) qR) (qd qu rfl Z.str_ PyProof.Rows.boot_str (q0 (pv 7) qC))))
   case hb =>
    exact qP
  apply qB
  case h1 =>
   apply qZ
   case hc=>exact (qO q0C (pv 5) qR (qT _))
   case ha =>
    apply qB
    case h1 =>
     exact (qQ (i:=8) sc_law_deed.nd rfl (by walk_at "lr") (qU qy (qU qy (pv 5) qR) (qd qu rfl Z.str_ PyProof.Rows.boot_str (q0 (pv 7) qC))))
    apply qD
    exact (qQ (i:=6) sc_law_deed.nd rfl (by walk_at "lr") (pv 7))
   case hb =>
    exact qP
  apply qD
  exact (qL (qp (q0 (pv 8) (q0 (qM D_law_answer hr rfl (q0 (pv 4) (q0 (pv 5) (q0 (pv 6) (q0 (pv 7) qC))))) qC))))
 obtain ⟨kd,hkd⟩:∃ z,z=x0%10:=⟨_,rfl⟩
 obtain ⟨xs,ys,h1,h2,h3,h4,h5⟩:=hM.ex
 have hma:m≠a:=fun z=>by rw [← z,hM.dic] at h1;cases h1
 refine seqU (fun σ' H'=>H=H'∧σ'=[some (.ref m),some (.ref l),some (.int kd),none,none,none,none,none,none]) ?_ (fun R hR=>?_)
 case refine_2 =>
  lk
  refine ⟨l,_,0,_,rfl,rfl,SqL.of hl,e0,?_⟩
  lk
  exact hR _ _ ⟨rfl,by rw [hkd];rfl⟩
 rintro σ' H' ⟨rfl,rfl⟩
 refine seqU (fun σ' H'=>Same H H'∧kd≠0∧(∃ ns,st.row=some ns)∧σ'=[some (.ref m),some (.ref l),some (.int kd),none,none,none,none,none,none]) ?_ (fun R hR=>?_)
 case refine_2 =>
  refine ifU (fun c H'=>Same H H'∧(c=false→kd≠0∧∃ ns,st.row=some ns)) ?_ (fun T hT=>?_)
  case refine_2 =>
   lk
   refine ifD (fun z=>hT _ _ ⟨Same.refl _,fun z=>by cases z⟩) (fun z=>?_)
   lk
   refine ⟨m,_,rfl,q2w hM.dic,?_⟩
   lk
   refine ⟨by show 0≤sizeLine;decide,fun l0 hl0=>?_⟩
   have s0:=Same.new hl0 (.lst [])
   lk
   refine ⟨0,_,EqD.none (SqL.of (s0 _ _ h1)) (SqL.of qA),by decide,?_⟩
   refine ⟨_,rfl,hT _ _ ⟨s0,fun hx=>⟨fun y=>z (by rw [y]),?_⟩⟩⟩
   cases hrow:st.row with
   | some ns=>exact ⟨ns,rfl⟩
   | none =>
    have hn:st.stand=[]:=by unfold Dst.stand;rw [hrow]
    rw [hn] at h2
    rw [List.eq_nil_of_length_eq_zero h2.len] at hx
    cases hx
  rintro c H1 ⟨s1,hc⟩
  cases c with
  | false=>exact iteF (hR _ _ ⟨s1,(hc rfl).1,(hc rfl).2,rfl⟩)
  | true =>
   refine iteT ?_
   refine seqU (fun σ' H'=>∃ dd:Int,1≤dd∧dd≤40∧Same H H'∧σ'=[some (.ref m),some (.ref l),some (.int kd),some (.int dd),none,none,none,none,none]) ?_ (fun U hU=>?_)
   case refine_2 =>
    lk
    refine ⟨l,_,1,_,rfl,rfl,SqL.of (s1 _ _ hl),e1,?_⟩
    lk
    refine ⟨l,_,1,_,rfl,rfl,SqL.of (s1 _ _ hl),e1,?_⟩
    lk
    refine ⟨by show 2≤sizeLine;decide,fun p1 hp1=>?_⟩
    have s2:=Same.new hp1 (.lst ([1+x1%10,1+x1%40].map V.int))
    lk
    refine ⟨l,_,12,_,rfl,rfl,SqL.of (s2 _ _ (s1 _ _ hl)),e12,?_⟩
    lk
    refine .inr ⟨_,rfl,?_⟩
    generalize hd0:(if decide ((fun i j=>V.int (i%j)) x12 5=V.int 2)=true then (1:Int) else 0)=d
    have hd:d=0∨d=1:=by
     rw [← hd0]
     split <;> simp
    obtain ⟨dd,hdd,ed⟩:=pick (ns:=[1+x1%10,1+x1%40]) (k:=d) (by omega) (by show d < 2;omega)
    have hdd':1≤dd∧dd≤40:=by
     simp only [List.mem_cons,List.not_mem_nil,or_false] at hdd
     omega
    refine ⟨p1,_,_,_,rfl,rfl,SqL.of qA,ed,?_⟩
    exact hU _ _ ⟨dd,hdd'.1,hdd'.2,s1.trans s2,rfl⟩
   rintro σ' H2 ⟨dd,d1,d2,s2,rfl⟩
   refine seqU (fun σ' H'=>∃ (q:Addr) (ns:List Int),RowOk ns∧Same H H'∧H q=none∧H' q=some (.lst (ns.map V.int))∧σ'=[some (.ref m),some (.ref l),some (.int kd),some (.int dd),some (.ref q),none,none,none,none]) ?_ (fun U hU=>?_)
   case refine_2 =>
    lk
    refine ⟨by omega,by omega,?_⟩
    obtain ⟨n,en⟩:∃ n:Nat,dd.toNat=n:=⟨_,rfl⟩
    rw [en]
    intro acc hacc
    refine q0d (n:=n) (fun i τ zs H'=>H' acc=some (.lst zs)∧(∃ row:List Int,zs=row.map V.int∧row.length=i∧∀ x,x∈row→x.natAbs < 10 ^ 30)∧Same H2 H'∧∃ o0,τ=[o0,some (.ref l)]) ⟨qA,⟨[],rfl,rfl,fun x hx=>by cases hx⟩,Same.new hacc _,none,rfl⟩ (by omega) ?_ ?_ ?_ ?_
    ·rintro i τ zs H' ⟨e,⟨row,rfl,hrl,_⟩,_⟩
     exact ⟨e,by rw [List.length_map,hrl];exact Nat.le_refl _⟩
    ·rintro i τ zs H' hi _
     exact hi
    ·rintro τ zs H' ⟨e,⟨row,rfl,hrl,hrb⟩,sm,_⟩
     refine ⟨Nat.le_refl _,?_⟩
     exact hU _ _ ⟨acc,row,⟨by omega,by omega,hrb⟩,s2.trans sm,s2.free hacc,e,rfl⟩
    ·rintro i τ zs H' v H3 hi ⟨e,⟨row,rfl,hrl,hrb⟩,sm,o0,rfl⟩ ⟨rfl,rfl⟩
     lk
     refine ⟨l,ms,2+i%10,?_,sm _ _ (s2 _ _ hl),by omega,fun v H4 s4 hv=>?_⟩
     ·show [V.ref l,V.int (2+(0+(i:Int))%10)]=[V.ref l,V.int ((2+i%10:Nat):Int)]
      rw [show 2+(0+(i:Int))%10=((2+i%10:Nat):Int) by omega]
     lk
     refine ⟨s4 _ _ e,Nx.mk hi ⟨qA,⟨row++[v+(0+(i:Int))/10],?_,?_,fun x hx=>?_⟩,(sm.trans s4).upd hacc,_,rfl⟩⟩
     ·rw [List.map_append]
      rfl
     ·rw [List.length_append,hrl]
      rfl
     ·rcases List.mem_append.mp hx with hx | hx
      ·exact hrb x hx
      ·rw [List.mem_singleton.mp hx]
       omega
   rintro σ' H3 ⟨q,ns,hN,s3,hq0,hq,rfl⟩
   have n1:=hN.l1
   have n2:=hN.l2
   have hln:(ns.map V.int).length=ns.length:=List.length_map _
   lk
   refine ⟨by show 1≤sizeLine;decide,fun a' ha'=>?_⟩
   have s4:=Same.new ha' (.lst [.ref q])
   have hM3:=hM.same s3
   lk
   refine ⟨m,_,rfl,DPut.k (k:=.inr "stand") (s4 _ _ hM3.dic) (by show 2 < sizeLine;decide),?_⟩
   obtain ⟨H4,eH4⟩:∃ z,z=upd (upd H3 a' (.lst [.ref q])) m (.dK (putK [(.inr "stand",.ref a),(.inr "gone",.ref b)] (.inr "stand") (.ref a'))):=⟨_,rfl⟩
   rw [← eH4]
   have hma':m≠a':=qI hM3.dic ha'
   have m4:H4 m=some (.dK [(.inr "stand",.ref a'),(.inr "gone",.ref b)]):=by rw [eH4,qA];rfl
   have old4:∀ x o,x≠m→H3 x=some o→H4 x=some o:=fun x o n1 z=>by
    rw [eH4,qF n1]
    exact s4 _ _ z
   have a4:H4 a'=some (.lst [.ref q]):=by rw [eH4,qF (Ne.symm hma'),qA]
   have ha0:H a'=none:=s3.free ha'
   lk
   refine ⟨by show 0≤sizeLine;decide,fun b' hb'=>?_⟩
   have s5:=Same.new hb' (.lst [])
   lk
   refine ⟨m,_,rfl,DPut.k (k:=.inr "gone") (s5 _ _ m4) (by show 2 < sizeLine;decide),?_⟩
   obtain ⟨H5,eH5⟩:∃ z,z=upd (upd H4 b' (.lst [])) m (.dK (putK [(.inr "stand",.ref a'),(.inr "gone",.ref b)] (.inr "gone") (.ref b'))):=⟨_,rfl⟩
   rw [← eH5]
   have hmb':m≠b':=qI m4 hb'
   have hab':a'≠b':=qI a4 hb'
   have m5:H5 m=some (.dK [(.inr "stand",.ref a'),(.inr "gone",.ref b')]):=by rw [eH5,qA];rfl
   have old5:∀ x o,x≠m→H4 x=some o→H5 x=some o:=fun x o n1 z=>by
    rw [eH5,qF n1]
    exact s5 _ _ z
   have old:∀ x o,x≠m→H x=some o→H5 x=some o:=fun x o n1 z=>old5 x o n1 (old4 x o n1 (s3 _ _ z))
   have hqm:q≠m:=fun z=>by rw [z,hM.dic] at hq0;cases hq0
   have hq5:H5 q=some (.lst (ns.map V.int)):=old5 q _ hqm (old4 q _ hqm hq)
   have b5:H5 b'=some (.lst []):=by rw [eH5,qF (Ne.symm hmb'),qA]
   have hb0:H b'=none:=by
    cases e:H b' with
    | none=>rfl
    | some o=>have z:=old4 b' o (Ne.symm hmb') (s3 _ _ e);rw [hb'] at z;cases z
   have hok:(Cmd.row ns).ok:=hN
   have htx:=row_text ns n1
   have hsh:=Cmd.short hok
   rw [htx,qv] at hsh
   lk
   refine ⟨q,_,ns.map txt,rfl,hq5,by omega,by rw [List.length_map,List.length_map],fun i v z g1 g2=>?_,q1T (by omega) (fun x hx=>Nat.lt_trans (hN.b x hx) (by decide)),fun H6 s6=>?_⟩
   ·rw [List.getElem?_map] at g1 g2
    cases hy:ns[i]? with
    | none=>rw [hy] at g1;cases g1
    | some n =>
     rw [hy] at g1 g2
     cases g1
     cases g2
     exact ⟨Nat.lt_trans (q2b (hN.b n (List.mem_of_getElem? hy))) (by decide),rfl⟩
   lk
   refine ⟨hsh,?_⟩
   lk
   refine ⟨q,_,rfl,.inl (SqL.of (s6 _ _ hq5)),?_⟩
   rw [hln]
   lk
   refine ⟨Nat.lt_trans (q2b (n:=(ns.length:Int)) (by omega)) (by decide),?_⟩
   lk
   refine ⟨by show 2≤sizeLine;decide,fun t ht0=>?_⟩
   have s7:=Same.new ht0 (.tup [.str (Str.ofString "row "++Txt.join (Str.ofString " ") (ns.map txt)),.str (txt (ns.length:Int))])
   have s67:=s6.trans s7
   refine fin t a' b' (.str (txt (ns.length:Int))) (.ans (txt (ns.length:Int))) ⟨some ns,[],[]⟩ (.row ns) _ (fun x o n1 _ _ z=>?_) (.inr ha0) (.inr hb0) hok ?_ rfl .row ?_
   ·exact s67 _ _ (old x o n1 z)
   ·rw [htx]
    exact qA
   ·refine MineAt.same ⟨m5,hab',[.ref q],[],old5 a' _ (Ne.symm hma') a4,?_,b5,.nil,fun x hx=>?_⟩ s67
    ·exact RowsAt.push .nil hq5
    ·rw [List.append_nil] at hx
     cases List.mem_singleton.mp hx
     exact ⟨qI hq ha',qI (old4 q _ hqm hq) hb'⟩
 rintro σ' H1 ⟨s1,hk0,⟨ns,hrow⟩,rfl⟩
 have hN:RowOk ns:=hO.1 ns hrow
 have hM1:=hM.same s1
 have hst:st.stand=st.earlier++[ns]:=by unfold Dst.stand;rw [hrow]
 rw [hst] at h2
 obtain ⟨p,zs,rfl,hp,hz⟩:=h2.last
 refine seqU (fun σ' H'=>H1=H'∧3≤kd∧σ'=[some (.ref m),some (.ref l),some (.int kd),none,none,none,none,none,none]) ?_ (fun R hR=>?_)
 case refine_2 =>
  lk
  refine ifD (fun z=>?_) (fun z=>hR _ _ ⟨rfl,by omega,rfl⟩)
  lk
  refine ⟨m,a,b,l,st,ns,ms,rfl,s1 _ _ hl,h13,hM1,hrow,hN,by omega,fun t a' b' v r st' cs H' fr ha' hb' hc ht hd hs hm=>?_⟩
  exact fin t a' b' v r st' (.put cs) H' (fun x o n1 n2 n3 z=>fr x o n1 n2 n3 (s1 _ _ z)) (ha'.imp id fun z=>s1.free z) (hb'.imp id fun z=>s1.free z) hc ht hd hs hm
 rintro σ' H' ⟨rfl,hk3,rfl⟩
 refine seqU (fun σ' H'=>H1=H'∧σ'=[some (.ref m),some (.ref l),some (.int kd),none,none,none,none,none,none]) ?_ (fun R hR=>?_)
 case refine_2 =>
  lk
  refine ifD (fun z=>?_) (fun z=>hR _ _ ⟨rfl,rfl⟩)
  lk
  refine ⟨by show 2≤sizeLine;decide,fun p1 hp1=>?_⟩
  have s2:=Same.new hp1 (.lst [.str (Str.ofString "undo"),.str (Str.ofString "again")])
  have s12:=s1.trans s2
  lk
  obtain ⟨c,hc,ec⟩:∃ c:Cmd,(c = .undo∨c = .again)∧atI [V.str (Str.ofString "undo"),V.str (Str.ofString "again")] (kd-3)=some (.str c.text):=by
   by_cases h3:kd=3
   ·exact ⟨.undo,.inl rfl,by rw [h3,show Cmd.undo.text=Str.ofString "undo" from qw _];rfl⟩
   ·have h4:kd=4:=by omega
    exact ⟨.again,.inr rfl,by rw [h4,show Cmd.again.text=Str.ofString "again" from qw _];rfl⟩
  refine ⟨p1,_,_,_,rfl,rfl,SqL.of qA,ec,?_⟩
  lk
  refine ⟨m,a,b,st,c,ns,rfl,hc,hM.same s12,hrow,fun r hr=>hr.elim (hO.2.1 r) (hO.2.2 r),hfew,fun t a' b' v r st' H' fr ha' hb' ht hd hs hm=>?_⟩
  exact fin t a' b' v r st' c H' (fun x o n1 n2 n3 z=>fr x o n1 n2 n3 (s12 _ _ z)) (ha'.imp id fun z=>s12.free z) (hb'.imp id fun z=>s12.free z) (by rcases hc with rfl | rfl <;> trivial) ht hd hs hm
 rintro σ' H' ⟨rfl,rfl⟩
 refine seqU (fun σ' H'=>∃ j:Nat,j < 8∧Same H H'∧σ'=[some (.ref m),some (.ref l),some (.int kd),none,none,some (.str (qx j)),none,none,none]) ?_ (fun R hR=>?_)
 case refine_2 =>
  lk
  refine ⟨by show 8≤sizeLine;decide,fun p1 hp1=>?_⟩
  have s2:=Same.new hp1 (.lst ((List.range 8).map fun j=>V.str (qx j)))
  lk
  refine ⟨l,_,1,_,rfl,rfl,SqL.of (s2 _ _ (s1 _ _ hl)),e1,?_⟩
  lk
  obtain ⟨j,hj,ej⟩:∃ j:Nat,j < 8∧x1%8=(j:Int):=⟨(x1%8).toNat,by omega,by omega⟩
  dsimp only
  rw [ej]
  refine ⟨p1,_,_,.str (qx j),rfl,rfl,SqL.of qA,qq ?_,?_⟩
  ·show ((List.range 8).map fun j=>V.str (qx j))[j]?=_
   rw [List.getElem?_map,List.getElem?_range hj]
   rfl
  exact hR _ _ ⟨j,hj,s1.trans s2,rfl⟩
 rintro σ' H2 ⟨j,hj,s2,rfl⟩
 refine seqU (fun σ' H'=>∃ u:Int,0≤u∧u < 42∧Same H H'∧σ'=[some (.ref m),some (.ref l),some (.int kd),none,none,some (.str (qx j)),some (.int u),none,none]) ?_ (fun R hR=>?_)
 case refine_2 =>
  lk
  refine ⟨l,_,2,_,rfl,rfl,SqL.of (s2 _ _ hl),e2,?_⟩
  lk
  refine ⟨by show 2≤sizeLine;decide,fun p1 hp1=>?_⟩
  have s3:=Same.new hp1 (.lst ([5,42].map V.int))
  lk
  refine ⟨l,_,11,_,rfl,rfl,SqL.of (s3 _ _ (s2 _ _ hl)),e11,?_⟩
  lk
  obtain ⟨dd,hdd,ed⟩:=pick (ns:=[5,42]) (k:=x11%2) (by omega) (by show x11%2 < 2;omega)
  refine ⟨p1,_,_,_,rfl,rfl,SqL.of qA,ed,?_⟩
  have hdd':dd=5∨dd=42:=by simpa using hdd
  refine ⟨_,_,rfl,rfl,by omega,?_⟩
  exact hR _ _ ⟨x2%dd,Int.emod_nonneg _ (by omega),by have:=Int.emod_lt_of_pos x2 (show 0 < dd by omega);omega,s2.trans s3,rfl⟩
 rintro σ' H3 ⟨u,u1,u2,s3,rfl⟩
 refine seqU (fun σ' H'=>∃ y:Int,0≤y∧y < 43∧Same H H'∧σ'=[some (.ref m),some (.ref l),some (.int kd),none,none,some (.str (qx j)),some (.int u),some (.int y),none]) ?_ (fun R hR=>?_)
 case refine_2 =>
  lk
  refine ⟨l,_,3,_,rfl,rfl,SqL.of (s3 _ _ hl),e3,?_⟩
  lk
  refine ⟨by show 2≤sizeLine;decide,fun p1 hp1=>?_⟩
  have s4:=Same.new hp1 (.lst ([12,43].map V.int))
  lk
  refine ⟨l,_,11,_,rfl,rfl,SqL.of (s4 _ _ (s3 _ _ hl)),e11,?_⟩
  lk
  obtain ⟨dd,hdd,ed⟩:=pick (ns:=[12,43]) (k:=x11%2) (by omega) (by show x11%2 < 2;omega)
  refine ⟨p1,_,_,_,rfl,rfl,SqL.of qA,ed,?_⟩
  have hdd':dd=12∨dd=43:=by simpa using hdd
  refine ⟨_,_,rfl,rfl,by omega,?_⟩
  exact hR _ _ ⟨x3%dd,Int.emod_nonneg _ (by omega),by have:=Int.emod_lt_of_pos x3 (show 0 < dd by omega);omega,s3.trans s4,rfl⟩
 rintro σ' H4 ⟨y,y1,y2,s4,rfl⟩
 refine seqU (fun σ' H'=>H4=H'∧σ'=[some (.ref m),some (.ref l),some (.int kd),none,some (.ref p),some (.str (qx j)),some (.int u),some (.int y),none]) ?_ (fun R hR=>?_)
 case refine_2 =>
  lk
  refine ⟨m,_,rfl,q2w (s4 _ _ hM.dic),?_⟩
  lk
  refine ⟨a,_,_,.ref p,rfl,rfl,SqL.of (s4 _ _ h1),q2z _ _,?_⟩
  exact hR _ _ ⟨rfl,rfl⟩
 rintro σ' H' ⟨rfl,rfl⟩
 refine seqU (fun σ' H'=>∃ f g:Nat,f≤1000∧g < 10 ^ 6∧Same H H'∧σ'=[some (.ref m),some (.ref l),some (.int kd),none,some (.ref p),some (.str (qx j)),some (.int (f:Int)),some (.int (g:Int)),none]) ?_ (fun R hR=>?_)
 case refine_2 =>
  refine ifU (fun _ H'=>Same H H') ?_ (fun T hT=>?_)
  case refine_2 =>
   lk
   refine ⟨by show 2≤sizeLine;decide,fun p1 hp1=>?_⟩
   have s5:=Same.new hp1 (.lst [.str (Str.ofString "length"),.str (Str.ofString "apart")])
   refine ⟨p1,_,rfl,.inl (SqL.of qA),rfl,rfl,_,rfl,?_⟩
   refine ifB ?_ (hT _ _ (s4.trans s5))
   lk
   refine ⟨l,_,7,_,rfl,rfl,SqL.of (s5 _ _ (s4 _ _ hl)),e7,?_⟩
   lk
   exact hT _ _ (s4.trans s5)
  rintro c H5 s5
  refine ifB ?_ ?_
  ·lk
   refine ⟨l,_,2,_,rfl,rfl,SqL.of (s5 _ _ hl),e2,?_⟩
   lk
   refine ⟨_,_,rfl,hR _ _ ⟨(x2%5).toNat,999999,by omega,by decide,s5,?_⟩⟩
   rw [show (((x2%5).toNat:Nat):Int)=x2%5 by omega]
   rfl
  refine ifU (fun _ H'=>Same H H') ?_ (fun T hT=>?_)
  case refine_2 =>
   lk
   refine ⟨by show 2≤sizeLine;decide,fun p1 hp1=>?_⟩
   have s6:=Same.new hp1 (.lst [.str (Str.ofString "apart"),.str (Str.ofString "bars")])
   refine ⟨p1,_,rfl,.inl (SqL.of qA),rfl,rfl,_,rfl,hT _ _ (s5.trans s6)⟩
  rintro c H6 s6
  refine ifB ?_ (hR _ _ ⟨u.toNat,y.toNat,by omega,by omega,s6,by rw [show ((u.toNat:Nat):Int)=u by omega,show ((y.toNat:Nat):Int)=y by omega]⟩)
  lk
  refine ⟨l,_,2,_,rfl,rfl,SqL.of (s6 _ _ hl),e2,?_⟩
  lk
  refine ⟨by show 2≤sizeLine;decide,fun p1 hp1=>?_⟩
  have s7:=Same.new hp1 (.lst ([5,13].map V.int))
  lk
  refine ⟨l,_,11,_,rfl,rfl,SqL.of (s7 _ _ (s6 _ _ hl)),e11,?_⟩
  lk
  obtain ⟨dd,hdd,ed⟩:=pick (ns:=[5,13]) (k:=x11%2) (by omega) (by show x11%2 < 2;omega)
  refine ⟨p1,_,_,_,rfl,rfl,SqL.of qA,ed,?_⟩
  have hdd':dd=5∨dd=13:=by simpa using hdd
  refine ⟨_,_,rfl,rfl,by omega,?_⟩
  lk
  refine ⟨l,_,3,_,rfl,rfl,SqL.of (s7 _ _ (s6 _ _ hl)),e3,?_⟩
  lk
  have v1:=Int.emod_nonneg x2 (show dd≠0 by omega)
  have v2:=Int.emod_lt_of_pos x2 (show 0 < dd by omega)
  refine ⟨_,_,rfl,hR _ _ ⟨(x2%dd).toNat,(x3%4).toNat,by omega,by omega,s6.trans s7,?_⟩⟩
  rw [show (((x2%dd).toNat:Nat):Int)=x2%dd by omega,show (((x3%4).toNat:Nat):Int)=x3%4 by omega]
  rfl
 rintro σ' H5 ⟨f,g,hf,hg,s5,rfl⟩
 refine seqU (fun σ' H'=>H5=H'∧σ'=[some (.ref m),some (.ref l),some (.int kd),none,some (.ref p),some (.str (qx j)),some (.int (f:Int)),some (.int (g:Int)),some (.str (qx j))]) ?_ (fun R hR=>?_)
 case refine_2 =>
  lk
  exact hR _ _ ⟨rfl,rfl⟩
 rintro σ' H' ⟨rfl,rfl⟩
 refine seqU (fun σ' H'=>Same H H'∧σ'=[some (.ref m),some (.ref l),some (.int kd),none,some (.ref p),some (.str (qx j)),some (.int (f:Int)),some (.int (g:Int)),some (.str (if 3≤j∧j≤6 then qx j++Str.ofString " "++txt (f:Int)++Str.ofString " "++txt (g:Int) else qx j))]) ?_ (fun R hR=>?_)
 case refine_2 =>
  refine ifU (fun c H'=>Same H H'∧c=decide (3≤j∧j≤6)) ?_ (fun T hT=>?_)
  case refine_2 =>
   lk
   refine ⟨by show 4≤sizeLine;decide,fun p1 hp1=>?_⟩
   have s6:=Same.new hp1 (.lst [.str (Str.ofString "part"),.str (Str.ofString "length"),.str (Str.ofString "apart"),.str (Str.ofString "bars")])
   refine ⟨p1,_,rfl,.inl (SqL.of qA),rfl,rfl,_,rfl,hT _ _ ⟨s5.trans s6,?_⟩⟩
   exact in_words j hj
  rintro c H6 ⟨s6,rfl⟩
  refine ifD (fun z=>?_) (fun z=>hR _ _ ⟨s6,by rw [if_neg z]⟩)
  rw [if_pos z] at hR
  have lf:(txt (f:Int)).length≤31:=q0O (by omega)
  have lg:(txt (g:Int)).length≤31:=q0O (by omega)
  have lw:=word_len j
  have lb:(Str.ofString " ").length=1:=rfl
  lk
  refine ⟨Nat.le_of_lt (small (by omega)),?_⟩
  lk
  refine ⟨Nat.lt_trans (q2b (n:=(f:Int)) (by omega)) (by decide),?_⟩
  lk
  refine ⟨Nat.le_of_lt (small (by rw [qv];show _+(txt (f:Int)).length≤_;omega)),?_⟩
  lk
  refine ⟨Nat.le_of_lt (small (by rw [qv,qv];show _+(txt (f:Int)).length+_≤_;omega)),?_⟩
  lk
  refine ⟨Nat.lt_trans (q2b (n:=(g:Int)) (by omega)) (by decide),?_⟩
  lk
  refine ⟨Nat.le_of_lt (small (by rw [qv,qv,qv];show _+(txt (f:Int)).length+_+(txt (g:Int)).length≤_;omega)),?_⟩
  exact hR _ _ ⟨s6,rfl⟩
 rintro σ' H6 ⟨s6,rfl⟩
 refine seqU (fun σ' H'=>H6=H'∧∃ (q:Ask) (u' y':Int),q.at u' y'∧q.few∧(Cmd.ask q).ok∧qx j=q.word∧σ'=[some (.ref m),some (.ref l),some (.int kd),none,some (.ref p),some (.str (qx j)),some (.int u'),some (.int y'),some (.str (Cmd.ask q).text)]) ?_ (fun R hR=>?_)
 case refine_2 =>
  have lg:(txt (g:Int)).length≤31:=q0O (by omega)
  match j,hj with
  | 7,_ =>
   lk
   refine ⟨Nat.le_of_lt (small (by show 4+1≤_;decide)),?_⟩
   lk
   refine ⟨Nat.lt_trans (q2b (n:=(g:Int)) (by omega)) (by decide),?_⟩
   lk
   refine ⟨Nat.le_of_lt (small (by show 5+(txt (g:Int)).length≤_;omega)),?_⟩
   lk
   refine hR _ _ ⟨rfl,.must g,(g:Int),(g:Int),rfl,trivial,⟨trivial,fun n hn=>by rw [List.mem_singleton.mp hn];exact hg⟩,rfl,?_⟩
   rw [show (Cmd.ask (.must g)).text=qx 7++Str.ofString " "++txt (g:Int) from q71 _ _]
   rfl
  | 0,_ =>
   lk
   refine hR _ _ ⟨rfl,.best,(f:Int),(g:Int),trivial,trivial,⟨trivial,fun n hn=>by cases hn⟩,rfl,?_⟩
   rw [show (Cmd.ask .best).text=qx 0 from qw _]
   rfl
  | 1,_ =>
   lk
   refine hR _ _ ⟨rfl,.ring,(f:Int),(g:Int),trivial,trivial,⟨trivial,fun n hn=>by cases hn⟩,rfl,?_⟩
   rw [show (Cmd.ask .ring).text=qx 1 from qw _]
   rfl
  | 2,_ =>
   lk
   refine hR _ _ ⟨rfl,.row,(f:Int),(g:Int),trivial,trivial,⟨trivial,fun n hn=>by cases hn⟩,rfl,?_⟩
   rw [show (Cmd.ask .row).text=qx 2 from qw _]
   rfl
  | 3,_ =>
   lk
   refine hR _ _ ⟨rfl,.part f g,(f:Int),(g:Int),⟨rfl,rfl⟩,trivial,⟨trivial,fun n hn=>q2c hf hg hn⟩,rfl,?_⟩
   rw [show (Cmd.ask (.part f g)).text=qx 3++Str.ofString " "++txt (f:Int)++Str.ofString " "++txt (g:Int) from q2P _ _ _]
   rfl
  | 4,_ =>
   lk
   refine hR _ _ ⟨rfl,.length f g,(f:Int),(g:Int),⟨rfl,rfl⟩,trivial,⟨trivial,fun n hn=>q2c hf hg hn⟩,rfl,?_⟩
   rw [show (Cmd.ask (.length f g)).text=qx 4++Str.ofString " "++txt (f:Int)++Str.ofString " "++txt (g:Int) from q2P _ _ _]
   rfl
  | 5,_ =>
   lk
   refine hR _ _ ⟨rfl,.apart f g,(f:Int),(g:Int),⟨rfl,rfl⟩,⟨hf,Nat.lt_trans hg (by decide)⟩,⟨⟨hf,Nat.lt_trans hg (by decide)⟩,fun n hn=>q2c hf hg hn⟩,rfl,?_⟩
   rw [show (Cmd.ask (.apart f g)).text=qx 5++Str.ofString " "++txt (f:Int)++Str.ofString " "++txt (g:Int) from q2P _ _ _]
   rfl
  | 6,_ =>
   lk
   refine hR _ _ ⟨rfl,.bars f g,(f:Int),(g:Int),⟨rfl,rfl⟩,⟨hf,Nat.lt_trans hg (by decide)⟩,⟨⟨hf,Nat.lt_trans hg (by decide)⟩,fun n hn=>q2c hf hg hn⟩,rfl,?_⟩
   rw [show (Cmd.ask (.bars f g)).text=qx 6++Str.ofString " "++txt (f:Int)++Str.ofString " "++txt (g:Int) from q2P _ _ _]
   rfl
 rintro σ' H' ⟨rfl,q,u',y',hat,hfw,hok,hw,rfl⟩
 rw [hw]
 lk
 refine ⟨p,ns,q,u',y',rfl,s6 _ _ hp,hN,hat,hfw,fun v o H7 s7 hv hs=>?_⟩
 lk
 refine ⟨by show 2≤sizeLine;decide,fun t ht0=>?_⟩
 have s8:=Same.new ht0 (.tup [.str (Cmd.ask q).text,v])
 have s68:=s6.trans (s7.trans s8)
 refine fin t a b v o st (.ask q) _ (fun x o _ _ _ z=>s68 _ _ z) (.inl rfl) (.inl rfl) hok qA ?_ (hs st hrow) (hM.same s68)
 cases o with
 | ans z=>exact hv
 | ref i =>
  obtain ⟨l',e1,e2⟩:=hv
  exact ⟨l',e1,s8 _ _ e2⟩
theorem Says.count {st st':Dst} {c:Cmd} {r:Rep} (h:Says st c r st'):st'.earlier.length+st'.undone.length≤st.earlier.length+st.undone.length+1:=by
 cases h with
 | row=>exact Nat.zero_le _
 | put _ _ _=>simp only [List.length_append,List.length_nil,List.length_cons];omega
 | undo _ e _=>rw [e];simp only [List.length_append,List.length_nil,List.length_cons];omega
 | again _ e _=>rw [e];simp only [List.length_append,List.length_nil,List.length_cons];omega
 | _=>omega
theorem KL.off {H:Hp} {xs:List V} {rs:List (List Int)} {r:List Int} (h:KL H xs rs) (l:1≤r.length):xs≠r.map V.int:=fun z=>by
 cases r with
 | nil=>cases l
 | cons n r =>
  have hl:=h.len
  rw [z,List.length_map,List.length_cons] at hl
  obtain ⟨q,e,_⟩:=h.at_ 0 (.int n) (rs[0]'(by omega)) (by rw [z];rfl) (List.getElem?_eq_getElem _)
  cases e
structure Apart (d e u m a b:Addr):Prop where
 ae:a≠e
 au:a≠u
 be:b≠e
 bu:b≠u
theorem DeskAt.keepM {C:Addr} {H H':Hp} {d e u m a b:Addr} {st s2:Dst} (h:DeskAt C H d e u st) (M:MineAt H m a b s2) (n:Apart d e u m a b) (fr:FrM m a b H H'):DeskAt C H' d e u st:=by
 obtain ⟨dx,v,xe,xu,h1,h2,h3,h4,h5,h6⟩:=h.ex
 obtain ⟨xs,ys,m1,m2,m3,m4,m5⟩:=M.ex
 have off:∀ (x:Addr) (o:HO),(∀ l,o≠.lst l)→(∀ l,o≠.dK l)→H x=some o→H' x=some o:=fun x o k1 k2 z =>
  fr x o (fun y=>by rw [y,M.dic] at z;exact k2 _ (Option.some.inj z).symm) (fun y=>by rw [y,m1] at z;exact k1 _ (Option.some.inj z).symm) (fun y=>by rw [y,m3] at z;exact k1 _ (Option.some.inj z).symm) z
 have t:q3B H H':=fun x l z=>off x _ (fun _ y=>by cases y) (fun _ y=>by cases y) z
 exact ⟨⟨dx,v,xe,xu,off d _ (fun _ y=>by cases y) (fun _ y=>by cases y) h1,h2.keep t,fr e _ (fun y=>by rw [y,M.dic] at h3;cases h3) (Ne.symm n.ae) (Ne.symm n.be) h3,h4.keep t,fr u _ (fun y=>by rw [y,M.dic] at h5;cases h5) (Ne.symm n.au) (Ne.symm n.bu) h5,h6.keep t⟩,h.ne,h.rows,h.few⟩
theorem MineAt.keepD {C:Addr} {H H':Hp} {d e u m a b:Addr} {st s2:Dst} (M:MineAt H m a b s2) (h:DeskAt C H d e u st) (n:Apart d e u m a b) (hO:StOk s2) (fr:FrD d e u H H'):MineAt H' m a b s2:=by
 obtain ⟨dx,v,xe,xu,h1,h2,h3,h4,h5,h6⟩:=h.ex
 obtain ⟨xs,ys,m1,m2,m3,m4,m5⟩:=M.ex
 have row:∀ (p:Addr) (r:List Int),RowOk r→H p=some (.lst (r.map V.int))→H' p=some (.lst (r.map V.int)):=fun p r k z =>
  fr p _ (fun y=>by rw [y,h1] at z;cases z) (fun y=>by rw [y,h3] at z;exact h4.off k.l1 (HO.lst.inj (Option.some.inj z))) (fun y=>by rw [y,h5] at z;exact h6.off k.l1 (HO.lst.inj (Option.some.inj z))) z
 have rows:∀ (zs:List V) (rs:List (List Int)),(∀ r,r∈rs→RowOk r)→RowsAt H zs rs→RowsAt H' zs rs:=fun zs rs k z=>⟨z.len,fun i w r e1 e2=>by
  obtain ⟨p,rfl,g⟩:=z.at_ i w r e1 e2
  exact ⟨p,rfl,row p r (k r (List.mem_of_getElem? e2)) g⟩⟩
 refine ⟨fr m _ (fun y=>by have z:=M.dic;rw [y,h1] at z;cases z) (fun y=>by have z:=M.dic;rw [y,h3] at z;cases z) (fun y=>by have z:=M.dic;rw [y,h5] at z;cases z) M.dic,M.ne,xs,ys,fr a _ (fun y=>by rw [y,h1] at m1;cases m1) n.ae n.au m1,rows _ _ (fun r hr=>?_) m2,fr b _ (fun y=>by rw [y,h1] at m3;cases m3) n.be n.bu m3,rows _ _ (fun r hr=>hO.2.2 r hr) m4,m5⟩
 unfold Dst.stand at hr
 cases hrow:s2.row with
 | none=>rw [hrow] at hr;cases hr
 | some ns =>
  rw [hrow] at hr
  rcases List.mem_append.mp hr with hr | hr
  ·exact hO.2.1 r hr
  ·rw [List.mem_singleton.mp hr]
   exact hO.1 ns hrow
theorem SqL.keepF {K:PySem.W.Frag} {H H':Hp} {a:Addr} {xs:List V} (h:SqL K H a xs) (s:Same H H'):SqL K H' a xs:=by
 rcases h with (h | ⟨o,h⟩) | h
 ·exact .inl (.inl (s _ _ h))
 ·exact .inl (.inr ⟨o,s _ _ h⟩)
 ·exact .inr h
theorem q01 {H:Hp} {a a' x:Addr} {o:HO} (n:a≠x) (h:a'=a∨H a'=none) (k:H x=some o):a'≠x:=by
 rcases h with rfl | h
 ·exact n
 ·exact Ne.symm (qI k h)
theorem ok_law {k:Nat} {f C:Addr} {fd:FuncData} (F:Fun K "law" "law" q6P f fd) (Z:Blt mg) (ND_Desk:NDef P w K mg base k C "Desk" ["self"] (q6G C))
  (D_law_said:Def P w K mg base (k+1) "_law_said" ["desk","row"] (q6C C)) (D_law_due:Def P w K mg base (k+1) "_law_due" ["at"] q4U) (D_law_numbers:Def P w K mg base (k+1) "_law_numbers" ["cell","many"] q32) (D_law_deed:Def P w K mg base (k+1) "_law_deed" ["mine","numbers"] q6H) :
  FnOk P w K mg base CX0 (k+1+1) f fd ["script"] (q6o K):=by
 refine F.ok sc_law (fun vs H Q E h=>?_) (fun cdv A outer s H vs Q E hr h=>?_)
 ·obtain ⟨a,ns,rfl,_⟩:=h
  rfl
 obtain ⟨sc,ns,rfl,hS,h63,q⟩:=h
 apply Exists.intro
 apply And.intro
 case left =>
  apply qB
  case h1 =>
   exact (qQ (i:=1) sc_law.nd rfl (by walk_at "lr") (pe_nd ND_Desk hr rfl))
  apply qB
  case h1 =>
   apply qZ
   case hc=>exact (qO (op_neDK (K:=K) hr rfl) (qM D_law_said hr rfl (q0 (pv 1) (q0 qR qC))) (qM D_law_due hr rfl (q0 qE qC)) (qT _))
   case ha =>
    apply qD
    exact (qL q5h)
   case hb =>
    exact qP
  apply qB
  case h1 =>
   exact (qQ (i:=2) sc_law.nd rfl (by walk_at "lr") (q6T (q19 qR (qc qC) (q19 qR (qc qC) q6S)) rfl rfl (List.cons_ne_nil _ _) (by decide)))
  apply qB
  case h1 =>
   apply q18 PassesOwn.never rfl
   case hi=>exact (q09 (K:=K) rfl (q1A (q2C (K:=K) rfl) (pv 0) q2X (q1g qE)))
   case hg=>exact (qi (i:=3) sc_law.nd rfl (by walk_at "lr"))
   case hb =>
    apply qB
    case h1 =>
     exact (ps_asg (qM D_law_deed hr rfl (q0 (pv 2) (q0 (qM D_law_numbers hr rfl (q0 (pv 3) (q0 qE qC))) qC))) (pg_tupK (K:=K) (n:=2) rfl rfl (q3a (qi (i:=4) sc_law.nd rfl (by walk_at "lr")) (q3a (qi (i:=5) sc_law.nd rfl (by walk_at "lr")) pgs_nil))))
    apply qD
    apply qZ
    case hc=>exact (qO (op_both (op_neDK (K:=K) hr rfl) q5i) (qM D_law_said hr rfl (q0 (pv 1) (q0 (pv 4) qC))) (pv 5) (qT _))
    case ha =>
     apply qD
     exact (qL q5h)
    case hb =>
     exact qP
  apply qD
  exact (qL q5h)
 refine seqU (fun σ' H'=>∃ d e u:Addr,Same H H'∧DeskAt C H' d e u ⟨none,[],[]⟩∧σ'=[some (.ref sc),some (.ref d),none,none,none,none]) ?_ (fun R hR=>?_)
 case refine_2 =>
  lk
  intro d dx hd hdx hne
  refine ⟨d,dx,rfl,qA,fun e u H1 he hu fr hD=>⟨rfl,?_⟩⟩
  refine hR _ _ ⟨d,e,u,fun x o z=>fr x o (qI z hd) ?_,hD,rfl⟩
  rw [qF (qI z hd),qF (qI z hdx)]
  exact z
 rintro σ' H1 ⟨d,e,u,s1,hD,rfl⟩
 refine seqU (fun σ' H'=>∃ e u:Addr,Same H H'∧DeskAt C H' d e u ⟨none,[],[]⟩∧σ'=[some (.ref sc),some (.ref d),none,none,none,none]) ?_ (fun R hR=>?_)
 case refine_2 =>
  have hok:(Cmd.ask .best).ok:=⟨trivial,fun n hn=>by cases hn⟩
  have htx:(Cmd.ask .best).text=Str.ofString "best":=qw _
  have hsay:Says ⟨none,[],[]⟩ (Cmd.ask .best) (.ref 6) ⟨none,[],[]⟩:=.none (fun ns z=>by cases z) rfl
  lk
  refine ⟨d,e,u,⟨none,[],[]⟩,.ask .best,by rw [htx];rfl,hD,hok,by show 0≤900;decide,fun z st' e' u' H' he hu fr hD' hs=>?_,fun i l H2 s2 hl0 hl hs=>?_⟩
  ·cases (hs.uniq hsay).1
  ·obtain rfl:i=6:=by
    have:=(hs.uniq hsay).1
    exact Rep.ref.inj this
   lk
   intro l2 H3 s3 hl2 hl3
   refine ⟨0,_,EqD.bls (SqL.of (s3 _ _ hl)) (SqL.of hl3),by decide,?_⟩
   refine ⟨_,rfl,?_⟩
   have s23:=s2.trans s3
   exact iteF (hR _ _ ⟨e,u,s1.trans s23,hD.keep s23,rfl⟩)
 rintro σ' H2 ⟨e,u,s2,hD2,rfl⟩
 refine seqU (fun σ' H'=>∃ m a b:Addr,Same H H'∧DeskAt C H' d e u ⟨none,[],[]⟩∧MineAt H' m a b ⟨none,[],[]⟩∧Apart d e u m a b∧σ'=[some (.ref sc),some (.ref d),some (.ref m),none,none,none]) ?_ (fun R hR=>?_)
 case refine_2 =>
  lk
  intro m hm
  lk
  refine ⟨by show 0≤sizeLine;decide,fun a ha=>?_⟩
  lk
  refine ⟨by show 0≤sizeLine;decide,fun b hb=>?_⟩
  have hma:m≠a:=fun z=>by rw [← z,qA] at ha;cases ha
  have hmb:m≠b:=fun z=>by rw [← z,qF hma,qA] at hb;cases hb
  have hab:a≠b:=fun z=>by rw [← z,qA] at hb;cases hb
  have ha0:H2 a=none:=by rw [qF (Ne.symm hma)] at ha;exact ha
  have hb0:H2 b=none:=by rw [qF (Ne.symm hab),qF (Ne.symm hmb)] at hb;exact hb
  refine ⟨by rw [qF hmb,qF hma,qA],[(.inr "stand",.ref a),(.inr "gone",.ref b)],rfl,by show 2≤15;decide,?_⟩
  obtain ⟨dx,v,xe,xu,_,_,k3,_,k5,_⟩:=hD2.ex
  have t3:Same H2 (upd (upd (upd (upd H2 m (.dK [])) a (.lst [])) b (.lst [])) m (.dK (q1R [] [(.inr "stand",.ref a),(.inr "gone",.ref b)]))):=fun x o z=>by
   have n1:=qI z hm
   rw [qF n1,qF (qI z hb0),qF (qI z ha0),qF n1]
   exact z
  refine hR _ _ ⟨m,a,b,s2.trans t3,hD2.keep t3,⟨by rw [qA];rfl,hab,[],[],?_,.nil,?_,.nil,fun p hp=>by cases hp⟩,⟨Ne.symm (qI k3 ha0),Ne.symm (qI k5 ha0),Ne.symm (qI k3 hb0),Ne.symm (qI k5 hb0)⟩,rfl⟩
  ·rw [qF (Ne.symm hma),qF hab,qA]
  ·rw [qF (Ne.symm hmb),qA]
 rintro σ' H3 ⟨m,a,b,s3,hD3,hM3,hA3,rfl⟩
 lk
 refine ⟨sc,_,rfl,SqL.keepF hS s3,fun p hp=>?_⟩
 rw [show cutV (ns.map V.int) none (some 24)=(ns.take 24).map V.int from cut_front (m:=24)]
 have t4:=Same.new hp (.lst ((ns.take 24).map V.int))
 refine ⟨p,rfl,⟨_,SqL.of qA⟩,?_⟩
 refine q2Q (xs:=(ns.take 24).map V.int) (fun i σ H'=>∃ (e u a b:Addr) (st:Dst) (o3 o4 o5:Option V),DeskAt C H' d e u st∧MineAt H' m a b st∧Apart d e u m a b∧st.earlier.length+st.undone.length≤i∧H' p=some (.lst ((ns.take 24).map V.int)) ∧
  (p≠e∧p≠u∧p≠a∧p≠b)∧σ=[some (.ref sc),some (.ref d),some (.ref m),o3,o4,o5]) ?_ ?_ ?_ ?_
 ·obtain ⟨dx,v,xe,xu,_,_,k3,_,k5,_⟩:=hD3.ex
  obtain ⟨xs,ys,k7,_,k8,_⟩:=hM3.ex
  exact ⟨e,u,a,b,⟨none,[],[]⟩,none,none,none,hD3.keep t4,hM3.same t4,hA3,Nat.le_refl _,qA,⟨Ne.symm (qI k3 hp),Ne.symm (qI k5 hp),Ne.symm (qI k7 hp),Ne.symm (qI k8 hp)⟩,rfl⟩
 ·rintro i σ H' _ ⟨_,_,_,_,_,_,_,_,_,_,_,_,k,_⟩
  exact SqL.of k
 ·rintro i v σ H4 hv ⟨e,u,a,b,st,o3,o4,o5,hD4,hM4,hA,hn,hpp,hp4,rfl⟩
  have hi:i < 24:=by
   have:=(List.getElem?_eq_some_iff.mp hv).1
   rw [List.length_map,List.length_take] at this
   omega
  obtain ⟨_,rfl⟩:=int_at hv
  generalize (ns.take 24)[i]=c
  lk
  refine ⟨c,13,rfl,by decide,fun l H5 s5 hl0 hl=>?_⟩
  have hD5:=hD4.keep s5
  have hM5:=hM4.same s5
  lk
  refine ⟨m,a,b,l,st,_,rfl,hl,q6z,hM5,hD5.rows,by omega,fun t a' b' v r st' cc H6 fr ha' hb' hok ht hdue hsay hM6=>?_⟩
  lk
  refine ⟨t,_,rfl,SqT.of ht,rfl,_,_,rfl,?_⟩
  refine ⟨_,_,rfl,?_⟩
  refine ⟨rfl,?_⟩
  have hD6:=hD5.keepM hM5 hA fr
  have hcount:=hsay.count
  have p5:=s5 _ _ hpp
  have p6:H6 p=some (.lst ((ns.take 24).map V.int)):=fr p _ (fun z=>by rw [z,hM5.dic] at p5;cases p5) hp4.2.2.1 hp4.2.2.2 p5
  obtain ⟨dx,vv,xe,xu,k1,_,k3,_,k5,_⟩:=hD5.ex
  have hA6:Apart d e u m a' b':=⟨q01 hA.ae ha' k3,q01 hA.au ha' k5,q01 hA.be hb' k3,q01 hA.bu hb' k5⟩
  have hpa:p≠a':=Ne.symm (q01 (Ne.symm hp4.2.2.1) ha' p5)
  have hpb:p≠b':=Ne.symm (q01 (Ne.symm hp4.2.2.2) hb' p5)
  obtain ⟨xs6,ys6,m1,_,m3,_⟩:=hM6.ex
  lk
  refine ⟨d,e,u,st,cc,rfl,hD6,hok,by omega,fun z st2 e' u' H7 he hu frD hD7 hs2=>?_,fun j l2 H7 s7 hl2 hl7 hs2=>?_⟩
  ·obtain ⟨e1,rfl⟩:=hs2.uniq hsay
   subst e1
   obtain rfl:v = .str z:=hdue
   have hM7:=hM6.keepD hD6 hA6 hD7.rows frD
   have hA7:Apart d e' u' m a' b':=⟨Ne.symm (q01 (Ne.symm hA6.ae) he m1),Ne.symm (q01 (Ne.symm hA6.au) hu m1),Ne.symm (q01 (Ne.symm hA6.be) he m3),Ne.symm (q01 (Ne.symm hA6.bu) hu m3)⟩
   have hpe:p≠e':=Ne.symm (q01 (Ne.symm hp4.1) he p6)
   have hpu:p≠u':=Ne.symm (q01 (Ne.symm hp4.2.1) hu p6)
   have p7:=frD p _ (fun z=>by rw [z,k1] at p5;cases p5) hp4.1 hp4.2.1 p6
   lk
   refine .inr ⟨rfl,_,rfl,?_⟩
   rw [decide_eq_true (show V.str z=V.str z from rfl)]
   exact iteF ⟨e',u',a',b',st2,_,_,_,hD7,hM7,hA7,by omega,p7,⟨hpe,hpu,hpa,hpb⟩,rfl⟩
  ·obtain ⟨e1,rfl⟩:=hs2.uniq hsay
   subst e1
   obtain ⟨l3,rfl,hl3⟩:∃ l,v = .ref l∧H6 l=some (.lst ((due j).map V.bl)):=hdue
   lk
   refine .inl ⟨0,_,EqD.bls (SqL.of hl7) (SqL.of (s7 _ _ hl3)),by decide,_,rfl,?_⟩
   exact iteF ⟨e,u,a',b',st,_,_,_,hD6.keep s7,hM6.same s7,hA6,by omega,s7 _ _ p6,⟨hp4.1,hp4.2.1,hpa,hpb⟩,rfl⟩
 ·rintro σ H' ⟨_,_,_,_,_,_,_,_,_,_,_,_,_,_,rfl⟩
  lk
  exact q _
end My
end
namespace My
open PySem L2
theorem of1 {us:List Value} (h:us.length=1):∃ x0,us=[x0]:=by
 match us,h with
 | [x0],_=>exact ⟨_,rfl⟩
theorem of2 {us:List Value} (h:us.length=2):∃ x0 x1,us=[x0,x1]:=by
 match us,h with
 | [x0,x1],_=>exact ⟨_,_,rfl⟩
theorem of3 {us:List Value} (h:us.length=3):∃ x0 x1 x2,us=[x0,x1,x2]:=by
 match us,h with
 | [x0,x1,x2],_=>exact ⟨_,_,_,rfl⟩
theorem of4 {us:List Value} (h:us.length=4):∃ x0 x1 x2 x3,us=[x0,x1,x2,x3]:=by
 match us,h with
 | [x0,x1,x2,x3],_=>exact ⟨_,_,_,_,rfl⟩
noncomputable abbrev Tf (K:PySem.W.Frag) (x:Str) (st:Stmt) (f:Addr):Prop:=PySem.W.nsIn K mainGlobals x=some (some (.ref f))∧∃ (oc:Value) (od:Option Addr) (v c p:Value) (an:Option Addr) (cd ct:Value) (sl:Array (Option Value)),K.lookup f=some ⟨oc,od,.func (PySem.W.fnOf x x (q1i st) (q0t st) (qH st) .none v c p an cd ct),sl⟩∧PySem.W.codeIn K cd x=true∧PySem.W.keepIn K (.ref f)=true
noncomputable abbrev Mf (K:PySem.W.Frag) (C:Addr) (x q:Str) (st:Stmt) (f:Addr):Prop:=PySem.W.findIn K (.ref C) x=some (some (.ref f))∧PySem.W.isFn K (.ref f)=true∧∃ (oc:Value) (od:Option Addr) (v c p:Value) (an:Option Addr) (cd ct:Value) (sl:Array (Option Value)),K.lookup f=some ⟨oc,od,.func (PySem.W.fnOf x q (q1i st) (q0t st) (qH st) .none v c p an cd ct),sl⟩∧PySem.W.codeIn K cd q=true∧PySem.W.keepIn K (.ref f)=true
theorem tf {K:PySem.W.Frag} {x:Str} {st:Stmt} {f:Addr} {oc:Value} {od:Option Addr} {v c p:Value} {an:Option Addr} {cd ct:Value} {sl:Array (Option Value)} (a:PySem.W.nsIn K mainGlobals x=some (some (.ref f))) (l:K.lookup f=some ⟨oc,od,.func (PySem.W.fnOf x x (q1i st) (q0t st) (qH st) .none v c p an cd ct),sl⟩) (d:PySem.W.codeIn K cd x=true) (k:PySem.W.keepIn K (.ref f)=true):Tf K x st f:=⟨a,_,_,_,_,_,_,_,_,_,l,d,k⟩
theorem mf {K:PySem.W.Frag} {C:Addr} {x q:Str} {st:Stmt} {f:Addr} {oc:Value} {od:Option Addr} {v c p:Value} {an:Option Addr} {cd ct:Value} {sl:Array (Option Value)} (a:PySem.W.findIn K (.ref C) x=some (some (.ref f))) (n:PySem.W.isFn K (.ref f)=true) (l:K.lookup f=some ⟨oc,od,.func (PySem.W.fnOf x q (q1i st) (q0t st) (qH st) .none v c p an cd ct),sl⟩) (d:PySem.W.codeIn K cd q=true) (k:PySem.W.keepIn K (.ref f)=true):Mf K C x q st f:=⟨a,n,_,_,_,_,_,_,_,_,_,l,d,k⟩
theorem all_mk {l:PySem.W.OpenLaw} {w:World} {K:PySem.W.Frag} {h:Heap} {mg:Str→Option Value} {fa f0 f1 f2 f3 f4 f5 f6 f7 f8 f9 f10 f11 f12 f13 f14 f15 f16 f17 f18 f19 f20 f21 f22 f23 f24 f25 f26 f27 f28 f29 f30 f31 f32 f33 f34 f35 f36 f37 f38 f39 f40 f41 f42 f43 f44 f45 f46 f47 f48 f49 f50 f51 f52 f53 f54 f55 f56 f57 f58 f59 f60 f61 f62 f63 f64 f65 f66 f67 f68 f69 f70 C0 C1 C2 C3 C4 C5 C6 C7 C8:Addr} (X:K.In h) (G:h.Ns mainGlobals mg) (hfa:mg "law" = some (.ref fa))
  {ct_BEST ct_FIGURES ct_HEAD ct_KNOWN ct_LEFT ct_MANY ct_MOST_FIGURES_desk ct_MOST_FIGURES_texts ct_MOST_PAIRS ct_RIGHT ct_ROUND ct_TAIL ct_TOTAL:Tok}
  {CD AB:Addr} {es:Array DictEntry} {nn:Nat}
  (t0:Tf K "is_whole" q2J f0)
  (t1:Tf K "is_stretch" q12 f1)
  (t2:Tf K "best_of" q2o f2)
  (t3:Tf K "sums_ahead" q0y f3)
  (t4:Tf K "order_of" q2F f4)
  (t5:Tf K "better_of" q1b f5)
  (t6:Tf K "moved" q56 f6)
  (t7:Tf K "side_by_side" q0R f7)
  (t8:Tf K "joined_round" q0V f8)
  (t9:Tf K "joined" q3W f9)
  (t10:Tf K "single" q3U f10)
  (t11:Tf K "paired" q3V f11)
  (t12:Tf K "halved" q2n f12)
  (t13:Tf K "kept" q6u f13)
  (t14:Tf K "many_of" q2k f14)
  (t15:Tf K "row_of" q2j f15)
  (t16:Tf K "refuse_place" q0E f16)
  (t17:Tf K "with_put" q1N f17)
  (t18:Tf K "changed" q1z f18)
  (t19:Tf K "known_of" q1O f19)
  (t20:Tf K "known_of_part" q08 f20)
  (t21:Tf K "best_in" q20 f21)
  (t22:Tf K "best_round" q15 f22)
  (t23:Tf K "longest_of" q0Y f23)
  (t24:Tf K "enter_first" q0h f24)
  (t25:Tf K "best_sized" q0Z f25)
  (t26:Tf K "refuse_counts" q07 f26)
  (t27:Tf K "room_for" q2D f27)
  (t28:Tf K "greater_of" q13 f28)
  (t29:Tf K "begun_line" q16 f29)
  (t30:Tf K "best_line" q1c f30)
  (t31:Tf K "behind_line" q0j f31)
  (t32:Tf K "lines_of" q2G f32)
  (t33:Tf K "first_from" q14 f33)
  (t34:Tf K "beyond_from" q0i f34)
  (t35:Tf K "stretches_of" q0Q f35)
  (t36:Tf K "best_apart" q0a f36)
  (t37:Tf K "several_paper" q06 f37)
  (t38:Tf K "must_be" q1y f38)
  (t39:Tf K "shown_row" q1V f39)
  (t40:Tf K "are_figures" q0k f40)
  (t41:Tf K "is_number" q1a f41)
  (t42:Tf K "read_row" q2E f42)
  (t43:Tf K "read_text" q1W f43)
  (t44:Tf K "read_figures" q0T f44)
  (t45:Tf K "read_number" q0e f45)
  (t46:Tf K "read_changes" q0U f46)
  (t47:Tf K "read_behind" q0f f47)
  (t48:Tf K "with_stretches" q0F f48)
  (t49:Tf K "bars" q5c f49)
  (t50:Tf K "answer_of" q1d f50)
  (t51:Tf K "shown_answer" q0S f51)
  (t52:Tf K "best_sum" q2K f52)
  (t53:Mf K CD "__init__" "Desk.__init__" q1e f53)
  (t54:Mf K CD "lay" "Desk.lay" q2M f54)
  (t55:Mf K CD "put" "Desk.put" q1P f55)
  (t56:Mf K CD "undo" "Desk.undo" q0r f56)
  (t57:Mf K CD "redo" "Desk.redo" q0s f57)
  (t58:Mf K CD "say" "Desk.say" q2L f58)
  (t59:Tf K "_law_flags" q1Y f59)
  (t60:Tf K "_law_said" q2H f60)
  (t61:Tf K "_law_due" q2m f61)
  (t62:Tf K "_law_numbers" q0g f62)
  (t63:Tf K "_law_shown" q1X f63)
  (t64:Tf K "_law_number" q10 f64)
  (t65:Tf K "_law_asked" q1Z f65)
  (t66:Tf K "_law_answer" q11 f66)
  (t67:Tf K "_law_put" q2l f67)
  (t68:Tf K "_law_turned" q0z f68)
  (t69:Tf K "_law_deed" q2I f69)
  (t70:Tf K "law" q6P f70)
  (z0:PySem.W.nsIn K mainGlobals "len" = some none)
  (z1:PySem.W.nsIn K mainGlobals "range" = some none)
  (z2:PySem.W.nsIn K mainGlobals "isinstance" = some none)
  (z3:PySem.W.nsIn K mainGlobals "int" = some none)
  (z4:PySem.W.nsIn K mainGlobals "bool" = some none)
  (z5:PySem.W.nsIn K mainGlobals "tuple" = some none)
  (z6:PySem.W.nsIn K mainGlobals "list" = some none)
  (z7:PySem.W.nsIn K mainGlobals "sum" = some none)
  (z8:PySem.W.nsIn K mainGlobals "abs" = some none)
  (z9:PySem.W.nsIn K mainGlobals "min" = some none)
  (z10:PySem.W.nsIn K mainGlobals "max" = some none)
  (z11:PySem.W.nsIn K mainGlobals "zip" = some none)
  (z12:PySem.W.nsIn K mainGlobals "enumerate" = some none)
  (z13:PySem.W.nsIn K mainGlobals "all" = some none)
  (z14:PySem.W.nsIn K mainGlobals "str" = some none)
  (dk:PySem.W.nsIn K mainGlobals "Desk" = some (some (.ref CD)))
  (dk1:PySem.W.plainGet K CD Str.empty=true)
  (dk2:PySem.W.hasDictIn K CD=true)
  (dk3:PySem.W.plainOver K CD=true)
  (dk4:PySem.W.findIn K (.ref CD) "__setattr__" = some (some (.builtin "object.__setattr__")))
  (dn_held:PySem.W.findIn K (.ref CD) "held" = some none)
  (dn_earlier:PySem.W.findIn K (.ref CD) "earlier" = some none)
  (dn_undone:PySem.W.findIn K (.ref CD) "undone" = some none)
  (dk5:PySem.W.makesIn K CD=true)
  (dk6:PySem.W.keepIn K (.ref CD)=true)
  (nb1:PySem.W.nsIn K mainGlobals "NUMBERS_BEHIND" = some (some (.ref AB)))
  (nb2:K.lookup AB=some ⟨.type "dict",none,.dict es nn,#[]⟩)
  (nb3:LitD w.params es.toList nbl)
  (nb4:(AB == sysModules)=false)
  (e0:PySem.W.nsIn K mainGlobals "TopError" = some (some (.ref C0)))
  (e1:PySem.W.nsIn K mainGlobals "NoStretch" = some (some (.ref C1)))
  (e2:PySem.W.nsIn K mainGlobals "NoLength" = some (some (.ref C2)))
  (e3:PySem.W.nsIn K mainGlobals "NoCount" = some (some (.ref C3)))
  (e4:PySem.W.nsIn K mainGlobals "NoPlace" = some (some (.ref C4)))
  (e5:PySem.W.nsIn K mainGlobals "NoText" = some (some (.ref C5)))
  (e6:PySem.W.nsIn K mainGlobals "NoShape" = some (some (.ref C6)))
  (e7:PySem.W.nsIn K mainGlobals "NoneYet" = some (some (.ref C7)))
  (e8:PySem.W.nsIn K mainGlobals "NoRound" = some (some (.ref C8)))
  (ev:PySem.W.nsIn K mainGlobals "ValueError" = some none)
  (q1:PySem.W.excIn K C1 [.type "ValueError",.type "Exception",.type "BaseException",.type "object"] "ValueError.__new__" = true)
  (w1:Fault K C0 C1 C2 C3 C4 C5 C6 C7 C8 C1 true false false false false false false false)
  (q2:PySem.W.excIn K C2 [.type "ValueError",.type "Exception",.type "BaseException",.type "object"] "ValueError.__new__" = true)
  (w2:Fault K C0 C1 C2 C3 C4 C5 C6 C7 C8 C2 false true false false false false false false)
  (q3:PySem.W.excIn K C3 [.type "ValueError",.type "Exception",.type "BaseException",.type "object"] "ValueError.__new__" = true)
  (w3:Fault K C0 C1 C2 C3 C4 C5 C6 C7 C8 C3 false false true false false false false false)
  (q4:PySem.W.excIn K C4 [.type "ValueError",.type "Exception",.type "BaseException",.type "object"] "ValueError.__new__" = true)
  (w4:Fault K C0 C1 C2 C3 C4 C5 C6 C7 C8 C4 false false false true false false false false)
  (q7:PySem.W.excIn K C7 [.type "ValueError",.type "Exception",.type "BaseException",.type "object"] "ValueError.__new__" = true)
  (w7:Fault K C0 C1 C2 C3 C4 C5 C6 C7 C8 C7 false false false false false false true false)
  (q8:PySem.W.excIn K C8 [.type "ValueError",.type "Exception",.type "BaseException",.type "object"] "ValueError.__new__" = true)
  (w8:Fault K C0 C1 C2 C3 C4 C5 C6 C7 C8 C8 false false false false false false false true)
  (cc_BEST:PySem.W.nsIn K mainGlobals "BEST" = some (some (.int 2 ct_BEST)))
  (cc_FIGURES:PySem.W.nsIn K mainGlobals "FIGURES" = some (some (.str "0123456789" ct_FIGURES)))
  (cc_HEAD:PySem.W.nsIn K mainGlobals "HEAD" = some (some (.int 3 ct_HEAD)))
  (cc_KNOWN:PySem.W.nsIn K mainGlobals "KNOWN" = some (some (.int 0 ct_KNOWN)))
  (cc_LEFT:PySem.W.nsIn K mainGlobals "LEFT" = some (some (.int 1 ct_LEFT)))
  (cc_MANY:PySem.W.nsIn K mainGlobals "MANY" = some (some (.int 0 ct_MANY)))
  (cc_MOST_FIGURES_desk:PySem.W.nsIn K mainGlobals "MOST_FIGURES_desk" = some (some (.int 6 ct_MOST_FIGURES_desk)))
  (cc_MOST_FIGURES_texts:PySem.W.nsIn K mainGlobals "MOST_FIGURES_texts" = some (some (.int 30 ct_MOST_FIGURES_texts)))
  (cc_MOST_PAIRS:PySem.W.nsIn K mainGlobals "MOST_PAIRS" = some (some (.int 20 ct_MOST_PAIRS)))
  (cc_RIGHT:PySem.W.nsIn K mainGlobals "RIGHT" = some (some (.int 2 ct_RIGHT)))
  (cc_ROUND:PySem.W.nsIn K mainGlobals "ROUND" = some (some (.int 5 ct_ROUND)))
  (cc_TAIL:PySem.W.nsIn K mainGlobals "TAIL" = some (some (.int 4 ct_TAIL)))
  (cc_TOTAL:PySem.W.nsIn K mainGlobals "TOTAL" = some (some (.int 1 ct_TOTAL))) :
  ∃ fd:FuncData,(∀ (s:Shared) (v:Value),BindsTo s fd ⟨[v],[]⟩ [("script",v)])∧∀ base:Heap,K.In base→base.Ns mainGlobals mg→FnOk l.prog w K mg base CX0 147 fa fd ["script"] (q6o K):=by
 have e:=hfa.symm.trans (PySem.W.mg_of X G t70.1)
 cases e
 have Z:Blt mg:=⟨PySem.W.mg_none_of X G z0,PySem.W.mg_none_of X G z1,PySem.W.mg_none_of X G z2,PySem.W.mg_none_of X G z3,PySem.W.mg_none_of X G z4,PySem.W.mg_none_of X G z5,PySem.W.mg_none_of X G z6,PySem.W.mg_none_of X G z7,PySem.W.mg_none_of X G z8,PySem.W.mg_none_of X G z9,PySem.W.mg_none_of X G z10,PySem.W.mg_none_of X G z11,PySem.W.mg_none_of X G z12,PySem.W.mg_none_of X G z13,PySem.W.mg_none_of X G z14⟩
 obtain ⟨a0,o0,d0,v0,x0,p0,n0,m0,y0,g0,l0,c0,k0⟩:=t0
 have F0:=qX (st:=q2J) l0 c0 k0
 have b0:=F0.binds (ps:=["thing"]) fun _ _ _ _ _ _ us hl=>by obtain ⟨_,rfl⟩:=of1 hl;rfl
 obtain ⟨a1,o1,d1,v1,x1,p1,n1,m1,y1,g1,l1,c1,k1⟩:=t1
 have F1:=qX (st:=q12) l1 c1 k1
 have b1:=F1.binds (ps:=["stretch","many"]) fun _ _ _ _ _ _ us hl=>by obtain ⟨_,_,rfl⟩:=of2 hl;rfl
 obtain ⟨a2,o2,d2,v2,x2,p2,n2,m2,y2,g2,l2,c2,k2⟩:=t2
 have F2:=qX (st:=q2o) l2 c2 k2
 have b2:=F2.binds (ps:=["row"]) fun _ _ _ _ _ _ us hl=>by obtain ⟨_,rfl⟩:=of1 hl;rfl
 obtain ⟨a3,o3,d3,v3,x3,p3,n3,m3,y3,g3,l3,c3,k3⟩:=t3
 have F3:=qX (st:=q0y) l3 c3 k3
 have b3:=F3.binds (ps:=["row"]) fun _ _ _ _ _ _ us hl=>by obtain ⟨_,rfl⟩:=of1 hl;rfl
 obtain ⟨a4,o4,d4,v4,x4,p4,n4,m4,y4,g4,l4,c4,k4⟩:=t4
 have F4:=qX (st:=q2F) l4 c4 k4
 have b4:=F4.binds (ps:=["stretch"]) fun _ _ _ _ _ _ us hl=>by obtain ⟨_,rfl⟩:=of1 hl;rfl
 obtain ⟨a5,o5,d5,v5,x5,p5,n5,m5,y5,g5,l5,c5,k5⟩:=t5
 have F5:=qX (st:=q1b) l5 c5 k5
 have b5:=F5.binds (ps:=["one","other"]) fun _ _ _ _ _ _ us hl=>by obtain ⟨_,_,rfl⟩:=of2 hl;rfl
 obtain ⟨a6,o6,d6,v6,x6,p6,n6,m6,y6,g6,l6,c6,k6⟩:=t6
 have F6:=qX (st:=q56) l6 c6 k6
 have b6:=F6.binds (ps:=["stretch","places"]) fun _ _ _ _ _ _ us hl=>by obtain ⟨_,_,rfl⟩:=of2 hl;rfl
 obtain ⟨a7,o7,d7,v7,x7,p7,n7,m7,y7,g7,l7,c7,k7⟩:=t7
 have F7:=qX (st:=q0R) l7 c7 k7
 have b7:=F7.binds (ps:=["one","other"]) fun _ _ _ _ _ _ us hl=>by obtain ⟨_,_,rfl⟩:=of2 hl;rfl
 obtain ⟨a8,o8,d8,v8,x8,p8,n8,m8,y8,g8,l8,c8,k8⟩:=t8
 have F8:=qX (st:=q0V) l8 c8 k8
 have b8:=F8.binds (ps:=["one","other"]) fun _ _ _ _ _ _ us hl=>by obtain ⟨_,_,rfl⟩:=of2 hl;rfl
 obtain ⟨a9,o9,d9,v9,x9,p9,n9,m9,y9,g9,l9,c9,k9⟩:=t9
 have F9:=qX (st:=q3W) l9 c9 k9
 have b9:=F9.binds (ps:=["one","other"]) fun _ _ _ _ _ _ us hl=>by obtain ⟨_,_,rfl⟩:=of2 hl;rfl
 obtain ⟨a10,o10,d10,v10,x10,p10,n10,m10,y10,g10,l10,c10,k10⟩:=t10
 have F10:=qX (st:=q3U) l10 c10 k10
 have b10:=F10.binds (ps:=["number"]) fun _ _ _ _ _ _ us hl=>by obtain ⟨_,rfl⟩:=of1 hl;rfl
 obtain ⟨a11,o11,d11,v11,x11,p11,n11,m11,y11,g11,l11,c11,k11⟩:=t11
 have F11:=qX (st:=q3V) l11 c11 k11
 have b11:=F11.binds (ps:=["left","right"]) fun _ _ _ _ _ _ us hl=>by obtain ⟨_,_,rfl⟩:=of2 hl;rfl
 obtain ⟨a12,o12,d12,v12,x12,p12,n12,m12,y12,g12,l12,c12,k12⟩:=t12
 have F12:=qX (st:=q2n) l12 c12 k12
 have b12:=F12.binds (ps:=["row","first","beyond"]) fun _ _ _ _ _ _ us hl=>by obtain ⟨_,_,_,rfl⟩:=of3 hl;rfl
 obtain ⟨a13,o13,d13,v13,x13,p13,n13,m13,y13,g13,l13,c13,k13⟩:=t13
 have F13:=qX (st:=q6u) l13 c13 k13
 have b13:=F13.binds (ps:=["row"]) fun _ _ _ _ _ _ us hl=>by obtain ⟨_,rfl⟩:=of1 hl;rfl
 obtain ⟨a14,o14,d14,v14,x14,p14,n14,m14,y14,g14,l14,c14,k14⟩:=t14
 have F14:=qX (st:=q2k) l14 c14 k14
 have b14:=F14.binds (ps:=["held"]) fun _ _ _ _ _ _ us hl=>by obtain ⟨_,rfl⟩:=of1 hl;rfl
 obtain ⟨a15,o15,d15,v15,x15,p15,n15,m15,y15,g15,l15,c15,k15⟩:=t15
 have F15:=qX (st:=q2j) l15 c15 k15
 have b15:=F15.binds (ps:=["held"]) fun _ _ _ _ _ _ us hl=>by obtain ⟨_,rfl⟩:=of1 hl;rfl
 obtain ⟨a16,o16,d16,v16,x16,p16,n16,m16,y16,g16,l16,c16,k16⟩:=t16
 have F16:=qX (st:=q0E) l16 c16 k16
 have b16:=F16.binds (ps:=["held","place"]) fun _ _ _ _ _ _ us hl=>by obtain ⟨_,_,rfl⟩:=of2 hl;rfl
 obtain ⟨a17,o17,d17,v17,x17,p17,n17,m17,y17,g17,l17,c17,k17⟩:=t17
 have F17:=qX (st:=q1N) l17 c17 k17
 have b17:=F17.binds (ps:=["held","place","number"]) fun _ _ _ _ _ _ us hl=>by obtain ⟨_,_,_,rfl⟩:=of3 hl;rfl
 obtain ⟨a18,o18,d18,v18,x18,p18,n18,m18,y18,g18,l18,c18,k18⟩:=t18
 have F18:=qX (st:=q1z) l18 c18 k18
 have b18:=F18.binds (ps:=["held","changes"]) fun _ _ _ _ _ _ us hl=>by obtain ⟨_,_,rfl⟩:=of2 hl;rfl
 obtain ⟨a19,o19,d19,v19,x19,p19,n19,m19,y19,g19,l19,c19,k19⟩:=t19
 have F19:=qX (st:=q1O) l19 c19 k19
 have b19:=F19.binds (ps:=["held","first","beyond"]) fun _ _ _ _ _ _ us hl=>by obtain ⟨_,_,_,rfl⟩:=of3 hl;rfl
 obtain ⟨a20,o20,d20,v20,x20,p20,n20,m20,y20,g20,l20,c20,k20⟩:=t20
 have F20:=qX (st:=q08) l20 c20 k20
 have b20:=F20.binds (ps:=["held","stretch"]) fun _ _ _ _ _ _ us hl=>by obtain ⟨_,_,rfl⟩:=of2 hl;rfl
 obtain ⟨a21,o21,d21,v21,x21,p21,n21,m21,y21,g21,l21,c21,k21⟩:=t21
 have F21:=qX (st:=q20) l21 c21 k21
 have b21:=F21.binds (ps:=["held","stretch"]) fun _ _ _ _ _ _ us hl=>by obtain ⟨_,_,rfl⟩:=of2 hl;rfl
 obtain ⟨a22,o22,d22,v22,x22,p22,n22,m22,y22,g22,l22,c22,k22⟩:=t22
 have F22:=qX (st:=q15) l22 c22 k22
 have b22:=F22.binds (ps:=["held"]) fun _ _ _ _ _ _ us hl=>by obtain ⟨_,rfl⟩:=of1 hl;rfl
 obtain ⟨a23,o23,d23,v23,x23,p23,n23,m23,y23,g23,l23,c23,k23⟩:=t23
 have F23:=qX (st:=q0Y) l23 c23 k23
 have b23:=F23.binds (ps:=["many","least","most"]) fun _ _ _ _ _ _ us hl=>by obtain ⟨_,_,_,rfl⟩:=of3 hl;rfl
 obtain ⟨a24,o24,d24,v24,x24,p24,n24,m24,y24,g24,l24,c24,k24⟩:=t24
 have F24:=qX (st:=q0h) l24 c24 k24
 have b24:=F24.binds (ps:=["firsts","ahead","first"]) fun _ _ _ _ _ _ us hl=>by obtain ⟨_,_,_,rfl⟩:=of3 hl;rfl
 obtain ⟨a25,o25,d25,v25,x25,p25,n25,m25,y25,g25,l25,c25,k25⟩:=t25
 have F25:=qX (st:=q0Z) l25 c25 k25
 have b25:=F25.binds (ps:=["row","least","most"]) fun _ _ _ _ _ _ us hl=>by obtain ⟨_,_,_,rfl⟩:=of3 hl;rfl
 obtain ⟨a26,o26,d26,v26,x26,p26,n26,m26,y26,g26,l26,c26,k26⟩:=t26
 have F26:=qX (st:=q07) l26 c26 k26
 have b26:=F26.binds (ps:=["many","least","gap"]) fun _ _ _ _ _ _ us hl=>by obtain ⟨_,_,_,rfl⟩:=of3 hl;rfl
 obtain ⟨a27,o27,d27,v27,x27,p27,n27,m27,y27,g27,l27,c27,k27⟩:=t27
 have F27:=qX (st:=q2D) l27 c27 k27
 have b27:=F27.binds (ps:=["numbers","gap"]) fun _ _ _ _ _ _ us hl=>by obtain ⟨_,_,rfl⟩:=of2 hl;rfl
 obtain ⟨a28,o28,d28,v28,x28,p28,n28,m28,y28,g28,l28,c28,k28⟩:=t28
 have F28:=qX (st:=q13) l28 c28 k28
 have b28:=F28.binds (ps:=["one","other"]) fun _ _ _ _ _ _ us hl=>by obtain ⟨_,_,rfl⟩:=of2 hl;rfl
 obtain ⟨a29,o29,d29,v29,x29,p29,n29,m29,y29,g29,l29,c29,k29⟩:=t29
 have F29:=qX (st:=q16) l29 c29 k29
 have b29:=F29.binds (ps:=["row","behind"]) fun _ _ _ _ _ _ us hl=>by obtain ⟨_,_,rfl⟩:=of2 hl;rfl
 obtain ⟨a30,o30,d30,v30,x30,p30,n30,m30,y30,g30,l30,c30,k30⟩:=t30
 have F30:=qX (st:=q1c) l30 c30 k30
 have b30:=F30.binds (ps:=["begun"]) fun _ _ _ _ _ _ us hl=>by obtain ⟨_,rfl⟩:=of1 hl;rfl
 obtain ⟨a31,o31,d31,v31,x31,p31,n31,m31,y31,g31,l31,c31,k31⟩:=t31
 have F31:=qX (st:=q0j) l31 c31 k31
 have b31:=F31.binds (ps:=["best","gap"]) fun _ _ _ _ _ _ us hl=>by obtain ⟨_,_,rfl⟩:=of2 hl;rfl
 obtain ⟨a32,o32,d32,v32,x32,p32,n32,m32,y32,g32,l32,c32,k32⟩:=t32
 have F32:=qX (st:=q2G) l32 c32 k32
 have b32:=F32.binds (ps:=["row","many","gap"]) fun _ _ _ _ _ _ us hl=>by obtain ⟨_,_,_,rfl⟩:=of3 hl;rfl
 obtain ⟨a33,o33,d33,v33,x33,p33,n33,m33,y33,g33,l33,c33,k33⟩:=t33
 have F33:=qX (st:=q14) l33 c33 k33
 have b33:=F33.binds (ps:=["line","start"]) fun _ _ _ _ _ _ us hl=>by obtain ⟨_,_,rfl⟩:=of2 hl;rfl
 obtain ⟨a34,o34,d34,v34,x34,p34,n34,m34,y34,g34,l34,c34,k34⟩:=t34
 have F34:=qX (st:=q0i) l34 c34 k34
 have b34:=F34.binds (ps:=["row","first","total","behind"]) fun _ _ _ _ _ _ us hl=>by obtain ⟨_,_,_,_,rfl⟩:=of4 hl;rfl
 obtain ⟨a35,o35,d35,v35,x35,p35,n35,m35,y35,g35,l35,c35,k35⟩:=t35
 have F35:=qX (st:=q0Q) l35 c35 k35
 have b35:=F35.binds (ps:=["row","lines","many","gap"]) fun _ _ _ _ _ _ us hl=>by obtain ⟨_,_,_,_,rfl⟩:=of4 hl;rfl
 obtain ⟨a36,o36,d36,v36,x36,p36,n36,m36,y36,g36,l36,c36,k36⟩:=t36
 have F36:=qX (st:=q0a) l36 c36 k36
 have b36:=F36.binds (ps:=["row","many","gap"]) fun _ _ _ _ _ _ us hl=>by obtain ⟨_,_,_,rfl⟩:=of3 hl;rfl
 obtain ⟨a37,o37,d37,v37,x37,p37,n37,m37,y37,g37,l37,c37,k37⟩:=t37
 have F37:=qX (st:=q06) l37 c37 k37
 have b37:=F37.binds (ps:=["row","many","gap"]) fun _ _ _ _ _ _ us hl=>by obtain ⟨_,_,_,rfl⟩:=of3 hl;rfl
 obtain ⟨a38,o38,d38,v38,x38,p38,n38,m38,y38,g38,l38,c38,k38⟩:=t38
 have F38:=qX (st:=q1y) l38 c38 k38
 have b38:=F38.binds (ps:=["held","place"]) fun _ _ _ _ _ _ us hl=>by obtain ⟨_,_,rfl⟩:=of2 hl;rfl
 obtain ⟨a39,o39,d39,v39,x39,p39,n39,m39,y39,g39,l39,c39,k39⟩:=t39
 have F39:=qX (st:=q1V) l39 c39 k39
 have b39:=F39.binds (ps:=["row"]) fun _ _ _ _ _ _ us hl=>by obtain ⟨_,rfl⟩:=of1 hl;rfl
 obtain ⟨a40,o40,d40,v40,x40,p40,n40,m40,y40,g40,l40,c40,k40⟩:=t40
 have F40:=qX (st:=q0k) l40 c40 k40
 have b40:=F40.binds (ps:=["word","most"]) fun _ _ _ _ _ _ us hl=>by obtain ⟨_,_,rfl⟩:=of2 hl;rfl
 obtain ⟨a41,o41,d41,v41,x41,p41,n41,m41,y41,g41,l41,c41,k41⟩:=t41
 have F41:=qX (st:=q1a) l41 c41 k41
 have b41:=F41.binds (ps:=["word"]) fun _ _ _ _ _ _ us hl=>by obtain ⟨_,rfl⟩:=of1 hl;rfl
 obtain ⟨a42,o42,d42,v42,x42,p42,n42,m42,y42,g42,l42,c42,k42⟩:=t42
 have F42:=qX (st:=q2E) l42 c42 k42
 have b42:=F42.binds (ps:=["text"]) fun _ _ _ _ _ _ us hl=>by obtain ⟨_,rfl⟩:=of1 hl;rfl
 obtain ⟨a43,o43,d43,v43,x43,p43,n43,m43,y43,g43,l43,c43,k43⟩:=t43
 have F43:=qX (st:=q1W) l43 c43 k43
 have b43:=F43.binds (ps:=["text"]) fun _ _ _ _ _ _ us hl=>by obtain ⟨_,rfl⟩:=of1 hl;rfl
 obtain ⟨a44,o44,d44,v44,x44,p44,n44,m44,y44,g44,l44,c44,k44⟩:=t44
 have F44:=qX (st:=q0T) l44 c44 k44
 have b44:=F44.binds (ps:=["word"]) fun _ _ _ _ _ _ us hl=>by obtain ⟨_,rfl⟩:=of1 hl;rfl
 obtain ⟨a45,o45,d45,v45,x45,p45,n45,m45,y45,g45,l45,c45,k45⟩:=t45
 have F45:=qX (st:=q0e) l45 c45 k45
 have b45:=F45.binds (ps:=["word"]) fun _ _ _ _ _ _ us hl=>by obtain ⟨_,rfl⟩:=of1 hl;rfl
 obtain ⟨a46,o46,d46,v46,x46,p46,n46,m46,y46,g46,l46,c46,k46⟩:=t46
 have F46:=qX (st:=q0U) l46 c46 k46
 have b46:=F46.binds (ps:=["words"]) fun _ _ _ _ _ _ us hl=>by obtain ⟨_,rfl⟩:=of1 hl;rfl
 obtain ⟨a47,o47,d47,v47,x47,p47,n47,m47,y47,g47,l47,c47,k47⟩:=t47
 have F47:=qX (st:=q0f) l47 c47 k47
 have b47:=F47.binds (ps:=["word","words"]) fun _ _ _ _ _ _ us hl=>by obtain ⟨_,_,rfl⟩:=of2 hl;rfl
 obtain ⟨a48,o48,d48,v48,x48,p48,n48,m48,y48,g48,l48,c48,k48⟩:=t48
 have F48:=qX (st:=q0F) l48 c48 k48
 have b48:=F48.binds (ps:=["told"]) fun _ _ _ _ _ _ us hl=>by obtain ⟨_,rfl⟩:=of1 hl;rfl
 obtain ⟨a49,o49,d49,v49,x49,p49,n49,m49,y49,g49,l49,c49,k49⟩:=t49
 have F49:=qX (st:=q5c) l49 c49 k49
 have b49:=F49.binds (ps:=["row","many","gap"]) fun _ _ _ _ _ _ us hl=>by obtain ⟨_,_,_,rfl⟩:=of3 hl;rfl
 obtain ⟨a50,o50,d50,v50,x50,p50,n50,m50,y50,g50,l50,c50,k50⟩:=t50
 have F50:=qX (st:=q1d) l50 c50 k50
 have b50:=F50.binds (ps:=["held","word","numbers"]) fun _ _ _ _ _ _ us hl=>by obtain ⟨_,_,_,rfl⟩:=of3 hl;rfl
 obtain ⟨a51,o51,d51,v51,x51,p51,n51,m51,y51,g51,l51,c51,k51⟩:=t51
 have F51:=qX (st:=q0S) l51 c51 k51
 have b51:=F51.binds (ps:=["answer"]) fun _ _ _ _ _ _ us hl=>by obtain ⟨_,rfl⟩:=of1 hl;rfl
 obtain ⟨a52,o52,d52,v52,x52,p52,n52,m52,y52,g52,l52,c52,k52⟩:=t52
 have F52:=qX (st:=q2K) l52 c52 k52
 have b52:=F52.binds (ps:=["held"]) fun _ _ _ _ _ _ us hl=>by obtain ⟨_,rfl⟩:=of1 hl;rfl
 obtain ⟨a53,fn53,o53,d53,v53,x53,p53,n53,m53,y53,g53,l53,c53,k53⟩:=t53
 have F53:=qX (st:=q1e) l53 c53 k53
 have b53:=F53.binds (ps:=["self"]) fun _ _ _ _ _ _ us hl=>by obtain ⟨_,rfl⟩:=of1 hl;rfl
 obtain ⟨a54,fn54,o54,d54,v54,x54,p54,n54,m54,y54,g54,l54,c54,k54⟩:=t54
 have F54:=qX (st:=q2M) l54 c54 k54
 have b54:=F54.binds (ps:=["self","row"]) fun _ _ _ _ _ _ us hl=>by obtain ⟨_,_,rfl⟩:=of2 hl;rfl
 obtain ⟨a55,fn55,o55,d55,v55,x55,p55,n55,m55,y55,g55,l55,c55,k55⟩:=t55
 have F55:=qX (st:=q1P) l55 c55 k55
 have b55:=F55.binds (ps:=["self","changes"]) fun _ _ _ _ _ _ us hl=>by obtain ⟨_,_,rfl⟩:=of2 hl;rfl
 obtain ⟨a56,fn56,o56,d56,v56,x56,p56,n56,m56,y56,g56,l56,c56,k56⟩:=t56
 have F56:=qX (st:=q0r) l56 c56 k56
 have b56:=F56.binds (ps:=["self"]) fun _ _ _ _ _ _ us hl=>by obtain ⟨_,rfl⟩:=of1 hl;rfl
 obtain ⟨a57,fn57,o57,d57,v57,x57,p57,n57,m57,y57,g57,l57,c57,k57⟩:=t57
 have F57:=qX (st:=q0s) l57 c57 k57
 have b57:=F57.binds (ps:=["self"]) fun _ _ _ _ _ _ us hl=>by obtain ⟨_,rfl⟩:=of1 hl;rfl
 obtain ⟨a58,fn58,o58,d58,v58,x58,p58,n58,m58,y58,g58,l58,c58,k58⟩:=t58
 have F58:=qX (st:=q2L) l58 c58 k58
 have b58:=F58.binds (ps:=["self","row"]) fun _ _ _ _ _ _ us hl=>by obtain ⟨_,_,rfl⟩:=of2 hl;rfl
 obtain ⟨a59,o59,d59,v59,x59,p59,n59,m59,y59,g59,l59,c59,k59⟩:=t59
 have F59:=qX (st:=q1Y) l59 c59 k59
 have b59:=F59.binds (ps:=["e"]) fun _ _ _ _ _ _ us hl=>by obtain ⟨_,rfl⟩:=of1 hl;rfl
 obtain ⟨a60,o60,d60,v60,x60,p60,n60,m60,y60,g60,l60,c60,k60⟩:=t60
 have F60:=qX (st:=q2H) l60 c60 k60
 have b60:=F60.binds (ps:=["desk","row"]) fun _ _ _ _ _ _ us hl=>by obtain ⟨_,_,rfl⟩:=of2 hl;rfl
 obtain ⟨a61,o61,d61,v61,x61,p61,n61,m61,y61,g61,l61,c61,k61⟩:=t61
 have F61:=qX (st:=q2m) l61 c61 k61
 have b61:=F61.binds (ps:=["at"]) fun _ _ _ _ _ _ us hl=>by obtain ⟨_,rfl⟩:=of1 hl;rfl
 obtain ⟨a62,o62,d62,v62,x62,p62,n62,m62,y62,g62,l62,c62,k62⟩:=t62
 have F62:=qX (st:=q0g) l62 c62 k62
 have b62:=F62.binds (ps:=["cell","many"]) fun _ _ _ _ _ _ us hl=>by obtain ⟨_,_,rfl⟩:=of2 hl;rfl
 obtain ⟨a63,o63,d63,v63,x63,p63,n63,m63,y63,g63,l63,c63,k63⟩:=t63
 have F63:=qX (st:=q1X) l63 c63 k63
 have b63:=F63.binds (ps:=["numbers"]) fun _ _ _ _ _ _ us hl=>by obtain ⟨_,rfl⟩:=of1 hl;rfl
 obtain ⟨a64,o64,d64,v64,x64,p64,n64,m64,y64,g64,l64,c64,k64⟩:=t64
 have F64:=qX (st:=q10) l64 c64 k64
 have b64:=F64.binds (ps:=["numbers","k"]) fun _ _ _ _ _ _ us hl=>by obtain ⟨_,_,rfl⟩:=of2 hl;rfl
 obtain ⟨a65,o65,d65,v65,x65,p65,n65,m65,y65,g65,l65,c65,k65⟩:=t65
 have F65:=qX (st:=q1Z) l65 c65 k65
 have b65:=F65.binds (ps:=["row","word","one","other"]) fun _ _ _ _ _ _ us hl=>by obtain ⟨_,_,_,_,rfl⟩:=of4 hl;rfl
 obtain ⟨a66,o66,d66,v66,x66,p66,n66,m66,y66,g66,l66,c66,k66⟩:=t66
 have F66:=qX (st:=q11) l66 c66 k66
 have b66:=F66.binds (ps:=["row","word","one","other"]) fun _ _ _ _ _ _ us hl=>by obtain ⟨_,_,_,_,rfl⟩:=of4 hl;rfl
 obtain ⟨a67,o67,d67,v67,x67,p67,n67,m67,y67,g67,l67,c67,k67⟩:=t67
 have F67:=qX (st:=q2l) l67 c67 k67
 have b67:=F67.binds (ps:=["mine","numbers"]) fun _ _ _ _ _ _ us hl=>by obtain ⟨_,_,rfl⟩:=of2 hl;rfl
 obtain ⟨a68,o68,d68,v68,x68,p68,n68,m68,y68,g68,l68,c68,k68⟩:=t68
 have F68:=qX (st:=q0z) l68 c68 k68
 have b68:=F68.binds (ps:=["mine","word"]) fun _ _ _ _ _ _ us hl=>by obtain ⟨_,_,rfl⟩:=of2 hl;rfl
 obtain ⟨a69,o69,d69,v69,x69,p69,n69,m69,y69,g69,l69,c69,k69⟩:=t69
 have F69:=qX (st:=q2I) l69 c69 k69
 have b69:=F69.binds (ps:=["mine","numbers"]) fun _ _ _ _ _ _ us hl=>by obtain ⟨_,_,rfl⟩:=of2 hl;rfl
 obtain ⟨a70,o70,d70,v70,x70,p70,n70,m70,y70,g70,l70,c70,k70⟩:=t70
 have F70:=qX (st:=q6P) l70 c70 k70
 have b70:=F70.binds (ps:=["script"]) fun _ _ _ _ _ _ us hl=>by obtain ⟨_,rfl⟩:=of1 hl;rfl
 refine ⟨PySem.W.fnOf "law" "law" (q1i q6P) (q0t q6P) (qH q6P) .none v70 x70 p70 n70 m70 y70,fun s v=>.of_eq rfl,fun base KB _=>?_⟩
 have Y:Errs mg C0 C1 C2 C3 C4 C5 C6 C7 C8:=⟨PySem.W.mg_of X G e0,PySem.W.mg_of X G e1,PySem.W.mg_of X G e2,PySem.W.mg_of X G e3,PySem.W.mg_of X G e4,PySem.W.mg_of X G e5,PySem.W.mg_of X G e6,PySem.W.mg_of X G e7,PySem.W.mg_of X G e8,PySem.W.mg_none_of X G ev⟩
 have O_NoStretch:PyProof.Rows.OwnCls "NoStretch" C1 bmV "ValueError.__new__" mg base:=q4Z KB (PySem.W.mg_of X G e1) q1
 have W_NoStretch:=w1
 have O_NoLength:PyProof.Rows.OwnCls "NoLength" C2 bmV "ValueError.__new__" mg base:=q4Z KB (PySem.W.mg_of X G e2) q2
 have W_NoLength:=w2
 have O_NoCount:PyProof.Rows.OwnCls "NoCount" C3 bmV "ValueError.__new__" mg base:=q4Z KB (PySem.W.mg_of X G e3) q3
 have W_NoCount:=w3
 have O_NoPlace:PyProof.Rows.OwnCls "NoPlace" C4 bmV "ValueError.__new__" mg base:=q4Z KB (PySem.W.mg_of X G e4) q4
 have W_NoPlace:=w4
 have O_NoneYet:PyProof.Rows.OwnCls "NoneYet" C7 bmV "ValueError.__new__" mg base:=q4Z KB (PySem.W.mg_of X G e7) q7
 have W_NoneYet:=w7
 have O_NoRound:PyProof.Rows.OwnCls "NoRound" C8 bmV "ValueError.__new__" mg base:=q4Z KB (PySem.W.mg_of X G e8) q8
 have W_NoRound:=w8
 have DD:DC K CD:=⟨⟨dk1,dk2,dk3,dk4⟩,dn_held,dn_earlier,dn_undone⟩
 have NB:NumD K w AB nbl:=⟨⟨es,nn,nb2,nb3⟩,nb4⟩
 have CC:Cons mg:=⟨⟨_,PySem.W.mg_of X G cc_BEST⟩,⟨_,PySem.W.mg_of X G cc_FIGURES⟩,⟨_,PySem.W.mg_of X G cc_HEAD⟩,⟨_,PySem.W.mg_of X G cc_KNOWN⟩,⟨_,PySem.W.mg_of X G cc_LEFT⟩,⟨_,PySem.W.mg_of X G cc_MANY⟩,⟨_,PySem.W.mg_of X G cc_MOST_FIGURES_desk⟩,⟨_,PySem.W.mg_of X G cc_MOST_FIGURES_texts⟩,⟨_,PySem.W.mg_of X G cc_MOST_PAIRS⟩,⟨_,PySem.W.mg_of X G cc_RIGHT⟩,⟨_,PySem.W.mg_of X G cc_ROUND⟩,⟨_,PySem.W.mg_of X G cc_TAIL⟩,⟨_,PySem.W.mg_of X G cc_TOTAL⟩⟩
 have D_is_whole:Def l.prog w K mg base 6 "is_whole" ["thing"] (q2d):=⟨_,_,ok_whole (k:=5) F0 Z,b0,k0,PySem.W.mg_of X G a0⟩
 have D_is_stretch:Def l.prog w K mg base 7 "is_stretch" ["stretch","many"] (q0w):=⟨_,_,q5k (k:=6) F1 Z (D_is_whole.mono (by decide)),b1,k1,PySem.W.mg_of X G a1⟩
 have D_best_of:Def l.prog w K mg base 8 "best_of" ["row"] (q1L):=⟨_,_,ok_bestof (k:=7) F2 Z,b2,k2,PySem.W.mg_of X G a2⟩
 have DE_best_of:DefE l.prog w K mg base 9 "best_of" ["row"] (q1L):=Def.toE (D_best_of.mono (by decide))
 have D_sums_ahead:Def l.prog w K mg base 10 "sums_ahead" ["row"] (q3T):=⟨_,_,ok_ahead (k:=9) F3 Z,b3,k3,PySem.W.mg_of X G a3⟩
 have D_order_of:Def l.prog w K mg base 11 "order_of" ["stretch"] (q4w):=⟨_,_,ok_order (k:=10) F4 Z,b4,k4,PySem.W.mg_of X G a4⟩
 have D_better_of:Def l.prog w K mg base 13 "better_of" ["one","other"] (q1v):=⟨_,_,ok_better (k:=11) F5 Z (D_order_of.mono (by decide)),b5,k5,PySem.W.mg_of X G a5⟩
 have D_moved:Def l.prog w K mg base 14 "moved" ["stretch","places"] (q29):=⟨_,_,ok_moved (k:=13) F6 Z,b6,k6,PySem.W.mg_of X G a6⟩
 have D_side_by_side:Def l.prog w K mg base 15 "side_by_side" ["one","other"] (q4r):=⟨_,_,ok_side (k:=14) F7 Z,b7,k7,PySem.W.mg_of X G a7⟩
 have D_joined_round:Def l.prog w K mg base 16 "joined_round" ["one","other"] (q3j):=⟨_,_,ok_jround (k:=15) F8 Z CC (D_better_of.mono (by decide)) (D_moved.mono (by decide)) (D_side_by_side.mono (by decide)),b8,k8,PySem.W.mg_of X G a8⟩
 have D_joined:Def l.prog w K mg base 17 "joined" ["one","other"] (q1s):=⟨_,_,ok_joined (k:=16) F9 Z CC (D_better_of.mono (by decide)) (D_moved.mono (by decide)) (D_side_by_side.mono (by decide)) (D_joined_round.mono (by decide)),b9,k9,PySem.W.mg_of X G a9⟩
 have D_single:Def l.prog w K mg base 18 "single" ["number"] (q1H):=⟨_,_,ok_single (k:=17) F10 Z,b10,k10,PySem.W.mg_of X G a10⟩
 have D_paired:Def l.prog w K mg base 19 "paired" ["left","right"] (q1I):=⟨_,_,ok_paired (k:=18) F11 Z CC (D_joined.mono (by decide)),b11,k11,PySem.W.mg_of X G a11⟩
 have D_halved:Def l.prog w K mg base 33 "halved" ["row","first","beyond"] (q0p 13):=⟨_,_,q4X (k:=20) F12 Z b12 k12 (PySem.W.mg_of X G a12) (D_single.mono (by decide)) (D_paired.mono (by decide)) 13,b12,k12,PySem.W.mg_of X G a12⟩
 have D_kept:Def l.prog w K mg base 34 "kept" ["row"] (q3i):=⟨_,_,ok_kept (k:=33) F13 Z (D_halved.mono (by decide)),b13,k13,PySem.W.mg_of X G a13⟩
 have DE_kept:DefE l.prog w K mg base 35 "kept" ["row"] (q3i):=Def.toE (D_kept.mono (by decide))
 have D_many_of:Def l.prog w K mg base 36 "many_of" ["held"] (q0B):=⟨_,_,ok_many (k:=35) F14 Z CC,b14,k14,PySem.W.mg_of X G a14⟩
 have DE_many_of:DefE l.prog w K mg base 37 "many_of" ["held"] (q0B):=Def.toE (D_many_of.mono (by decide))
 have D_row_of:Def l.prog w K mg base 50 "row_of" ["held"] (q0v 13):=⟨_,_,q5d (k:=37) F15 Z CC b15 k15 (PySem.W.mg_of X G a15) 13,b15,k15,PySem.W.mg_of X G a15⟩
 have DE_row_of:DefE l.prog w K mg base 51 "row_of" ["held"] (q0v 13):=Def.toE (D_row_of.mono (by decide))
 have D_refuse_place:Def l.prog w K mg base 52 "refuse_place" ["held","place"] (q3g):=⟨_,_,ok_rpl (k:=51) F16 Z (D_is_whole.mono (by decide)) (D_many_of.mono (by decide)),b16,k16,PySem.W.mg_of X G a16⟩
 have DE_refuse_place:DefE l.prog w K mg base 53 "refuse_place" ["held","place"] (q4t C4):=⟨_,_,ok_rplE (k:=52) F16 Z (D_is_whole.mono (by decide)) (D_many_of.mono (by decide)) O_NoPlace,b16,k16,PySem.W.mg_of X G a16⟩
 have D_with_put:Def l.prog w K mg base 67 "with_put" ["held","place","number"] (q3E 13):=⟨_,_,rec_put (k:=54) F17 Z CC b17 k17 (PySem.W.mg_of X G a17) (D_single.mono (by decide)) (D_paired.mono (by decide)) (D_many_of.mono (by decide)) 13,b17,k17,PySem.W.mg_of X G a17⟩
 have D_changed:Def l.prog w K mg base 68 "changed" ["held","changes"] (q1K):=⟨_,_,q4c (k:=67) F18 Z (D_refuse_place.mono (by decide)) (D_with_put.mono (by decide)),b18,k18,PySem.W.mg_of X G a18⟩
 have DE_changed:DefE l.prog w K mg base 69 "changed" ["held","changes"] (q2W C4):=⟨_,_,q6W (k:=68) F18 Z (D_refuse_place.mono (by decide)) (D_with_put.mono (by decide)) (DE_refuse_place.mono (by decide)),b18,k18,PySem.W.mg_of X G a18⟩
 have D_known_of:Def l.prog w K mg base 83 "known_of" ["held","first","beyond"] (q0P 13):=⟨_,_,q5e (k:=70) F19 Z CC b19 k19 (PySem.W.mg_of X G a19) (D_joined.mono (by decide)) (D_many_of.mono (by decide)) 13,b19,k19,PySem.W.mg_of X G a19⟩
 have D_known_of_part:Def l.prog w K mg base 84 "known_of_part" ["held","stretch"] (q1U):=⟨_,_,q6y (k:=83) F20 Z (D_is_stretch.mono (by decide)) (D_many_of.mono (by decide)) (D_known_of.mono (by decide)),b20,k20,PySem.W.mg_of X G a20⟩
 have DE_known_of_part:DefE l.prog w K mg base 85 "known_of_part" ["held","stretch"] (q3C q1U C1):=⟨_,_,ok_kpartE (k:=84) F20 Z (D_is_stretch.mono (by decide)) (D_many_of.mono (by decide)) (D_known_of.mono (by decide)) O_NoStretch,b20,k20,PySem.W.mg_of X G a20⟩
 have D_best_in:Def l.prog w K mg base 86 "best_in" ["held","stretch"] (q1M):=⟨_,_,q5m (k:=85) F21 Z CC (D_moved.mono (by decide)) (D_known_of_part.mono (by decide)),b21,k21,PySem.W.mg_of X G a21⟩
 have DE_best_in:DefE l.prog w K mg base 87 "best_in" ["held","stretch"] (q3C q1M C1):=⟨_,_,q7W (k:=86) F21 Z CC (D_moved.mono (by decide)) (D_known_of_part.mono (by decide)) (DE_known_of_part.mono (by decide)),b21,k21,PySem.W.mg_of X G a21⟩
 have D_best_round:Def l.prog w K mg base 88 "best_round" ["held"] (q1u):=⟨_,_,ok_bround (k:=87) F22 Z CC (D_better_of.mono (by decide)) (D_many_of.mono (by decide)),b22,k22,PySem.W.mg_of X G a22⟩
 have DE_best_round:DefE l.prog w K mg base 89 "best_round" ["held"] (q1u):=Def.toE (D_best_round.mono (by decide))
 have D_longest_of:Def l.prog w K mg base 90 "longest_of" ["many","least","most"] (q1J):=⟨_,_,q4b (k:=89) F23 Z,b23,k23,PySem.W.mg_of X G a23⟩
 have DE_longest_of:DefE l.prog w K mg base 91 "longest_of" ["many","least","most"] (q2V C2):=⟨_,_,q6V (k:=90) F23 Z O_NoLength,b23,k23,PySem.W.mg_of X G a23⟩
 have D_enter_first:Def l.prog w K mg base 92 "enter_first" ["firsts","ahead","first"] (q3S):=⟨_,_,ok_enter (k:=91) F24 Z,b24,k24,PySem.W.mg_of X G a24⟩
 have DE_best_sized:DefE l.prog w K mg base 93 "best_sized" ["row","least","most"] (q2e C2):=⟨_,_,ok_sizedE (k:=92) F25 Z (D_longest_of.mono (by decide)) (D_sums_ahead.mono (by decide)) (D_enter_first.mono (by decide)) (DE_longest_of.mono (by decide)),b25,k25,PySem.W.mg_of X G a25⟩
 have D_refuse_counts:Def l.prog w K mg base 94 "refuse_counts" ["many","least","gap"] (q0q):=⟨_,_,q5l (k:=93) F26 Z,b26,k26,PySem.W.mg_of X G a26⟩
 have DE_refuse_counts:DefE l.prog w K mg base 95 "refuse_counts" ["many","least","gap"] (q2B C3):=⟨_,_,q7V (k:=94) F26 Z O_NoCount,b26,k26,PySem.W.mg_of X G a26⟩
 have D_room_for:Def l.prog w K mg base 96 "room_for" ["numbers","gap"] (q31):=⟨_,_,ok_room (k:=95) F27 Z,b27,k27,PySem.W.mg_of X G a27⟩
 have D_greater_of:Def l.prog w K mg base 97 "greater_of" ["one","other"] (q3P):=⟨_,_,ok_great (k:=96) F28 Z,b28,k28,PySem.W.mg_of X G a28⟩
 have D_begun_line:Def l.prog w K mg base 98 "begun_line" ["row","behind"] (q51):=⟨_,_,ok_begun (k:=97) F29 Z (D_greater_of.mono (by decide)),b29,k29,PySem.W.mg_of X G a29⟩
 have D_best_line:Def l.prog w K mg base 99 "best_line" ["begun"] (q50):=⟨_,_,ok_bestl (k:=98) F30 Z (D_greater_of.mono (by decide)),b30,k30,PySem.W.mg_of X G a30⟩
 have D_behind_line:Def l.prog w K mg base 100 "behind_line" ["best","gap"] (q6I):=⟨_,_,ok_behl (k:=99) F31 Z,b31,k31,PySem.W.mg_of X G a31⟩
 have D_lines_of:Def l.prog w K mg base 101 "lines_of" ["row","many","gap"] (q2A):=⟨_,_,ok_lines (k:=100) F32 Z (D_begun_line.mono (by decide)) (D_best_line.mono (by decide)) (D_behind_line.mono (by decide)),b32,k32,PySem.W.mg_of X G a32⟩
 have D_first_from:Def l.prog w K mg base 102 "first_from" ["line","start"] (q4y):=⟨_,_,ok_first (k:=101) F33 Z,b33,k33,PySem.W.mg_of X G a33⟩
 have D_beyond_from:Def l.prog w K mg base 103 "beyond_from" ["row","first","total","behind"] (q3m):=⟨_,_,ok_beyond (k:=102) F34 Z,b34,k34,PySem.W.mg_of X G a34⟩
 have D_stretches_of:Def l.prog w K mg base 104 "stretches_of" ["row","lines","many","gap"] (q4q):=⟨_,_,ok_strs (k:=103) F35 Z (D_first_from.mono (by decide)) (D_beyond_from.mono (by decide)),b35,k35,PySem.W.mg_of X G a35⟩
 have DE_best_apart:DefE l.prog w K mg base 105 "best_apart" ["row","many","gap"] (badC C3 1 q2h):=⟨_,_,ok_apartE (k:=104) F36 Z (D_refuse_counts.mono (by decide)) (D_room_for.mono (by decide)) (D_lines_of.mono (by decide)) (D_stretches_of.mono (by decide)) (DE_refuse_counts.mono (by decide)),b36,k36,PySem.W.mg_of X G a36⟩
 have D_several_paper:Def l.prog w K mg base 106 "several_paper" ["row","many","gap"] (q0X):=⟨_,_,q5j (k:=105) F37 Z (D_refuse_counts.mono (by decide)) (D_lines_of.mono (by decide)),b37,k37,PySem.W.mg_of X G a37⟩
 have DE_several_paper:DefE l.prog w K mg base 107 "several_paper" ["row","many","gap"] (badC C3 1 q0X):=⟨_,_,q7S (k:=106) F37 Z (D_refuse_counts.mono (by decide)) (D_lines_of.mono (by decide)) (DE_refuse_counts.mono (by decide)),b37,k37,PySem.W.mg_of X G a37⟩
 have DE_must_be:DefE l.prog w K mg base 108 "must_be" ["held","place"] (q3N C4):=⟨_,_,ok_mustE (k:=107) F38 Z CC (D_refuse_place.mono (by decide)) (D_many_of.mono (by decide)) (D_known_of.mono (by decide)) (DE_refuse_place.mono (by decide)),b38,k38,PySem.W.mg_of X G a38⟩
 have D_shown_row:Def l.prog w K mg base 109 "shown_row" ["row"] (q2f):=⟨_,_,ok_shown (k:=108) F39 Z,b39,k39,PySem.W.mg_of X G a39⟩
 have D_are_figures:Def l.prog w K mg base 110 "are_figures" ["word","most"] (q3R):=⟨_,_,ok_figsQ (k:=109) F40 Z CC,b40,k40,PySem.W.mg_of X G a40⟩
 have D_is_number:Def l.prog w K mg base 111 "is_number" ["word"] (q3O):=⟨_,_,ok_isnum (k:=110) F41 Z CC (Def.imp (D_are_figures.mono (by decide)) figs30),b41,k41,PySem.W.mg_of X G a41⟩
 have D_read_row:Def l.prog w K mg base 112 "read_row" ["text"] (q2U):=⟨_,_,ok_read (k:=111) F42 Z (D_is_number.mono (by decide)),b42,k42,PySem.W.mg_of X G a42⟩
 have D_read_text:Def l.prog w K mg base 113 "read_text" ["text"] (q2U):=⟨_,_,ok_rtext (k:=112) F43 (D_read_row.mono (by decide)),b43,k43,PySem.W.mg_of X G a43⟩
 have DE_read_text:DefE l.prog w K mg base 114 "read_text" ["text"] (q2U):=Def.toE (D_read_text.mono (by decide))
 have D_read_figures:Def l.prog w K mg base 115 "read_figures" ["word"] (q4u):=⟨_,_,ok_rfig (k:=114) F44 Z CC (D_are_figures.mono (by decide)),b44,k44,PySem.W.mg_of X G a44⟩
 have D_read_number:Def l.prog w K mg base 116 "read_number" ["word"] (q6D):=⟨_,_,ok_rnum (k:=115) F45 Z (D_is_number.mono (by decide)),b45,k45,PySem.W.mg_of X G a45⟩
 have D_read_changes:Def l.prog w K mg base 117 "read_changes" ["words"] (q6E):=⟨_,_,ok_rchg (k:=116) F46 Z CC (D_read_figures.mono (by decide)) (D_read_number.mono (by decide)),b46,k46,PySem.W.mg_of X G a46⟩
 have D_read_behind:Def l.prog w K mg base 118 "read_behind" ["word","words"] (q4v):=⟨_,_,ok_rbeh (k:=117) F47 Z NB (PySem.W.mg_of X G nb1) (D_read_changes.mono (by decide)) (D_read_figures.mono (by decide)),b47,k47,PySem.W.mg_of X G a47⟩
 have DE_read_behind:DefE l.prog w K mg base 119 "read_behind" ["word","words"] (q4v):=Def.toE (D_read_behind.mono (by decide))
 have D_with_stretches:Def l.prog w K mg base 120 "with_stretches" ["told"] (q3M):=⟨_,_,ok_withs (k:=119) F48 Z,b48,k48,PySem.W.mg_of X G a48⟩
 have DE_with_stretches:DefE l.prog w K mg base 121 "with_stretches" ["told"] (q3M):=Def.toE (D_with_stretches.mono (by decide))
 have DE_bars:DefE l.prog w K mg base 122 "bars" ["row","many","gap"] (q52 C3):=⟨_,_,ok_barsE (k:=121) F49 Z (D_room_for.mono (by decide)) (D_several_paper.mono (by decide)) (DE_several_paper.mono (by decide)) O_NoCount,b49,k49,PySem.W.mg_of X G a49⟩
 have DE_answer_of:DefE l.prog w K mg base 123 "answer_of" ["held","word","numbers"] (q6J C1 C2 C3 C4):=⟨_,_,ok_ansE (k:=122) F50 Z (DE_many_of.mono (by decide)) (DE_best_in.mono (by decide)) (DE_best_sized.mono (by decide)) (DE_row_of.mono (by decide)) (DE_best_round.mono (by decide)) (DE_with_stretches.mono (by decide)) (DE_best_apart.mono (by decide)) (DE_bars.mono (by decide)) (DE_must_be.mono (by decide)),b50,k50,PySem.W.mg_of X G a50⟩
 have D_shown_answer:Def l.prog w K mg base 124 "shown_answer" ["answer"] (q4s):=⟨_,_,ok_sans (k:=123) F51 Z (D_shown_row.mono (by decide)),b51,k51,PySem.W.mg_of X G a51⟩
 have DE_shown_answer:DefE l.prog w K mg base 125 "shown_answer" ["answer"] (q4s):=Def.toE (D_shown_answer.mono (by decide))
 have D_best_sum:Def l.prog w K mg base 126 "best_sum" ["held"] (q1t):=⟨_,_,ok_bsum (k:=125) F52 Z (D_many_of.mono (by decide)) (D_best_in.mono (by decide)) (D_shown_row.mono (by decide)),b52,k52,PySem.W.mg_of X G a52⟩
 have ND_Desk:NDef l.prog w K mg base 127 CD "Desk" ["self"] (q6G CD):=⟨_,_,ok_init (k:=126) F53 Z DD,b53,⟨dk5,a53,fn53,dk6⟩,PySem.W.mg_of X G dk⟩
 have ME_Desk_lay:MDef (CXE l.prog w) l.prog w K mg base 128 CD "lay" ["self","row"] (sp_lay CD):=⟨_,_,(ok_lay (k:=127) F54 Z DD (D_kept.mono (by decide)) (D_shown_row.mono (by decide))).toE,b54,⟨a54,fn54,k54⟩⟩
 have ME_Desk_put:MDef (CXE l.prog w) l.prog w K mg base 129 CD "put" ["self","changes"] (q4z CD C4):=⟨_,_,ok_dputE (k:=128) F55 Z DD (D_changed.mono (by decide)) (D_best_sum.mono (by decide)) (DE_changed.mono (by decide)),b55,⟨a55,fn55,k55⟩⟩
 have ME_Desk_undo:MDef (CXE l.prog w) l.prog w K mg base 130 CD "undo" ["self"] (q3k CD C8):=⟨_,_,ok_dundoE (k:=129) F56 Z DD (D_best_sum.mono (by decide)) O_NoRound,b56,⟨a56,fn56,k56⟩⟩
 have ME_Desk_redo:MDef (CXE l.prog w) l.prog w K mg base 131 CD "redo" ["self"] (q3l CD C8):=⟨_,_,ok_dredoE (k:=130) F57 Z DD (D_best_sum.mono (by decide)) O_NoRound,b57,⟨a57,fn57,k57⟩⟩
 have ME_Desk_say:MDef (CXE l.prog w) l.prog w K mg base 132 CD "say" ["self","row"] (sp_say CD (clsD C1 C2 C3 C4 C7 C8)):=⟨_,_,ok_say (k:=131) F58 Z DD q6l (DE_read_text.mono (by decide)) (DE_read_behind.mono (by decide)) (ME_Desk_lay.mono (by decide)) (ME_Desk_put.mono (by decide)) (ME_Desk_undo.mono (by decide)) (ME_Desk_redo.mono (by decide)) (DE_shown_answer.mono (by decide)) (DE_answer_of.mono (by decide)) O_NoneYet,b58,⟨a58,fn58,k58⟩⟩
 have D_law_flags:Def l.prog w K mg base 133 "_law_flags" ["e"] (q3Q K C0 C1 C2 C3 C4 C5 C6 C7 C8):=⟨_,_,ok_flags (k:=132) F59 Z Y,b59,k59,PySem.W.mg_of X G a59⟩
 have D_law_said:Def l.prog w K mg base 134 "_law_said" ["desk","row"] (q6C CD):=⟨_,_,ok_said (k:=133) F60 Y ⟨W_NoStretch,W_NoLength,W_NoCount,W_NoPlace,W_NoneYet,W_NoRound⟩ DD (ME_Desk_say.mono (by decide)) (D_law_flags.mono (by decide)),b60,k60,PySem.W.mg_of X G a60⟩
 have D_law_due:Def l.prog w K mg base 135 "_law_due" ["at"] (q4U):=⟨_,_,ok_due (k:=134) F61 Z,b61,k61,PySem.W.mg_of X G a61⟩
 have D_law_numbers:Def l.prog w K mg base 136 "_law_numbers" ["cell","many"] (q32):=⟨_,_,q7T (k:=135) F62 Z,b62,k62,PySem.W.mg_of X G a62⟩
 have D_law_shown:Def l.prog w K mg base 137 "_law_shown" ["numbers"] (q2g):=⟨_,_,ok_lshown (k:=136) F63 Z,b63,k63,PySem.W.mg_of X G a63⟩
 have D_law_number:Def l.prog w K mg base 138 "_law_number" ["numbers","k"] (q4x):=⟨_,_,ok_lnum (k:=137) F64 Z,b64,k64,PySem.W.mg_of X G a64⟩
 have DE_law_asked:DefE l.prog w K mg base 139 "_law_asked" ["row","word","one","other"] (q3h C1 C2 C3 C4):=⟨_,_,ok_lasked (k:=138) F65 Z (DE_best_of.mono (by decide)) (DE_kept.mono (by decide)) (DE_best_round.mono (by decide)) (DE_best_sized.mono (by decide)) (DE_must_be.mono (by decide)) (DE_best_apart.mono (by decide)) (DE_several_paper.mono (by decide)),b65,k65,PySem.W.mg_of X G a65⟩
 have D_law_answer:Def l.prog w K mg base 140 "_law_answer" ["row","word","one","other"] (q33):=⟨_,_,q7U (k:=139) F66 Z Y ⟨W_NoStretch,W_NoLength,W_NoCount,W_NoPlace,W_NoneYet,W_NoRound⟩ (D_law_due.mono (by decide)) (D_law_flags.mono (by decide)) (D_law_shown.mono (by decide)) (DE_law_asked.mono (by decide)),b66,k66,PySem.W.mg_of X G a66⟩
 have D_law_put:Def l.prog w K mg base 141 "_law_put" ["mine","numbers"] (q6F):=⟨_,_,ok_lput (k:=140) F67 Z (D_law_due.mono (by decide)) (D_best_of.mono (by decide)) (D_law_number.mono (by decide)),b67,k67,PySem.W.mg_of X G a67⟩
 have D_law_turned:Def l.prog w K mg base 142 "_law_turned" ["mine","word"] (q3f):=⟨_,_,ok_turned (k:=141) F68 Z (D_law_due.mono (by decide)) (D_best_of.mono (by decide)),b68,k68,PySem.W.mg_of X G a68⟩
 have D_law_deed:Def l.prog w K mg base 143 "_law_deed" ["mine","numbers"] (q6H):=⟨_,_,ok_deed (k:=142) F69 Z (D_law_number.mono (by decide)) (D_law_shown.mono (by decide)) (D_law_put.mono (by decide)) (D_law_turned.mono (by decide)) (D_law_answer.mono (by decide)),b69,k69,PySem.W.mg_of X G a69⟩
 exact FnOk.mono (k:=147) (ok_law (k:=143) F70 Z (ND_Desk.mono (by decide)) (D_law_said.mono (by decide)) (D_law_due.mono (by decide)) (D_law_numbers.mono (by decide)) (D_law_deed.mono (by decide))) (by decide)
theorem walk {l:PySem.W.OpenLaw} {q:Program} {loose:List Str} {XP:(Str→Option Value)→Heap→Prop} {YP:World→Heap→Prop} {d:DefRec} {K:Params→PySem.W.Frag} (hn:l.most=some 63) (hdf:d.params.defaults=[])
  (hY:∀ (w:World) (h:Heap),YP w h→(K w.params).In h)
  (F:∀ (w:World) (mg:Str→Option Value) (fa:Addr) (h:Heap),(K w.params).In h→h.Ns mainGlobals mg→mg d.name=some (.ref fa) →
   ∃ fd:FuncData,(∀ (s:Shared) (u:Value),BindsTo s fd ⟨[u],[]⟩ [("script",u)])∧∀ base:Heap,(K w.params).In base→base.Ns mainGlobals mg→FnOk l.prog w (K w.params) mg base CX0 147 fa fd ["script"] (q6o (K w.params))) :
  PySem.W.WalkO q loose XP YP l.row.toRowW d [] (fun f vs=>PySem.call f vs) :=
 L2.walk_of (n:=63) (k:=147) (x:="script") (CX:=fun _=>CX0) (sp:=fun w=>q6o (K w.params)) hn (by decide) hdf ⟨rfl,by decide,by decide⟩ hY F (fun _ _ a ns hl _ hS=>⟨a,ns,rfl,hS,hl,fun _=>rfl⟩) fun _ _ _ _ _ z=>z
end My
local macro_rules | `(tactic| walk_at "tf")=>`(tactic| (refine' My.tf ?a ?l ?c ?k;(case a=>k_is);(case l=>k_is);(case c=>k_is);(case k=>k_is)))
local macro_rules | `(tactic| walk_at "mf")=>`(tactic| (refine' My.mf ?a ?n ?l ?c ?k;(case a=>k_is);(case n=>k_is);(case l=>k_is);(case c=>k_is);(case k=>k_is)))
local macro_rules | `(tactic| walk_at "ft")=>`(tactic| (refine ⟨?_,?_,?_,?_,?_,?_,?_,?_,?_,?_,⟨?_,?_,?_,?_,?_,?_,?_,?_⟩⟩;kts_exm;kit_is;kit_is;kit_is;kit_is;kit_is;kit_is;kit_is;kit_is;kit_is;all_goals first | k_is | rfl))
open PySem PySem.W PyProof.Rows
noncomputable abbrev My.pw:Program:=PySem.Challenge.pw_topstretch_k42_whole_rows_in_any_order
noncomputable def My.vw:Program:=PySem.W.view PySem.Challenge.pw_topstretch_k42_whole_rows_in_any_order [1,2,3,4,5,6,7,8,9,11,12,13,14,16,17,18,19,20,21,22,23,24,25,26,27,28,29,30,31,32,33,34,35,36,37,38,39,40,41,42,43,45,46,47,49,50,51,52,53,54,55,56,57,58,59,61,63,65,66,67,68,69,70,72,73,74,75,76,77,78,79,80,81,82,83,84,85,87,88,89,90,91,92,93,94,95,96,97,98,99]
lay_quick L2.topRunT PySem.Challenge.pw_topstretch_k42_whole_rows_in_any_order
theorem My.tw (w:World) (os:OsState):(L2.topRunT treeTable My.pw w 11 (some (.ref 6)) 9452 ⟨L2.bootT w.params,11,(boot_heap w.params).life,#[],boot_drawn,boot_toks,os⟩ (topStub My.pw))=(PySem.W.Fast.tw4652649595001227023 PySem.W.Fast.tw14364793385576792824 PySem.W.Fast.tw10191301451972834406 w 11 (some (.ref 6)) 9452 ⟨L2.bootT w.params,11,(boot_heap w.params).life,#[],boot_drawn,boot_toks,os⟩ (topStub PySem.W.Fast.tw10191301451972834406)):=by rw [PySem.W.Fast.te4652649595001227023,PySem.W.Fast.te14364793385576792824,show My.pw=PySem.W.Fast.tw10191301451972834406 from PySem.W.Fast.te10191301451972834406]
noncomputable def My.run (w:World) (os:OsState):=(PySem.W.Fast.tw4652649595001227023 PySem.W.Fast.tw14364793385576792824 PySem.W.Fast.tw10191301451972834406 w 11 (some (.ref 6)) 9452 ⟨L2.bootT w.params,11,(boot_heap w.params).life,#[],boot_drawn,boot_toks,os⟩ (topStub PySem.W.Fast.tw10191301451972834406))
theorem My.left {α:Type} {Yf:Shared→α} {Ya:World→α} (ra:∀ (w:World) (os:OsState),(My.run w os).map (fun s=>(fun w s=>L2.lookA My.pw My.vw (importedModules My.pw.main.body) (fun s=>xlAt My.vw [] s && recOk (RowW.records (OpenRow.toRowW (OpenLaw.row PySem.Challenge.rw_topstretch_k42_whole_rows_in_any_order))) s) true w.params s) w s.abs)=some ((true,bltViewBooted,true))) (rb:∀ (w:World) (os:OsState),(My.run w os).map (fun s=>(fun w s=>L2.lookB My.vw s) w s.abs)=some (expectedOf My.vw)) (rc:∀ (w:World) (os:OsState),(My.run w os).map (fun s=>(fun w s=>L2.lookC My.vw (["NUMBERS_BEHIND"]:List Str) s) w s.abs)=some (true)) (rd:∀ (w:World) (os:OsState),(My.run w os).map (fun s=>(fun w s=>tabsOk My.vw s) w s.abs)=some (true)) (re:∀ (w:World) (os:OsState),(My.run w os).map (fun s=>(fun w s=>L2.lookE My.vw (["NUMBERS_BEHIND"]:List Str) s) w s.abs)=some (L2.goodE My.vw (["NUMBERS_BEHIND"]:List Str))) (ry:∀ (w:World) (os:OsState),(My.run w os).map (fun s=>(fun w s=>Yf s) w s.abs)=some (Ya w)) :
  LeftO My.pw My.vw (["NUMBERS_BEHIND"]:List Str) (fun s=>xlAt My.vw [] s && recOk (RowW.records (OpenRow.toRowW (OpenLaw.row PySem.Challenge.rw_topstretch_k42_whole_rows_in_any_order))) s) Yf Ya 9452:=L2.LeftO.of_parts (by kernel_rfl) (by kernel_rfl) (fun s=>by kernel_rfl) (L2.Ran.of (r:=My.run) My.tw ra) (L2.Ran.of (r:=My.run) My.tw rb) (L2.Ran.of (r:=My.run) My.tw rc) (L2.Ran.of (r:=My.run) My.tw rd) (L2.Ran.of (r:=My.run) My.tw re) (L2.Ran.of (r:=My.run) My.tw ry)
local macro_rules | `(tactic| o_head $H)=>`(tactic| refine PySem.W.holds_open (q:=My.vw) (loose:=(["NUMBERS_BEHIND"]:List Str)) (Xt:=(fun s=>xlAt My.vw [] s && recOk (RowW.records (OpenRow.toRowW (OpenLaw.row PySem.Challenge.rw_topstretch_k42_whole_rows_in_any_order))) s)) (XP:=XL My.vw []) (Yf:=Hook.obs $H) (Ya:=Hook.val $H) (YP:=Hook.says $H) (N:=9452) ?hl (Hook.of $H) (Hook.keeps $H) (fun s e=>xl_of s (Bool.and_eq_true_iff.mp e).1) XL.keeps (by rfl) (by rfl) (by rfl) (fun s e=>recFacts_of (Bool.and_eq_true_iff.mp e).2) (by rfl) (by first | assumption | decide +kernel) (by decide +kernel) ⟨rfl,rfl,rfl,rfl,rfl,by decide +kernel⟩ ?hw ?hc)
theorem My.kk (z:False):PySem.Challenge.rw_topstretch_k42_whole_rows_in_any_order.Holds:=by
 w_on;o_law;k_head <;> exact z.elim
noncomputable def My.ads:List Nat:=[2,3,15,22,23,24,25,28,35,36,37,40,47,48,49,52,59,60,61,64,71,72,73,76,83,84,85,88,95,96,97,100,107,108,109,112,119,120,121,124,126,127,129,130,131,133,134,136,137,138,140,141,143,144,145,147,148,150,151,152,154,155,157,158,159,161,162,164,165,166,168,169,171,172,173,175,176,178,179,180,182,183,185,186,187,189,190,192,193,194,196,197,199,200,201,203,204,206,207,208,210,211,213,214,215,217,218,220,221,222,224,225,227,228,229,231,232,234,235,236,238,239,241,242,243,245,246,248,249,250,252,253,255,256,257,259,260,262,263,264,266,267,269,270,271,273,274,276,277,278,280,281,283,284,285,287,288,290,291,292,294,295,297,298,299,301,302,304,305,306,308,309,311,312,313,315,316,318,319,320,322,323,325,326,327,329,330,332,333,334,336,337,339,340,341,343,344,346,347,348,350,351,353,354,355,357,358,360,361,362,364,365,367,368,369,371,372,374,375,376,378,379,381,382,383,386,387,388,390,391,393,394,395,398,399,400,403,404,405,407,408,410,411,412,415,416,417,418,420,421,423,424,425,427,428,430,431,432,434,435,437,438,439,442,443,444,447,448,449,451,452,454,455,456,458,459,461,462,463,465,466,468,469,470,472,473,475,476,477,479,480,482,483,491,493,494,496,497,498,500,501,503,504,505,507,508,510,511,512,514,515,517,518,519,521,522,524,525,526,528,529,531,532,533,534,535,536,537,540,542,543,545,546,547,549,550,552,553,554,557,558,566,568,569,571,572,573,576,577,578,580,581,583,584,585,587,588,590,591,592,595,596,597,599,600,602,603,604,606,607,609,610,611,614,615,616,618,619,621,622]
theorem My.aF (w:World) (os:OsState):(PySem.W.Fast.tw4652649595001227023 PySem.W.Fast.tw14364793385576792824 PySem.W.Fast.tw10191301451972834406 (w.withFollow "special-get-raises" false) 11 (some (.ref 6)) 9452 ⟨L2.bootT (w.withFollow "special-get-raises" false).params,11,(boot_heap (w.withFollow "special-get-raises" false).params).life,#[],boot_drawn,boot_toks,os⟩ (topStub PySem.W.Fast.tw10191301451972834406)).map (fun s=>(fun w s=>L2.lookA My.pw My.vw (importedModules My.pw.main.body) (fun s=>xlAt My.vw [] s && recOk (RowW.records (OpenRow.toRowW (OpenLaw.row PySem.Challenge.rw_topstretch_k42_whole_rows_in_any_order))) s) true w.params s) (w.withFollow "special-get-raises" false) s.abs)=some ((true,bltViewBooted,true)):=by kernel_rfl
theorem My.aT (w:World) (os:OsState):(PySem.W.Fast.tw4652649595001227023 PySem.W.Fast.tw14364793385576792824 PySem.W.Fast.tw10191301451972834406 (w.withFollow "special-get-raises" true) 11 (some (.ref 6)) 9452 ⟨L2.bootT (w.withFollow "special-get-raises" true).params,11,(boot_heap (w.withFollow "special-get-raises" true).params).life,#[],boot_drawn,boot_toks,os⟩ (topStub PySem.W.Fast.tw10191301451972834406)).map (fun s=>(fun w s=>L2.lookA My.pw My.vw (importedModules My.pw.main.body) (fun s=>xlAt My.vw [] s && recOk (RowW.records (OpenRow.toRowW (OpenLaw.row PySem.Challenge.rw_topstretch_k42_whole_rows_in_any_order))) s) true w.params s) (w.withFollow "special-get-raises" true) s.abs)=some ((true,bltViewBooted,true)):=by kernel_rfl
theorem My.a (w:World):∀ os:OsState,(My.run w os).map (fun s=>(fun w s=>L2.lookA My.pw My.vw (importedModules My.pw.main.body) (fun s=>xlAt My.vw [] s && recOk (RowW.records (OpenRow.toRowW (OpenLaw.row PySem.Challenge.rw_topstretch_k42_whole_rows_in_any_order))) s) true w.params s) w s.abs)=some ((true,bltViewBooted,true)):=byRow2 "special-get-raises" (P:=fun w=>∀ os,(My.run w os).map (fun s=>(fun w s=>L2.lookA My.pw My.vw (importedModules My.pw.main.body) (fun s=>xlAt My.vw [] s && recOk (RowW.records (OpenRow.toRowW (OpenLaw.row PySem.Challenge.rw_topstretch_k42_whole_rows_in_any_order))) s) true w.params s) w s.abs)=some ((true,bltViewBooted,true))) My.aF My.aT w
theorem My.bF (w:World) (os:OsState):(PySem.W.Fast.tw4652649595001227023 PySem.W.Fast.tw14364793385576792824 PySem.W.Fast.tw10191301451972834406 (w.withFollow "special-get-raises" false) 11 (some (.ref 6)) 9452 ⟨L2.bootT (w.withFollow "special-get-raises" false).params,11,(boot_heap (w.withFollow "special-get-raises" false).params).life,#[],boot_drawn,boot_toks,os⟩ (topStub PySem.W.Fast.tw10191301451972834406)).map (fun s=>(fun w s=>L2.lookB My.vw s) (w.withFollow "special-get-raises" false) s.abs)=some (expectedOf My.vw):=by kernel_rfl
theorem My.bT (w:World) (os:OsState):(PySem.W.Fast.tw4652649595001227023 PySem.W.Fast.tw14364793385576792824 PySem.W.Fast.tw10191301451972834406 (w.withFollow "special-get-raises" true) 11 (some (.ref 6)) 9452 ⟨L2.bootT (w.withFollow "special-get-raises" true).params,11,(boot_heap (w.withFollow "special-get-raises" true).params).life,#[],boot_drawn,boot_toks,os⟩ (topStub PySem.W.Fast.tw10191301451972834406)).map (fun s=>(fun w s=>L2.lookB My.vw s) (w.withFollow "special-get-raises" true) s.abs)=some (expectedOf My.vw):=by kernel_rfl
theorem My.b (w:World):∀ os:OsState,(My.run w os).map (fun s=>(fun w s=>L2.lookB My.vw s) w s.abs)=some (expectedOf My.vw):=byRow2 "special-get-raises" (P:=fun w=>∀ os,(My.run w os).map (fun s=>(fun w s=>L2.lookB My.vw s) w s.abs)=some (expectedOf My.vw)) My.bF My.bT w
theorem My.cF (w:World) (os:OsState):(PySem.W.Fast.tw4652649595001227023 PySem.W.Fast.tw14364793385576792824 PySem.W.Fast.tw10191301451972834406 (w.withFollow "special-get-raises" false) 11 (some (.ref 6)) 9452 ⟨L2.bootT (w.withFollow "special-get-raises" false).params,11,(boot_heap (w.withFollow "special-get-raises" false).params).life,#[],boot_drawn,boot_toks,os⟩ (topStub PySem.W.Fast.tw10191301451972834406)).map (fun s=>(fun w s=>L2.lookC My.vw (["NUMBERS_BEHIND"]:List Str) s) (w.withFollow "special-get-raises" false) s.abs)=some (true):=by kernel_rfl
theorem My.cT (w:World) (os:OsState):(PySem.W.Fast.tw4652649595001227023 PySem.W.Fast.tw14364793385576792824 PySem.W.Fast.tw10191301451972834406 (w.withFollow "special-get-raises" true) 11 (some (.ref 6)) 9452 ⟨L2.bootT (w.withFollow "special-get-raises" true).params,11,(boot_heap (w.withFollow "special-get-raises" true).params).life,#[],boot_drawn,boot_toks,os⟩ (topStub PySem.W.Fast.tw10191301451972834406)).map (fun s=>(fun w s=>L2.lookC My.vw (["NUMBERS_BEHIND"]:List Str) s) (w.withFollow "special-get-raises" true) s.abs)=some (true):=by kernel_rfl
theorem My.c (w:World):∀ os:OsState,(My.run w os).map (fun s=>(fun w s=>L2.lookC My.vw (["NUMBERS_BEHIND"]:List Str) s) w s.abs)=some (true):=byRow2 "special-get-raises" (P:=fun w=>∀ os,(My.run w os).map (fun s=>(fun w s=>L2.lookC My.vw (["NUMBERS_BEHIND"]:List Str) s) w s.abs)=some (true)) My.cF My.cT w
theorem My.dF (w:World) (os:OsState):(PySem.W.Fast.tw4652649595001227023 PySem.W.Fast.tw14364793385576792824 PySem.W.Fast.tw10191301451972834406 (w.withFollow "special-get-raises" false) 11 (some (.ref 6)) 9452 ⟨L2.bootT (w.withFollow "special-get-raises" false).params,11,(boot_heap (w.withFollow "special-get-raises" false).params).life,#[],boot_drawn,boot_toks,os⟩ (topStub PySem.W.Fast.tw10191301451972834406)).map (fun s=>(fun w s=>tabsOk My.vw s) (w.withFollow "special-get-raises" false) s.abs)=some (true):=by kernel_rfl
theorem My.dT (w:World) (os:OsState):(PySem.W.Fast.tw4652649595001227023 PySem.W.Fast.tw14364793385576792824 PySem.W.Fast.tw10191301451972834406 (w.withFollow "special-get-raises" true) 11 (some (.ref 6)) 9452 ⟨L2.bootT (w.withFollow "special-get-raises" true).params,11,(boot_heap (w.withFollow "special-get-raises" true).params).life,#[],boot_drawn,boot_toks,os⟩ (topStub PySem.W.Fast.tw10191301451972834406)).map (fun s=>(fun w s=>tabsOk My.vw s) (w.withFollow "special-get-raises" true) s.abs)=some (true):=by kernel_rfl
theorem My.d (w:World):∀ os:OsState,(My.run w os).map (fun s=>(fun w s=>tabsOk My.vw s) w s.abs)=some (true):=byRow2 "special-get-raises" (P:=fun w=>∀ os,(My.run w os).map (fun s=>(fun w s=>tabsOk My.vw s) w s.abs)=some (true)) My.dF My.dT w
theorem My.eF (w:World) (os:OsState):(PySem.W.Fast.tw4652649595001227023 PySem.W.Fast.tw14364793385576792824 PySem.W.Fast.tw10191301451972834406 (w.withFollow "special-get-raises" false) 11 (some (.ref 6)) 9452 ⟨L2.bootT (w.withFollow "special-get-raises" false).params,11,(boot_heap (w.withFollow "special-get-raises" false).params).life,#[],boot_drawn,boot_toks,os⟩ (topStub PySem.W.Fast.tw10191301451972834406)).map (fun s=>(fun w s=>L2.lookE My.vw (["NUMBERS_BEHIND"]:List Str) s) (w.withFollow "special-get-raises" false) s.abs)=some (L2.goodE My.vw (["NUMBERS_BEHIND"]:List Str)):=by kernel_rfl
theorem My.eT (w:World) (os:OsState):(PySem.W.Fast.tw4652649595001227023 PySem.W.Fast.tw14364793385576792824 PySem.W.Fast.tw10191301451972834406 (w.withFollow "special-get-raises" true) 11 (some (.ref 6)) 9452 ⟨L2.bootT (w.withFollow "special-get-raises" true).params,11,(boot_heap (w.withFollow "special-get-raises" true).params).life,#[],boot_drawn,boot_toks,os⟩ (topStub PySem.W.Fast.tw10191301451972834406)).map (fun s=>(fun w s=>L2.lookE My.vw (["NUMBERS_BEHIND"]:List Str) s) (w.withFollow "special-get-raises" true) s.abs)=some (L2.goodE My.vw (["NUMBERS_BEHIND"]:List Str)):=by kernel_rfl
theorem My.e (w:World):∀ os:OsState,(My.run w os).map (fun s=>(fun w s=>L2.lookE My.vw (["NUMBERS_BEHIND"]:List Str) s) w s.abs)=some (L2.goodE My.vw (["NUMBERS_BEHIND"]:List Str)):=byRow2 "special-get-raises" (P:=fun w=>∀ os,(My.run w os).map (fun s=>(fun w s=>L2.lookE My.vw (["NUMBERS_BEHIND"]:List Str) s) w s.abs)=some (L2.goodE My.vw (["NUMBERS_BEHIND"]:List Str))) My.eF My.eT w
theorem My.yF (w:World) (os:OsState):(PySem.W.Fast.tw4652649595001227023 PySem.W.Fast.tw14364793385576792824 PySem.W.Fast.tw10191301451972834406 (w.withFollow "special-get-raises" false) 11 (some (.ref 6)) 9452 ⟨L2.bootT (w.withFollow "special-get-raises" false).params,11,(boot_heap (w.withFollow "special-get-raises" false).params).life,#[],boot_drawn,boot_toks,os⟩ (topStub PySem.W.Fast.tw10191301451972834406)).map (fun s=>(fun w s=>My.ads.map s.heap.get?) (w.withFollow "special-get-raises" false) s.abs)=some (((My.kk.heap_39 (w.withFollow "special-get-raises" false).params).map fun p=>some p.2)):=by kernel_rfl
theorem My.yT (w:World) (os:OsState):(PySem.W.Fast.tw4652649595001227023 PySem.W.Fast.tw14364793385576792824 PySem.W.Fast.tw10191301451972834406 (w.withFollow "special-get-raises" true) 11 (some (.ref 6)) 9452 ⟨L2.bootT (w.withFollow "special-get-raises" true).params,11,(boot_heap (w.withFollow "special-get-raises" true).params).life,#[],boot_drawn,boot_toks,os⟩ (topStub PySem.W.Fast.tw10191301451972834406)).map (fun s=>(fun w s=>My.ads.map s.heap.get?) (w.withFollow "special-get-raises" true) s.abs)=some (((My.kk.heap_39 (w.withFollow "special-get-raises" true).params).map fun p=>some p.2)):=by kernel_rfl
theorem My.y (w:World):∀ os:OsState,(My.run w os).map (fun s=>(fun w s=>My.ads.map s.heap.get?) w s.abs)=some (((My.kk.heap_39 w.params).map fun p=>some p.2)):=byRow2 "special-get-raises" (P:=fun w=>∀ os,(My.run w os).map (fun s=>(fun w s=>My.ads.map s.heap.get?) w s.abs)=some (((My.kk.heap_39 w.params).map fun p=>some p.2))) My.yF My.yT w
set_option maxRecDepth 100000 in
set_option maxHeartbeats 0 in
theorem PySem.Challenge.cw_topstretch_k42_whole_rows_in_any_order_holds : PySem.Challenge.rw_topstretch_k42_whole_rows_in_any_order.Holds := by
 w_on;o_law;o_head (kHook My.kk.heap_39 My.ads (fun _=>by kernel_rfl))
 case hw=>w_witness2
 case hl=>exact My.left My.a My.b My.c My.d My.e My.y
 k_fill
 refine My.walk (l:=PySem.Challenge.rw_topstretch_k42_whole_rows_in_any_order) rfl rfl (fun w h Y=>PySem.W.kIn_of Y) ?F
 case F =>
  intro w mg fa h KX G hmg
  refine' My.all_mk KX G hmg ?t0 ?t1 ?t2 ?t3 ?t4 ?t5 ?t6 ?t7 ?t8 ?t9 ?t10 ?t11 ?t12 ?t13 ?t14 ?t15 ?t16 ?t17 ?t18 ?t19 ?t20 ?t21 ?t22 ?t23 ?t24 ?t25 ?t26 ?t27 ?t28 ?t29 ?t30 ?t31 ?t32 ?t33 ?t34 ?t35 ?t36 ?t37 ?t38 ?t39 ?t40 ?t41 ?t42 ?t43 ?t44 ?t45 ?t46 ?t47 ?t48 ?t49 ?t50 ?t51 ?t52 ?t53 ?t54 ?t55 ?t56 ?t57 ?t58 ?t59 ?t60 ?t61 ?t62 ?t63 ?t64 ?t65 ?t66 ?t67 ?t68 ?t69 ?t70 ?z0 ?z1 ?z2 ?z3 ?z4 ?z5 ?z6 ?z7 ?z8 ?z9 ?z10 ?z11 ?z12 ?z13 ?z14 ?dk ?dk1 ?dk2 ?dk3 ?dk4 ?dn_held ?dn_earlier ?dn_undone ?dk5 ?dk6 ?nb1 ?nb2 ?nb3 ?nb4 ?e0 ?e1 ?e2 ?e3 ?e4 ?e5 ?e6 ?e7 ?e8 ?ev ?q1 ?w1 ?q2 ?w2 ?q3 ?w3 ?q4 ?w4 ?q7 ?w7 ?q8 ?w8 ?cc_BEST ?cc_FIGURES ?cc_HEAD ?cc_KNOWN ?cc_LEFT ?cc_MANY ?cc_MOST_FIGURES_desk ?cc_MOST_FIGURES_texts ?cc_MOST_PAIRS ?cc_RIGHT ?cc_ROUND ?cc_TAIL ?cc_TOTAL
  (case dk=>k_is)
  (case t0=>walk_at "tf")
  (case t1=>walk_at "tf")
  (case t2=>walk_at "tf")
  (case t3=>walk_at "tf")
  (case t4=>walk_at "tf")
  (case t5=>walk_at "tf")
  (case t6=>walk_at "tf")
  (case t7=>walk_at "tf")
  (case t8=>walk_at "tf")
  (case t9=>walk_at "tf")
  (case t10=>walk_at "tf")
  (case t11=>walk_at "tf")
  (case t12=>walk_at "tf")
  (case t13=>walk_at "tf")
  (case t14=>walk_at "tf")
  (case t15=>walk_at "tf")
  (case t16=>walk_at "tf")
  (case t17=>walk_at "tf")
  (case t18=>walk_at "tf")
  (case t19=>walk_at "tf")
  (case t20=>walk_at "tf")
  (case t21=>walk_at "tf")
  (case t22=>walk_at "tf")
  (case t23=>walk_at "tf")
  (case t24=>walk_at "tf")
  (case t25=>walk_at "tf")
  (case t26=>walk_at "tf")
  (case t27=>walk_at "tf")
  (case t28=>walk_at "tf")
  (case t29=>walk_at "tf")
  (case t30=>walk_at "tf")
  (case t31=>walk_at "tf")
  (case t32=>walk_at "tf")
  (case t33=>walk_at "tf")
  (case t34=>walk_at "tf")
  (case t35=>walk_at "tf")
  (case t36=>walk_at "tf")
  (case t37=>walk_at "tf")
  (case t38=>walk_at "tf")
  (case t39=>walk_at "tf")
  (case t40=>walk_at "tf")
  (case t41=>walk_at "tf")
  (case t42=>walk_at "tf")
  (case t43=>walk_at "tf")
  (case t44=>walk_at "tf")
  (case t45=>walk_at "tf")
  (case t46=>walk_at "tf")
  (case t47=>walk_at "tf")
  (case t48=>walk_at "tf")
  (case t49=>walk_at "tf")
  (case t50=>walk_at "tf")
  (case t51=>walk_at "tf")
  (case t52=>walk_at "tf")
  (case t53=>walk_at "mf")
  (case t54=>walk_at "mf")
  (case t55=>walk_at "mf")
  (case t56=>walk_at "mf")
  (case t57=>walk_at "mf")
  (case t58=>walk_at "mf")
  (case t59=>walk_at "tf")
  (case t60=>walk_at "tf")
  (case t61=>walk_at "tf")
  (case t62=>walk_at "tf")
  (case t63=>walk_at "tf")
  (case t64=>walk_at "tf")
  (case t65=>walk_at "tf")
  (case t66=>walk_at "tf")
  (case t67=>walk_at "tf")
  (case t68=>walk_at "tf")
  (case t69=>walk_at "tf")
  (case t70=>walk_at "tf")
  (case z0=>k_is)
  (case z1=>k_is)
  (case z2=>k_is)
  (case z3=>k_is)
  (case z4=>k_is)
  (case z5=>k_is)
  (case z6=>k_is)
  (case z7=>k_is)
  (case z8=>k_is)
  (case z9=>k_is)
  (case z10=>k_is)
  (case z11=>k_is)
  (case z12=>k_is)
  (case z13=>k_is)
  (case z14=>k_is)
  (case dk1=>k_is)
  (case dk2=>k_is)
  (case dk3=>k_is)
  (case dk4=>k_is)
  (case dn_held=>k_is)
  (case dn_earlier=>k_is)
  (case dn_undone=>k_is)
  (case dk5=>k_is)
  (case dk6=>k_is)
  (case nb1=>k_is)
  (case nb2=>k_is)
  (case nb3=>exact by repeat (first | exact True.intro | refine ⟨⟨_,rfl⟩,rfl,⟨_,rfl⟩,?_⟩))
  (case nb4=>rfl)
  (case e0=>k_is)
  (case e1=>k_is)
  (case e2=>k_is)
  (case e3=>k_is)
  (case e4=>k_is)
  (case e5=>k_is)
  (case e6=>k_is)
  (case e7=>k_is)
  (case e8=>k_is)
  (case ev=>k_is)
  (case q1=>k_exc)
  (case w1=>walk_at "ft")
  (case q2=>k_exc)
  (case w2=>walk_at "ft")
  (case q3=>k_exc)
  (case w3=>walk_at "ft")
  (case q4=>k_exc)
  (case w4=>walk_at "ft")
  (case q7=>k_exc)
  (case w7=>walk_at "ft")
  (case q8=>k_exc)
  (case w8=>walk_at "ft")
  (case cc_BEST=>k_is)
  (case cc_FIGURES=>k_is)
  (case cc_HEAD=>k_is)
  (case cc_KNOWN=>k_is)
  (case cc_LEFT=>k_is)
  (case cc_MANY=>k_is)
  (case cc_MOST_FIGURES_desk=>k_is)
  (case cc_MOST_FIGURES_texts=>k_is)
  (case cc_MOST_PAIRS=>k_is)
  (case cc_RIGHT=>k_is)
  (case cc_ROUND=>k_is)
  (case cc_TAIL=>k_is)
  (case cc_TOTAL=>k_is)
