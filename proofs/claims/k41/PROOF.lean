import PyProof.Rows.All
import Wide.All
import OpenK.AllK
import Wide.FinOn
import Lean
import PyProof.EqAt
import PyProof.EqKinds
import PyProof.TupleCall
import PySem.Challenge.RW_topstretch_k41_rows_refused_at_a_desk
set_option Elab.async false
set_option linter.all false
set_option maxRecDepth 100000
set_option maxHeartbeats 4000000
local macro_rules | `(tactic| lia)=>`(tactic| first | lia +verbose | omega +splitDisjunctions)
local macro_rules | `(tactic| walk_at "lr")=>`(tactic| first | exact Or.inl rfl | exact Or.inr rfl)
namespace L2
open PySem PySem.Spec PyProof.Rows
noncomputable abbrev Key:=Sum Int Str
noncomputable def q86:Key->Value->Bool
 |.inl k,v=>Value.isInt k v
 |.inr x,v=>Value.isStrOf x v
noncomputable def keyH(w:World):Key->Int
 |.inl k=>hashInt k
 |.inr x=>hashStr w x
theorem qv:∀{k:Key} {v:Value},q86 k v=true->(∃i t,k=Sum.inl i/\v=Value.int i t)\/(∃x t,k=Sum.inr x/\v=Value.str x t)
 | .inl i,v,h=>by
  obtain⟨t,e⟩:=Value.isInt_shape (k:=i) (v:=v) h;exact .inl ⟨i,t,rfl,e⟩
 | .inr x,v,h=>by
  obtain⟨t,e⟩:=Value.isStrOf_shape (x:=x) (v:=v) h;exact .inr ⟨x,t,rfl,e⟩
theorem keyIs_int(i:Int)(t:Tok):q86 (.inl i) (.int i t)=true:=by simp[q86,Value.isInt]
theorem keyIs_str(x:Str)(t:Tok):q86 (.inr x) (.str x t)=true:=by simp[q86,Value.isStrOf]
theorem key_ll(a b:Int):decide ((Sum.inl a:Key)=Sum.inl b)=(a == b):=by
 by_cases e:a=b
 ·subst e;simp
 ·have h:¬(Sum.inl a:Key)=Sum.inl b:=λq=>e (Sum.inl.inj q)
  rw[decide_eq_false h];exact(beq_eq_false_iff_ne.mpr e).symm
theorem key_rr(a b:Str):decide ((Sum.inr a:Key)=Sum.inr b)=decide (a=b):=by
 by_cases e:a=b
 ·subst e;simp
 ·have h:¬(Sum.inr a:Key)=Sum.inr b:=λq=>e (Sum.inr.inj q)
  rw[decide_eq_false h,decide_eq_false e]
theorem key_lr(a:Int)(b:Str):decide ((Sum.inl a:Key)=Sum.inr b)=false:=decide_eq_false (λq=>nomatch q)
theorem key_rl(a:Str)(b:Int):decide ((Sum.inr a:Key)=Sum.inl b)=false:=decide_eq_false (λq=>nomatch q)
noncomputable def q0D(prog:Program)(w:World):PySem.KeyKind prog w Key where
 is:=q86
 hash:=keyH w
 inj:=λv a b ha hb=>by
  rcases qv ha with⟨i,t,rfl,rfl⟩|⟨x,t,rfl,rfl⟩
  ·rcases qv hb with⟨j,u,rfl,e⟩|⟨y,u,rfl,e⟩
   ·injection e with e1 _;rw[e1]
   ·exact nomatch e
  ·rcases qv hb with⟨j,u,rfl,e⟩|⟨y,u,rfl,e⟩
   ·exact nomatch e
   ·injection e with e1 _;rw[e1]
 byValue:=λk v h=>by
  rcases qv h with⟨i,t,rfl,rfl⟩|⟨x,t,rfl,rfl⟩<;>rfl
 pyHash:=λhv h=>by
  rcases qv hv with⟨i,t,rfl,rfl⟩|⟨x,t,rfl,rfl⟩
  ·exact wpAny_pyHash_int h
  ·exact wpAny_pyHash_str h
 eqBool:=λhu hv h=>by
  rcases qv hu with⟨i,t,rfl,rfl⟩|⟨x,t,rfl,rfl⟩
  ·rcases qv hv with⟨j,u,rfl,rfl⟩|⟨y,u,rfl,rfl⟩
   ·rw[key_ll] at h;exact wpAny_eqBool_int h
   ·rw[key_lr] at h;exact SeqAt.EqAt.int_str i t y u _ _ _ _ h
  ·rcases qv hv with⟨j,u,rfl,rfl⟩|⟨y,u,rfl,rfl⟩
   ·rw[key_rl] at h;exact SeqAt.EqAt.str_int x t j u _ _ _ _ h
   ·rw[key_rr] at h;exact wpAny_eqBool_str h
 «strs»:=λk x t v h=>by
  rcases qv h with⟨i,u,rfl,e⟩|⟨y,u,rfl,e⟩
  ·exact nomatch e
  ·injection e with e1 _
   subst e1;cases v<;>rfl
theorem q6i(prog:Program)(w:World)(i:Int)(t:Tok):(q0D prog w).is (.inl i) (.int i t)=true:=keyIs_int i t
theorem q6h(prog:Program)(w:World)(x:Str)(t:Tok):(q0D prog w).is (.inr x) (.str x t)=true:=keyIs_str x t
inductive V where
 |non|bl (b:Bool)|int (i:Int)|str (x:Str)|byt (b:Array UInt8)|flt (b:UInt64)|ref (a:Addr)|ty (n:String)
 deriving DecidableEq
noncomputable def RelV:V->Value->Prop
 |.non,u=>u=Value.none
 |.bl b,u=>u=Value.bool b
 |.int i,u=>∃t,u=Value.int i t
 |.str x,u=>∃t,u=Value.str x t
 |.byt b,u=>∃t,u=Value.bytes b t
 |.flt b,u=>∃t,u=Value.float b t
 |.ref a,u=>u=Value.ref a
 |.ty n,u=>u=Value.type n
noncomputable abbrev Vals:List V->List Value->Prop:=Paired RelV
theorem Vals.length{xs:List V}{us:List Value}(r:Vals xs us):xs.length=us.length:=Paired.length r
theorem Vals.get:∀{xs:List V} {us:List Value} {i:Nat} {x:V},Vals xs us->xs[i]?=some x->∃u,us[i]?=some u/\RelV x u
 |_,_,_,_,.nil,e=>by simp at e
 |_,_,0,_,.cons r _,e=>by simp at e;subst e;exact⟨_,rfl,r⟩
 | _,_,i+1,x,.cons _ t,e=>by
  obtain⟨u,h1,h2⟩:=Vals.get (i:=i) (x:=x) t (by simpa using e);exact⟨u,by simpa using h1,h2⟩
theorem Vals.set{x:V}{u:Value}(r:RelV x u):∀{xs:List V} {us:List Value} (i:Nat),Vals xs us->Vals (xs.set i x) (us.set i u)
 |_,_,_,.nil=>.nil
 |_,_,0,.cons _ t=>.cons r t
 |_,_,i+1,.cons q t=>.cons q (Vals.set r i t)
theorem Vals.append:∀{xs ys:List V} {us ws:List Value},Vals xs us->Vals ys ws->Vals (xs++ys) (us++ws)
 |_,_,_,_,.nil,s=>s
 |_,_,_,_,.cons r t,s=>.cons r (Vals.append t s)
theorem Vals.take:∀{xs:List V} {us:List Value} (n:Nat),Vals xs us->Vals (xs.take n) (us.take n)
 |_,_,0,_=>.nil
 |_,_,_+1,.nil=>.nil
 |_,_,n+1,.cons r t=>.cons r (Vals.take n t)
theorem Vals.drop:∀{xs:List V} {us:List Value} (n:Nat),Vals xs us->Vals (xs.drop n) (us.drop n)
 |_,_,0,r=>r
 |_,_,_+1,.nil=>.nil
 |_,_,n+1,.cons _ t=>Vals.drop n t
noncomputable def RelO:Option V->Option Value->Prop
 |some v,some u=>RelV v u
 |none,none=>True
 |_,_=>False
noncomputable def KV{κ:Type}:List (κ×V)->List (κ×Value)->Prop:=Paired λ(p:κ×V) (q:κ×Value)=>p.1=q.1/\RelV p.2 q.2
noncomputable def kV:Key->V
 |.inl i=>.int i
 |.inr x=>.str x
inductive HO where
  |lst (xs:List V)
  |tup (xs:List V)
  |dK (kvs:List (Key×V))|dT (kvs:List (List Key×V))
  |set (S:Int->Bool) (n:Nat)
  |ins (C dx:Addr) (fs:List (Str×V))
  |own (x:Addr)
  |xd (fs:List (Str×V))
  |met (f x:Addr)
  |rng (lo hi:Int)
  |frz (o:Obj) (u:HO)
  |tbl (ps:Array Value)
  |ext (φ:Heap->Prop)
noncomputable abbrev Hp:=Addr->Option HO
noncomputable def upd(H:Hp)(a:Addr)(o:HO):Hp:=λb=>if b=a then some o else H b
theorem q0{H:Hp}{a:Addr}{o:HO}:upd H a o a=some o:=by unfold upd;rw[if_pos rfl]
theorem qG{H:Hp}{a b:Addr}{o:HO}(h:b≠a):upd H a o b=H b:=by unfold upd;rw[if_neg h]
theorem q4Z{H:Hp}{a:Addr}{o u:HO}:upd (upd H a o) a u=upd H a u:=by
 funext b;unfold upd;split<;>rfl
theorem qJ{H:Hp}{a b:Addr}{o:HO}(h:H a=some o)(h':H b=none):a≠b:=by
 intro e;subst e;rw[h] at h';cases h'
section
variable (P:Program)(w:World)
noncomputable def ObjOk(H:Hp)(h:Heap)(a:Addr):HO->Prop
 |.lst xs=>xs.length<=sizeLine/\∃(its:List Value) (n:Nat),Vals xs its/\h.get? a=some {cls:=.type "list",data:=.seq its.toArray n}
 |.tup xs=>xs.length<=sizeLine/\∃its:List Value,Vals xs its/\IsTup h a its.toArray
 |.dK kvs=>kvs.length<=sizeLine/\(a == sysModules)=false/\∃vs,KV kvs vs/\h.DictOf (q0D P w) a vs
 | .dT kvs=>kvs.length<=sizeLine/\(a == sysModules)=false/\∃xs:List (List Key×Addr×Value),
   Paired (λ(p:List Key×V) (q:List Key×Addr×Value)=>p.1=q.1/\H q.2.1=some (.tup (p.1.map kV))/\RelV p.2 q.2.2) kvs xs/\
   ∃o es ep,h.get? a=some o/\o.ExactDict/\o.data = .dict es ep/\es.toList=xs.map (entryOfKey (tupleKind (q0D P w)))/\(xs.map (·.1)).Nodup
 |.set S n=>h.SetOf (intKind P w) a S n
 | .ins C dx fs=>H dx=some (.own a)/\fs.length<=1000/\dx≠a/\h.get? a=some (PySem.W.instObj C dx)/\
   ∃mA,h.Ns1 dx mA/\(∀f,RelO (fs.lookup f) (mA f))/\PySem.Within mA (fs.map (·.1))
 |.own _=>∃o,h.get? a=some o
 |.xd fs=>∃mA,h.Ns1 a mA/\∀f,RelO (fs.lookup f) (mA f)
 |.rng lo hi=>∃t u v,h.get? a=some {cls:=.type "range",data:=.fields #[.int lo t,.int hi u,.int 1 v]}
 |.frz o u=>h.get? a=some o/\ObjOk H h a u
 |.tbl ps=>h.get? a=some {cls:=.none,data:=.fields ps}
 |.met f x=>h.get? a=some (PySem.W.methodObj (.ref f) (.ref x))
 |.ext φ=>φ h/\(∃o,h.get? a=some o)/\∀h1 h2:Heap,φ h1->(∀o,h1.get? a=some o->h2.get? a=some o)->φ h2
noncomputable def HOk(H:Hp)(h:Heap):Prop:=∀a o,H a=some o->ObjOk P w H h a o
end
section
variable {P:Program}{w:World}{H H':Hp}{h h':Heap}{a:Addr}{o:HO}
theorem ObjOk.lt(x:ObjOk P w H h a o):a < h.objs.size:=by
 cases o with
 |lst xs=>obtain⟨_,_,_,_,e⟩:=x;exact Heap.lt_size e
 |tup xs=>obtain⟨_,_,_,p⟩:=x;exact p.lt
 |dK kvs=>obtain⟨_,_,_,_,o,_,_,e,_⟩:=x;exact Heap.lt_size e
 |dT kvs=>obtain⟨_,_,_,_,o,_,_,e,_⟩:=x;exact Heap.lt_size e
 |set S n=>obtain⟨o,_,_,_,e,_⟩:=x;exact Heap.lt_size e
 |ins C dx fs=>obtain⟨_,_,_,e,_⟩:=x;exact Heap.lt_size e
 |own y=>obtain⟨_,e⟩:=x;exact Heap.lt_size e
 |xd fs=>obtain⟨_,⟨_,_,_,e,_⟩,_⟩:=x;exact Heap.lt_size e
 |rng lo hi=>obtain⟨_,_,_,e⟩:=x;exact Heap.lt_size e
 |frz ob u=>obtain⟨e,_⟩:=x;exact Heap.lt_size e
 |tbl ps=>exact Heap.lt_size (show h.get? a=some _ from x)
 |met f y=>exact Heap.lt_size (show h.get? a=some _ from x)
 |ext φ=>obtain⟨_,⟨_,e⟩,_⟩:=x;exact Heap.lt_size e
theorem Paired.mapP{α β:Type}{F G:α->β->Prop}:∀{l₁:List α} {l₂:List β},Paired F l₁ l₂->(∀a b,F a b->G a b)->Paired G l₁ l₂
 |_,_,.nil,_=>.nil
 |_,_,.cons r t,f=>.cons (f _ _ r) (Paired.mapP t f)
theorem ObjOk.stay(x:ObjOk P w H h a o)(k:∀b u,(b=a\/H b=some (.own a))->h.get? b=some u->h'.get? b=some u)
  (ho:∀b,H b=some (.own a)->H' b=some (.own a))(ht:∀b xs,H b=some (.tup xs)->H' b=some (.tup xs)):ObjOk P w H' h' a o:=by
 induction o with
 |lst xs=>obtain⟨z,its,n,r,e⟩:=x;exact⟨z,its,n,r,k _ _ (.inl rfl) e⟩
 |tup xs=>obtain⟨z,its,r,ob,e,c⟩:=x;exact⟨z,its,r,ob,k _ _ (.inl rfl) e,c⟩
 |dK kvs=>obtain⟨z,y,vs,r,ob,es,ep,e,c⟩:=x;exact⟨z,y,vs,r,ob,es,ep,k _ _ (.inl rfl) e,c⟩
 | dT kvs=>
  obtain⟨z,y,xs,r,ob,es,ep,e,c⟩:=x;exact⟨z,y,xs,Paired.mapP r λp q z=>⟨z.1,ht _ _ z.2.1,z.2.2⟩,ob,es,ep,k _ _ (.inl rfl) e,c⟩
 |set S n=>obtain⟨ob,es,ep,t,e,c⟩:=x;exact⟨ob,es,ep,t,k _ _ (.inl rfl) e,c⟩
 | ins C dx fs=>
  obtain⟨d,z,ne,e,mA,⟨od,es,ep,e2,c⟩,r⟩:=x;exact⟨ho _ d,z,ne,k _ _ (.inl rfl) e,mA,⟨od,es,ep,k _ _ (.inr d) e2,c⟩,r⟩
 |own y=>obtain⟨ob,e⟩:=x;exact⟨ob,k _ _ (.inl rfl) e⟩
 |xd fs=>obtain⟨mA,⟨od,es,ep,e,c⟩,r⟩:=x;exact⟨mA,⟨od,es,ep,k _ _ (.inl rfl) e,c⟩,r⟩
 |rng lo hi=>obtain⟨t,u,v,e⟩:=x;exact⟨t,u,v,k _ _ (.inl rfl) e⟩
 |frz ob u ih=>obtain⟨e,q⟩:=x;exact⟨k _ _ (.inl rfl) e,ih q⟩
 | tbl ps=>
  have e:h.get? a=some {cls:=.none,data:=.fields ps}:=x;show h'.get? a=some {cls:=.none,data:=.fields ps};exact k a _ (.inl rfl) e
 | met f y=>
  have e:h.get? a=some (PySem.W.methodObj (.ref f) (.ref y)):=x;show h'.get? a=some (PySem.W.methodObj (.ref f) (.ref y));exact k a _ (.inl rfl) e
 |ext φ=>obtain⟨p,⟨o,e⟩,st⟩:=x;exact⟨st _ _ p λo q=>k _ _ (.inl rfl) q,⟨o,k _ _ (.inl rfl) e⟩,st⟩
theorem HOk.lt(x:HOk P w H h)(e:H a=some o):a < h.objs.size:=(x a o e).lt
theorem HOk.fresh(x:HOk P w H h)(e:h.objs.size<=a):H a=none:=by
 cases q:H a with
 |none=>rfl
 |some u=>exact absurd (Nat.lt_of_lt_of_le (x.lt q) e) (Nat.lt_irrefl _)
theorem HOk.kept(x:HOk P w H h)(k:∀b u,h.get? b=some u->h'.get? b=some u):HOk P w H h':=λa o e=>
 (x a o e).stay (λb u _ q=>k b u q) (λ_ q=>q) λ_ _ q=>q
theorem HOk.laid(x:HOk P w H h)(k:∀b u,h.get? b=some u->h'.get? b=some u)(hp:h.objs.size<=a)(new:ObjOk P w (upd H a o) h' a o):HOk P w (upd H a o) h':=λb u e=>by
 have hn:=x.fresh hp;by_cases hb:b=a
 ·subst hb;rw[q0] at e;cases e;exact new
 ·rw[qG hb] at e
  exact(x b u e).stay (λc v _ q=>k c v q) (λc q=>by rw[qG (qJ q hn)];exact q) λc xs q=>by rw[qG (qJ q hn)];exact q
end
noncomputable def Rd(H:Hp)(a:Addr)(u:HO):Prop:=H a=some u\/∃o,H a=some (.frz o u)
theorem Rd.ok{P:Program}{w:World}{H:Hp}{h:Heap}{a:Addr}{u:HO}(r:Rd H a u)(x:HOk P w H h):ObjOk P w H h a u:=by
 rcases r with r|⟨o,r⟩
 ·exact x a u r
 ·obtain⟨_,q⟩:=x a _ r
  exact q
noncomputable def Mut:Option HO->Prop
 |some (.lst _)=>True
 |some (.dK _)=>True
 |some (.dT _)=>True
 |some (.set _ _)=>True
 |some (.ins _ _ _)=>True
 |some (.ext _)=>True
 |_=>False
section
variable {P:Program}{w:World}{H:Hp}{h h':Heap}{x e:Addr}{o':HO}
theorem HOk.write(ok:HOk P w H h)(mu:Mut (H x))(he:e=x\/H e=some (.own x))(k:∀b u,b≠e->h.get? b=some u->h'.get? b=some u)(heo:∃u,h'.get? e=some u)
  (new:ObjOk P w (upd H x o') h' x o'):HOk P w (upd H x o') h':=λb u q=>by
 have nown:∀c y,H c=some (.own y)->c≠x:=λc y r z=>by subst z;rw[r] at mu;exact mu
 have ntup:∀c xs,H c=some (.tup xs)->c≠x:=λc xs r z=>by subst z;rw[r] at mu;exact mu
 by_cases hb:b=x
 ·subst hb;rw[q0] at q;cases q;exact new
 ·rw[qG hb] at q
  by_cases hbe:b=e
  ·have q':H b=some (.own x):=by
    rcases he with z|z
    ·exact absurd (hbe.trans z) hb
    ·rw[hbe];exact z
   rw[q] at q';cases q';obtain⟨v,hv⟩:=heo;exact⟨v,by rw[hbe];exact hv⟩
  ·refine(ok b u q).stay (λc v hc r=>k c v ?_ r) (λc r=>by rw[qG (nown c b r)];exact r) λc xs r=>by rw[qG (ntup c xs r)];exact r
   rcases hc with rfl|hc
   ·exact hbe
   ·rintro rfl
    rcases he with z|z
    ·exact nown c b hc z
    ·rw[hc] at z;cases z;exact hb rfl
end
structure Un(fs ex:List Addr)(H H':Hp)(h h':Heap):Prop where
 keep:∀b o,h.get? b=some o->H b=none->b∉fs->b∉ex->h'.get? b=some o
 slot:∀b o,h.get? b=some o->H b=none->b∈fs->b∉ex->∃sl,h'.get? b=some {o with slots:=sl}
 free:∀b o,h.get? b=some o->H b=none->b∉ex->H' b=none
 there:∀b o,h.get? b=some o->b∉ex->∃o',h'.get? b=some o'
 tups:∀b xs,H b=some (.tup xs)->H' b=some (.tup xs)
 frzs:∀b o u,H b=some (.frz o u)->H' b=some (.frz o u)
 tbls:∀b ps,H b=some (.tbl ps)->∃more,H' b=some (.tbl (ps++more))
section
variable {fs fs' ex ex':List Addr}{H H1 H2:Hp}{h h1 h2 h':Heap}{a x e:Addr}{o:HO}
theorem Un.any(u:Un fs ex H H1 h h1){b:Addr}{ob:Obj}(q:h.get? b=some ob)(n:H b=none)(hx:b∉ex):∃sl,h1.get? b=some {ob with slots:=sl}:=by
 by_cases hb:b∈fs
 ·exact u.slot b ob q n hb hx
 ·exact⟨ob.slots,u.keep b ob q n hb hx⟩
theorem Un.trans(a:Un fs ex H H1 h h1)(b:Un fs ex H1 H2 h1 h2):Un fs ex H H2 h h2 where
 keep:=λc ob q n hc hx=>b.keep c ob (a.keep c ob q n hc hx) (a.free c ob q n hx) hc hx
 slot:=λc ob q n hc hx=>by
  obtain⟨sl,e1⟩:=a.slot c ob q n hc hx;obtain⟨sl',e2⟩:=b.slot c _ e1 (a.free c ob q n hx) hc hx;exact⟨sl',e2⟩
 free:=λc ob q n hx=>by
  obtain⟨o',e1⟩:=a.there c ob q hx;exact b.free c o' e1 (a.free c ob q n hx) hx
 there:=λc ob q hx=>by
  obtain⟨o',e1⟩:=a.there c ob q hx;exact b.there c o' e1 hx
 tups:=λc xs q=>b.tups c xs (a.tups c xs q)
 frzs:=λc ob xs q=>b.frzs c ob xs (a.frzs c ob xs q)
 tbls:=λc ps q=>by
  obtain⟨m1,e1⟩:=a.tbls c ps q;obtain⟨m2,e2⟩:=b.tbls c _ e1;exact⟨m1++m2,by rw[e2,Array.append_assoc]⟩
theorem Un.kept(k:∀b u,h.get? b=some u->h'.get? b=some u):Un fs ex H H h h':=
 ⟨λb ob q _ _ _=>k b ob q,λb ob q _ _ _=>⟨ob.slots,k b ob q⟩,λ_ _ _ n _=>n,λb ob q _=>⟨ob,k b ob q⟩,λ_ _ q=>q,λ_ _ _ q=>q,λ_ ps q=>⟨#[],by rw[q];simp⟩⟩
theorem Un.refl:Un fs ex H H h h:=Un.kept λ_ _ q=>q
theorem Un.laid(k:∀b u,h.get? b=some u->h'.get? b=some u)(hp:h.objs.size<=a)(hn:H a=none):Un fs ex H (upd H a o) h h' where
 keep:=λb u q _ _ _=>k b u q
 slot:=λb u q _ _ _=>⟨u.slots,k b u q⟩
 free:=λb u q n _=>by rw[qG (Nat.ne_of_lt (Nat.lt_of_lt_of_le (Heap.lt_size q) hp))];exact n
 there:=λb u q _=>⟨u,k b u q⟩
 tups:=λb xs q=>by rw[qG (qJ q hn)];exact q
 frzs:=λb u xs q=>by rw[qG (qJ q hn)];exact q
 tbls:=λb ps q=>⟨#[],by rw[qG (qJ q hn),q];simp⟩
theorem Un.write(mu:Mut (H x))(he:e=x\/H e=some (.own x))(k:∀b u,b≠e->h.get? b=some u->h'.get? b=some u)(heo:∃u,h'.get? e=some u):Un fs ex H (upd H x o) h h':=by
 have hx:∀b,H b=none->b≠x:=λb n z=>by subst z;rw[n] at mu;exact mu
 have hb:∀b,H b=none->b≠e:=λb n z=>by
  subst z;rcases he with r|r
  ·exact hx b n r
  ·rw[n] at r;cases r
 have hm:∀b u,H b=some u->¬Mut (some u)->b≠x:=λb u q nm z=>by subst z;rw[q] at mu;exact nm mu
 refine⟨λb u q n _ _=>k b u (hb b n) q,λb u q n _ _=>⟨u.slots,k b u (hb b n) q⟩,λb u q n _=>by rw[qG (hx b n)];exact n,λb u q _=>?_,
  λb xs q=>by rw[qG (hm b _ q λz=>z)];exact q,λb u xs q=>by rw[qG (hm b _ q λz=>z)];exact q,λb ps q=>⟨#[],by rw[qG (hm b _ q λz=>z),q];simp⟩⟩
 by_cases hbe:b=e
 ·subst hbe;exact heo
 ·exact⟨u,k b u hbe q⟩
theorem Un.mono(u:Un fs ex H H1 h h1)(hs:∀b∈fs,b∈fs')(hx:∀b∈ex,b∈ex'):Un fs' ex' H H1 h h1:=
 ⟨λb ob q n hb he=>u.keep b ob q n (λz=>hb (hs b z)) λz=>he (hx b z),λ_ _ q n _ he=>u.any q n λz=>he (hx _ z),λb ob q n he=>u.free b ob q n λz=>he (hx b z),λb ob q he=>u.there b ob q λz=>he (hx b z),u.tups,u.frzs,u.tbls⟩
end
noncomputable def trk(h:Heap)(H:Hp):List Addr:=(List.range h.objs.size).filter λa=>(H a).isSome
noncomputable def hidT(h:Heap)(H:Hp):Heap:=PySem.W.hideAll h (trk h H)
theorem hidT_size(h:Heap)(H:Hp):(hidT h H).objs.size=h.objs.size:=PySem.W.hideAll_size _ _
theorem hidT_get{h:Heap}{H:Hp}{b:Addr}{o:Obj}(e:h.get? b=some o)(n:H b=none):(hidT h H).get? b=some o:=
 PySem.W.hideAll_get _ e λhm=>by
  have q:(H b).isSome=true:=(List.mem_filter.mp hm).2;rw[n] at q;simp at q
theorem of_hidT{h:Heap}{H:Hp}{b:Addr}{o:Obj}(e:(hidT h H).get? b=some o):h.get? b=some o/\H b=none:=by
 have e':h.get? b=some o:=PySem.W.of_hideAll (trk h H) e;refine⟨e',?_⟩
 cases q:H b with
 |none=>rfl
 | some x=>
  have hm:b∈trk h H:=List.mem_filter.mpr ⟨List.mem_range.mpr (Heap.lt_size e'),by simp[q]⟩;have z:(hidT h H).get? b=none:=PySem.W.hideAll_none (trk h H) hm;rw[z] at e;cases e
structure Mod(K:PySem.W.Frag)(mg:Str->Option Value)(base:Heap):Prop where
 kin:K.In base
 glob:base.Ns mainGlobals mg
 blt:∃mb,base.Ns builtinsNs mb/\∀x:Str,x≠"__name__"->mb x=bootBuiltins x
 nolimit:base.NoLimit
structure Cx where
 prog:Program
 w:World
 K:PySem.W.Frag
 mg:Str->Option Value
 base:Heap
 A:Around
 N:List Str
 s₀:Shared
 H₀:Hp
 env:Env
 outer:List Env
 stack:List Env
 ex:List Addr
 fn:Str->Bool
 calm:Bool
 pn:List (Addr×Obj)
 xe:Value->Shared->Prop
noncomputable def frs(l:List Env):List Addr:=l.filterMap (·.frame)
noncomputable abbrev Cx.fs(X:Cx):List Addr:=frs X.outer
noncomputable def Vis(sc:Scope)(x:Str):Prop:=sc.names.lookup x=some .local\/sc.names.lookup x=some .cell\/sc.names.lookup x=some .free
noncomputable def Loc(sc:Scope)(x:Str):Prop:=sc.names.lookup x=some .local\/sc.names.lookup x=some .cell
noncomputable def Look(env:Env)(h:Heap)(m:Str->Option Value)(x:Str)(u:Value):Prop:=
 (env.kindOf x=some .local/\m x=some u)\/((env.kindOf x=some .cell\/env.kindOf x=some .free)/\∃c,env.cells.lookup x=some c/\h.IsCell c (some u))
structure Cx.Ok(X:Cx):Prop where
 mod:Mod X.K X.mg X.base
 kind:X.env.scope.kind = .function
 glob:X.env.globals=mainGlobals
 blt:X.env.builtins=builtinsNs
 above:X.s₀.heap.objs.size<=X.env.locals
 inj:∀x y c,X.env.cells.lookup x=some c->X.env.cells.lookup y=some c->x=y
 has:∀x,(X.env.kindOf x=some .cell\/X.env.kindOf x=some .free)->∃c,X.env.cells.lookup x=some c
 cab:∀x c,X.fn x=true->X.env.cells.lookup x=some c->X.s₀.heap.objs.size<=c
 hd:X.calm=true->X.A.handled=none
 frames:X.A.frames=some X.stack
 stk:X.stack=X.outer\/(X.stack=X.env::X.outer/\X.env.frame=some X.env.locals)
 exf:∀b∈X.ex,b≠X.env.locals/\∀x c,X.env.cells.lookup x=some c->c≠b
 bs:∀b o,X.base.get? b=some o->X.s₀.heap.get? b=some o/\X.H₀ b=none
 bsz:X.base.objs.size<=X.s₀.heap.objs.size
 noex:∀b o,X.base.get? b=some o->b∉X.ex
 exfs:∀b∈X.ex,b∉X.fs
 funs:X.s₀.heap.FunFrames X.base X.outer
 frf:∀b∈X.fs,X.H₀ b=none
structure Inv(X:Cx)(pins:List (Addr×Obj))(σ:List (Option V))(H:Hp)(s:Shared):Prop where
 ok:X.Ok
 os:s.os=X.s₀.os
 bare:AllBare s.gens
 base:Un X.fs X.ex X.H₀ H X.s₀.heap s.heap
 loc:∃m,s.heap.Ns X.env.locals m/\∀(i:Nat) (x:Str) (v:V),X.N[i]?=some x->σ[i]?=some (some v)->Vis X.env.scope x->∃u,RelV v u/\Look X.env s.heap m x u
 cell:∀x c,X.env.cells.lookup x=some c->∃v,s.heap.IsCell c v
 free:H X.env.locals=none
 freeC:∀x c,X.env.cells.lookup x=some c->H c=none
 pin:∀p∈X.pn++pins,s.heap.get? p.1=some p.2/\H p.1=none/\p.1≠X.env.locals/\p.1∉X.fs/\∀v,p.2.data≠.cell v
 hok:HOk X.prog X.w H s.heap
 len:σ.length=X.N.length
section
variable {X:Cx}{pins:List (Addr×Obj)}{σ:List (Option V)}{H H':Hp}{s:Shared}{h':Heap}
theorem Cx.Ok.nofr(ok:X.Ok){b:Addr}{o:Obj}(e:X.base.get? b=some o):b∉X.fs:=λhb=>by
 have:=(ok.funs.mem hb).1;rw[e] at this;cases this
theorem Inv.bs(I:Inv X pins σ H s):∀b o,X.base.get? b=some o->s.heap.get? b=some o/\H b=none:=λb o e=>
 ⟨I.base.keep b o (I.ok.bs b o e).1 (I.ok.bs b o e).2 (I.ok.nofr e) (I.ok.noex b o e),I.base.free b o (I.ok.bs b o e).1 (I.ok.bs b o e).2 (I.ok.noex b o e)⟩
theorem Inv.bk(I:Inv X pins σ H s):∀b o,X.base.get? b=some o->s.heap.get? b=some o:=λb o e=>(I.bs b o e).1
theorem Inv.mod(I:Inv X pins σ H s):Mod X.K X.mg X.base:=I.ok.mod
theorem Inv.kIn(I:Inv X pins σ H s):X.K.In s.heap:=I.ok.mod.kin.keeps I.bk
theorem Inv.lt(I:Inv X pins σ H s):X.env.locals < s.heap.objs.size:=let⟨_,hn,_⟩:=I.loc;hn.lt
theorem Inv.sz(I:Inv X pins σ H s):X.s₀.heap.objs.size<=s.heap.objs.size:=Nat.le_trans I.ok.above (Nat.le_of_lt I.lt)
theorem Inv.nofs(I:Inv X pins σ H s){a:Addr}(h:s.heap.objs.size<=a):a∉X.fs:=λhb=>by
 obtain⟨_,o,ho,_⟩:=I.ok.funs.mem hb;exact absurd (Nat.lt_of_lt_of_le (Heap.lt_size ho) (Nat.le_trans I.sz h)) (Nat.lt_irrefl _)
theorem Inv.cne(I:Inv X pins σ H s):∀x c,X.env.cells.lookup x=some c->c≠X.env.locals:=λx c e z=>by
 obtain⟨v,o,ho,hd⟩:=I.cell x c e;obtain⟨m,⟨o',es,ep,ho',hd',_⟩,_⟩:=I.loc;rw[z,ho'] at ho;cases ho;rw[hd'] at hd;cases hd
theorem Inv.funs(I:Inv X pins σ H s):s.heap.FunFrames X.base X.outer:=by
 have all:∀(l:List Env),(∀b∈frs l,b∈X.fs)->X.s₀.heap.FunFrames X.base l->s.heap.FunFrames X.base l:=by
  intro l
  induction l with
  |nil=>intro _ _;trivial
  | cons env r ih=>
   intro hs hl;obtain⟨hk,⟨L,o,hf,hn,ho,hd⟩,hr⟩:=hl;have hL:L∈X.fs:=hs L (by unfold frs;rw[List.filterMap_cons,hf];exact List.mem_cons_self);obtain⟨sl,e⟩:=I.base.slot L o ho (I.ok.frf L hL) hL λz=>I.ok.exfs L z hL;exact⟨hk,⟨L,_,hf,hn,e,hd⟩,ih (λb hb=>hs b (by unfold frs;rw[List.filterMap_cons,hf];exact List.mem_cons_of_mem _ hb)) hr⟩
 exact all X.outer (λ_ hb=>hb) I.ok.funs
theorem Inv.stack(I:Inv X pins σ H s):s.heap.FunFrames X.base X.stack:=by
 rcases I.ok.stk with e|⟨e,hf⟩
 ·rw[e];exact I.funs
 ·rw[e]
  obtain⟨m,hn,_⟩:=I.loc;refine .cons (by rw[I.ok.kind];decide) hf hn ?_ I.funs;exact Heap.get?_none_of_le (Nat.le_trans I.ok.bsz I.ok.above)
theorem Inv.stkSub(I:Inv X pins σ H s):∀b∈frs X.stack,b∈X.env.locals::X.fs:=λb hb=>by
 rcases I.ok.stk with e|⟨e,hf⟩
 ·rw[e] at hb;exact List.mem_cons_of_mem _ hb
 ·rw[e] at hb
  unfold frs at hb;rw[List.filterMap_cons,hf] at hb;exact hb
theorem Inv.stkFree(I:Inv X pins σ H s):∀b∈frs X.stack,H b=none:=λb hb=>by
 rcases List.mem_cons.mp (I.stkSub b hb) with e|hb
 ·rw[e];exact I.free
 ·obtain⟨_,o,ho,_⟩:=I.ok.funs.mem hb
  exact I.base.free b o ho (I.ok.frf b hb) λz=>I.ok.exfs b z hb
theorem Inv.step{g':Array GenState}{t':Nat}{d':Drawn}{ch:List Addr}(I:Inv X pins σ H s)
  (hch:∀b∈ch,(b∈X.ex\/X.s₀.heap.objs.size<=b)/\b≠X.env.locals/\(∀x c,X.env.cells.lookup x=some c->c≠b)/\∀p∈X.pn++pins,p.1≠b)
  (keep:∀b o,b≠X.env.locals->b∉X.fs->b∉ch->s.heap.get? b=some o->H b=none->h'.get? b=some o)
  (slot:∀b o,b≠X.env.locals->b∈X.fs->b∉ch->s.heap.get? b=some o->H b=none->∃sl,h'.get? b=some {o with slots:=sl})(free:∀b o,b∉ch->s.heap.get? b=some o->H b=none->H' b=none)
  (there:∀b o,b∉ch->s.heap.get? b=some o->∃o',h'.get? b=some o')
  (tups:∀b xs,H b=some (.tup xs)->H' b=some (.tup xs))(frzs:∀b o u,H b=some (.frz o u)->H' b=some (.frz o u))(tbls:∀b ps,H b=some (.tbl ps)->∃more,H' b=some (.tbl (ps++more)))
  (ns:∀m,s.heap.Ns X.env.locals m->h'.Ns X.env.locals m)(hok:HOk X.prog X.w H' h')(hg:AllBare g'):
  Inv X pins σ H' {s with heap:=h',gens:=g',drawn:=d',toks:=t'}:=by
 have neL:∀b o,X.s₀.heap.get? b=some o->b≠X.env.locals:=λb o e=>Nat.ne_of_lt (Nat.lt_of_lt_of_le (Heap.lt_size e) I.ok.above)
 have neC:∀b o,X.s₀.heap.get? b=some o->b∉X.ex->b∉ch:=λb o e hx hb=>by
  rcases(hch b hb).1 with z|z
  ·exact hx z
  ·exact absurd (Nat.lt_of_lt_of_le (Heap.lt_size e) z) (Nat.lt_irrefl _)
 have cellK:∀x c,X.env.cells.lookup x=some c->∀v,s.heap.IsCell c v->h'.IsCell c v:=λx c e v ⟨o,ho,hd⟩=>by
  have nch:c∉ch:=λz=>(hch c z).2.2.1 x c e rfl;by_cases hc:c∈X.fs
  ·obtain⟨sl,q⟩:=slot c o (I.cne x c e) hc nch ho (I.freeC x c e)
   exact⟨_,q,hd⟩
  ·exact⟨o,keep c o (I.cne x c e) hc nch ho (I.freeC x c e),hd⟩
 refine⟨I.ok,I.os,hg,⟨λb o e n hb hx=>?_,λb o e n hb hx=>?_,λb o e n hx=>?_,λb o e hx=>?_,λb xs e=>tups b xs (I.base.tups b xs e),λb o xs e=>frzs b o xs (I.base.frzs b o xs e),λb ps e=>?_⟩,?_,λx c e=>?_,?_,λx c e=>?_,λp hp=>?_,hok,I.len⟩
 ·exact keep b o (neL b o e) hb (neC b o e hx) (I.base.keep b o e n hb hx) (I.base.free b o e n hx)
 ·obtain⟨sl,e1⟩:=I.base.slot b o e n hb hx
  obtain⟨sl',e2⟩:=slot b _ (neL b o e) hb (neC b o e hx) e1 (I.base.free b o e n hx);exact⟨sl',e2⟩
 ·obtain⟨o',e1⟩:=I.base.there b o e hx
  exact free b o' (neC b o e hx) e1 (I.base.free b o e n hx)
 ·obtain⟨o',e1⟩:=I.base.there b o e hx
  exact there b o' (neC b o e hx) e1
 ·obtain⟨m1,e1⟩:=I.base.tbls b ps e
  obtain⟨m2,e2⟩:=tbls b _ e1;exact⟨m1++m2,by rw[e2,Array.append_assoc]⟩
 ·obtain⟨m,hn,hl⟩:=I.loc
  refine⟨m,ns m hn,λi x v e1 e2 e3=>?_⟩;obtain⟨u,r,l⟩:=hl i x v e1 e2 e3;refine⟨u,r,?_⟩;rcases l with l|⟨k,c,e,z⟩
  ·exact .inl l
  ·exact .inr ⟨k,c,e,cellK x c e _ z⟩
 ·obtain⟨v,z⟩:=I.cell x c e
  exact⟨v,cellK x c e v z⟩
 ·obtain⟨m,⟨o,_,_,ho,_⟩,_⟩:=I.loc
  exact free _ o (λz=>(hch _ z).2.1 rfl) ho I.free
 ·obtain⟨v,o,ho,hd⟩:=I.cell x c e
  exact free c o (λz=>(hch c z).2.2.1 x c e rfl) ho (I.freeC x c e)
 ·obtain⟨e,n,ne,nf,d⟩:=I.pin p hp
  have nch:p.1∉ch:=λz=>(hch p.1 z).2.2.2 p hp rfl;exact⟨keep p.1 p.2 ne nf nch e n,free p.1 p.2 nch e n,ne,nf,d⟩
theorem Inv.un{t':Nat}(I:Inv X pins σ H s)(u:Un X.fs [] H H' s.heap h')(hok:HOk X.prog X.w H' h'):Inv X pins σ H' {s with heap:=h',toks:=t'}:=by
 obtain⟨m,⟨o,es,ep,ho,r⟩,_⟩:=id I.loc;obtain⟨sl,hL⟩:=u.any ho I.free (by simp)
 exact I.step (g':=s.gens) (d':=s.drawn) (ch:=[]) (λ_ z=>nomatch z) (λb o _ hb _ e n=>u.keep b o e n hb (by simp)) (λb o _ hb _ e n=>u.slot b o e n hb (by simp)) (λb o _ e n=>u.free b o e n (by simp)) (λb o _ e=>u.there b o e (by simp)) u.tups u.frzs u.tbls (λm' hm=>by
  obtain⟨o',es',ep',ho',r'⟩:=hm;rw[ho] at ho';cases ho'
  exact⟨_,es',ep',hL,r'⟩) hok I.bare
theorem Inv.call{g':Array GenState}{t':Nat}{d':Drawn}{ch:List Addr}(I:Inv X pins σ H s)(u:Un (frs X.stack) ch H H' s.heap h')(hok:HOk X.prog X.w H' h')(hg:AllBare g')
  (hch:∀b∈ch,(b∈X.ex\/X.s₀.heap.objs.size<=b)/\b≠X.env.locals/\(∀x c,X.env.cells.lookup x=some c->c≠b)/\∀p∈X.pn++pins,p.1≠b):
  Inv X pins σ H' {s with heap:=h',gens:=g',drawn:=d',toks:=t'}:=by
 obtain⟨m,⟨o,es,ep,ho,r⟩,_⟩:=id I.loc;obtain⟨sl,hL⟩:=u.any ho I.free λz=>(hch _ z).2.1 rfl
 exact I.step (ch:=ch) hch (λb o hL hb hc e n=>u.keep b o e n (λz=>(List.mem_cons.mp (I.stkSub b z)).elim hL hb) hc) (λb o _ _ hc e n=>u.any e n hc) (λb o hc e n=>u.free b o e n hc) (λb o hc e=>u.there b o e hc) u.tups u.frzs u.tbls (λm' hm=>by
  obtain⟨o',es',ep',ho',r'⟩:=hm;rw[ho] at ho';cases ho'
  exact⟨_,es',ep',hL,r'⟩) hok hg
theorem Inv.turned{t':Nat}{it:Addr}(I:Inv X pins σ H s)(k:∀b o,b≠it->s.heap.get? b=some o->h'.get? b=some o)(hn:H it=none)(hL:it≠X.env.locals)
  (h1:it∈X.ex\/X.s₀.heap.objs.size<=it)(h2:∀x c,X.env.cells.lookup x=some c->c≠it)(h3:∀p∈X.pn++pins,p.1≠it):Inv X pins σ H {s with heap:=h',toks:=t'}:=by
 have nit:∀b u,H b=some u->b≠it:=λb u e z=>by rw[z,hn] at e;cases e
 refine I.step (g':=s.gens) (d':=s.drawn) (ch:=[it]) (λb hb=>?_) (λb o _ _ hc e _=>k b o (λz=>hc (by simp[z])) e) (λb o _ _ hc e _=>⟨o.slots,k b o (λz=>hc (by simp[z])) e⟩) (λ_ _ _ _ n=>n)
  (λb o hc e=>⟨o,k b o (λz=>hc (by simp[z])) e⟩) (λ_ _ e=>e) (λ_ _ _ e=>e) (λb ps e=>⟨#[],by rw[e];simp⟩) (λm hm=>?_) (λb u e=>?_) I.bare
 ·have e:b=it:=by simpa using hb
  subst e;exact⟨h1,hL,h2,h3⟩
 ·obtain⟨o,es,ep,ho,r⟩:=hm
  exact⟨o,es,ep,k _ o (Ne.symm hL) ho,r⟩
 ·refine(I.hok b u e).stay (λc v hc q=>k c v ?_ q) (λ_ q=>q) λ_ _ q=>q
  rcases hc with z|z
  ·rw[z];exact nit b u e
  ·exact nit c _ z
theorem Inv.tok(I:Inv X pins σ H s)(t:Nat):Inv X pins σ H {s with toks:=t}:=I.un (h':=s.heap) (t':=t) Un.refl I.hok
theorem Inv.kept{t':Nat}(I:Inv X pins σ H s)(k:∀b u,s.heap.get? b=some u->h'.get? b=some u):Inv X pins σ H {s with heap:=h',toks:=t'}:=I.un (Un.kept k) (I.hok.kept k)
theorem Inv.laid{a:Addr}{o:HO}{t':Nat}(I:Inv X pins σ H s)(k:∀b u,s.heap.get? b=some u->h'.get? b=some u)(hp:s.heap.objs.size<=a)(new:ObjOk X.prog X.w (upd H a o) h' a o):
  Inv X pins σ (upd H a o) {s with heap:=h',toks:=t'}:=I.un (Un.laid k hp (I.hok.fresh hp)) (I.hok.laid k hp new)
theorem Inv.write{x e:Addr}{o:HO}{t':Nat}(I:Inv X pins σ H s)(mu:Mut (H x))(he:e=x\/H e=some (.own x))(k:∀b u,b≠e->s.heap.get? b=some u->h'.get? b=some u)(heo:∃u,h'.get? e=some u)
  (new:ObjOk X.prog X.w (upd H x o) h' x o):Inv X pins σ (upd H x o) {s with heap:=h',toks:=t'}:=I.un (Un.write mu he k heo) (I.hok.write mu he k heo new)
theorem Inv.pins_of{pins':List (Addr×Obj)}(I:Inv X pins σ H s)(h:∀p∈pins',s.heap.get? p.1=some p.2/\H p.1=none/\p.1≠X.env.locals/\p.1∉X.fs/\∀v,p.2.data≠.cell v):Inv X pins' σ H s:=
 ⟨I.ok,I.os,I.bare,I.base,I.loc,I.cell,I.free,I.freeC,λp hp=>(List.mem_append.mp hp).elim (λz=>I.pin p (List.mem_append_left _ z)) (h p),I.hok,I.len⟩
theorem q4w{N:List Str}(hN:N.Nodup){i j:Nat}{x:Str}(a:N[i]?=some x)(b:N[j]?=some x):i=j:=by
 obtain⟨h1,e1⟩:=List.getElem?_eq_some_iff.mp a;obtain⟨h2,e2⟩:=List.getElem?_eq_some_iff.mp b;exact(List.getElem_inj hN).mp (e1.trans e2.symm)
theorem q5K{M:Model}{A:Around}{E:Value->Shared->Prop}{i:Nat}{x:Str}{v:V}{u:Value}{Q:Unit->Shared->Prop}(I:Inv X pins σ H s)(hN:X.N.Nodup)(hi:X.N[i]?=some x)(hx:Loc X.env.scope x)(r:RelV v u)
  (h:∀s',Inv X pins (σ.set i (some v)) H s'->(∃a,Heap.SameBut a s.heap s'.heap/\(a=X.env.locals\/X.env.cells.lookup x=some a))->Q () s')(hf:X.fn x=true\/X.env.scope.names.lookup x=some .local:=by first|exact .inl rfl|exact .inr rfl|assumption):wpAny M A (storeName X.env x u) Q E s:=by
 obtain⟨m,hn,hl⟩:=id I.loc;have hcls:(X.env.scope.kind == .class ||(X.env.scope.kind == .module && X.env.locals != X.env.globals))=false:=by rw[I.ok.kind];rfl
 have hiσ:i < σ.length:=by rw[I.len];exact(List.getElem?_eq_some_iff.mp hi).1
 have cne:=I.cne
 have tracked:∀{a:Addr} {h':Heap},(∃o,s.heap.get? a=some o/\H a=none)->Heap.SameBut a s.heap h'->HOk X.prog X.w H h':=λ{a h'} ha hs b ob e=>by
  obtain⟨_,_,hfree⟩:=ha;refine(I.hok b ob e).stay (λc w' hc q=>(hs.2 c ?_).trans q) (λ_ q=>q) λ_ _ q=>q;rintro rfl;rcases hc with rfl|hc
  ·rw[hfree] at e;cases e
  ·rw[hfree] at hc;cases hc
 rcases hx with hk|hk
 ·refine wpAny_storeName_local hk hn (λh' hn' hs=>?_) hcls
  obtain⟨oL,_,_,hoL,_⟩:=id hn;refine h _ ⟨I.ok,I.os,I.bare,⟨λb o e n hb hx=>?_,λb o e n hb hx=>?_,I.base.free,λb o e hx=>?_,I.base.tups,I.base.frzs,I.base.tbls⟩,⟨_,hn',λj y v' e1 e2 e3=>?_⟩,λy c e=>?_,I.free,I.freeC,λp hp=>?_,tracked ⟨oL,hoL,I.free⟩ hs,by simpa using I.len⟩ ⟨_,hs,.inl rfl⟩
  ·exact(hs.2 b (Nat.ne_of_lt (Nat.lt_of_lt_of_le (Heap.lt_size e) I.ok.above))).trans (I.base.keep b o e n hb hx)
  ·obtain⟨sl,e1⟩:=I.base.slot b o e n hb hx
   exact⟨sl,(hs.2 b (Nat.ne_of_lt (Nat.lt_of_lt_of_le (Heap.lt_size e) I.ok.above))).trans e1⟩
  ·obtain⟨o',e1⟩:=I.base.there b o e hx
   exact⟨o',(hs.2 b (Nat.ne_of_lt (Nat.lt_of_lt_of_le (Heap.lt_size e) I.ok.above))).trans e1⟩
  ·by_cases hj:j=i
   ·subst hj
    rw[hi] at e1;cases e1;rw[List.getElem?_set_self hiσ] at e2;cases e2;exact⟨u,r,.inl ⟨hk,by simp⟩⟩
   ·rw[List.getElem?_set_ne (Ne.symm hj)] at e2
    obtain⟨u',r',q⟩:=hl j y v' e1 e2 e3;refine⟨u',r',?_⟩;rcases q with⟨k,e⟩|⟨k,c,e,z⟩
    ·refine .inl ⟨k,?_⟩
     have:y≠x:=λe=>hj (q4w hN e1 (e▸hi));simp[this,e]
    ·exact .inr ⟨k,c,e,z.sameBut hs (cne y c e)⟩
  ·obtain⟨w',z⟩:=I.cell y c e
   exact⟨w',z.sameBut hs (cne y c e)⟩
  ·obtain⟨e,n,ne,nf,d⟩:=I.pin p hp
   exact⟨(hs.2 p.1 ne).trans e,n,ne,nf,d⟩
 ·have hfn:X.fn x=true:=by
   rcases hf with z|z
   ·exact z
   ·rw[z] at hk;cases hk
  obtain⟨c,hc⟩:=I.ok.has x (.inl hk);obtain⟨w',z⟩:=I.cell x c hc;refine wpAny_storeName_cell I.ok.kind hk hc z (λh' hc' hs=>?_);obtain⟨oc,hoc,hocd⟩:=id z;refine h {s with heap:=h'} ⟨I.ok,I.os,I.bare,⟨λb o e n hb hx=>?_,λb o e n hb hx=>?_,I.base.free,λb o e hx=>?_,I.base.tups,I.base.frzs,I.base.tbls⟩,⟨m,hn.sameBut hs (Ne.symm (cne x c hc)),λj y v' e1 e2 e3=>?_⟩,λy c' e=>?_,I.free,I.freeC,λp hp=>?_,tracked ⟨oc,hoc,I.freeC x c hc⟩ hs,by simpa using I.len⟩ ⟨c,hs,.inr hc⟩
  ·exact(hs.2 b (Nat.ne_of_lt (Nat.lt_of_lt_of_le (Heap.lt_size e) (I.ok.cab x c hfn hc)))).trans (I.base.keep b o e n hb hx)
  ·obtain⟨sl,e1⟩:=I.base.slot b o e n hb hx
   exact⟨sl,(hs.2 b (Nat.ne_of_lt (Nat.lt_of_lt_of_le (Heap.lt_size e) (I.ok.cab x c hfn hc)))).trans e1⟩
  ·obtain⟨o',e1⟩:=I.base.there b o e hx
   exact⟨o',(hs.2 b (Nat.ne_of_lt (Nat.lt_of_lt_of_le (Heap.lt_size e) (I.ok.cab x c hfn hc)))).trans e1⟩
  ·by_cases hj:j=i
   ·subst hj
    rw[hi] at e1;cases e1;rw[List.getElem?_set_self hiσ] at e2;cases e2;exact⟨u,r,.inr ⟨.inl hk,c,hc,hc'⟩⟩
   ·rw[List.getElem?_set_ne (Ne.symm hj)] at e2
    obtain⟨u',r',q⟩:=hl j y v' e1 e2 e3;refine⟨u',r',?_⟩;rcases q with q|⟨k,c',e,z'⟩
    ·exact .inl q
    ·refine .inr ⟨k,c',e,z'.sameBut hs ?_⟩
     rintro rfl;exact hj (q4w hN e1 (I.ok.inj _ _ _ e hc▸hi))
  ·by_cases hcc:c'=c
   ·subst hcc;exact⟨_,hc'⟩
   ·obtain⟨w2,z2⟩:=I.cell y c' e
    exact⟨w2,z2.sameBut hs hcc⟩
  ·obtain⟨e,n,ne,nf,d⟩:=I.pin p hp
   refine⟨(hs.2 p.1 ?_).trans e,n,ne,nf,d⟩;intro q;rw[q,hoc] at e;have q':oc=p.2:=Option.some.inj e;exact d w' (by rw[<-q'];exact hocd)
theorem q1w{M:Model}{A:Around}{E:Value->Shared->Prop}{i:Nat}{x:Str}{v:V}{u:Value}{Q:Unit->Shared->Prop}(I:Inv X pins σ H s)(hN:X.N.Nodup)(hi:X.N[i]?=some x)(hx:Loc X.env.scope x)(r:RelV v u)
  (h:∀s',Inv X pins (σ.set i (some v)) H s'->Q () s')(hf:X.fn x=true\/X.env.scope.names.lookup x=some .local:=by first|exact .inl rfl|exact .inr rfl|assumption):wpAny M A (storeName X.env x u) Q E s:=
 q5K I hN hi hx r (λs' I' _=>h s' I') hf
theorem Inv.call'{s':Shared}{ch:List Addr}(I:Inv X pins σ H s)(ho:s'.os=s.os)(u:Un (frs X.stack) ch H H' s.heap s'.heap)(hok:HOk X.prog X.w H' s'.heap)(hg:AllBare s'.gens)
  (hch:∀b∈ch,(b∈X.ex\/X.s₀.heap.objs.size<=b)/\b≠X.env.locals/\(∀x c,X.env.cells.lookup x=some c->c≠b)/\∀p∈X.pn++pins,p.1≠b):Inv X pins σ H' s':=by
 obtain⟨h',g',d',t',o'⟩:=s';have e:o'=s.os:=ho;subst e;exact I.call (g':=g') (t':=t') (d':=d') u hok hg hch
end
noncomputable abbrev XK:=Value->Option Addr->Hp->Prop
noncomputable abbrev St:=List (Option V)
noncomputable abbrev VK:=V->Hp->Prop
noncomputable abbrev TE:=St->Hp->VK->Prop
noncomputable abbrev TT:=St->Hp->(Bool->Hp->Prop)->Prop
noncomputable abbrev TA:=St->Hp->(List V->Hp->Prop)->Prop
structure Ends where
 nx:St->Hp->Prop
 rt:VK
 bk:St->Hp->Prop:=λ_ _=>False
 ct:St->Hp->Prop:=λ_ _=>False
noncomputable abbrev TS:=Ends->St->Hp->Prop
noncomputable def EP(X:Cx)(pins:List (Addr×Obj))(σ:St)(Q:VK)(u:Value)(s':Shared):Prop:=∃v H',Inv X pins σ H' s'/\RelV v u/\Q v H'
noncomputable def TP(X:Cx)(pins:List (Addr×Obj))(σ:St)(Q:Bool->Hp->Prop)(b:Bool)(s':Shared):Prop:=∃H',Inv X pins σ H' s'/\Q b H'
noncomputable def AP(X:Cx)(pins:List (Addr×Obj))(σ:St)(Q:List V->Hp->Prop)(us:List Value)(s':Shared):Prop:=∃vs H',Inv X pins σ H' s'/\Vals vs us/\Q vs H'
noncomputable def SP(X:Cx)(pins:List (Addr×Obj))(D:Ends)(f:Flow)(s':Shared):Prop:=
 match f with
 |.next=>∃σ' H',Inv X pins σ' H' s'/\D.nx σ' H'
 |.brk=>∃σ' H',Inv X pins σ' H' s'/\D.bk σ' H'
 |.cont=>∃σ' H',Inv X pins σ' H' s'/\D.ct σ' H'
 |.ret u=>∃v σ' H',Inv X pins σ' H' s'/\RelV v u/\D.rt v H'
noncomputable def PE(X:Cx)(e:Expr)(t:TE):Prop:=
 ∀(pins:List (Addr×Obj)) (s:Shared) (σ:St) (H:Hp) (Q:VK),Inv X pins σ H s->t σ H Q->wpAny (model X.prog X.w) X.A (eval e X.env) (EP X pins σ Q) X.xe s
noncomputable def PT(X:Cx)(e:Expr)(t:TT):Prop:=
 ∀(pins:List (Addr×Obj)) (s:Shared) (σ:St) (H:Hp) (Q:Bool->Hp->Prop),Inv X pins σ H s->t σ H Q->wpAny (model X.prog X.w) X.A (isTrue e X.env (eval e X.env)) (TP X pins σ Q) X.xe s
noncomputable def PW(X:Cx)(e:Expr)(t:TT):Prop:=
 ∀(whole:Sem Value) (pins:List (Addr×Obj)) (s:Shared) (σ:St) (H:Hp) (Q:Bool->Hp->Prop),Inv X pins σ H s->t σ H Q->wpAny (model X.prog X.w) X.A (isTrue e X.env whole) (TP X pins σ Q) X.xe s
theorem PW.pt{X:Cx}{e:Expr}{t:TT}(h:PW X e t):PT X e t:=h _
noncomputable def PA(X:Cx)(es:List Expr)(t:TA):Prop:=
 ∀(pos:Pos) (pins:List (Addr×Obj)) (s:Shared) (σ:St) (H:Hp) (Q:List V->Hp->Prop),Inv X pins σ H s->t σ H Q->wpAny (model X.prog X.w) X.A (spliced (backTo pos (starEach es X.env))) (AP X pins σ Q) X.xe s
noncomputable def PS(X:Cx)(st:Stmt)(t:TS):Prop:=
 ∀(pins:List (Addr×Obj)) (s:Shared) (σ:St) (H:Hp) (D:Ends),Inv X pins σ H s->t D σ H->wpAny (model X.prog X.w) X.A (exec st X.env) (SP X pins D) X.xe s
noncomputable def PSs(X:Cx)(st:List Stmt)(t:TS):Prop:=
 ∀(pins:List (Addr×Obj)) (s:Shared) (σ:St) (H:Hp) (D:Ends),Inv X pins σ H s->t D σ H->wpAny (model X.prog X.w) X.A (execs st X.env) (SP X pins D) X.xe s
theorem thn{α:Type}{t:Sem α}{Q Q':α->Shared->Prop}{M:Model}{A:Around}{E:Value->Shared->Prop}{s:Shared}(h:wpAny M A t Q E s)(hQ:∀a s,Q a s->Q' a s):wpAny M A t Q' E s:=wpAny_mono h hQ λ_ _ x=>x
section
variable {X:Cx}
theorem bin{a b:Expr}{ta tb:TE}(ha:PE X a ta)(hb:PE X b tb){pins:List (Addr×Obj)}{s:Shared}{σ:St}{H:Hp}{R:V->V->Hp->Prop}(I:Inv X pins σ H s)(h:ta σ H λx H1=>tb σ H1 λy H2=>R x y H2)
  {α:Type}{Q:α->Shared->Prop}{f:Value->Value->Sem α}
  (hf:∀v u s2 x y H2,Inv X pins σ H2 s2->RelV x v->RelV y u->R x y H2->wpAny (model X.prog X.w) X.A (f v u) Q X.xe s2):
  wpAny (model X.prog X.w) X.A (eval a X.env) (λv s₁=>wpAny (model X.prog X.w) X.A (eval b X.env) (λu s₂=>wpAny (model X.prog X.w) X.A (f v u) Q X.xe s₂) X.xe s₁) X.xe s:=by
 refine thn (ha pins s σ H _ I h) λv s1 ⟨x,H1,I1,r1,q1⟩=>?_;refine thn (hb pins s1 σ H1 _ I1 q1) λu s2 ⟨y,H2,I2,r2,q2⟩=>?_;exact hf v u s2 x y H2 I2 r1 r2 q2
noncomputable def tVar(i:Nat):TE:=λσ H Q=>∃v,σ[i]?=some (some v)/\Q v H
noncomputable def tC(v:V):TE:=λ_ H Q=>Q v H
theorem q2g{i:Nat}{x:Str}{pos:Pos}(hN:X.N[i]?=some x)(hv:Vis X.env.scope x)(hd:(x == ("__debug__" : Str))=false:=by decide)(hcd:(x == ("__classdict__" : Str))=false:=by decide):PE X (.Name x pos) (tVar i):=by
 intro pins s σ H Q I h;obtain⟨v,e,h⟩:=h;obtain⟨m,hn,hl⟩:=I.loc;obtain⟨u,r,l⟩:=hl i x v hN e hv
 have fin:EP X pins σ Q u s:=⟨v,H,I,r,h⟩
 rcases l with⟨hk,hm⟩|⟨hk,c,hc,hcell⟩
 ·exact wpAny_Name (wpAny_loadName_local I.ok.kind hk hn hm fin) hd
 ·rcases hk with hk|hk
  ·exact wpAny_Name (wpAny_loadName_cell I.ok.kind hk hc hcell fin) hd
  ·exact wpAny_Name (wpAny_loadName_free I.ok.kind hk hc hcell fin hcd) hd
theorem qD{i j pos}:PE X (.Constant (.int i) j pos) (tC (.int i)):=λ_ _ _ H _ I h=>wpAny_Constant_int ⟨.int i,H,I.tok _,⟨_,rfl⟩,h⟩
theorem q3n{b j pos}:PE X (.Constant (.bool b) j pos) (tC (.bl b)):=λ_ _ _ H _ I h=>Constant_bool ⟨.bl b,H,I,rfl,h⟩
theorem qu{j pos}:PE X (.Constant .none j pos) (tC .non):=λ_ _ _ H _ I h=>Constant_none ⟨.non,H,I,rfl,h⟩
theorem qE{x j pos}:PE X (.Constant (.str x) j pos) (tC (.str x)):=λ_ _ _ H _ I h=>Calls.Constant_str ⟨.str x,H,I.tok _,⟨_,rfl⟩,h⟩
noncomputable def Gl(X:Cx)(x:Str):Prop:=X.env.kindOf x=some .globalImplicit
theorem q1r{E:Value->Shared->Prop}{pins:List (Addr×Obj)}{s:Shared}{σ:St}{H:Hp}{x:Str}{u:Value}{pos:Pos}{Q:Value->Shared->Prop}(I:Inv X pins σ H s)(hg:Gl X x)(hm:X.mg x=some u)(h:Q u s)
  (hd:(x == ("__debug__" : Str))=false:=by decide):wpAny (model X.prog X.w) X.A (eval (.Name x pos) X.env) Q E s:=
 Calls.Name_function_global I.ok.kind hg (Calls.loadGlobal_global (by rw[I.ok.glob];exact I.mod.glob.keeps I.bk) hm h) hd
theorem q3D{E:Value->Shared->Prop}{pins:List (Addr×Obj)}{s:Shared}{σ:St}{H:Hp}{x:Str}{u:Value}{pos:Pos}{Q:Value->Shared->Prop}(I:Inv X pins σ H s)(hg:Gl X x)(hm:X.mg x=none)(hv:bootBuiltins x=some u)(h:Q u s)
  (hn:x≠"__name__":=by decide)(hd:(x == ("__debug__" : Str))=false:=by decide):wpAny (model X.prog X.w) X.A (eval (.Name x pos) X.env) Q E s:=by
 obtain⟨mb,h1,h2⟩:=I.mod.blt;exact Calls.Name_function_global I.ok.kind hg (Calls.loadGlobal_builtin (by rw[I.ok.glob];exact I.mod.glob.keeps I.bk) hm (by rw[I.ok.blt];exact h1.keeps I.bk) ((h2 x hn).trans hv) h) hd
theorem q0R{x:Str}{v:V}{u:Value}{pos:Pos}(hg:Gl X x)(hm:X.mg x=some u)(r:RelV v u)(hd:(x == ("__debug__" : Str))=false:=by decide):PE X (.Name x pos) (tC v):=
 λ_ _ _ H _ I h=>q1r I hg hm ⟨v,H,I,r,h⟩ hd
theorem q4u{x:Str}{v:V}{u:Value}{pos:Pos}(hg:Gl X x)(hm:X.mg x=none)(hv:bootBuiltins x=some u)(r:RelV v u)(hn:x≠"__name__":=by decide)(hd:(x == ("__debug__" : Str))=false:=by decide):PE X (.Name x pos) (tC v):=
 λ_ _ _ H _ I h=>q3D I hg hm hv ⟨v,H,I,r,h⟩ hn hd
variable {a b:Expr}{ta tb:TE}{pos:Pos}
noncomputable def PC(X:Cx)(op:CmpOp)(a b:Expr)(t:TE):Prop:=
 ∀(pins:List (Addr×Obj)) (s:Shared) (σ:St) (H:Hp) (Q:VK),Inv X pins σ H s->t σ H Q ->
  wpAny (model X.prog X.w) X.A (eval a X.env) (λv s₁=>wpAny (model X.prog X.w) X.A (eval b X.env) (λu s₂=>wpAny (model X.prog X.w) X.A (compareOp op v u) (EP X pins σ Q) X.xe s₂) X.xe s₁) X.xe s
noncomputable def tB(t:TE):TT:=λσ H Q=>t σ H λx H1=>∃c,x = .bl c/\Q c H1
theorem pt_cmp{op:CmpOp}{t:TE}(h:PC X op a b t)(h1:behindInMarks op b=false:=by first|exact nobehind _ (by decide) (by decide)|rfl):PT X (.Compare a [op] [b] pos) (tB t):=by
 intro pins s σ H Q I hw;refine wpAny_isTrue_Compare1 (thn (h pins s σ H _ I hw) λv s1 h1=>thn h1 λu s2 h2=>thn h2 λc s3 ⟨x,H1,I1,r1,q1⟩=>?_) h1;obtain⟨d,rfl,q⟩:=q1;cases r1;exact wpAny_truthy_bool ⟨H1,I1,q⟩
theorem q0c{e:Expr}{t:TE}(h:PE X e t)(he:∀whole,isTrue e X.env whole=(do let v <-whole;standAt e.pos;holding [v] (truthy v)):=by intro _;rfl):PT X e (tB t):=by
 intro pins s σ H Q I hw;refine isTrue_plain (thn (h pins s σ H _ I hw) λv s1 ⟨x,H1,I1,r1,q1⟩=>?_) (he _);obtain⟨d,rfl,q⟩:=q1;cases r1;exact wpAny_truthy_bool ⟨H1,I1,q⟩
variable {tA tB':TT}{rest:List Expr}
noncomputable def tAnd(t u:TT):TT:=λσ H Q=>t σ H λc H1=>if c=true then u σ H1 Q else Q false H1
noncomputable def tOr(t u:TT):TT:=λσ H Q=>t σ H λc H1=>if c=true then Q true H1 else u σ H1 Q
noncomputable def tNot(t:TT):TT:=λσ H Q=>t σ H λc H1=>Q (!c) H1
theorem q3j(ha:PT X a tA):PW X (.BoolOp .And [a] pos) tA:=by
 intro wh pins s σ H Q I h;refine isTrue_and (thn (ha pins s σ H Q I h) λc s1 e=>?_)
 cases c with
 |true=>exact isTrue_and_nil e
 |false=>exact e
theorem q0u(ha:PT X a tA):PW X (.BoolOp .Or [a] pos) tA:=by
 intro wh pins s σ H Q I h;refine isTrue_or (thn (ha pins s σ H Q I h) λc s1 e=>?_)
 cases c with
 |false=>exact isTrue_or_nil e
 |true=>exact e
theorem q5e(ha:PT X a tA)(hb:PW X (.BoolOp .And (b::rest) pos) tB'):PW X (.BoolOp .And (a::b::rest) pos) (tAnd tA tB'):=by
 intro wh pins s σ H Q I h;refine isTrue_and (thn (ha pins s σ H _ I h) λc s1 ⟨H1,I1,q1⟩=>?_)
 cases c with
 |true=>exact hb wh pins s1 σ H1 Q I1 q1
 |false=>exact⟨H1,I1,q1⟩
theorem q2B(ha:PT X a tA)(hb:PW X (.BoolOp .Or (b::rest) pos) tB'):PW X (.BoolOp .Or (a::b::rest) pos) (tOr tA tB'):=by
 intro wh pins s σ H Q I h;refine isTrue_or (thn (ha pins s σ H _ I h) λc s1 ⟨H1,I1,q1⟩=>?_)
 cases c with
 |true=>exact⟨H1,I1,q1⟩
 |false=>exact hb wh pins s1 σ H1 Q I1 q1
theorem qw(ha:PT X a tA):PT X (.UnaryOp .Not a pos) (tNot tA):=by
 intro pins s σ H Q I h;exact isTrue_not (ha pins s σ H (λc H1=>Q (!c) H1) I h)
noncomputable def tAndV(ta tb:TE):TE:=λσ H Q=>ta σ H λx H1=>∃c,x = .bl c/\if c=true then tb σ H1 Q else Q (.bl false) H1
noncomputable def tNotV(ta:TE):TE:=λσ H Q=>ta σ H λx H1=>∃c,x = .bl c/\Q (.bl (!c)) H1
theorem pe_one{op}{t:TE}(h:PE X a t):PE X (.BoolOp op [a] pos) t:=λpins s σ H Q I hw=>BoolOp_one (h pins s σ H Q I hw)
theorem pe_and(ha:PE X a ta)(hb:PE X (.BoolOp .And (b::rest) pos) tb):PE X (.BoolOp .And (a::b::rest) pos) (tAndV ta tb):=by
 intro pins s σ H Q I h;refine BoolOp_and (thn (ha pins s σ H _ I h) λv s1 ⟨x,H1,I1,r1,q1⟩=>?_);obtain⟨c,rfl,q1⟩:=q1;cases r1;refine wpAny_truthy_bool ?_
 cases c with
 |true=>exact hb pins s1 σ H1 Q I1 q1
 |false=>exact⟨.bl false,H1,I1,rfl,q1⟩
theorem pe_not(ha:PE X a ta):PE X (.UnaryOp .Not a pos) (tNotV ta):=by
 intro pins s σ H Q I h;refine UnaryOp_ (thn (ha pins s σ H _ I h) λv s1 ⟨x,H1,I1,r1,q1⟩=>?_);obtain⟨c,rfl,q1⟩:=q1;cases r1;exact not_of (wpAny_truthy_bool ⟨.bl (!c),H1,I1,rfl,q1⟩)
noncomputable def tIf(t:TT)(ta tb:TE):TE:=λσ H Q=>t σ H λc H1=>if c=true then ta σ H1 Q else tb σ H1 Q
theorem q7P{c:Expr}(hc:PT X c tA)(ha:PE X a ta)(hb:PE X b tb):PE X (.IfExp c a b pos) (tIf tA ta tb):=by
 intro pins s σ H Q I h;refine wpAny_IfExp (thn (hc pins s σ H _ I h) λd s1 ⟨H1,I1,q1⟩=>?_)
 cases d with
 |true=>exact ha pins s1 σ H1 Q I1 q1
 |false=>exact hb pins s1 σ H1 Q I1 q1
end
noncomputable def SqL(K:PySem.W.Frag)(H:Hp)(a:Addr)(xs:List V):Prop:=
 Rd H a (.lst xs) \/
  ∃(o:Obj) (its:Array Value) (n:Nat),K.lookup a=some o/\o.cls = .type "list"/\o.dict=none/\o.data = .seq its n/\its.size<=sizeLine/\Vals xs its.toList
noncomputable def SqT(K:PySem.W.Frag)(H:Hp)(a:Addr)(xs:List V):Prop:=
 Rd H a (.tup xs) \/
  ∃(o:Obj) (its:Array Value) (n:Nat),K.lookup a=some o/\o.cls = .type "tuple"/\o.data = .seq its n/\its.size<=sizeLine/\Vals xs its.toList
noncomputable def absV:Value->Option V
 |.none=>some .non
 |.bool b=>some (.bl b)
 |.int i _=>some (.int i)
 |.str x _=>some (.str x)
 |.bytes b _=>some (.byt b)
 |.float b _=>some (.flt b)
 |.ref a=>some (.ref a)
 |.type n=>some (.ty n)
 |_=>none
theorem RelV.abs{x:V}{u:Value}(r:RelV x u):absV u=some x:=by
 cases x with
 |non=>cases r;rfl
 |bl _=>cases r;rfl
 |int _=>obtain⟨t,rfl⟩:=r;rfl
 |str _=>obtain⟨t,rfl⟩:=r;rfl
 |byt _=>obtain⟨t,rfl⟩:=r;rfl
 |flt _=>obtain⟨t,rfl⟩:=r;rfl
 |ref _=>cases r;rfl
 |ty _=>cases r;rfl
theorem RelV.inj{x y:V}{u:Value}(r:RelV x u)(q:RelV y u):x=y:=Option.some.inj (r.abs.symm.trans q.abs)
theorem Vals.inj:∀{xs ys:List V} {us:List Value},Vals xs us->Vals ys us->xs=ys
 |_,_,_,.nil,.nil=>rfl
 |_,_,_,.cons r t,.cons r' t'=>by rw[r.inj r',Vals.inj t t']
section
variable {X:Cx}{pins:List (Addr×Obj)}{σ:St}{H:Hp}{s:Shared}{a:Addr}{xs ys:List V}
theorem SqL.of{K:PySem.W.Frag}(h:H a=some (.lst xs)):SqL K H a xs:=.inl (.inl h)
theorem SqT.of{K:PySem.W.Frag}(h:H a=some (.tup xs)):SqT K H a xs:=.inl (.inl h)
theorem Inv.list(I:Inv X pins σ H s)(h:SqL X.K H a xs):∃its:List Value,Vals xs its/\PlainL s.heap a its.toArray/\xs.length<=sizeLine:=by
 rcases h with h|⟨o,its,n,hk,hc,hd,hs,hz,r⟩
 ·obtain⟨z,its,n,r,e⟩:=h.ok I.hok
  exact⟨its,r,⟨_,n,e,rfl,rfl,rfl⟩,z⟩
 ·refine⟨its.toList,r,⟨o,n,I.kIn a o hk,hc,hd,by simpa using hs⟩,?_⟩
  have e:=r.length;simp only[Array.length_toList] at e
  lia
theorem Inv.tuple(I:Inv X pins σ H s)(h:SqT X.K H a xs):∃its:List Value,Vals xs its/\IsTup s.heap a its.toArray/\xs.length<=sizeLine:=by
 rcases h with h|⟨o,its,n,hk,hc,hs,hz,r⟩
 ·obtain⟨z,its,r,p⟩:=h.ok I.hok
  exact⟨its,r,p,z⟩
 ·refine⟨its.toList,r,⟨o,I.kIn a o hk,hc,n,by simpa using hs⟩,?_⟩
  have e:=r.length;simp only[Array.length_toList] at e
  lia
theorem Inv.list_inj(I:Inv X pins σ H s)(h:SqL X.K H a xs)(h':SqL X.K H a ys):xs=ys:=by
 obtain⟨its,r,⟨o,n,e,_,_,d⟩,_⟩:=I.list h;obtain⟨its',r',⟨o',n',e',_,_,d'⟩,_⟩:=I.list h';rw[e] at e';cases e';rw[d] at d';injection d' with d1 _;have:its=its':=by simpa using congrArg Array.toList d1
 subst this;exact r.inj r'
theorem Inv.tuple_inj(I:Inv X pins σ H s)(h:SqT X.K H a xs)(h':SqT X.K H a ys):xs=ys:=by
 obtain⟨its,r,⟨o,e,_,n,d⟩,_⟩:=I.tuple h;obtain⟨its',r',⟨o',e',_,n',d'⟩,_⟩:=I.tuple h';rw[e] at e';cases e';rw[d] at d';injection d' with d1 _;have:its=its':=by simpa using congrArg Array.toList d1
 subst this;exact r.inj r'
end
noncomputable abbrev Cx.wish(X:Cx)(E:Value->Shared->Prop):Cx:={X with xe:=E}
noncomputable abbrev Cx.nox(X:Cx):Cx:=X.wish λ_ _=>False
theorem Cx.Ok.wish{X:Cx}(ok:X.Ok)(E:Value->Shared->Prop):(X.wish E).Ok:=
 ⟨ok.mod,ok.kind,ok.glob,ok.blt,ok.above,ok.inj,ok.has,ok.cab,ok.hd,ok.frames,ok.stk,ok.exf,ok.bs,ok.bsz,ok.noex,ok.exfs,ok.funs,ok.frf⟩
theorem Cx.Ok.unwish{X:Cx}{E:Value->Shared->Prop}(ok:(X.wish E).Ok):X.Ok:=
 ⟨ok.mod,ok.kind,ok.glob,ok.blt,ok.above,ok.inj,ok.has,ok.cab,ok.hd,ok.frames,ok.stk,ok.exf,ok.bs,ok.bsz,ok.noex,ok.exfs,ok.funs,ok.frf⟩
section
variable {X:Cx}{pins:List (Addr×Obj)}{σ:St}{H:Hp}{s:Shared}{E:Value->Shared->Prop}
theorem Inv.wish(I:Inv X pins σ H s)(E:Value->Shared->Prop):Inv (X.wish E) pins σ H s:=⟨I.ok.wish E,I.os,I.bare,I.base,I.loc,I.cell,I.free,I.freeC,I.pin,I.hok,I.len⟩
theorem Inv.unwish(I:Inv (X.wish E) pins σ H s):Inv X pins σ H s:=⟨I.ok.unwish,I.os,I.bare,I.base,I.loc,I.cell,I.free,I.freeC,I.pin,I.hok,I.len⟩
theorem SP.unwish{D:Ends}{f:Flow}{s':Shared}(h:SP (X.wish E) pins D f s'):SP X pins D f s':=by
 cases f with
 |next=>obtain⟨σ',H',I,q⟩:=h;exact⟨σ',H',I.unwish,q⟩
 |brk=>obtain⟨σ',H',I,q⟩:=h;exact⟨σ',H',I.unwish,q⟩
 |cont=>obtain⟨σ',H',I,q⟩:=h;exact⟨σ',H',I.unwish,q⟩
 |ret u=>obtain⟨v,σ',H',I,r,q⟩:=h;exact⟨v,σ',H',I.unwish,r,q⟩
theorem PSs.nox{st:List Stmt}{t:TS}(h:PSs X.nox st t):PSs X st t:=λpins s σ H D I hw=>
 wpAny_mono (h pins s σ H D (I.wish _) hw) (λ_ _ q=>q.unwish) λ_ _ z=>False.elim z
end
section
variable {X:Cx}{st:Stmt}{rest:List Stmt}{t u:TS}{e:Expr}{te:TE}{pos:Pos}
noncomputable def tNext:TS:=λD σ H=>D.nx σ H
noncomputable def tSeq(t u:TS):TS:=λD σ H=>t {D with nx:=u D} σ H
theorem qO:PSs X [] tNext:=λ_ _ σ H _ I h=>wpAny_execs_nil ⟨σ,H,I,h⟩
theorem qB(h1:PS X st t)(h2:PSs X rest u):PSs X (st::rest) (tSeq t u):=by
 intro pins s σ H D I h;refine wpAny_execs_cons (thn (h1 pins s σ H {D with nx:=u D} I h) λf s1 q=>?_)
 cases f with
 | next=>
  obtain⟨σ',H',I',q⟩:=q;exact h2 pins s1 σ' H' D I' q
 |ret v=>exact q
 |brk=>exact q
 |cont=>exact q
theorem qC(h1:PS X st t):PSs X [st] t:=by
 intro pins s σ H D I h;refine wpAny_execs_cons (thn (h1 pins s σ H D I h) λf s1 q=>?_)
 cases f with
 |next=>exact wpAny_execs_nil q
 |ret v=>exact q
 |brk=>exact q
 |cont=>exact q
theorem Inv.quiet{pins:List (Addr×Obj)}{σ:St}{H:Hp}{s:Shared}(I:Inv X pins σ H s):interactive X.env=false:=by simp[interactive,I.ok.kind]
noncomputable def tDrop(te:TE):TS:=λD σ H=>te σ H λ_ H1=>D.nx σ H1
theorem qj(he:PE X e te)(hs:swapsWith e none pos.line X.env=pure false:=by rfl):PS X (.Expr e pos) (tDrop te):=by
 intro pins s σ H D I h;exact wpAny_Expr_any (thn (he pins s σ H _ I h) λv s1 ⟨x,H1,I1,r1,q1⟩=>⟨σ,H1,I1,q1⟩) I.quiet hs
noncomputable def tRet(te:TE):TS:=λD σ H=>te σ H D.rt
theorem qK(he:PE X e te):PS X (.Return (some e) pos) (tRet te):=by
 intro pins s σ H D I h;exact wpAny_Return_some (thn (he pins s σ H _ I h) λv s1 ⟨x,H1,I1,r1,q1⟩=>⟨x,σ,H1,I1,r1,q1⟩)
noncomputable def tIfS(c:TT)(t u:TS):TS:=λD σ H=>c σ H λb H1=>if b=true then t D σ H1 else u D σ H1
theorem qY{c:Expr}{a b:List Stmt}{tc:TT}(hc:PT X c tc)(ha:PSs X a t)(hb:PSs X b u):PS X (.If c a b pos) (tIfS tc t u):=by
 intro pins s σ H D I h;refine wpAny_If (thn (hc pins s σ H _ I h) λd s1 ⟨H1,I1,q1⟩=>?_)
 cases d with
 |true=>exact ha pins s1 σ H1 D I1 q1
 |false=>exact hb pins s1 σ H1 D I1 q1
noncomputable def tNever:TS:=λ_ _ _=>False
theorem q0A:PS X st tNever:=λ_ _ _ _ _ _ h=>h.elim
theorem q03{sts:List Stmt}:PSs X sts tNever:=λ_ _ _ _ _ _ h=>h.elim
end
noncomputable abbrev TG:=V->St->Hp->(St->Hp->Prop)->Prop
noncomputable abbrev TGs:=List V->St->Hp->(St->Hp->Prop)->Prop
noncomputable def PG(X:Cx)(target:Expr)(t:TG):Prop:=
 ∀(pins:List (Addr×Obj)) (s:Shared) (σ:St) (H:Hp) (v:V) (u:Value) (Q:St->Hp->Prop),Inv X pins σ H s->RelV v u->t v σ H Q ->
  wpAny (model X.prog X.w) X.A (assign target X.env u) (λ_ s'=>∃σ' H',Inv X pins σ' H' s'/\Q σ' H') X.xe s
noncomputable def PGs(X:Cx)(ts:List Expr)(t:TGs):Prop:=
 ∀(pins:List (Addr×Obj)) (s:Shared) (σ:St) (H:Hp) (vs:List V) (us:List Value) (Q:St->Hp->Prop),Inv X pins σ H s->Vals vs us->t vs σ H Q ->
  wpAny (model X.prog X.w) X.A (assignInOrder ((assignEach ts X.env).map (·.2)) us) (λ_ s'=>∃σ' H',Inv X pins σ' H' s'/\Q σ' H') X.xe s
noncomputable abbrev TSet:=V->V->V->Hp->(Hp->Prop)->Prop
noncomputable def PSet(X:Cx)(t:TSet):Prop:=
 ∀(pins:List (Addr×Obj)) (s:Shared) (σ:St) (H:Hp) (o i v:V) (ov iv u:Value) (Q:Hp->Prop),Inv X pins σ H s->RelV o ov->RelV i iv->RelV v u->t o i v H Q ->
  wpAny (model X.prog X.w) X.A (setItem ov iv u) (λ_ s'=>∃H',Inv X pins σ H' s'/\Q H') X.xe s
noncomputable abbrev TIp:=V->V->Hp->VK->Prop
noncomputable def PIp(X:Cx)(op:Operator)(t:TIp):Prop:=
 ∀(pins:List (Addr×Obj)) (s:Shared) (σ:St) (H:Hp) (x y:V) (v u:Value) (Q:VK),Inv X pins σ H s->RelV x v->RelV y u->t x y H Q ->
  wpAny (model X.prog X.w) X.A (inplaceOp op v u) (EP X pins σ Q) X.xe s
section
variable {X:Cx}{pos:Pos}
noncomputable def gName(i:Nat):TG:=λv σ H Q=>Q (σ.set i (some v)) H
theorem qZ{i:Nat}{x:Str}(hN:X.N.Nodup)(hi:X.N[i]?=some x)(hx:Loc X.env.scope x)(hf:X.fn x=true\/X.env.scope.names.lookup x=some .local:=by first|exact .inl rfl|exact .inr rfl|assumption):PG X (.Name x pos) (gName i):=by
 intro pins s σ H v u Q I r h;exact wpAny_assign_Name (q1w I hN hi hx r (λs' I'=>⟨_,H,I',h⟩) hf)
noncomputable def gNil:TGs:=λvs σ H Q=>vs=[]/\Q σ H
noncomputable def gCons(t:TG)(u:TGs):TGs:=λvs σ H Q=>∃v r,vs=v::r/\t v σ H λσ' H'=>u r σ' H' Q
theorem pgs_nil:PGs X [] gNil:=by
 intro pins s σ H vs us Q I r h;obtain⟨e,h⟩:=h;subst e;cases r;exact assignInOrder_nil ⟨σ,H,I,h⟩
theorem q7O{e:Expr}{es:List Expr}{t:TG}{u:TGs}(h1:PG X e t)(h2:PGs X es u)
  (hs:(assignEach (e::es) X.env).map (·.2)=assign e X.env::(assignEach es X.env).map (·.2):=by rfl):PGs X (e::es) (gCons t u):=by
 intro pins s σ H vs us Q I r h;obtain⟨v,vr,e1,h⟩:=h;subst e1
 cases r with
 | cons r rr=>
  rw[hs];refine assignInOrder_cons (thn (h1 pins s σ H _ _ _ I r h) λ_ s1 ⟨σ1,H1,I1,q1⟩=>?_);exact h2 pins s1 σ1 H1 _ _ Q I1 rr q1
noncomputable def gTup(K:PySem.W.Frag)(n:Nat)(t:TGs):TG:=λv σ H Q=>∃a xs,v = .ref a/\SqT K H a xs/\xs.length=n/\t xs σ H Q
theorem pg_tup{es:List Expr}{k:Nat}{t:TGs}{n:Nat}(hc:X.calm=true)(h:PGs X es t)
  (hn:(assignEach es X.env).length=n:=by rfl)(hst:(assignEach es X.env).findIdx? (·.1)=none:=by rfl):PG X (.Tuple es k pos) (gTup X.K n t):=by
 intro pins s σ H v u Q I r hw;obtain⟨a,xs,e1,hq,hl,hw⟩:=hw;subst e1;cases r;obtain⟨its,rv,ht,hz⟩:=I.tuple hq;refine assign_Tuple_tuple (I.ok.hd hc) ht (by simp[hn,<-hl,rv.length]) hst λh' hx=>?_;have I1:Inv X pins σ H {s with heap:=h'}:=I.kept (t':=s.toks) λb o e=>hx b o (Nat.ne_of_lt (Heap.lt_size e)) e;exact h pins _ σ H xs _ Q I1 (by simpa using rv) hw
noncomputable def gSub(to ti:TE)(t:TSet):TG:=λv σ H Q=>to σ H λo H1=>ti σ H1 λi H2=>t o i v H2 λH3=>Q σ H3
theorem pg_sub{o i:Expr}{to ti:TE}{t:TSet}(ho:PE X o to)(hi:PE X i ti)(hs:PSet X t)
  (ha:∀v,assign (.Subscript o i pos) X.env v=(do
   let ov <-holding [v] (eval o X.env)
   let iv <-holding [v,ov] (eval i X.env)
   standAt pos
   holding [v,ov,iv] (setItem ov iv v)
   release [v,ov,iv] []):=by intro _;rfl):PG X (.Subscript o i pos) (gSub to ti t):=by
 intro pins s σ H v u Q I r h;rw[ha];refine wpAny_bind (wpAny_holding (thn (ho pins s σ H _ I h) λov s1 ⟨x,H1,I1,r1,q1⟩=>?_));refine wpAny_bind (wpAny_holding (thn (hi pins s1 σ H1 _ I1 q1) λiv s2 ⟨y,H2,I2,r2,q2⟩=>?_));refine wpAny_bind (wpAny_standAt (wpAny_bind (wpAny_holding (thn (hs pins s2 σ H2 x y v ov iv u _ I2 r1 r2 r q2) λ_ s3 ⟨H3,I3,q3⟩=>?_))));exact wpAny_release ⟨σ,H3,I3,q3⟩
noncomputable def tAsg(te:TE)(g:TG):TS:=λD σ H=>te σ H λx H1=>g x σ H1 D.nx
theorem ps_asg{tg e:Expr}{te:TE}{g:TG}(he:PE X e te)(hg:PG X tg g)(hs:swapsWithSole [tg] e pos.line X.env=pure false:=by rfl)(hw:swappedStores [tg] e X.env=pure none:=by rfl)
  (h1:(assignEach [tg] X.env).map (·.2)=[assign tg X.env]:=by rfl):PS X (.Assign [tg] e pos) (tAsg te g):=by
 intro pins s σ H D I h;refine wpAny_Assign_stores (thn (he pins s σ H _ I h) λv s1 ⟨x,H1,I1,r1,q1⟩=>?_) hs hw;rw[h1];exact thn (hg pins s1 σ H1 x v _ I1 r1 q1) λ_ s2 q=>q
theorem ps_set{i:Nat}{x:Str}{e:Expr}{te:TE}{pos':Pos}(hN:X.N.Nodup)(hi:X.N[i]?=some x)(hx:Loc X.env.scope x)(he:PE X e te)(hs:swapsWith e (some (.Name x pos')) pos.line X.env=pure false:=by rfl)(hf:X.fn x=true\/X.env.scope.names.lookup x=some .local:=by first|exact .inl rfl|exact .inr rfl|assumption):
  PS X (.Assign [.Name x pos'] e pos) (tAsg te (gName i)):=by
 intro pins s σ H D I h;refine wpAny_Assign_Name (thn (he pins s σ H _ I h) λv s1 ⟨y,H1,I1,r1,q1⟩=>?_) hs;exact q1w I1 hN hi hx r1 (λs2 I2=>⟨_,H1,I2,q1⟩) hf
noncomputable def tPar(i j:Nat)(ta:TA):TS:=λD σ H=>ta σ H λvs H1=>∃v w,vs=[v,w]/\D.nx ((σ.set i (some v)).set j (some w)) H1
theorem ps_par{i j:Nat}{x y:Str}{a b:Expr}{ta:TA}{px py pt:Pos}{kt k2 pt2}(hc:X.calm=true)(hN:X.N.Nodup)(hi:X.N[i]?=some x)(hj:X.N[j]?=some y)(hij:i≠j)
  (hx:X.env.scope.names.lookup x=some .local)(hy:X.env.scope.names.lookup y=some .local)(ha:PA X [a,b] ta)
  (hw:swappedStores [.Tuple [.Name x px,.Name y py] kt pt] (.Tuple [a,b] k2 pt2) X.env=pure (some [x,y]))
  (hs:swapsWithSole [.Tuple [.Name x px,.Name y py] kt pt] (.Tuple [a,b] k2 pt2) pos.line X.env=pure false:=by rfl):
  PS X (.Assign [.Tuple [.Name x px,.Name y py] kt pt] (.Tuple [a,b] k2 pt2) pos) (tPar i j ta):=by
 intro pins s σ H D I h;rw[exec_Assign_arm];refine wpAny_bind (wpAny_standAt ?_);rw[hs];refine wpAny_bind (wpAny_pure ?_);rw[if_neg (by decide)];refine wpAny_bind (Tuple_ (thn (ha _ pins s σ H _ I h) λus s1 ⟨vs,H1,I1,r1,q1⟩=>?_));obtain⟨v,w,e1,q1⟩:=q1;subst e1
 obtain⟨u1,u2,rfl,rv,rw'⟩:∃u1 u2,us=[u1,u2]/\RelV v u1/\RelV w u2:=by
  cases r1 with
  | cons p q=>
   cases q with
   | cons p' q'=>
    cases q';exact⟨_,_,rfl,p,p'⟩
 refine wpAny_newObj_type ?_ (by show 2<=sizeLine;decide);have I2:Inv X pins σ H1 {s1 with heap:=s1.heap.push {cls:=.type "tuple",data:=.seq [u1,u2].toArray}}:=I1.kept (t':=s1.toks) λb o e=>Heap.get?_push_of_some _ e;rw[hw];refine wpAny_bind (wpAny_pure ?_);show wpAny (model X.prog X.w) X.A (do rule "assign.swapped-stores";let items <-unpackItems (.ref s1.heap.objs.size) 2 none;assignInOrder [λv=>bindName X.env y v,λv=>bindName X.env x v] items.reverse;pure Flow.next) _ _ _;refine wpAny_bind (wpAny_rule (wpAny_bind (unpackItems_tuple (items:=#[u1,u2]) (I.ok.hd hc) (IsTup.new s1.heap _) λh' hx'=>?_)));have I3:=I2.kept (h':=h') (t':=s1.toks) λb o e=>hx' b o (Nat.ne_of_lt (Heap.lt_size e)) e;show wpAny _ _ (assignInOrder [λv=>bindName X.env y v,λv=>bindName X.env x v] [u2,u1] >>= λ_=>pure Flow.next) _ _ _;refine wpAny_bind (assignInOrder_cons (wpAny_bindName (q1w I3 hN hj (.inl hy) rw' (λs2 I4=>?_) (.inr hy))));refine assignInOrder_cons (wpAny_bindName (q1w I4 hN hi (.inl hx) rv (λs3 I5=>assignInOrder_nil (wpAny_pure ?_)) (.inr hx)));rw[List.set_comm _ _ (Ne.symm hij)] at I5;exact⟨_,H1,I5,q1⟩
noncomputable def tAug(i:Nat)(te:TE)(ti:TIp):TS:=λD σ H=>∃x,σ[i]?=some (some x)/\te σ H λy H1=>ti x y H1 λz H2=>D.nx (σ.set i (some z)) H2
theorem q4N{i:Nat}{x:Str}{e:Expr}{te:TE}{op:Operator}{ti:TIp}{pos':Pos}(hN:X.N.Nodup)(hi:X.N[i]?=some x)(hx:Loc X.env.scope x)(he:PE X e te)(ho:PIp X op ti)(hf:X.fn x=true\/X.env.scope.names.lookup x=some .local:=by first|exact .inl rfl|exact .inr rfl|assumption):
  PS X (.AugAssign (.Name x pos') op e pos) (tAug i te ti):=by
 intro pins s σ H D I h;obtain⟨v,e1,h⟩:=h;obtain⟨m,hn,hl⟩:=I.loc;have vis:Vis X.env.scope x:=by rcases hx with k|k;exact .inl k;exact .inr (.inl k)
 obtain⟨u,r,l⟩:=hl i x v hi e1 vis;refine wpAny_AugAssign_Name ?_;have go:wpAny (model X.prog X.w) X.A (eval e X.env) (λw s₂=>wpAny (model X.prog X.w) X.A (inplaceOp op u w) (λr s₃=>wpAny (model X.prog X.w) X.A (storeName X.env x r) (λ_=>SP X pins D .next) X.xe s₃) X.xe s₂) X.xe s:=by
  refine thn (he pins s σ H _ I h) λw s1 ⟨y,H1,I1,r1,q1⟩=>?_;refine thn (ho pins s1 σ H1 v y u w _ I1 r r1 q1) λz s2 ⟨zv,H2,I2,r2,q2⟩=>?_;exact q1w I2 hN hi hx r2 (λs3 I3=>⟨_,H2,I3,q2⟩) hf
 rcases l with⟨hk,hm⟩|⟨hk,c,hc,hcell⟩
 ·exact wpAny_loadName_local I.ok.kind hk hn hm go
 ·rcases hk with hk|hk
  ·exact wpAny_loadName_cell I.ok.kind hk hc hcell go
  ·rcases hx with k|k
   ·have:X.env.scope.names.lookup x=some .free:=hk
    rw[k] at this;cases this
   ·have:X.env.scope.names.lookup x=some .free:=hk
    rw[k] at this;cases this
noncomputable def ipI(f:Int->Int->Int):TIp:=λx y H Q=>∃i j,x = .int i/\y = .int j/\Q (.int (f i j)) H
theorem q5v:PIp X .Add (ipI λi j=>i+j):=by
 intro pins s σ H x y v u Q I r1 r2 h;obtain⟨i,j,e1,e2,q⟩:=h;subst e1;subst e2;obtain⟨t,rfl⟩:=r1;obtain⟨t',rfl⟩:=r2;exact iadd_int ⟨.int _,H,I.tok _,⟨_,rfl⟩,q⟩
theorem ip_sub:PIp X .Sub (ipI λi j=>i-j):=by
 intro pins s σ H x y v u Q I r1 r2 h;obtain⟨i,j,e1,e2,q⟩:=h;subst e1;subst e2;obtain⟨t,rfl⟩:=r1;obtain⟨t',rfl⟩:=r2;exact isub_int ⟨.int _,H,I.tok _,⟨_,rfl⟩,q⟩
end
section
variable {X:Cx}{pos:Pos}
noncomputable def tWhile(c:TT)(tb:TS):TS:=λD σ H=>∃W:Nat->St->Hp->Prop,(∃m,W m σ H)/\∀m σ H,W m σ H ->
 c σ H λb H1=>if b=true then ∃N:St->Hp->Prop,(∀σ' H',N σ' H'->∃m',m' < m/\W m' σ' H')/\tb {D with nx:=N,ct:=N,bk:=D.nx} σ H1 else D.nx σ H1
theorem q4t{c:Expr}{body:List Stmt}{tc:TT}{tb:TS}(hp:PassesOwn (model X.prog X.w) X.A X.env X.xe)(hc:PT X c tc)(hb:PSs X body tb):PS X (.While c body [] pos) (tWhile tc tb):=by
 intro pins s σ H D I h;obtain⟨W,⟨m0,w0⟩,turn⟩:=h;refine wpAny_While (codeAny_whileLoop (λn s'=>∃σ' H',Inv X pins σ' H' s'/\W n σ' H') ?_ m0 ⟨σ,H,I,w0⟩);rintro n s1 ⟨σ1,H1,I1,w1⟩;refine wpAny_passesOwn hp (thn (hc pins s1 σ1 H1 _ I1 (turn n σ1 H1 w1)) λb s2 ⟨H2,I2,q2⟩=>?_)
 cases b with
 | true=>
  obtain⟨N,hN,q2⟩:=q2;rw[if_pos rfl];refine wpAny_passesOwn hp (thn (hb pins s2 σ1 H2 _ I2 q2) λf s3 q3=>?_)
  cases f with
  | next=>
   obtain⟨σ3,H3,I3,n3⟩:=q3;obtain⟨m',hm,w3⟩:=hN σ3 H3 n3;exact⟨m',hm,σ3,H3,I3,w3⟩
  | cont=>
   obtain⟨σ3,H3,I3,n3⟩:=q3;obtain⟨m',hm,w3⟩:=hN σ3 H3 n3;exact⟨m',hm,σ3,H3,I3,w3⟩
  |brk=>exact q3
  |ret v=>exact q3
 | false=>
  rw[if_neg Bool.false_ne_true];exact wpAny_execs_nil ⟨σ1,H2,I2,q2⟩
end
structure It where
 go:Nat->Hp->Prop
 yld:Nat->Hp->V->Hp->Prop
 stop:Nat->Hp->Prop
noncomputable def FpOk(X:Cx)(pins:List (Addr×Obj))(H:Hp)(b:Addr):Prop:=
 H b=none/\b≠X.env.locals/\b∉X.fs/\(b∈X.ex\/X.s₀.heap.objs.size<=b)/\(∀x c,X.env.cells.lookup x=some c->c≠b)/\∀p∈X.pn++pins,p.1≠b
theorem Inv.fpOk{X:Cx}{pins:List (Addr×Obj)}{σ:St}{H H':Hp}{s:Shared}{b:Addr}(I:Inv X pins σ H s)(hb:s.heap.objs.size<=b)(hn:H' b=none):FpOk X pins H' b:=by
 refine⟨hn,Nat.ne_of_gt (Nat.lt_of_lt_of_le I.lt hb),I.nofs hb,.inr (Nat.le_trans I.sz hb),λx c e z=>?_,λp hp z=>?_⟩
 ·obtain⟨v,q⟩:=I.cell x c e
  exact absurd (Nat.lt_of_lt_of_le q.lt (by rw[z];exact hb)) (Nat.lt_irrefl _)
 ·exact absurd (Nat.lt_of_lt_of_le (Heap.lt_size (I.pin p hp).1) (by rw[z];exact hb)) (Nat.lt_irrefl _)
structure Turn(P:Program)(w:World)(K:PySem.W.Frag)(tg:Expr)(J:It)(fp:List Addr)(it:Addr)(tn:Nat->Heap->Prop):Prop where
 mem:it∈fp
 obj:∀i h,tn i h->∀b∈fp,∃o,h.get? b=some o/\∀v,o.data≠.cell v
 keep:∀i h h',tn i h->(∀b∈fp,∀o,h.get? b=some o->h'.get? b=some o)->tn i h'
 item:∀(X:Cx),X.prog=P->X.w=w->X.K=K->X.calm=true->∀(i:Nat) (pins:List (Addr×Obj)) (s:Shared) (σ:St) (H:Hp) (E:Value->Shared->Prop),Inv X pins σ H s->(∀b∈fp,FpOk X pins H b)->tn i s.heap->J.go i H ->
  wpAny (model P w) X.A (pyNext (.ref it)) (λr s1=>∃u,r=some u/\
   wpAny (model P w) X.A (letOwnedTupleGo tg (.ref it) u) (λ_ s2=>∃x H',Inv X pins σ H' s2/\RelV x u/\J.yld i H x H'/\tn (i+1) s2.heap/\∀b∈fp,H' b=none) E s1) E s
 done:∀(X:Cx),X.prog=P->X.w=w->X.K=K->X.calm=true->∀(i:Nat) (pins:List (Addr×Obj)) (s:Shared) (σ:St) (H:Hp) (E:Value->Shared->Prop),Inv X pins σ H s->(∀b∈fp,FpOk X pins H b)->tn i s.heap->J.stop i H ->
  wpAny (model P w) X.A (pyNext (.ref it)) (λr s1=>r=none/\Inv X pins σ H s1) E s
 self:∀(A:Around) (i:Nat) (s:Shared) (Q:Value->Shared->Prop) (E:Value->Shared->Prop),tn i s.heap->Q (.ref it) s->wpAny (model P w) A (pyIter (.ref it)) Q E s
noncomputable abbrev TI:=St->Hp->(It->Hp->Prop)->Prop
noncomputable def PIE(X:Cx)(pins:List (Addr×Obj))(σ:St)(tg:Expr)(R:It->Hp->Prop)(itv:Value)(s2:Shared):Prop:=
 ∃(it:Addr) (fp:List Addr) (tn:Nat->Heap->Prop) (J:It) (H':Hp),itv = .ref it/\Inv X pins σ H' s2/\Turn X.prog X.w X.K tg J fp it tn/\tn 0 s2.heap/\(∀b∈fp,FpOk X pins H' b)/\R J H'
noncomputable def PI(X:Cx)(tg iter:Expr)(wi:TI):Prop:=
 ∀(pins:List (Addr×Obj)) (s:Shared) (σ:St) (H:Hp) (R:It->Hp->Prop),Inv X pins σ H s->wi σ H R ->
  wpAny (model X.prog X.w) X.A (eval iter X.env) (λv s1=>wpAny (model X.prog X.w) X.A (pyIter v) (PIE X pins σ tg R) X.xe s1) X.xe s
theorem q89{M:Model}{A:Around}{E:Value->Shared->Prop}{s:Shared}{tg:Expr}{it:Addr}{u:Value}{o:Obj}{n:String}{vs:Array Value}{Q:Unit->Shared->Prop}(ho:s.heap.get? it=some o)(hc:o.cls = .type n)(hd:o.data = .fields vs)
  (hn:["enumerate","zip","dict_itemiterator","dict_reverseitemiterator","odict_iterator","itertools.zip_longest","itertools.pairwise"].contains n=false)(hQ:Q () s):wpAny M A (letOwnedTupleGo tg (.ref it) u) Q E s:=by
 unfold letOwnedTupleGo
 cases tg<;>first
  |exact wpAny_pure hQ
  | (cases u<;>first
    |exact wpAny_pure hQ
    | (refine wpAny_bind (wpAny_load ho ?_)
       rw[hc,hd];show wpAny M A (if(["enumerate","zip","dict_itemiterator","dict_reverseitemiterator","odict_iterator","itertools.zip_longest","itertools.pairwise"].contains n && vs[0]? == some (rawInt _))=true then _ else _) Q E s;rw[if_neg (by intro h;rw[hn,Bool.false_and] at h;cases h)]
       exact wpAny_pure hQ))
noncomputable def Itl(K:PySem.W.Frag)(a:Addr):It:=
 ⟨λi H=>∃xs x,SqL K H a xs/\xs[i]?=some x,λi H x H'=>H'=H/\∀xs,SqL K H a xs->xs[i]?=some x,λi H=>∃xs,SqL K H a xs/\xs.length<=i⟩
noncomputable def Itr(lo:Int)(n:Nat):It:=⟨λi _=>i < n,λi H x H'=>H'=H/\x = .int (lo+i),λi _=>n<=i⟩
theorem turn_list{P:Program}{w:World}{K:PySem.W.Frag}{tg:Expr}(a it:Addr):Turn P w K tg (Itl K a) [it] it (λi h=>h.IsListIter it a i) where
 mem:=by simp
 obj:=λi h st b hb=>by
  have e:b=it:=by simpa using hb
  subst e;obtain⟨o,e,c,d⟩:=st;exact⟨o,e,λv z=>by rw[d] at z;cases z⟩
 keep:=λi h h' st k=>st.at λo e=>k it (by simp) o e
 item:=by
  intro X hP hw hK hc i pins s σ H E I hf st hg;subst hP hw hK;obtain⟨xs,x,hq,hx⟩:=hg;obtain⟨its,rv,p,hz⟩:=I.list hq;obtain⟨u,hu,ru⟩:=rv.get hx;obtain⟨f0,f1,f2,f3,f4,f5⟩:=hf it (by simp);refine wpAny_pyNext_list_item st p.isList (x:=u) (by simpa using hu) λh' st' sb=>?_;have I1:Inv X pins σ H {s with heap:=h'}:=I.turned (t':=s.toks) (λb o hb e=>(sb.2 b hb).trans e) f0 f1 f3 f4 f5;obtain⟨o,e,c,d⟩:=id st';exact⟨u,rfl,q89 (s:={s with heap:=h'}) e c d (by decide) ⟨x,H,I1,ru,⟨rfl,λys hy=>by rw[I.list_inj hy hq];exact hx⟩,st',λb hb=>(hf b hb).1⟩⟩
 done:=by
  intro X hP hw hK hc i pins s σ H E I hf st hg;subst hP hw hK;obtain⟨xs,hq,hx⟩:=hg;obtain⟨its,rv,p,hz⟩:=I.list hq;obtain⟨f0,f1,f2,f3,f4,f5⟩:=hf it (by simp);have hl:=rv.length
  exact wpAny_pyNext_list_end (I.ok.hd hc) st p.isList (by simp;lia) λh' eb=>⟨rfl,I.turned (t':=s.toks) (λb o hb e=>eb b o hb e) f0 f1 f3 f4 f5⟩
 self:=λ_ _ _ _ _ st h=>wpAny_pyIter_listiter st h
theorem q7j{P:Program}{w:World}{K:PySem.W.Frag}{tg:Expr}(it:Addr)(lo:Int)(n:Nat):Turn P w K tg (Itr lo n) [it] it (λi h=>IsRangeIter h it (lo+(i:Nat)*1) ((n:Int)-(i:Nat)) 1) where
 mem:=by simp
 obj:=λi h st b hb=>by
  have e:b=it:=by simpa using hb
  subst e
  exact⟨_,st,λv z=>by
   have z':Data.fields _=Data.cell v:=z
   cases z'⟩
 keep:=λi h h' st k=>k it (by simp) _ st
 item:=by
  intro X hP hw hK hc i pins s σ H E I hf st hg;subst hP hw hK;obtain⟨f0,f1,f2,f3,f4,f5⟩:=hf it (by simp);have W:=Walks.range (prog:=X.prog) (w:=X.w) (I.ok.hd hc) it lo 1 n;refine W.item i s _ _ hg st λv h' tk hv st' kk=>?_;obtain⟨t,rfl⟩:=hv;have I1:Inv X pins σ H {s with heap:=h',toks:=tk}:=I.turned (λb o hb e=>kk b o (by simpa using hb) e) f0 f1 f3 f4 f5;refine⟨_,rfl,q89 (s:={s with heap:=h',toks:=tk}) (n:="range_iterator") st' rfl rfl (by decide) ⟨.int (lo+i),H,I1,⟨t,?_⟩,⟨rfl,rfl⟩,st',λb hb=>(hf b hb).1⟩⟩;rw[Int.mul_one]
 done:=by
  intro X hP hw hK hc i pins s σ H E I hf st hg;subst hP hw hK;obtain⟨f0,f1,f2,f3,f4,f5⟩:=hf it (by simp)
  exact wpAny_pyNext_range_end (I.ok.hd hc) st (by have:n<=i:=hg;lia) λh' eb=>⟨rfl,I.turned (t':=s.toks) (λb o hb e=>eb b o hb e) f0 f1 f3 f4 f5⟩
 self:=λ_ _ _ _ _ st h=>wpAny_pyIter_rangeiter st h
section
variable {X:Cx}{tg:Expr}
noncomputable def iList(K:PySem.W.Frag)(tl:TE):TI:=λσ H R=>tl σ H λx H1=>∃a,x = .ref a/\(∃xs,SqL K H1 a xs)/\R (Itl K a) H1
theorem pi_list{l:Expr}{tl:TE}(hl:PE X l tl):PI X tg l (iList X.K tl):=by
 intro pins s σ H R I h;refine thn (hl pins s σ H _ I h) λv s1 ⟨x,H1,I1,r1,q1⟩=>?_;obtain⟨a,e,⟨xs,hq⟩,q⟩:=q1;subst e;cases r1;obtain⟨its,rv,p,hz⟩:=I1.list hq;refine wpAny_pyIter_list p.isList ?_;refine⟨s1.heap.objs.size,[s1.heap.objs.size],_,_,H1,rfl,I1.kept (t':=s1.toks) λb o e=>Heap.get?_push_of_some _ e,turn_list a _,⟨_,Heap.get?_push_size _ rfl,rfl,rfl⟩,λb hb=>?_,q⟩;have e:b=s1.heap.objs.size:=by simpa using hb
 subst e;exact I1.fpOk (Nat.le_refl _) (I1.hok.fresh (Nat.le_refl _))
theorem q7N{pins:List (Addr×Obj)}{σ:St}{H:Hp}{s:Shared}{R:It->Hp->Prop}{E:Value->Shared->Prop}{lo hi:Int}{t u v:Tok}{tk:Nat}(I:Inv X pins σ H s)(h1 : -(2 ^ 62)<=lo)(h2:lo < 2 ^ 62)(h3 : -(2 ^ 62)<=hi)(h4:hi < 2 ^ 62)
  (q:R (Itr lo (hi-lo).toNat) H):wpAny (model X.prog X.w) X.A (pyIter (.ref s.heap.objs.size)) (PIE X pins σ tg R) E {s with heap:=s.heap.push {cls:=.type "range",data:=.fields #[.int lo t,.int hi u,.int 1 v]},toks:=tk}:=by
 refine wpAny_pyIter_range (IsRange.new ..) (small_one h1 h2 h3 h4) ?_;have I1:Inv X pins σ H {s with heap:=s.heap.push {cls:=.type "range",data:=.fields #[.int lo t,.int hi u,.int 1 v]},toks:=tk}:=I.kept λb o e=>Heap.get?_push_of_some _ e
 refine⟨(s.heap.push {cls:=.type "range",data:=.fields #[.int lo t,.int hi u,.int 1 v]}).objs.size,[(s.heap.push {cls:=.type "range",data:=.fields #[.int lo t,.int hi u,.int 1 v]}).objs.size],_,_,H,rfl,
  I1.kept (t':=tk) λb o e=>Heap.get?_push_of_some _ e,q7j _ lo (hi-lo).toNat,?_,λb hb=>?_,q⟩
 ·have e1:lo+((0:Nat):Int)*1=lo:=by simp
  have e2:(((hi-lo).toNat:Nat):Int)-((0:Nat):Int)=Builtin.Range.rangeSize lo hi 1:=by rw[rangeSize_one];split<;>lia
  show IsRangeIter _ _ (lo+((0:Nat):Int)*1) ((((hi-lo).toNat:Nat):Int)-((0:Nat):Int)) 1;rw[e1,e2];exact Heap.get?_push_size _ rfl
 ·have e:b=(s.heap.push {cls:=.type "range",data:=.fields #[.int lo t,.int hi u,.int 1 v]}).objs.size:=by simpa using hb
  subst e;exact I1.fpOk (Nat.le_refl _) (I1.hok.fresh (Nat.le_refl _))
noncomputable def iRng1(ta:TA):TI:=λσ H R=>ta σ H λvs H1=>∃j:Int,vs=[.int j]/\-(2 ^ 62)<=j/\j < 2 ^ 62/\R (Itr 0 j.toNat) H1
noncomputable def iRng2(ta:TA):TI:=λσ H R=>ta σ H λvs H1=>∃i j:Int,vs=[.int i,.int j]/\(-(2 ^ 62)<=i/\i < 2 ^ 62/\-(2 ^ 62)<=j/\j < 2 ^ 62)/\R (Itr i (j-i).toNat) H1
theorem q0K{a:Expr}{ta:TA}{p pos:Pos}(hg:Gl X "range")(hm:X.mg "range" = none)(ha:PA X [a] ta)(hs:starEach [a] X.env=[(false,eval a X.env)]:=by rfl):PI X tg (.Call (.Name "range" p) [a] [] pos) (iRng1 ta):=by
 intro pins s σ H R I h;refine Call_ (q3D I hg hm boot_range (PyProof.Rows.callWith_type1 (thn (ha pos pins s σ H _ I h) λus s1 ⟨vs,H1,I1,r1,q1⟩=>?_) hs rfl));obtain⟨j,e,q1,q2,q⟩:=q1;subst e
 cases r1 with
 | cons r rr=>
  cases rr;obtain⟨t,rfl⟩:=r;exact call_range_1 (q7N I1 (by lia) (by lia) q1 q2 (by simpa using q))
theorem q5h{a b:Expr}{ta:TA}{p pos:Pos}(hg:Gl X "range")(hm:X.mg "range" = none)(ha:PA X [a,b] ta)(hs:starEach [a,b] X.env=[(false,eval a X.env),(false,eval b X.env)]:=by rfl)(hs2:starEach [b] X.env=[(false,eval b X.env)]:=by rfl):
  PI X tg (.Call (.Name "range" p) [a,b] [] pos) (iRng2 ta):=by
 intro pins s σ H R I h;refine Call_ (q3D I hg hm boot_range (PyProof.Rows.callWith_type1 (thn (ha pos pins s σ H _ I h) λus s1 ⟨vs,H1,I1,r1,q1⟩=>?_) (by rw[hs,hs2]) (by rw[hs2];rfl)));obtain⟨i,j,e,⟨q1,q2,q3,q4⟩,q⟩:=q1;subst e
 cases r1 with
 | cons r rr=>
  cases rr with
  | cons r' rr=>
   cases rr;obtain⟨t,rfl⟩:=r;obtain⟨t',rfl⟩:=r';exact call_range_2 (q7N I1 q1 q2 q3 q4 q)
noncomputable def tFor(wi:TI)(g:TG)(tb:TS):TS:=λD σ H=>wi σ H λJ H1=>∃W:Nat->Nat->St->Hp->Prop,(∃m,W 0 m σ H1)/\∀i m σ H,W i m σ H ->
 (J.stop i H/\D.nx σ H)\/(J.go i H/\∃N:St->Hp->Prop,(∀σ' H',N σ' H'->∃m',m' < m/\W (i+1) m' σ' H')/\∀x H',J.yld i H x H'->g x σ H' λσ2 H2=>tb {D with nx:=N,ct:=N,bk:=D.nx} σ2 H2)
noncomputable def q4O(fp:List Addr)(h:Heap):List (Addr×Obj):=fp.filterMap λb=>(h.get? b).map λo=>(b,o)
theorem q0S{fp:List Addr}{h:Heap}{b:Addr}{o:Obj}(hb:b∈fp)(e:h.get? b=some o):(b,o)∈q4O fp h:=List.mem_filterMap.mpr ⟨b,hb,by rw[e];rfl⟩
theorem of_pinsAt{fp:List Addr}{h:Heap}{p:Addr×Obj}(hp:p∈q4O fp h):p.1∈fp/\h.get? p.1=some p.2:=by
 obtain⟨b,hb,e⟩:=List.mem_filterMap.mp hp
 cases q:h.get? b with
 |none=>rw[q] at e;cases e
 | some o=>
  rw[q] at e;have e':(b,o)=p:=Option.some.inj e;subst e';exact⟨hb,q⟩
theorem Inv.pinned{pins:List (Addr×Obj)}{σ:St}{H:Hp}{s:Shared}{fp:List Addr}(I:Inv X pins σ H s)(hf:∀b∈fp,FpOk X pins H b)(ho:∀b∈fp,∃o,s.heap.get? b=some o/\∀v,o.data≠.cell v):Inv X (pins++q4O fp s.heap) σ H s:=
 I.pins_of λp hp=>(List.mem_append.mp hp).elim (λz=>I.pin p (List.mem_append_right _ z)) λz=>by
  obtain⟨hb,e⟩:=of_pinsAt z;obtain⟨f0,f1,f2,_⟩:=hf p.1 hb;obtain⟨o,e',d⟩:=ho p.1 hb;rw[e] at e';cases e';exact⟨e,f0,f1,f2,d⟩
theorem Inv.unpinned{pins pl:List (Addr×Obj)}{σ:St}{H:Hp}{s:Shared}(I:Inv X (pins++pl) σ H s):Inv X pins σ H s:=I.pins_of λp hp=>I.pin p (List.mem_append_right _ (List.mem_append_left _ hp))
theorem q1Q{iter:Expr}{body:List Stmt}{wi:TI}{g:TG}{tb:TS}{pos:Pos}(hp:PassesOwn (model X.prog X.w) X.A X.env X.xe)(hc:X.calm=true)(hi:PI X tg iter wi)(hg:PG X tg g)(hb:PSs X body tb)
  (hs:∀x,foldedSetIterable iter X.env x=pure x:=by intro _;rfl):PS X (.For tg iter body [] pos) (tFor wi g tb):=by
 intro pins s σ H D I h;refine wpAny_For (thn (hi pins s σ H _ I h) λv s1 h1=>thn h1 λitv s2 h2=>?_) hs;obtain⟨it,fp,tn,J,H2,e,I2,T,st2,f2,W,⟨m0,w0⟩,turn⟩:=h2;subst e
 have stat:∀{H':Hp},(∀b∈fp,H' b=none)->∀b∈fp,FpOk X pins H' b:=λhn b hb=>⟨hn b hb,(f2 b hb).2⟩
 refine codeAny_forLoop_any (λn s'=>∃i σ' H',Inv X pins σ' H' s'/\tn i s'.heap/\(∀b∈fp,H' b=none)/\W i n σ' H') ?_ m0 ⟨0,σ,H2,I2,st2,λb hb=>(f2 b hb).1,w0⟩;rintro n s3 ⟨i,σ3,H3,I3,st3,fr3,w3⟩;rcases turn i n σ3 H3 w3 with⟨stop,qn⟩|⟨go,N,hN,step⟩
 ·refine wpAny_passesOwn hp (thn (T.done X rfl rfl rfl hc i pins s3 σ3 H3 X.xe I3 (stat fr3) st3 stop) λr s4 ⟨hr,I4⟩=>?_)
  subst hr;exact wpAny_execs_nil ⟨σ3,H3,I4,qn⟩
 ·refine wpAny_passesOwn hp (thn (T.item X rfl rfl rfl hc i pins s3 σ3 H3 X.xe I3 (stat fr3) st3 go) λr s4 ⟨u,hr,h4⟩=>?_)
  subst hr;refine wpAny_passesOwn hp (thn h4 λ_ s5 ⟨x,H5,I5,r5,y5,st5,fr5⟩=>?_);have I5':=I5.pinned (stat fr5) (T.obj _ _ st5);refine wpAny_passesOwn hp (thn (hg _ s5 σ3 H5 x u _ I5' r5 (step x H5 y5)) λ_ s6 ⟨σ6,H6,I6,q6⟩=>?_);refine wpAny_passesOwn hp (thn (hb _ s6 σ6 H6 _ I6 q6) λf s7 q7=>?_)
  have again:∀{σ7:St} {H7:Hp},Inv X (pins++q4O fp s5.heap) σ7 H7 s7->N σ7 H7->∃m,m < n/\∃i σ' H',Inv X pins σ' H' s7/\tn i s7.heap/\(∀b∈fp,H' b=none)/\W i m σ' H':=λ{σ7 H7} I7 n7=>by
   obtain⟨m',hm,w7⟩:=hN σ7 H7 n7;refine⟨m',hm,i+1,σ7,H7,I7.unpinned,T.keep _ _ _ st5 λb hb o e=>(I7.pin (b,o) (List.mem_append_right _ (List.mem_append_right _ (q0S hb e)))).1,λb hb=>?_,w7⟩;obtain⟨o,e,d⟩:=T.obj _ _ st5 b hb;exact(I7.pin (b,o) (List.mem_append_right _ (List.mem_append_right _ (q0S hb e)))).2.1
  cases f with
  |next=>obtain⟨σ7,H7,I7,n7⟩:=q7;exact again I7 n7
  |cont=>obtain⟨σ7,H7,I7,n7⟩:=q7;exact again I7 n7
  |brk=>obtain⟨σ7,H7,I7,q7⟩:=q7;exact⟨σ7,H7,I7.unpinned,q7⟩
  |ret v=>obtain⟨x7,σ7,H7,I7,r7,q7⟩:=q7;exact⟨x7,σ7,H7,I7.unpinned,r7,q7⟩
end
theorem q2A{K:PySem.W.Frag}{a:Addr}{xs:List V}{g:TG}{tb:TS}{D:Ends}{σ:St}{H:Hp}(Pv:Nat->St->Hp->Prop)(h0:Pv 0 σ H)(hl:∀i σ H,i<=xs.length->Pv i σ H->SqL K H a xs)
  (hs:∀i x σ H,xs[i]?=some x->Pv i σ H->g x σ H λσ2 H2=>tb {D with nx:=Pv (i+1),ct:=Pv (i+1),bk:=D.nx} σ2 H2)(hd:∀σ H,Pv xs.length σ H->D.nx σ H):
  ∃W:Nat->Nat->St->Hp->Prop,(∃m,W 0 m σ H)/\∀i m σ H,W i m σ H ->
   ((Itl K a).stop i H/\D.nx σ H)\/((Itl K a).go i H/\∃N:St->Hp->Prop,(∀σ' H',N σ' H'->∃m',m' < m/\W (i+1) m' σ' H')/\∀x H',(Itl K a).yld i H x H'->g x σ H' λσ2 H2=>tb {D with nx:=N,ct:=N,bk:=D.nx} σ2 H2):=by
 refine⟨λi m σ H=>m=xs.length-i/\i<=xs.length/\Pv i σ H,⟨xs.length,by simp,Nat.zero_le _,h0⟩,?_⟩;rintro i m σ H ⟨rfl,hi,p⟩;have q:=hl i σ H hi p;by_cases hlt:i < xs.length
 ·refine .inr ⟨⟨xs,xs[i],q,by simp[hlt]⟩,Pv (i+1),λσ' H' p'=>⟨xs.length-(i+1),by lia,rfl,hlt,p'⟩,λx H' y=>?_⟩
  obtain⟨e,y⟩:=y;subst e;exact hs i x σ _ (y xs q) p
 ·have e:i=xs.length:=by lia
  subst e;exact .inl ⟨⟨xs,q,Nat.le_refl _⟩,hd σ H p⟩
theorem q3y{lo:Int}{n:Nat}{g:TG}{tb:TS}{D:Ends}{σ:St}{H:Hp}(Pv:Nat->St->Hp->Prop)(h0:Pv 0 σ H)
  (hs:∀i σ H,i < n->Pv i σ H->g (.int (lo+i)) σ H λσ2 H2=>tb {D with nx:=Pv (i+1),ct:=Pv (i+1),bk:=D.nx} σ2 H2)(hd:∀σ H,Pv n σ H->D.nx σ H):
  ∃W:Nat->Nat->St->Hp->Prop,(∃m,W 0 m σ H)/\∀i m σ H,W i m σ H ->
   ((Itr lo n).stop i H/\D.nx σ H)\/((Itr lo n).go i H/\∃N:St->Hp->Prop,(∀σ' H',N σ' H'->∃m',m' < m/\W (i+1) m' σ' H')/\∀x H',(Itr lo n).yld i H x H'->g x σ H' λσ2 H2=>tb {D with nx:=N,ct:=N,bk:=D.nx} σ2 H2):=by
 refine⟨λi m σ H=>m=n-i/\i<=n/\Pv i σ H,⟨n,by simp,Nat.zero_le _,h0⟩,?_⟩;rintro i m σ H ⟨rfl,hi,p⟩;by_cases hlt:i < n
 ·refine .inr ⟨hlt,Pv (i+1),λσ' H' p'=>⟨n-(i+1),by lia,rfl,hlt,p'⟩,λx H' y=>?_⟩
  obtain⟨e,y⟩:=y;subst e y;exact hs i σ _ hlt p
 ·have e:i=n:=by lia
  subst e;exact .inl ⟨Nat.le_refl _,hd σ H p⟩
noncomputable abbrev R2:=V->V->Hp->VK->Prop
noncomputable def OpR(X:Cx)(f:Value->Value->Sem Value)(r:R2):Prop:=
 ∀(pins:List (Addr×Obj)) (s:Shared) (σ:St) (H:Hp) (x y:V) (v u:Value) (Q:VK),Inv X pins σ H s->RelV x v->RelV y u->r x y H Q ->
  wpAny (model X.prog X.w) X.A (f v u) (EP X pins σ Q) X.xe s
noncomputable def UnR(X:Cx)(f:Value->Sem Value)(r:V->Hp->VK->Prop):Prop:=
 ∀(pins:List (Addr×Obj)) (s:Shared) (σ:St) (H:Hp) (x:V) (v:Value) (Q:VK),Inv X pins σ H s->RelV x v->r x H Q ->
  wpAny (model X.prog X.w) X.A (f v) (EP X pins σ Q) X.xe s
noncomputable def q1C(X:Cx)(f:Value)(r:List V->Hp->VK->Prop):Prop:=
 ∀(pins:List (Addr×Obj)) (s:Shared) (σ:St) (H:Hp) (xs:List V) (us:List Value) (Q:VK),Inv X pins σ H s->Vals xs us->r xs H Q ->
  wpAny (model X.prog X.w) X.A (call f us) (EP X pins σ Q) X.xe s
noncomputable def TruR(X:Cx)(r:V->Hp->(Bool->Hp->Prop)->Prop):Prop:=
 ∀(pins:List (Addr×Obj)) (s:Shared) (σ:St) (H:Hp) (x:V) (v:Value) (Q:Bool->Hp->Prop),Inv X pins σ H s->RelV x v->r x H Q ->
  wpAny (model X.prog X.w) X.A (truthy v) (TP X pins σ Q) X.xe s
noncomputable def tOp(r:R2)(ta tb:TE):TE:=λσ H Q=>ta σ H λx H1=>tb σ H1 λy H2=>r x y H2 Q
noncomputable def tUn(r:V->Hp->VK->Prop)(ta:TE):TE:=λσ H Q=>ta σ H λx H1=>r x H1 Q
noncomputable def rI(C:Int->Int->Prop)(g:Int->Int->V):R2:=λx y H Q=>∃i j,x = .int i/\y = .int j/\C i j/\Q (g i j) H
noncomputable def rI0(g:Int->Int->V):R2:=λx y H Q=>∃i j,x = .int i/\y = .int j/\Q (g i j) H
noncomputable def rU(g:Int->V):V->Hp->VK->Prop:=λx H Q=>∃i,x = .int i/\Q (g i) H
section
variable {X:Cx}{a b c:Expr}{ta tb tc:TE}{pos:Pos}
theorem binT(ha:PE X a ta)(hb:PE X b tb){pins:List (Addr×Obj)}{s:Shared}{σ:St}{H:Hp}{R:V->V->Hp->Prop}(I:Inv X pins σ H s)
  (h:ta σ H λx H1=>tb σ H1 λy H2=>R x y H2){Q:Value->Shared->Prop}{f:Value->Value->Sem Value}
  (hf:∀v u s2 x y H2,Inv X pins σ H2 s2->RelV x v->RelV y u->R x y H2->wpAny (model X.prog X.w) X.A (f v u) Q X.xe s2):
  wpAny (model X.prog X.w) X.A (eval a X.env) (λv s₁=>wpAny (model X.prog X.w) X.A (eval b X.env) (λu s₂=>wpAny (model X.prog X.w) X.A (f v u) Q X.xe s₂) X.xe s₁) X.xe s:=by
 refine thn (ha pins s σ H _ I h) λv s1 ⟨x,H1,I1,r1,q1⟩=>?_;refine thn (hb pins s1 σ H1 _ I1 q1) λu s2 ⟨y,H2,I2,r2,q2⟩=>?_;exact hf v u s2 x y H2 I2 r1 r2 q2
theorem qT{op:Operator}{r:R2}(ho:OpR X (binaryOp op) r)(ha:PE X a ta)(hb:PE X b tb):PE X (.BinOp a op b pos) (tOp r ta tb):=by
 intro pins s σ H Q I h;exact wpAny_BinOp (binT ha hb I h λv u s2 x y H2 I2 rx ry q=>ho pins s2 σ H2 x y v u Q I2 rx ry q)
theorem q3m{op:UnaryOp}{r:V->Hp->VK->Prop}(ho:UnR X (unaryOp op) r)(ha:PE X a ta):PE X (.UnaryOp op a pos) (tUn r ta):=by
 intro pins s σ H Q I h;exact UnaryOp_ (thn (ha pins s σ H _ I h) λv s1 ⟨x,H1,I1,r1,q1⟩=>ho pins s1 σ H1 x v Q I1 r1 q1)
theorem opI{f:Value->Value->Sem Value}{C:Int->Int->Prop}{g:Int->Int->Int}
  (rule:∀(i j:Int) (t u:Tok) (s:Shared) (Q:Value->Shared->Prop) (E:Value->Shared->Prop),C i j->Q (.int (g i j) s.toks) {s with toks:=s.toks+1}->wpAny (model X.prog X.w) X.A (f (.int i t) (.int j u)) Q E s):
  OpR X f (rI C λi j=>.int (g i j)):=by
 intro pins s σ H x y v u Q I rx ry h;obtain⟨i,j,rfl,rfl,hc,q⟩:=h;obtain⟨t,rfl⟩:=rx;obtain⟨t',rfl⟩:=ry;exact rule i j t t' s _ _ hc ⟨.int (g i j),H,I.tok _,⟨_,rfl⟩,q⟩
theorem opI0{f:Value->Value->Sem Value}{g:Int->Int->Int}
  (rule:∀(i j:Int) (t u:Tok) (s:Shared) (Q:Value->Shared->Prop) (E:Value->Shared->Prop),Q (.int (g i j) s.toks) {s with toks:=s.toks+1}->wpAny (model X.prog X.w) X.A (f (.int i t) (.int j u)) Q E s):
  OpR X f (rI0 λi j=>.int (g i j)):=by
 intro pins s σ H x y v u Q I rx ry h;obtain⟨i,j,rfl,rfl,q⟩:=h;obtain⟨t,rfl⟩:=rx;obtain⟨t',rfl⟩:=ry;exact rule i j t t' s _ _ ⟨.int (g i j),H,I.tok _,⟨_,rfl⟩,q⟩
theorem opB0{f:Value->Value->Sem Value}{g:Int->Int->Bool}
  (rule:∀(i j:Int) (t u:Tok) (s:Shared) (Q:Value->Shared->Prop) (E:Value->Shared->Prop),Q (.bool (g i j)) s->wpAny (model X.prog X.w) X.A (f (.int i t) (.int j u)) Q E s):
  OpR X f (rI0 λi j=>.bl (g i j)):=by
 intro pins s σ H x y v u Q I rx ry h;obtain⟨i,j,rfl,rfl,q⟩:=h;obtain⟨t,rfl⟩:=rx;obtain⟨t',rfl⟩:=ry;exact rule i j t t' s _ _ ⟨.bl (g i j),H,I,rfl,q⟩
noncomputable def CDiv(i j:Int):Prop:=0 < j/\j < 1073741824
noncomputable def CMul(i j:Int):Prop:=(-(2 ^ 64) < i/\i < 2 ^ 64)\/(-(2 ^ 64) < j/\j < 2 ^ 64)
theorem CMul.ok{i j:Int}(h:CMul i j):IntMulOk i j:=by
 rcases h with⟨h1,h2⟩|⟨h1,h2⟩
 ·exact .of_left (intBits_le_64 h1 h2)
 ·exact .of_right (intBits_le_64 h1 h2)
theorem qo:OpR X (binaryOp .Add) (rI0 λi j=>.int (i+j)):=opI0 λ_ _ _ _ _ _ _ q=>add_int q
theorem q0Q:OpR X (binaryOp .Sub) (rI0 λi j=>.int (i-j)):=opI0 λ_ _ _ _ _ _ _ q=>sub_int q
theorem op_mul:OpR X (binaryOp .Mult) (rI CMul λi j=>.int (i*j)):=opI λ_ _ _ _ _ _ _ hc q=>mul_int q hc.ok
theorem q1L:OpR X (binaryOp .FloorDiv) (rI CDiv λi j=>.int (i/j)):=opI λi j _ _ _ _ _ hc q=>by
 have h1:(0:Int) < j:=hc.1;have h2:j < 1073741824:=hc.2;exact floordiv_int (by lia) (by rw[Int.fdiv_eq_ediv_of_nonneg i (by lia)];exact q) (.inl (PyProof.noPylong_small (by lia)))
theorem q0n:OpR X (binaryOp .Mod) (rI (λ_ j=>0 < j) λi j=>.int (i%j)):=opI λi j _ _ _ _ _ hc q=>by
 have h1:(0:Int) < j:=hc;exact mod_int' (by lia) (by rw[Int.fmod_eq_emod_of_nonneg i (by lia)];exact q)
theorem unI{f:Value->Sem Value}{g:Int->Int}
  (rule:∀(i:Int) (t:Tok) (s:Shared) (Q:Value->Shared->Prop) (E:Value->Shared->Prop),Q (.int (g i) s.toks) {s with toks:=s.toks+1}->wpAny (model X.prog X.w) X.A (f (.int i t)) Q E s):
  UnR X f (rU λi=>.int (g i)):=by
 intro pins s σ H x v Q I rx h;obtain⟨i,rfl,q⟩:=h;obtain⟨t,rfl⟩:=rx;exact rule i t s _ _ ⟨.int (g i),H,I.tok _,⟨_,rfl⟩,q⟩
theorem q1U:UnR X (unaryOp .USub) (rU λi=>.int (-i)):=unI λ_ _ _ _ _ q=>neg_int q
end
noncomputable def scal:V->V->Bool
 |.non,.non=>true|.non,.int _=>true|.int _,.non=>true|.non,.bl _=>true|.bl _,.non=>true|.non,.str _=>true|.str _,.non=>true
 |.int _,.int _=>true|.bl _,.bl _=>true|.str _,.str _=>true|.byt _,.byt _=>true
 |.int _,.str _=>true|.str _,.int _=>true|.bl _,.str _=>true|.str _,.bl _=>true
 |_,_=>false
noncomputable def rEq:R2:=λx y H Q=>scal x y=true/\Q (.bl (decide (x=y))) H
noncomputable def rNe:R2:=λx y H Q=>scal x y=true/\Q (.bl (!decide (x=y))) H
theorem dec_int{i j:Int}:decide (V.int i=V.int j)=(i == j):=by
 rw[Bool.eq_iff_iff];simp
theorem dec_bl{i j:Bool}:decide (V.bl i=V.bl j)=(i == j):=by
 rw[Bool.eq_iff_iff];simp
theorem dec_str{i j:Str}:decide (V.str i=V.str j)=(i == j):=by
 rw[Bool.eq_iff_iff];simp
theorem dec_byt{i j:Array UInt8}:decide (V.byt i=V.byt j)=(i.toList == j.toList):=by
 rw[Bool.eq_iff_iff];cases i;cases j;simp
section
variable {X:Cx}{a b c:Expr}{ta tb tc:TE}{pos:Pos}
theorem ql{pins:List (Addr×Obj)}{σ:St}{H:Hp}{s:Shared}{Q:VK}{k k':Bool}(I:Inv X pins σ H s)(q:Q (.bl k) H)(e:k=k'):EP X pins σ Q (.bool k') s:=by
 subst e;exact⟨.bl k,H,I,rfl,q⟩
theorem q0X:OpR X (compareOp .Eq) rEq:=by
 intro pins s σ H x y v u Q I rx ry h;obtain⟨hs,q⟩:=h
 cases x with
 | non=>
  cases rx
  cases y with
  |non=>cases ry;exact PySem.EqNone.eq_none_none (ql I q (by simp))
  |bl j=>cases ry;exact PySem.EqNone.eq_none_bool (ql I q (by simp))
  |int j=>obtain⟨t',rfl⟩:=ry;exact PySem.EqNone.eq_none_int (ql I q (by simp))
  |str j=>obtain⟨t',rfl⟩:=ry;exact PySem.EqNone.eq_none_str (ql I q (by simp))
  |_=>exact absurd (show false=true from hs) Bool.false_ne_true
 | bl i=>
  cases rx
  cases y with
  |non=>cases ry;exact PySem.EqNone.eq_bool_none (ql I q (by simp))
  |bl j=>cases ry;exact eq_bool (ql I q dec_bl)
  |str j=>obtain⟨t',rfl⟩:=ry;exact PySem.EqMixed.eq_bool_str (ql I q (by simp))
  |_=>exact absurd (show false=true from hs) Bool.false_ne_true
 | int i=>
  obtain⟨t,rfl⟩:=rx
  cases y with
  |non=>cases ry;exact PySem.EqNone.eq_int_none (ql I q (by simp))
  |int j=>obtain⟨t',rfl⟩:=ry;exact eq_int (ql I q dec_int)
  |str j=>obtain⟨t',rfl⟩:=ry;exact PySem.EqMixed.eq_int_str (ql I q (by simp))
  |_=>exact absurd (show false=true from hs) Bool.false_ne_true
 | str i=>
  obtain⟨t,rfl⟩:=rx
  cases y with
  |non=>cases ry;exact PySem.EqNone.eq_str_none (ql I q (by simp))
  |bl j=>cases ry;exact PySem.EqMixed.eq_str_bool (ql I q (by simp))
  |int j=>obtain⟨t',rfl⟩:=ry;exact PySem.EqMixed.eq_str_int (ql I q (by simp))
  |str j=>obtain⟨t',rfl⟩:=ry;exact eq_str (ql I q dec_str)
  |_=>exact absurd (show false=true from hs) Bool.false_ne_true
 | byt i=>
  obtain⟨t,rfl⟩:=rx
  cases y with
  |byt j=>obtain⟨t',rfl⟩:=ry;exact PySem.W.eq_bytes (ql I q dec_byt)
  |_=>exact absurd (show false=true from hs) Bool.false_ne_true
 |_=>cases y<;>exact absurd (show false=true from hs) Bool.false_ne_true
theorem q3o:OpR X (compareOp .NotEq) rNe:=by
 intro pins s σ H x y v u Q I rx ry h;obtain⟨hs,q⟩:=h
 cases x with
 | non=>
  cases rx
  cases y with
  |non=>cases ry;exact PySem.EqNone.ne_none_none (ql I q (by simp))
  |bl j=>cases ry;exact PySem.EqNone.ne_none_bool (ql I q (by simp))
  |int j=>obtain⟨t',rfl⟩:=ry;exact PySem.EqNone.ne_none_int (ql I q (by simp))
  |str j=>obtain⟨t',rfl⟩:=ry;exact PySem.EqNone.ne_none_str (ql I q (by simp))
  |_=>exact absurd (show false=true from hs) Bool.false_ne_true
 | bl i=>
  cases rx
  cases y with
  |non=>cases ry;exact PySem.EqNone.ne_bool_none (ql I q (by simp))
  |bl j=>cases ry;exact ne_bool (ql I q (congrArg not dec_bl))
  |str j=>obtain⟨t',rfl⟩:=ry;exact PySem.EqMixed.ne_bool_str (ql I q (by simp))
  |_=>exact absurd (show false=true from hs) Bool.false_ne_true
 | int i=>
  obtain⟨t,rfl⟩:=rx
  cases y with
  |non=>cases ry;exact PySem.EqNone.ne_int_none (ql I q (by simp))
  |int j=>obtain⟨t',rfl⟩:=ry;exact ne_int (ql I q (congrArg not dec_int))
  |str j=>obtain⟨t',rfl⟩:=ry;exact PySem.EqMixed.ne_int_str (ql I q (by simp))
  |_=>exact absurd (show false=true from hs) Bool.false_ne_true
 | str i=>
  obtain⟨t,rfl⟩:=rx
  cases y with
  |non=>cases ry;exact PySem.EqNone.ne_str_none (ql I q (by simp))
  |bl j=>cases ry;exact PySem.EqMixed.ne_str_bool (ql I q (by simp))
  |int j=>obtain⟨t',rfl⟩:=ry;exact PySem.EqMixed.ne_str_int (ql I q (by simp))
  |str j=>obtain⟨t',rfl⟩:=ry;exact ne_str (ql I q (congrArg not dec_str))
  |_=>exact absurd (show false=true from hs) Bool.false_ne_true
 | byt i=>
  obtain⟨t,rfl⟩:=rx
  cases y with
  |byt j=>obtain⟨t',rfl⟩:=ry;exact PySem.W.ne_bytes (ql I q (congrArg not dec_byt))
  |_=>exact absurd (show false=true from hs) Bool.false_ne_true
 |_=>cases y<;>exact absurd (show false=true from hs) Bool.false_ne_true
theorem q2P:OpR X (compareOp .Lt) (rI0 λi j=>.bl (decide (i < j))):=opB0 λ_ _ _ _ _ _ _ q=>lt_int q
theorem q3p:OpR X (compareOp .LtE) (rI0 λi j=>.bl (decide (i<=j))):=opB0 λ_ _ _ _ _ _ _ q=>le_int q
theorem q35:OpR X (compareOp .Gt) (rI0 λi j=>.bl (decide (j < i))):=opB0 λ_ _ _ _ _ _ _ q=>gt_int q
theorem op_ge:OpR X (compareOp .GtE) (rI0 λi j=>.bl (decide (j<=i))):=opB0 λ_ _ _ _ _ _ _ q=>ge_int q
theorem op_in_str:OpR X (compareOp .In) (λx y H Q=>∃i j,x = .str i/\y = .str j/\Q (.bl (!(Builtin.Str.occurrences j i 0 j.length 1).isEmpty)) H):=by
 intro pins s σ H x y v u Q I rx ry h;obtain⟨i,j,rfl,rfl,q⟩:=h;obtain⟨t,rfl⟩:=rx;obtain⟨t',rfl⟩:=ry;exact in_str (ql I q rfl)
theorem q1o:OpR X (compareOp .Is) (λx y H Q=>y = .non/\Q (.bl (decide (x = .non))) H):=by
 intro pins s σ H x y v u Q I rx ry h;obtain⟨rfl,q⟩:=h;cases ry;refine is_none_gen (ql I q ?_)
 cases x<;>first
  |(cases rx;rfl)
  |(obtain⟨t,rfl⟩:=rx;rfl)
theorem q6Z:OpR X (compareOp .IsNot) (λx y H Q=>y = .non/\Q (.bl (!decide (x = .non))) H):=by
 intro pins s σ H x y v u Q I rx ry h;obtain⟨rfl,q⟩:=h;cases ry;refine isnot_none_gen (ql I q ?_)
 cases x<;>first
  |(cases rx;rfl)
  |(obtain⟨t,rfl⟩:=rx;rfl)
theorem qU(b:Expr){op:CmpOp}(h:op≠.In:=by decide)(h2:op≠.NotIn:=by decide):behindInMarks op b=false:=by
 have e1:(op == CmpOp.In)=false:=by cases op<;>first|rfl|exact absurd rfl h
 have e2:(op == CmpOp.NotIn)=false:=by cases op<;>first|rfl|exact absurd rfl h2
 cases b<;>simp[behindInMarks,e1,e2]
theorem q33{op:CmpOp}{r:R2}(ho:OpR X (compareOp op) r)(ha:PE X a ta)(hb:PE X b tb)(hm:behindInMarks op b=false):PE X (.Compare a [op] [b] pos) (tOp r ta tb):=by
 intro pins s σ H Q I h;exact wpAny_Compare1 (binT ha hb I h λv u s2 x y H2 I2 rx ry q=>ho pins s2 σ H2 x y v u Q I2 rx ry q) hm
noncomputable def tTest(t:TE):TT:=λσ H Q=>t σ H λx H'=>∃k,x = .bl k/\Q k H'
theorem qL{op:CmpOp}{r:R2}(ho:OpR X (compareOp op) r)(ha:PE X a ta)(hb:PE X b tb)(hm:behindInMarks op b=false):PT X (.Compare a [op] [b] pos) (tTest (tOp r ta tb)):=by
 intro pins s σ H Q I h
 refine wpAny_isTrue_Compare1 (thn (ha pins s σ H _ I h) λv s1 ⟨x,H1,I1,r1,q1⟩=>thn (hb pins s1 σ H1 _ I1 q1) λu s2 ⟨y,H2,I2,r2,q2⟩=>
  thn (ho pins s2 σ H2 x y v u _ I2 r1 r2 q2) λc s3 ⟨z,H3,I3,r3,k,e,q3⟩=>?_) hm
 subst e;cases r3;exact wpAny_truthy_bool ⟨H3,I3,q3⟩
noncomputable def tChain(r r':R2)(ta tb tc:TE):TE:=λσ H Q=>ta σ H λx H1=>tb σ H1 λy H2=>r x y H2 λz H3=>∃k,z = .bl k/\
 (if k=true then tc σ H3 λw' H4=>r' y w' H4 Q else Q (.bl false) H3)
theorem q2e{op op':CmpOp}{r r':R2}(ho:OpR X (compareOp op) r)(ho':OpR X (compareOp op') r')(ha:PE X a ta)(hb:PE X b tb)(hc:PE X c tc)
  (hm:lastMarks [op,op'] [b,c]=false:=by with_unfolding_all rfl):PT X (.Compare a [op,op'] [b,c] pos) (tTest (tChain r r' ta tb tc)):=by
 intro pins s σ H Q I h
 refine isTrue_chain (thn (ha pins s σ H _ I h) λv s1 ⟨x,H1,I1,r1,q1⟩=>test_link (thn (hb pins s1 σ H1 _ I1 q1) λu s2 ⟨y,H2,I2,r2,q2⟩=>
  thn (ho pins s2 σ H2 x y v u _ I2 r1 r2 q2) λd s3 ⟨z,H3,I3,r3,k,e,q3⟩=>?_)) hm
 subst e;cases r3;refine wpAny_truthy_bool ?_
 cases k with
 | false=>
  obtain⟨k',e',q'⟩:=q3;cases e';exact ite_ff ⟨H3,I3,q'⟩
 | true=>
  refine ite_tt (test_last (thn (hc pins s3 σ H3 _ I3 q3) λw' s4 ⟨z',H4,I4,r4,q4⟩=>thn (ho' pins s4 σ H4 y z' u w' _ I4 r2 r4 q4) λd' s5 ⟨z2,H5,I5,r5,k2,e2,q5⟩=>?_));subst e2;cases r5;exact wpAny_truthy_bool ⟨H5,I5,q5⟩
noncomputable def TruV(K:PySem.W.Frag)(x:V)(H:Hp)(k:Bool):Prop:=
 match x with
 |.non=>k=false
 |.bl b=>k=b
 |.int i=>k=(i != 0)
 |.str y=>y.length<=sizeLine/\k=((y.length:Int) != 0)
 |.byt y=>y.size<=sizeLine/\k=((y.size:Int) != 0)
 |.ref p=>(∃xs,SqL K H p xs/\k = !xs.isEmpty)\/(∃xs,SqT K H p xs/\k = !xs.isEmpty)\/∃kvs,H p=some (.dK kvs)/\k = !kvs.isEmpty
 |_=>False
theorem q88{κ:Type}{kvs:List (κ×V)}{vs:List (κ×Value)}(r:KV kvs vs):(!vs.isEmpty) = !kvs.isEmpty:=by
 cases r<;>rfl
theorem q4U{xs:List V}{its:List Value}(r:Vals xs its):(!its.toArray.isEmpty) = !xs.isEmpty:=by
 cases r<;>simp
theorem q3r:(sizeLine:Nat) < 2 ^ 63:=by rw[sizeLine_eq];decide
theorem tru_ok:TruR X (λx H Q=>∃k,TruV X.K x H k/\Q k H):=by
 intro pins s σ H x v Q I rx h;obtain⟨k,e,q⟩:=h;have hl:=q3r;have hs:sizeLine=16777216:=sizeLine_eq
 cases x with
 | non=>
  cases rx;have e':k=false:=e;subst e';exact truthy_none ⟨H,I,q⟩
 | bl b=>
  cases rx;have e':k=b:=e;subst e';exact wpAny_truthy_bool ⟨H,I,q⟩
 | int i=>
  obtain⟨t,rfl⟩:=rx;have e':k=(i != 0):=e;subst e';exact PySem.P.truthy_int ⟨H,I,q⟩
 | str y=>
  obtain⟨t,rfl⟩:=rx;obtain⟨hy,e'⟩:y.length<=sizeLine/\k=((y.length:Int) != 0):=e;subst e';exact PySem.P.truthy_str (by lia) ⟨H,I.tok _,q⟩
 | byt y=>
  obtain⟨t,rfl⟩:=rx;obtain⟨hy,e'⟩:y.size<=sizeLine/\k=((y.size:Int) != 0):=e;subst e';exact PySem.W.truthy_bytes (by lia) ⟨H,I.tok _,q⟩
 | ref p=>
  cases rx;have e':(∃xs,SqL X.K H p xs/\k = !xs.isEmpty)\/(∃xs,SqT X.K H p xs/\k = !xs.isEmpty)\/∃kvs,H p=some (.dK kvs)/\k = !kvs.isEmpty:=e;rcases e' with⟨xs,hx,e'⟩|⟨xs,hx,e'⟩|⟨kvs,hx,e'⟩
  ·subst e'
   obtain⟨its,r,pl,hz⟩:=I.list hx;have hlen:=r.length;exact wpAny_truthy_list pl.isList (by simp only[List.size_toArray];lia) ⟨H,I.tok _,by rw[q4U r];exact q⟩
  ·subst e'
   obtain⟨its,r,pl,hz⟩:=I.tuple hx;have hlen:=r.length;exact truthy_tuple pl (by simp only[List.size_toArray];lia) ⟨H,I.tok _,by rw[q4U r];exact q⟩
  ·subst e'
   obtain⟨hz,hS,vs,r,m⟩:kvs.length<=sizeLine/\(p == sysModules)=false/\∃vs,KV kvs vs/\s.heap.DictOf (q0D X.prog X.w) p vs:=I.hok p _ hx;have hlen:kvs.length=vs.length:=Paired.length r;exact wpAny_truthy_dict hS m (by lia) ⟨H,I.tok _,by rw[q88 r];exact q⟩
 |_=>exact(show False from e).elim
theorem q26(ha:PE X a ta)(he:∀whole,isTrue a X.env whole=(do let v <-whole;standAt a.pos;holding [v] (truthy v))):
  PT X a (λσ H Q=>ta σ H λx H'=>∃k,TruV X.K x H' k/\Q k H'):=by
 intro pins s σ H Q I h;exact isTrue_plain (thn (ha pins s σ H _ I h) λv s1 ⟨x,H1,I1,r1,q1⟩=>tru_ok pins s1 σ H1 x v Q I1 r1 q1) (he _)
theorem qX:OpR X (binaryOp .Add) (λx y H Q=>∃i j,x = .str i/\y = .str j/\i.length+j.length<=sizeLine/\Q (.str (i++j)) H):=by
 intro pins s σ H x y v u Q I rx ry h;obtain⟨i,j,rfl,rfl,hz,q⟩:=h;obtain⟨t,rfl⟩:=rx;obtain⟨t',rfl⟩:=ry;exact add_str (λt' tk=>⟨.str (i++j),H,I.tok _,⟨_,rfl⟩,q⟩) hz
theorem q2F{x:V}{us:List Value}(r:Vals [x] us):∃u,us=[u]/\RelV x u:=by
 cases r with
 |cons r1 r2=>cases r2;exact⟨_,rfl,r1⟩
theorem vals2{x y:V}{us:List Value}(r:Vals [x,y] us):∃u w',us=[u,w']/\RelV x u/\RelV y w':=by
 cases r with
 | cons r1 r2=>
  cases r2 with
  |cons r3 r4=>cases r4;exact⟨_,_,rfl,r1,r3⟩
theorem q7e:q1C X (.builtin "abs") (λxs H Q=>∃i,xs=[.int i]/\Q (.int (if i < 0 then -i else i)) H):=by
 intro pins s σ H xs us Q I r h;obtain⟨i,rfl,q⟩:=h;obtain⟨u,rfl,t,rfl⟩:=q2F r
 exact call_abs_int λu tk=>⟨.int (if i < 0 then -i else i),H,I.tok _,⟨_,rfl⟩,q⟩
theorem q1v(hc:X.calm=true):q1C X (.builtin "max") (λxs H Q=>∃i j,xs=[.int i,.int j]/\Q (.int (if j > i then j else i)) H):=by
 intro pins s σ H xs us Q I r h;obtain⟨i,j,rfl,q⟩:=h;obtain⟨u,w',rfl,⟨t,rfl⟩,⟨t',rfl⟩⟩:=vals2 r
 refine max_two_ints (I.ok.hd hc) λh' tk k=>⟨_,H,I.kept k,?_,q⟩
 by_cases hj:j > i
 ·rw[if_pos hj,if_pos hj];exact⟨_,rfl⟩
 ·rw[if_neg hj,if_neg hj];exact⟨_,rfl⟩
theorem q68(hc:X.calm=true):q1C X (.builtin "min") (λxs H Q=>∃i j,xs=[.int i,.int j]/\Q (.int (if j < i then j else i)) H):=by
 intro pins s σ H xs us Q I r h;obtain⟨i,j,rfl,q⟩:=h;obtain⟨u,w',rfl,⟨t,rfl⟩,⟨t',rfl⟩⟩:=vals2 r
 refine min_two_ints (I.ok.hd hc) λh' tk k=>⟨_,H,I.kept k,?_,q⟩
 by_cases hj:j < i
 ·rw[if_pos hj,if_pos hj];exact⟨_,rfl⟩
 ·rw[if_neg hj,if_neg hj];exact⟨_,rfl⟩
theorem call_int1:q1C X (.type "int") (λxs H Q=>(∃i,xs=[.int i]/\Q (.int i) H)\/∃k,xs=[.bl k]/\Q (.int (if k then 1 else 0)) H):=by
 intro pins s σ H xs us Q I r h;rcases h with⟨i,rfl,q⟩|⟨k,rfl,q⟩
 ·obtain⟨u,rfl,t,rfl⟩:=q2F r
  exact call_int_int ⟨.int i,H,I,⟨_,rfl⟩,q⟩
 ·obtain⟨u,rfl,r1⟩:=q2F r
  cases r1;exact call_int_bool ⟨.int (if k then 1 else 0),H,I.tok _,⟨_,rfl⟩,q⟩
theorem qe:q1C X (.type "str") (λxs H Q=>∃i,xs=[.int i]/\i.natAbs.log2 < 1920/\Q (.str (toString i)) H):=by
 intro pins s σ H xs us Q I r h;obtain⟨i,rfl,hz,q⟩:=h;obtain⟨u,rfl,t,rfl⟩:=q2F r;exact PySem.P.str_of_int hz ⟨.str _,H,I.tok _,⟨_,rfl⟩,q⟩
end
structure ObjM(h:Heap)(x dx C:Addr)(mA:Str->Option Value):Prop where
 obj:h.get? x=some (PySem.W.instObj C dx)
 ns:h.Ns1 dx mA
 ne:dx≠x
theorem lookIn_ns{h:Heap}{dx:Addr}{mA:Str->Option Value}(n:h.Ns1 dx mA):∃od,h.get? dx=some od/\∀name,PySem.W.lookIn name od=some (mA name):=by
 obtain⟨o,es,ep,ho,hd,hk,_,hm⟩:=n;refine⟨o,ho,λname=>?_⟩;have e:=hm name;unfold nsFind findBy at e;rw[<-Array.find?_toList] at e;unfold PySem.W.lookIn;rw[hd];dsimp only;split
 ·rename_i y q
  rw[q] at e;exact congrArg some e
 ·rename_i q
  rw[q] at e;have a:es.toList.any (·.refKey)=false:=by
   rw[List.any_eq_false];intro y hy;obtain⟨z,t,hkey⟩:=hk y (Array.mem_toList_iff.mp hy);simp[DictEntry.refKey,hkey]
  have a':¬es.toList.any (·.refKey)=true:=by rw[a];exact Bool.false_ne_true
  rw[if_neg a'];exact congrArg some e
theorem ObjM.look{h:Heap}{x dx C:Addr}{mA:Str->Option Value}(I:ObjM h x dx C mA):∃od,PySem.W.InstAt h x (PySem.W.instObj C dx) C (some od)/\∀name,PySem.W.lookIn name od=some (mA name):=
 let⟨od,ho,hl⟩:=lookIn_ns I.ns
 ⟨od,⟨I.obj,rfl,rfl,ho⟩,hl⟩
section
variable {prog:Program}{w:World}{A:Around}{E:Value->Shared->Prop}{s:Shared}{K:PySem.W.Frag}{x dx C f:Addr}{mA:Str->Option Value}{name:Str}{v:Value}
theorem get_map{expr:Bool}{Q:Value->Shared->Prop}(X:K.In s.heap)(I:ObjM s.heap x dx C mA)(hg:PySem.W.plainGet K C name=true)(hh:PySem.W.hasDictIn K C=true)
  (ha:PySem.W.findIn K (.ref C) name=some none)(hv:mA name=some v)(hv':PySem.W.handedIn v=true)(h:Q v {s with toks:=s.toks+1}):
  wpAny (model prog w) A (getAttr (.ref x) name expr) Q E s:=by
 obtain⟨od,J,hl⟩:=I.look;exact PySem.W.get_value X J (PySem.W.plainGet_of hg).1 (PySem.W.findObj_own hh ha rfl (by rw[hl,hv])) hv' h
theorem get_meth{pl:Sem Bool}{Q:Value×List Value->Shared->Prop}(X:K.In s.heap)(I:ObjM s.heap x dx C mA)(hg:PySem.W.plainGet K C name=true)
  (hf:PySem.W.findIn K (.ref C) name=some (some (.ref f)))(ht:PySem.W.isFn K (.ref f)=true)(hv:mA name=none)(h:Q (.ref f,[.ref x]) s):
  wpAny (model prog w) A (getMethod (.ref x) name pl) Q E s:=by
 obtain⟨od,J,hl⟩:=I.look;exact PySem.W.method_fn X J (PySem.W.plainGet_of hg).1 (PySem.W.plainGet_of hg).2 hf (beq_iff_eq.mp ht) (by show(PySem.W.lookIn name od).map (·.isSome)=some false;rw[hl,hv];rfl) h
theorem set_map{ns:List Str}{Q:Unit->Shared->Prop}(X:K.In s.heap)(I:ObjM s.heap x dx C mA)
  (hs:PySem.W.findIn K (.ref C) "__setattr__" = some (some (.builtin "object.__setattr__")))(hp:PySem.W.plainOver K C=true)(ht:PySem.W.takerIn K C name=some none)(hh:PySem.W.hasDictIn K C=true)
  (hw:PySem.Within mA ns)(hsz:ns.length<=sizeLine)
  (h:∀h',ObjM h' x dx C (λy=>if y=name then some v else mA y)->Heap.SameBut dx s.heap h'->Q () {s with heap:=h',toks:=s.toks+2}):
  wpAny (model prog w) A (setAttr (.ref x) name v) Q E s:=by
 obtain⟨od,J,hl⟩:=I.look;refine PySem.W.set_plain X J hs (PySem.W.osa_open (s:={s with toks:=s.toks+1}) (r:=none) X J hp ht λb=>?_);obtain⟨cd,hc,hd'⟩:=PySem.W.any_some hh;have hx:s.heap.get? x=some ⟨.ref C,some dx,.plain,#[]⟩:=I.obj;refine wpAny_bind (wpAny_pure (wpAny_bind (wpAny_bind (wpAny_loadPart hx (wpAny_bind (PySem.W.Looks.here (s:={s with toks:=s.toks+1}) (PySem.W.looks_clsIn X hc) ?_))))));rw[hd'];refine wpAny_pure (a:=some dx) (wpAny_bind (wpAny_pure (wpAny_bind ?_)));refine wpAny_nsSet1 (s:={s with toks:=s.toks+1}) I.ns λh' hn2 hs2=>?_;obtain⟨oD,esD,epD,hoD,hdD,hcD⟩:=hn2.count (PySem.Within.cons name v hw);refine wpAny_bind (wpAny_lookBehind hoD (by rw[hdD];exact pastItsLine_dict (Nat.le_trans hcD (by rw[List.length_cons];lia))) ?_);exact wpAny_pure (h _ ⟨(hs2.2 _ (Ne.symm I.ne)).trans I.obj,hn2,I.ne⟩ hs2)
theorem make_map{R:Result->Shared->Prop}{vs:List Value}{kw:List (Str×Value)}(X:K.In s.heap)(hm:PySem.W.makesIn K C=true)
  (hi:PySem.W.findIn K (.ref C) "__init__" = some (some (.ref f)))(hf:PySem.W.typeIn K (.ref f)=some (.type "function"))
  (h:codeAny (model prog w) (A.under (.builtin "type.__call__" ⟨.ref C::vs,kw⟩)) (.call (.ref f) ⟨.ref (s.heap.objs.size+1)::vs,kw⟩) (PySem.W.InitBack (s.heap.objs.size+1) R)
   {s with heap:=(s.heap.push PySem.W.emptyDict).push (PySem.W.instObj C s.heap.objs.size)}):
  codeAny (model prog w) A (.call (.ref C) ⟨vs,kw⟩) R s:=by
 obtain⟨hh,g,d,t,os⟩:=s;exact PySem.W.make_core (PySem.W.makes_of X hm) (PySem.W.looks_findIn X hi) (λself=>PySem.W.bind_fn X self hf) (.inl rfl) h
end
noncomputable def putF(f:Str)(v:V):List (Str×V)->List (Str×V)
 |[]=>[(f,v)]
 |(g,x)::r=>if g=f then(g,v)::r else(g,x)::putF f v r
theorem q3q(f g:Str)(v:V):∀fs:List (Str×V),(putF f v fs).lookup g=if g=f then some v else fs.lookup g
 | []=>by
  show List.lookup g [(f,v)]=_;by_cases h:g=f
  ·have hb:(g == f)=true:=beq_iff_eq.mpr h
   simp only[List.lookup,hb,if_pos h]
  ·have hb:(g == f)=false:=beq_eq_false_iff_ne.mpr h
   simp only[List.lookup,hb,if_neg h]
 | (k,x)::r=>by
  have ih:=q3q f g v r;rw[show putF f v ((k,x)::r)=(if k=f then(k,v)::r else(k,x)::putF f v r) from rfl];by_cases hk:k=f
  ·rw[if_pos hk]
   by_cases h:g=k
   ·have hb:(g == k)=true:=beq_iff_eq.mpr h
    simp only[List.lookup,hb,if_pos (h.trans hk)]
   ·have hb:(g == k)=false:=beq_eq_false_iff_ne.mpr h
    simp only[List.lookup,hb,if_neg (λe:g=f=>h (e.trans hk.symm))]
  ·rw[if_neg hk]
   by_cases h:g=k
   ·have hb:(g == k)=true:=beq_iff_eq.mpr h
    simp only[List.lookup,hb,if_neg (λe:g=f=>hk (h.symm.trans e))]
   ·have hb:(g == k)=false:=beq_eq_false_iff_ne.mpr h
    simp only[List.lookup,hb];exact ih
theorem q3t(f:Str)(v:V):∀fs:List (Str×V),f∈(putF f v fs).map (·.1)/\∀g,g∈fs.map (·.1)->g∈(putF f v fs).map (·.1)
 |[]=>⟨by simp[putF],λg h=>by simp at h⟩
 | (k,x)::r=>by
  obtain⟨i1,i2⟩:=q3t f v r;rw[show putF f v ((k,x)::r)=(if k=f then(k,v)::r else(k,x)::putF f v r) from rfl];by_cases hk:k=f
  ·rw[if_pos hk]
   subst hk;exact⟨by simp,λg h=>by simpa using h⟩
  ·rw[if_neg hk]
   refine⟨?_,λg h=>?_⟩
   ·rw[List.map_cons]
    exact List.mem_cons_of_mem _ i1
   ·rw[List.map_cons] at h ⊢
    rcases List.mem_cons.mp h with e|e
    ·exact List.mem_cons.mpr (.inl e)
    ·exact List.mem_cons_of_mem _ (i2 g e)
theorem q3s(f:Str)(v:V):∀fs:List (Str×V),(putF f v fs).length<=fs.length+1
 |[]=>by simp[putF]
 | (k,x)::r=>by
  have ih:=q3s f v r;rw[show putF f v ((k,x)::r)=(if k=f then(k,v)::r else(k,x)::putF f v r) from rfl];by_cases hk:k=f
  ·rw[if_pos hk,List.length_cons,List.length_cons];lia
  ·rw[if_neg hk,List.length_cons,List.length_cons];lia
theorem RelO.some_of{v:V}{o:Option Value}(r:RelO (some v) o):∃u,o=some u/\RelV v u:=by
 cases o with
 |none=>exact(show False from r).elim
 |some u=>exact⟨u,rfl,r⟩
theorem RelO.none_of{o:Option Value}(r:RelO none o):o=none:=by
 cases o with
 |none=>rfl
 |some u=>exact(show False from r).elim
theorem handed_of{v:V}{u:Value}(r:RelV v u):PySem.W.handedIn u=true:=by
 cases v with
 |non=>cases(show u=Value.none from r);rfl
 |bl b=>cases(show u=Value.bool b from r);rfl
 |int i=>obtain⟨t,e⟩:=(show ∃t,u=Value.int i t from r);cases e;rfl
 |str x=>obtain⟨t,e⟩:=(show ∃t,u=Value.str x t from r);cases e;rfl
 |byt b=>obtain⟨t,e⟩:=(show ∃t,u=Value.bytes b t from r);cases e;rfl
 |flt b=>obtain⟨t,e⟩:=(show ∃t,u=Value.float b t from r);cases e;rfl
 |ref a=>cases(show u=Value.ref a from r);rfl
 |ty n=>cases(show u=Value.type n from r);rfl
section
variable {P:Program}{w:World}{H H':Hp}{h h':Heap}{a C dx:Addr}{fs fs':List (Str×V)}
theorem q52(hok:HOk P w H h)(e:H a=some (.ins C dx fs)):∃mA,ObjM h a dx C mA/\(∀f,RelO (fs.lookup f) (mA f))/\PySem.Within mA (fs.map (·.1))/\fs.length<=1000/\H dx=some (.own a):=by
 obtain⟨d,z,ne,ob,mA,n,r,q⟩:=(show ObjOk P w H h a (.ins C dx fs) from hok a _ e)
 exact⟨mA,⟨ob,n,ne⟩,r,q,z,d⟩
end
structure Cls(K:PySem.W.Frag)(C:Addr):Prop where
 pg:PySem.W.plainGet K C Str.empty=true
 hd:PySem.W.hasDictIn K C=true
 po:PySem.W.plainOver K C=true
 sa:PySem.W.findIn K (.ref C) "__setattr__" = some (some (.builtin "object.__setattr__"))
theorem Cls.get{K:PySem.W.Frag}{C:Addr}(c:Cls K C)(f:Str):PySem.W.plainGet K C f=true:=c.pg
noncomputable def NoAttr(K:PySem.W.Frag)(C:Addr)(f:Str):Prop:=PySem.W.findIn K (.ref C) f=some none
theorem NoAttr.taker{K:PySem.W.Frag}{C:Addr}{f:Str}(n:NoAttr K C f):PySem.W.takerIn K C f=some none:=by
 unfold PySem.W.takerIn;rw[show PySem.W.findIn K (.ref C) f=some none from n];rfl
structure Con(K:PySem.W.Frag)(C:Addr)(f:Str)(v:V)(u:Value):Prop where
 at_:PySem.W.findIn K (.ref C) f=some (some u)
 rel:RelV v u
 get:PySem.W.specialIn K u "__get__" = some none
 cp:PySem.W.copiedNames.contains f=false
structure Meth(K:PySem.W.Frag)(C:Addr)(m:Str)(f:Addr):Prop where
 at_:PySem.W.findIn K (.ref C) m=some (some (.ref f))
 fn:PySem.W.isFn K (.ref f)=true
 kp:PySem.W.keepIn K (.ref f)=true
section
variable {X:Cx}{pins:List (Addr×Obj)}{σ:St}{H:Hp}{s:Shared}{a C dx:Addr}{fs:List (Str×V)}{f:Str}{v:V}{A:Around}{E:Value->Shared->Prop}
theorem q8A{b:Bool}{Q:Value->Shared->Prop}(I:Inv X pins σ H s)(e:H a=some (.ins C dx fs))(c:Cls X.K C)(n:NoAttr X.K C f)(l:fs.lookup f=some v)
  (h:∀u s',Inv X pins σ H s'->RelV v u->Q u s'):wpAny (model X.prog X.w) A (getAttr (.ref a) f b) Q E s:=by
 obtain⟨mA,O,r,_,_,_⟩:=q52 I.hok e;obtain⟨u,hu,ru⟩:=RelO.some_of (v:=v) (o:=mA f) (by rw[<-l];exact r f);exact get_map I.kIn O (c.get f) c.hd n hu (handed_of ru) (h u _ (I.tok _) ru)
theorem q36{m:Str}{g:Addr}{pl:Sem Bool}{Q:Value×List Value->Shared->Prop}(I:Inv X pins σ H s)(e:H a=some (.ins C dx fs))(c:Cls X.K C)(k:Meth X.K C m g)(l:fs.lookup m=none)
  (h:Q (.ref g,[.ref a]) s):wpAny (model X.prog X.w) A (getMethod (.ref a) m pl) Q E s:=by
 obtain⟨mA,O,r,_,_,_⟩:=q52 I.hok e;have hn:mA m=none:=RelO.none_of (by rw[<-l];exact r m);exact get_meth I.kIn O (c.get m) k.at_ k.fn hn h
theorem q7p{y:V}{u:Value}{Q:Unit->Shared->Prop}(I:Inv X pins σ H s)(e:H a=some (.ins C dx fs))(c:Cls X.K C)(n:NoAttr X.K C f)(hl:fs.length < 1000)(ry:RelV y u)
  (h:∀s',Inv X pins σ (upd H a (.ins C dx (putF f y fs))) s'->Q () s'):wpAny (model X.prog X.w) A (setAttr (.ref a) f u) Q E s:=by
 obtain⟨mA,O,r,wi,_,ho⟩:=q52 I.hok e;have hz:(fs.map (·.1)).length<=sizeLine:=by rw[List.length_map,sizeLine_eq];lia
 refine set_map I.kIn O c.sa c.po n.taker c.hd wi hz λh' O' sb=>h _ ?_;have hd:∃o,h'.get? dx=some o:=let⟨o,_,_,e',_⟩:=O'.ns;⟨o,e'⟩;refine I.write (x:=a) (e:=dx) (by rw[e];exact True.intro) (.inr ho) (λb q hb z=>(sb.2 b hb).trans z) hd ?_;refine⟨by rw[qG O.ne];exact ho,?_,O.ne,O'.obj,_,O'.ns,λg=>?_,λg hg=>?_⟩
 ·have:=q3s f y fs;lia
 ·show RelO ((putF f y fs).lookup g) (if g=f then some u else mA g)
  rw[q3q];by_cases q:g=f
  ·rw[if_pos q,if_pos q];exact ry
  ·rw[if_neg q,if_neg q];exact r g
 ·by_cases q:g=f
  ·rw[q];exact(q3t f y fs).1
  ·refine(q3t f y fs).2 g (wi g λz=>hg ?_)
   show(if g=f then some u else mA g)=none;rw[if_neg q];exact z
theorem Inv.made(I:Inv X pins σ H s):Inv X pins σ (upd (upd H s.heap.objs.size (.own (s.heap.objs.size+1))) (s.heap.objs.size+1) (.ins C s.heap.objs.size []))
  {s with heap:=(s.heap.push PySem.W.emptyDict).push (PySem.W.instObj C s.heap.objs.size)}:=by
 have e1:(s.heap.push PySem.W.emptyDict).get? s.heap.objs.size=some PySem.W.emptyDict:=Heap.get?_push_size s.heap rfl;have e2:((s.heap.push PySem.W.emptyDict).push (PySem.W.instObj C s.heap.objs.size)).get? (s.heap.objs.size+1)=some (PySem.W.instObj C s.heap.objs.size):=by
  have:=Heap.get?_push_size (s.heap.push PySem.W.emptyDict) (o:=PySem.W.instObj C s.heap.objs.size) rfl
  rwa [Heap.size_push] at this
 have e3:(s.heap.push PySem.W.emptyDict).Ns s.heap.objs.size (λ_=>none):=⟨PySem.W.emptyDict,#[],_,e1,rfl,(λe he=>absurd he (by simp)),λ_=>rfl⟩
 have I1:=I.laid (a:=s.heap.objs.size) (o:=.own (s.heap.objs.size+1)) (h':=s.heap.push PySem.W.emptyDict) (t':=s.toks) (λb u q=>Heap.get?_push_of_some _ q) (Nat.le_refl _) ⟨_,e1⟩;refine I1.laid (a:=s.heap.objs.size+1) (o:=.ins C s.heap.objs.size []) (t':=s.toks) (λb u q=>Heap.get?_push_of_some _ q) (Nat.le_of_eq (Heap.size_push _ _)) ?_;have ne:s.heap.objs.size≠s.heap.objs.size+1:=Nat.ne_of_lt (Nat.lt_succ_self _);refine⟨by rw[qG ne,q0],Nat.zero_le _,ne,e2,λ_=>none,(Heap.Ns1.of_empty e3).at λo q=>Heap.get?_push_of_some _ q,λ_=>True.intro,λy hy=>absurd rfl hy⟩
theorem attr_of{prog:Program}{w:World}{env:Env}{e:Expr}{f:Str}{pos:Pos}{s:Shared}{Q:Value->Shared->Prop}(hb:attributeBase e f env (eval e env)=eval e env)
  (h:wpAny (model prog w) A (eval e env) (λo s₁=>wpAny (model prog w) A (getAttr o f true) Q E s₁) E s):wpAny (model prog w) A (eval (.Attribute e f pos) env) Q E s:=
 Attribute_any_ h (by rw[arm_eval_Attribute,hb])
end
noncomputable def tFld(K:PySem.W.Frag)(ta:TE)(f:Str):TE:=λσ H Q=>ta σ H λx H1=>∃a C dx fs v,x = .ref a/\H1 a=some (.ins C dx fs)/\Cls K C/\NoAttr K C f/\fs.lookup f=some v/\Q v H1
noncomputable def sFld(K:PySem.W.Frag)(ta tv:TE)(f:Str):TS:=λD σ H=>tv σ H λy H1=>ta σ H1 λx H2=>∃a C dx fs,x = .ref a/\H2 a=some (.ins C dx fs)/\Cls K C/\NoAttr K C f/\fs.length < 1000/\
 D.nx σ (upd H2 a (.ins C dx (putF f y fs)))
section
variable {X:Cx}{o e value:Expr}{f:Str}{pos pos' tpos:Pos}{ta tv:TE}
theorem pe_fld(he:PE X e ta)(hb:attributeBase e f X.env (eval e X.env)=eval e X.env):PE X (.Attribute e f pos) (tFld X.K ta f):=by
 intro pins s σ H Q I h;refine attr_of hb (thn (he pins s σ H _ I h) λu s1 ⟨x,H1,I1,rx,a,C,dx,fs,v,ex,ea,c,n,l,q⟩=>?_);subst ex;obtain rfl:u=Value.ref a:=rx
 exact q8A I1 ea c n l λu' s2 I2 ru=>⟨v,H1,I2,ru,q⟩
theorem ps_fld(ha:PE X o ta)(hv:PE X value tv)(hs:swapsWith value (some (.Attribute o f pos')) pos.line X.env=pure false):PS X (.Assign [.Attribute o f pos'] value pos) (sFld X.K ta tv f):=by
 intro pins s σ H D I h;refine plainObj_wpAny_Assign_Attribute (thn (hv pins s σ H _ I h) λu s1 ⟨y,H1,I1,ry,q⟩=>thn (ha pins s1 σ H1 _ I1 q) λov s2 ⟨x,H2,I2,rx,a,C,dx,fs,ex,ea,c,n,l,q2⟩=>?_) hs;subst ex;obtain rfl:ov=Value.ref a:=rx
 exact q7p I2 ea c n l ry λs3 I3=>⟨σ,_,I3,q2⟩
theorem methcall_of{pl:Sem Bool}{m:Str}{apos:Pos}{args:List Expr}{pins:List (Addr×Obj)}{s:Shared}{σ:St}{H:Hp}{Q:Value->Shared->Prop}{te:TE}(he:PE X e te)(I:Inv X pins σ H s)
  (h:te σ H λx H1=>∃a C dx fs g,x = .ref a/\H1 a=some (.ins C dx fs)/\Cls X.K C/\Meth X.K C m g/\fs.lookup m=none/\
   ∀s1,Inv X pins σ H1 s1->wpAny (model X.prog X.w) X.A (callWith pos (.ref g) [.ref a] (backTo pos (starEach args X.env)) (backToKw pos (keywordEach [] X.env))) Q X.xe s1)
  (ht:eval (.Call (.Attribute e m apos) args [] pos) X.env=(do
   let ov <-eval e X.env
   standAt apos.atName
   let(f,first) <-holding [ov] (getMethod ov m pl)
   callWith pos f first (backTo pos (starEach args X.env)) (backToKw pos (keywordEach [] X.env)))):
  wpAny (model X.prog X.w) X.A (eval (.Call (.Attribute e m apos) args [] pos) X.env) Q X.xe s:=by
 refine PySem.W.methodCall_KW (pl:=pl) (thn (he pins s σ H _ I h) λu s1 ⟨x,H1,I1,rx,a,C,dx,fs,g,ex,ea,c,k,l,q⟩=>?_) ht;subst ex;obtain rfl:u=Value.ref a:=rx;exact q36 I1 ea c k l (q s1 I1)
end
section
variable {X:Cx}{pins:List (Addr×Obj)}{σ:St}{H:Hp}{s:Shared}{A:Around}{E:Value->Shared->Prop}{Q:Value->Shared->Prop}{c:Value}{b:Bool}
inductive TyOf (K:PySem.W.Frag) (H:Hp):V->Value->Prop where
 |non:TyOf K H .non (.type "NoneType")
 |bl (x:Bool):TyOf K H (.bl x) (.type "bool")
 |int (i:Int):TyOf K H (.int i) (.type "int")
 |str (x:Str):TyOf K H (.str x) (.type "str")
 |flt (x:UInt64):TyOf K H (.flt x) (.type "float")
 |lst {a:Addr} {xs:List V} (e:H a=some (.lst xs)):TyOf K H (.ref a) (.type "list")
 |frz {a:Addr} {o:Obj} {xs:List V} (e:H a=some (.frz o (.lst xs))):TyOf K H (.ref a) (.type "list")
 |tup {a:Addr} {xs:List V} (e:H a=some (.tup xs)):TyOf K H (.ref a) (.type "tuple")
 |dK {a:Addr} {kvs:List (Key×V)} (e:H a=some (.dK kvs)):TyOf K H (.ref a) (.type "dict")
 |dT {a:Addr} {kvs:List (List Key×V)} (e:H a=some (.dT kvs)):TyOf K H (.ref a) (.type "dict")
 | ins {a C dx:Addr} {fs:List (Str×V)} (e:H a=some (.ins C dx fs)) (cl:Cls K C) (ha:PySem.W.findIn K (.ref C) "__class__" = some (some (.builtin "object.__class__")))
   (hn:PySem.W.specialIn K (.builtin "object.__class__") "__get__" = some (some (.builtin "getset_descriptor.__get__"))) (htk:PySem.W.takesIn K (.builtin "object.__class__")=some true)
   (hm:PySem.W.mroIn K C (.type "object")=some true):TyOf K H (.ref a) (.ref C)
theorem isinst_ok{x:V}{u t:Value}(I:Inv X pins σ H s)(rx:RelV x u)(ty:TyOf X.K H x t)(e:PySem.W.kitOne X.K t c=some b)(h:∀tk,Q (.bool b) {s with toks:=tk}):
  wpAny (model X.prog X.w) A (call (.builtin "isinstance") [u,c]) Q E s:=by
 cases ty with
 |non=>cases(show u=Value.none from rx);exact PySem.W.kia_one PySem.W.kitx_none I.kIn True.intro e (λz=>nomatch z) h
 |bl y=>cases(show u=Value.bool y from rx);exact PySem.W.kia_one PySem.W.kitx_bool I.kIn True.intro e (λz=>nomatch z) h
 |int i=>obtain⟨t,q⟩:=(show ∃t,u=Value.int i t from rx);cases q;exact PySem.W.kia_one PySem.W.kitx_int I.kIn True.intro e (λz=>nomatch z) h
 |str y=>obtain⟨t,q⟩:=(show ∃t,u=Value.str y t from rx);cases q;exact PySem.W.kia_one PySem.W.kitx_str I.kIn True.intro e (λz=>nomatch z) h
 |flt y=>obtain⟨t,q⟩:=(show ∃t,u=Value.float y t from rx);cases q;exact PySem.W.kia_one PySem.W.kitx_float I.kIn True.intro e (λz=>nomatch z) h
 | @lst a xs ea=>
  cases(show u=Value.ref a from rx)
  obtain⟨_,_,n,_,h1⟩:=(show ObjOk X.prog X.w H s.heap a (.lst xs) from I.hok a _ ea)
  exact PySem.W.kia_one PySem.W.kitx_list I.kIn ⟨_,h1,rfl⟩ e (λz=>nomatch z) h
 | @frz a ob xs ea=>
  cases(show u=Value.ref a from rx)
  obtain⟨_,_,_,n,_,h1⟩:=(show ObjOk X.prog X.w H s.heap a (.frz ob (.lst xs)) from I.hok a _ ea)
  exact PySem.W.kia_one PySem.W.kitx_list I.kIn ⟨_,h1,rfl⟩ e (λz=>nomatch z) h
 | @tup a xs ea=>
  cases(show u=Value.ref a from rx)
  obtain⟨_,_,_,p⟩:=(show ObjOk X.prog X.w H s.heap a (.tup xs) from I.hok a _ ea)
  obtain⟨o,h1,h2,_⟩:=p;exact PySem.W.kia_one PySem.W.kitx_tuple I.kIn ⟨o,h1,h2⟩ e (λz=>nomatch z) h
 | @dK a kvs ea=>
  cases(show u=Value.ref a from rx)
  obtain⟨_,_,vs,_,p⟩:=(show ObjOk X.prog X.w H s.heap a (.dK kvs) from I.hok a _ ea)
  obtain⟨o,es,ep,h1,h2,_⟩:=p;exact PySem.W.kia_one PySem.W.kitx_dict I.kIn ⟨o,h1,h2.1⟩ e (λz=>nomatch z) h
 | @dT a kvs ea=>
  cases(show u=Value.ref a from rx)
  obtain⟨_,_,xs,_,o,es,ep,h1,h2,_⟩:=(show ObjOk X.prog X.w H s.heap a (.dT kvs) from I.hok a _ ea)
  exact PySem.W.kia_one PySem.W.kitx_dict I.kIn ⟨o,h1,h2.1⟩ e (λz=>nomatch z) h
 | @ins a C dx fs ea cl ha hn htk hm=>
  cases(show u=Value.ref a from rx);obtain⟨mA,O,_⟩:=q52 I.hok ea;obtain⟨od,J,_⟩:=O.look;exact PySem.W.kia_one (PySem.W.kitx_own (cl.get _) cl.hd ha hn htk hm) I.kIn J e (λz=>nomatch z) h
end
structure Room(k:Nat)(A:Around):Prop where
 hd:A.handled=none
 dp:A.depth+3*k+5 < recursionLimit
 un:A.units+16*k+200 < cLine
theorem Room.mono{j k:Nat}{A:Around}(r:Room k A)(h:j<=k):Room j A:=⟨r.hd,by have:=r.dp;lia,by have:=r.un;lia⟩
theorem Room.deeper{k:Nat}{A:Around}(r:Room (k+1) A)(env:Env):Room k (A.deeper env):=
 ⟨r.hd,by have:=r.dp;show A.depth+1+3*k+5 < _;lia,by have:=r.un;show A.units+3+16*k+200 < _;lia⟩
theorem Room.in1{k:Nat}{A:Around}(r:Room (k+1) A):Room k A.in1:=
 ⟨r.hd,by have:=r.dp;show A.depth+3*k+5 < _;lia,by have:=r.un;show A.units+1+16*k+200 < _;lia⟩
theorem q83{A:Around}{C:Addr}{us:List Value}{kw:List (Str×Value)}:(A.under (.builtin "type.__call__" ⟨.ref C::us,kw⟩)).depth=A.depth+1:=by
 first|rfl|simp[Around.under,Code.weight,Code.isCreation,Code.isGuard,Code.isCaller,Code.frames,Code.isFrame,guardIds]
theorem q82{A:Around}{C:Addr}{us:List Value}{kw:List (Str×Value)}:(A.under (.builtin "type.__call__" ⟨.ref C::us,kw⟩)).units=A.units+1:=by
 first|rfl|simp[Around.under,Code.cUnits,Code.frames,Code.isFrame]
theorem Room.make{k:Nat}{A:Around}(r:Room (k+1) A)(C:Addr)(us:List Value)(kw:List (Str×Value)):Room k (A.under (.builtin "type.__call__" ⟨.ref C::us,kw⟩)):=
 ⟨r.hd,by have:=r.dp;rw[q83];lia,by have:=r.un;rw[q82];lia⟩
theorem Room.depth{k:Nat}{A:Around}(r:Room k A):A.depth < recursionLimit:=by have:=r.dp;lia
theorem Room.units{k:Nat}{A:Around}(r:Room k A):A.units+64 < cLine:=by have:=r.un;lia
noncomputable def tNil:TA:=λ_ H Q=>Q [] H
noncomputable def tCons(ta:TE)(tr:TA):TA:=λσ H Q=>ta σ H λx H1=>tr σ H1 λxs H2=>Q (x::xs) H2
section
variable {X:Cx}{e:Expr}{es:List Expr}{te:TE}{t:TA}{pos:Pos}
theorem qA:PA X [] tNil:=λ_ _ _ _ H Q I h=>Calls.spliced_nil ⟨[],H,I,.nil,h⟩
theorem pa_cons(ha:PE X e te)(hr:PA X es t)(hs:starEach (e::es) X.env=(false,eval e X.env)::starEach es X.env:=by rfl):PA X (e::es) (tCons te t):=by
 intro pos pins s σ H Q I h;rw[hs];show wpAny _ _ (spliced ((false,eval e X.env)::backTo pos (starEach es X.env))) _ _ s;refine Calls.spliced_cons (thn (ha pins s σ H _ I h) λu s1 ⟨x,H1,I1,r1,q1⟩=>?_)
 exact thn (hr pos pins s1 σ H1 _ I1 q1) λus s2 ⟨xs,H2,I2,r2,q2⟩=>⟨x::xs,H2,I2,.cons r1 r2,q2⟩
noncomputable def tTup(t:TA):TE:=λσ H Q=>t σ H λxs H1=>xs.length<=sizeLine/\∀p,H1 p=none->Q (.ref p) (upd H1 p (.tup xs))
noncomputable def tLst(t:TA):TE:=λσ H Q=>t σ H λxs H1=>xs.length<=sizeLine/\∀p,H1 p=none->Q (.ref p) (upd H1 p (.lst xs))
theorem qf{x1}(h:PA X es t):PE X (.Tuple es x1 pos) (tTup t):=by
 intro pins s σ H Q I hq;refine wpAny_Tuple_spliced (thn (h pos pins s σ H _ I hq) λus s1 ⟨xs,H1,I1,r,z,q⟩=>⟨by rw[<-r.length];exact z,?_⟩);have hf:H1 s1.heap.objs.size=none:=I1.hok.fresh (Nat.le_refl _);refine⟨.ref s1.heap.objs.size,upd H1 s1.heap.objs.size (.tup xs),I1.laid (t':=s1.toks) (λb u e=>Heap.get?_push_of_some _ e) (Nat.le_refl _) ?_,rfl,q _ hf⟩;exact⟨z,us,r,⟨_,Heap.get?_push_size _ rfl,rfl,_,rfl⟩⟩
theorem pe_lst(h:PA X es t):PE X (.List es pos) (tLst t):=by
 intro pins s σ H Q I hq;refine wpAny_List_spliced (thn (h pos pins s σ H _ I hq) λus s1 ⟨xs,H1,I1,r,z,q⟩=>⟨by rw[<-r.length];exact z,?_⟩);have hf:H1 s1.heap.objs.size=none:=I1.hok.fresh (Nat.le_refl _);refine⟨.ref s1.heap.objs.size,upd H1 s1.heap.objs.size (.lst xs),I1.laid (t':=s1.toks) (λb u e=>Heap.get?_push_of_some _ e) (Nat.le_refl _) ?_,rfl,q _ hf⟩;exact⟨z,us,0,r,Heap.get?_push_size _ rfl⟩
end
noncomputable abbrev Sp:=List V->Hp->VK->XK->Prop
noncomputable abbrev CXT:=List Env->Hp->Shared->XK->Value->Shared->Prop
structure Env0(P:Program)(w:World)(K:PySem.W.Frag)(mg:Str->Option Value)(base:Heap)(A:Around)(outer:List Env)(s:Shared)(H:Hp):Prop where
 frames:A.frames=some outer
 mod:Mod K mg base
 bs:∀b o,base.get? b=some o->s.heap.get? b=some o/\H b=none
 bsz:base.objs.size<=s.heap.objs.size
 funs:s.heap.FunFrames base outer
 frf:∀b∈frs outer,H b=none
 hok:HOk P w H s.heap
 bare:AllBare s.gens
noncomputable def CE(outer:List Env)(P:Program)(w:World)(H:Hp)(s:Shared)(Q:VK)(u:Value)(s':Shared):Prop:=
 ∃v H',s'.os=s.os/\AllBare s'.gens/\Un (frs outer) [] H H' s.heap s'.heap/\HOk P w H' s'.heap/\RelV v u/\Q v H'
noncomputable def CR(CX:CXT)(outer:List Env)(P:Program)(w:World)(H:Hp)(s:Shared)(Q:VK)(E:XK)(r:Result)(s':Shared):Prop:=
 match r with
 |.ok (.ret u)=>CE outer P w H s Q u s'
 |.ok _=>False
 |.error e=>CX outer H s E e s'
structure FnOk(P:Program)(w:World)(K:PySem.W.Frag)(mg:Str->Option Value)(base:Heap)(CX:CXT)(k:Nat)(f:Addr)(fd:FuncData)(ps:List Str)(sp:Sp):Prop where
 len:∀vs H Q E,sp vs H Q E->vs.length=ps.length
 run:∀(A:Around) (outer:List Env) (s:Shared) (H:Hp) (args:Args) (us:List Value) (vs:List V) (Q:VK) (E:XK),Room k A->Env0 P w K mg base A outer s H->BindsTo s fd args (ps.zip us)->Vals vs us->sp vs H Q E ->
  codeAny (model P w) A (.call (.ref f) args) (CR CX outer P w H s Q E) s
theorem FnOk.mono{P:Program}{w:World}{K:PySem.W.Frag}{mg:Str->Option Value}{base:Heap}{CX:CXT}{j k:Nat}{f:Addr}{fd:FuncData}{ps:List Str}{sp:Sp}(F:FnOk P w K mg base CX j f fd ps sp)(h:j<=k):
  FnOk P w K mg base CX k f fd ps sp:=⟨F.len,λA outer s H args us vs Q E hr=>F.run A outer s H args us vs Q E (hr.mono h)⟩
theorem FnOk.imp{P:Program}{w:World}{K:PySem.W.Frag}{mg:Str->Option Value}{base:Heap}{CX:CXT}{k:Nat}{f:Addr}{fd:FuncData}{ps:List Str}{sp sp':Sp}(F:FnOk P w K mg base CX k f fd ps sp)
  (h:∀vs H Q E,sp' vs H Q E->sp vs H Q E):FnOk P w K mg base CX k f fd ps sp':=
 ⟨λvs H Q E q=>F.len vs H Q E (h _ _ _ _ q),λA outer s H args us vs Q E hr he hb hv hs=>F.run A outer s H args us vs Q E hr he hb hv (h _ _ _ _ hs)⟩
theorem Env0.make{P:Program}{w:World}{K:PySem.W.Frag}{mg:Str->Option Value}{base:Heap}{A:Around}{outer:List Env}{s:Shared}{H:Hp}(e:Env0 P w K mg base A outer s H)(C:Addr)(us:List Value)(kw:List (Str×Value)):
  Env0 P w K mg base (A.under (.builtin "type.__call__" ⟨.ref C::us,kw⟩)) outer s H:=⟨by first|exact e.frames|(simpa[Around.under,Code.envs,Code.isFrame,pushEnvs] using e.frames),e.mod,e.bs,e.bsz,e.funs,e.frf,e.hok,e.bare⟩
theorem Env0.in1{P:Program}{w:World}{K:PySem.W.Frag}{mg:Str->Option Value}{base:Heap}{A:Around}{outer:List Env}{s:Shared}{H:Hp}(e:Env0 P w K mg base A outer s H):
  Env0 P w K mg base A.in1 outer s H:=⟨e.frames,e.mod,e.bs,e.bsz,e.funs,e.frf,e.hok,e.bare⟩
section
variable {X:Cx}{pins:List (Addr×Obj)}{σ:St}{H:Hp}{s s':Shared}
theorem Inv.env0(I:Inv X pins σ H s):Env0 X.prog X.w X.K X.mg X.base X.A X.stack s H:=
 ⟨I.ok.frames,I.ok.mod,I.bs,Nat.le_trans I.ok.bsz I.sz,I.stack,I.stkFree,I.hok,I.bare⟩
theorem Inv.after{Q:VK}{u:Value}(I:Inv X pins σ H s)(h:CE X.stack X.prog X.w H s Q u s'):EP X pins σ Q u s':=by
 obtain⟨v,H',os,bare,un,hok,r,q⟩:=h;obtain⟨hh,g,d,t,os'⟩:=s';obtain rfl:os'=s.os:=os;exact⟨v,H',I.call (h':=hh) (g':=g) (d':=d) (t':=t) (ch:=[]) un hok bare (λb z=>absurd z (by simp)),r,q⟩
end
noncomputable def q7m(sp:Sp)(dvs:List V)(E:XK)(t:TA):TE:=λσ H Q=>t σ H λvs H1=>sp (vs++dvs) H1 Q E
noncomputable def tMeth(C:Addr)(m:Str)(sp:Sp)(dvs:List V)(E:XK)(ta:TE)(t:TA):TE:=λσ H Q=>ta σ H λx H1=>∃a dx fs,x = .ref a/\H1 a=some (.ins C dx fs)/\fs.lookup m=none/\
 t σ H1 λvs H2=>sp (x::(vs++dvs)) H2 Q E
noncomputable def tMake(C:Addr)(sp:Sp)(dvs:List V)(E:XK)(t:TA):TE:=λσ H Q=>t σ H λvs H1=>∀x dx,H1 x=none->H1 dx=none->dx≠x ->
 sp (.ref x::(vs++dvs)) (upd (upd H1 dx (.own x)) x (.ins C dx [])) (λv H2=>v = .non/\Q (.ref x) H2) E
noncomputable def Binds(K:PySem.W.Frag)(fd:FuncData)(ps:List Str)(ds:List Value):Prop:=
 ∀(s:Shared) (us:List Value),K.In s.heap->(us++ds).length=ps.length->BindsTo s fd ⟨us,[]⟩ (ps.zip (us++ds))
theorem Binds.all{K:PySem.W.Frag}{fd:FuncData}{ps:List Str}(h:∀us:List Value,us.length=ps.length->bindArgs fd ⟨us,[]⟩=pure (ps.zip us)):Binds K fd ps []:=λs us _ hl=>by
 rw[List.append_nil] at hl ⊢;exact .of_eq (h us hl)
noncomputable def q0Y(CX:CXT)(X:Cx)(E:XK):Prop:=∀(pins:List (Addr×Obj)) (σ:St) (H:Hp) (s:Shared) (e:Value) (s':Shared),Inv X pins σ H s->CX X.stack H s E e s'->X.xe e s'
section
variable {X:Cx}{CX:CXT}{k:Nat}{f C:Addr}{fd:FuncData}{ps:List Str}{sp:Sp}{dvs:List V}{ds:List Value}{E:XK}{x m:Str}{p pos apos:Pos}{e o:Expr}{es:List Expr}{ta:TE}{t:TA}
theorem q7H{pins:List (Addr×Obj)}{σ:St}{H:Hp}{s:Shared}{Q:VK}{us:List Value}{vs:List V}(F:FnOk X.prog X.w X.K X.mg X.base CX k f fd ps sp)(hr:Room k X.A)(hb:Binds X.K fd ps ds)(hd:Vals dvs ds)(hx:q0Y CX X E)
  (I:Inv X pins σ H s)(r:Vals vs us)(h:sp (vs++dvs) H Q E):wpAny (model X.prog X.w) X.A (call (.ref f) us) (EP X pins σ Q) X.xe s:=by
 have r2:Vals (vs++dvs) (us++ds):=r.append hd;have hl:(us++ds).length=ps.length:=by rw[<-r2.length];exact F.len _ _ _ _ h
 refine wpAny_call (codeAny_mono (F.run X.A X.stack s H ⟨us,[]⟩ (us++ds) (vs++dvs) Q E hr I.env0 (hb s us I.kIn hl) r2 h) λr s' hq=>?_)
 cases r with
 |error e=>exact hx pins σ H s e s' I hq
 | ok fl=>
  cases fl with
  |ret u=>exact I.after hq
  |next=>exact False.elim hq
  |brk=>exact False.elim hq
  |cont=>exact False.elim hq
theorem q6W(F:FnOk X.prog X.w X.K X.mg X.base CX k f fd ps sp)(hr:Room k X.A)(hg:Gl X x)(hm:X.mg x=some (.ref f))(hk:PySem.W.keepIn X.K (.ref f)=true)(hb:Binds X.K fd ps ds)(hd:Vals dvs ds)(hx:q0Y CX X E)
  (ha:PA X (e::es) t)(hdb:(x == ("__debug__" : Str))=false:=by decide)(he:starEach (e::es) X.env=(false,eval e X.env)::starEach es X.env:=by rfl)(hpl:(backTo pos (starEach es X.env)).any (·.1)=false:=by rfl):
  PE X (.Call (.Name x p) (e::es) [] pos) (q7m sp dvs E t):=by
 intro pins s σ H Q I h;refine wpAny_Call_Name_kw (q1r I hg hm ?_ hdb);refine PySem.W.callWith_K (h₀:=X.base) I.ok.mod.kin hk (thn (ha pos pins s σ H _ I h) λus s1 ⟨vs,H1,I1,r,q⟩=>⟨I1.kIn,?_⟩) he hpl;exact q7H F hr hb hd hx I1 r q
theorem pe_call0(F:FnOk X.prog X.w X.K X.mg X.base CX k f fd ps sp)(hr:Room k X.A)(hg:Gl X x)(hm:X.mg x=some (.ref f))(hk:PySem.W.keepIn X.K (.ref f)=true)(hb:Binds X.K fd ps ds)(hd:Vals dvs ds)(hx:q0Y CX X E)
  (hdb:(x == ("__debug__" : Str))=false:=by decide):PE X (.Call (.Name x p) [] [] pos) (q7m sp dvs E tNil):=by
 intro pins s σ H Q I h;refine wpAny_Call_Name_kw (q1r I hg hm ?_ hdb);exact PySem.W.callWith_K0 I.kIn hk (q7H (us:=[]) F hr hb hd hx I .nil h)
theorem pe_meth{pl:Sem Bool}(he:PE X o ta)(c:Cls X.K C)(hm:Meth X.K C m f)(F:FnOk X.prog X.w X.K X.mg X.base CX k f fd ps sp)(hr:Room k X.A)(hb:Binds X.K fd ps ds)(hd:Vals dvs ds)(hx:q0Y CX X E)(ha:PA X (e::es) t)
  (hst:starEach (e::es) X.env=(false,eval e X.env)::starEach es X.env:=by rfl)(hpl:(backTo pos (starEach es X.env)).any (·.1)=false:=by rfl)
  (ht:eval (.Call (.Attribute o m apos) (e::es) [] pos) X.env=(do
   let ov <-eval o X.env
   standAt apos.atName
   let(f,first) <-holding [ov] (getMethod ov m pl)
   callWith pos f first (backTo pos (starEach (e::es) X.env)) (backToKw pos (keywordEach [] X.env))):=by rfl):
  PE X (.Call (.Attribute o m apos) (e::es) [] pos) (tMeth C m sp dvs E ta t):=by
 intro pins s σ H Q I h;refine PySem.W.methodCall_KW (pl:=pl) (thn (he pins s σ H _ I h) λu s1 ⟨x,H1,I1,rx,a,dx,fs,ex,ea,l,q⟩=>?_) ht;subst ex;obtain rfl:u=Value.ref a:=rx;refine q36 I1 ea c hm l ?_;refine PySem.W.callWith_K (first:=[.ref a]) (h₀:=X.base) I.ok.mod.kin hm.kp (thn (ha pos pins s1 σ H1 _ I1 q) λus s2 ⟨vs,H2,I2,r,q2⟩=>⟨I2.kIn,?_⟩) hst hpl;exact q7H (us:=.ref a::us) (vs:=.ref a::vs) F hr hb hd hx I2 (.cons rfl r) q2
theorem pe_meth0{pl:Sem Bool}(he:PE X o ta)(c:Cls X.K C)(hm:Meth X.K C m f)(F:FnOk X.prog X.w X.K X.mg X.base CX k f fd ps sp)(hr:Room k X.A)(hb:Binds X.K fd ps ds)(hd:Vals dvs ds)(hx:q0Y CX X E)
  (ht:eval (.Call (.Attribute o m apos) [] [] pos) X.env=(do
   let ov <-eval o X.env
   standAt apos.atName
   let(f,first) <-holding [ov] (getMethod ov m pl)
   callWith pos f first (backTo pos (starEach [] X.env)) (backToKw pos (keywordEach [] X.env))):=by rfl):
  PE X (.Call (.Attribute o m apos) [] [] pos) (tMeth C m sp dvs E ta tNil):=by
 intro pins s σ H Q I h;refine PySem.W.methodCall_KW (pl:=pl) (thn (he pins s σ H _ I h) λu s1 ⟨x,H1,I1,rx,a,dx,fs,ex,ea,l,q⟩=>?_) ht;subst ex;obtain rfl:u=Value.ref a:=rx;refine q36 I1 ea c hm l ?_;exact PySem.W.callWith_K0 (first:=[.ref a]) I1.kIn hm.kp (q7H (us:=[.ref a]) (vs:=[.ref a]) F hr hb hd hx I1 (.cons rfl .nil) q)
structure Mk(K:PySem.W.Frag)(C f:Addr):Prop where
 makes:PySem.W.makesIn K C=true
 init:PySem.W.findIn K (.ref C) "__init__" = some (some (.ref f))
 fn:PySem.W.isFn K (.ref f)=true
 kp:PySem.W.keepIn K (.ref C)=true
theorem run_make{pins:List (Addr×Obj)}{σ:St}{H:Hp}{s:Shared}{Q:VK}{us:List Value}{vs:List V}(M:Mk X.K C f)(F:FnOk X.prog X.w X.K X.mg X.base CX k f fd ps sp)(hr:Room (k+1) X.A)(hb:Binds X.K fd ps ds)(hd:Vals dvs ds)
  (hx:q0Y CX X E)(I:Inv X pins σ H s)(r:Vals vs us)
  (h:∀x dx,H x=none->H dx=none->dx≠x->sp (.ref x::(vs++dvs)) (upd (upd H dx (.own x)) x (.ins C dx [])) (λv H2=>v = .non/\Q (.ref x) H2) E):
  wpAny (model X.prog X.w) X.A (call (.ref C) us) (EP X pins σ Q) X.xe s:=by
 have hq:=h (s.heap.objs.size+1) s.heap.objs.size (I.hok.fresh (Nat.le_succ _)) (I.hok.fresh (Nat.le_refl _)) (Nat.ne_of_lt (Nat.lt_succ_self _));have I2:=Inv.made (C:=C) I;have r2:Vals (V.ref (s.heap.objs.size+1)::(vs++dvs)) (Value.ref (s.heap.objs.size+1)::(us++ds)):=.cons rfl (r.append hd);have hl:(Value.ref (s.heap.objs.size+1)::us++ds).length=ps.length:=by
  have e:=r2.length;rw[F.len _ _ _ _ hq] at e;exact e.symm
 refine wpAny_call (make_map (f:=f) I.kIn M.makes M.init (beq_iff_eq.mp M.fn) (codeAny_mono (F.run _ X.stack _ _ ⟨Value.ref (s.heap.objs.size+1)::us,[]⟩ (Value.ref (s.heap.objs.size+1)::(us++ds)) _ _ E (hr.make C us [])
  (I2.env0.make C us []) (hb _ (Value.ref (s.heap.objs.size+1)::us) I2.kIn hl) r2 hq) λr s' hq'=>?_))
 cases r with
 |error e=>exact hx pins σ _ _ e s' I2 hq'
 | ok fl=>
  cases fl with
  | ret u=>
   obtain⟨v,H',I3,rv,ev,q3⟩:=I2.after hq';subst ev;exact⟨rv,⟨V.ref (s.heap.objs.size+1),H',I3,rfl,q3⟩⟩
  |next=>exact False.elim hq'
  |brk=>exact False.elim hq'
  |cont=>exact False.elim hq'
theorem pe_make0(M:Mk X.K C f)(F:FnOk X.prog X.w X.K X.mg X.base CX k f fd ps sp)(hr:Room (k+1) X.A)(hg:Gl X x)(hm:X.mg x=some (.ref C))(hb:Binds X.K fd ps ds)(hd:Vals dvs ds)(hx:q0Y CX X E)
  (hdb:(x == ("__debug__" : Str))=false:=by decide):PE X (.Call (.Name x p) [] [] pos) (tMake C sp dvs E tNil):=by
 intro pins s σ H Q I h;refine wpAny_Call_Name_kw (q1r I hg hm ?_ hdb);exact PySem.W.callWith_K0 I.kIn M.kp (run_make (us:=[]) M F hr hb hd hx I .nil h)
end
noncomputable def PK(X:Cx)(kws:List Keyword)(t:TA):Prop:=
 ∀(pos:Pos) (pins:List (Addr×Obj)) (s:Shared) (σ:St) (H:Hp) (Q:List V->Hp->Prop),Inv X pins σ H s->t σ H Q->wpAny (model X.prog X.w) X.A (evalAll ((backToKw pos (keywordEach kws X.env)).map (·.2))) (AP X pins σ Q) X.xe s
section
variable {X:Cx}{CX:CXT}{k:Nat}{f C:Addr}{fd:FuncData}{ps ks:List Str}{sp:Sp}{E:XK}{x m:Str}{p pos apos kpos:Pos}{e o:Expr}{es:List Expr}{kws:List Keyword}{te ta:TE}{t tk:TA}{nm:Option Str}
theorem pk_nil:PK X [] tNil:=λ_ _ _ _ H Q I h=>wpAny_evalAll_nil ⟨[],H,I,.nil,h⟩
theorem pk_cons(ha:PE X e te)(hr:PK X kws t):PK X (⟨nm,e,kpos⟩::kws) (tCons te t):=by
 intro pos pins s σ H Q I h;show wpAny _ _ (evalAll ((do let v <-eval e X.env;standAt pos;pure v)::(backToKw pos (keywordEach kws X.env)).map (·.2))) _ _ s;refine wpAny_evalAll_cons (wpAny_bind (thn (ha pins s σ H _ I h) λu s1 ⟨x,H1,I1,r1,q1⟩=>wpAny_bind (wpAny_standAt (wpAny_pure ?_))))
 exact thn (hr pos pins s1 σ H1 _ I1 q1) λus s2 ⟨xs,H2,I2,r2,q2⟩=>⟨x::xs,H2,I2,.cons r1 r2,q2⟩
structure KBinds(K:PySem.W.Frag)(fd:FuncData)(ps ks:List Str)(g:List Value->List Value->List Value)(gV:List V->List V->List V):Prop where
 to:∀(s:Shared) (us ws:List Value),K.In s.heap->(g us ws).length=ps.length->BindsTo s fd ⟨us,ks.zip ws⟩ (ps.zip (g us ws))
 rel:∀{vs:List V} {us:List Value} {zs:List V} {ws:List Value},Vals vs us->Vals zs ws->Vals (gV vs zs) (g us ws)
variable {g:List Value->List Value->List Value}{gV:List V->List V->List V}
end
structure FnScope(N P:List Str)(sc:Scope):Prop where
 kind:sc.kind = .function
 co:sc.isCoroutine=false
 gen:sc.isGenerator=false
 nd:N.Nodup
 pre:N.take P.length=P
 par:∀x∈P,sc.names.lookup x=some .local\/sc.names.lookup x=some .cell
 nofree:∀y∈sc.names,y.2≠.free
theorem q6B{kindOf:Str->Option NameKind}{x:Str}:∀{binds:List (Str×Value)} {m:Str->Option Value},(∀v,(x,v)∉binds)->bindL kindOf binds m x=m x
 |[],_,_=>rfl
 | (n,v)::r,m,h=>by
  unfold bindL;rw[q6B λw hw=>h w (List.mem_cons_of_mem _ hw)];split
  ·have:x≠n:=by rintro rfl;exact h v List.mem_cons_self
   simp[this]
  ·rfl
theorem q6D{kindOf:Str->Option NameKind}{x:Str}:∀{binds:List (Str×Value)} {m:Str->Option Value},(∀v,(x,v)∉binds)->bindC kindOf binds m x=m x
 |[],_,_=>rfl
 | (n,v)::r,m,h=>by
  unfold bindC;rw[q6D λw hw=>h w (List.mem_cons_of_mem _ hw)];split
  ·rfl
  ·have:x≠n:=by rintro rfl;exact h v List.mem_cons_self
   simp[this]
theorem q6C{kindOf:Str->Option NameKind}{x:Str}{v:Value}:∀{P:List Str} {vs:List Value} {i:Nat} {m:Str->Option Value},P.Nodup->P[i]?=some x->vs[i]?=some v->kindOf x=some .local ->
  bindL kindOf (P.zip vs) m x=some v
 |[],_,_,_,_,h,_,_=>by simp at h
 |_::_,[],_,_,_,_,h,_=>by simp at h
 | p::P,w::vs,0,m,nd,h1,h2,hk=>by
  simp at h1 h2;subst h1;subst h2;show bindL kindOf ((p,w)::P.zip vs) m p=_;unfold bindL;rw[q6B λv hv=>(List.nodup_cons.mp nd).1 (List.of_mem_zip hv).1,if_pos hk];simp
 | p::P,w::vs,i+1,m,nd,h1,h2,hk=>by
  show bindL kindOf ((p,w)::P.zip vs) m x=_;unfold bindL;exact q6C (i:=i) (List.nodup_cons.mp nd).2 (by simpa using h1) (by simpa using h2) hk
theorem q6E{kindOf:Str->Option NameKind}{x:Str}{v:Value}:∀{P:List Str} {vs:List Value} {i:Nat} {m:Str->Option Value},P.Nodup->P[i]?=some x->vs[i]?=some v->kindOf x≠some .local ->
  bindC kindOf (P.zip vs) m x=some v
 |[],_,_,_,_,h,_,_=>by simp at h
 |_::_,[],_,_,_,_,h,_=>by simp at h
 | p::P,w::vs,0,m,nd,h1,h2,hk=>by
  simp at h1 h2;subst h1;subst h2;show bindC kindOf ((p,w)::P.zip vs) m p=_;unfold bindC;rw[q6D λv hv=>(List.nodup_cons.mp nd).1 (List.of_mem_zip hv).1,if_neg hk];simp
 | p::P,w::vs,i+1,m,nd,h1,h2,hk=>by
  show bindC kindOf ((p,w)::P.zip vs) m x=_;unfold bindC;exact q6E (i:=i) (List.nodup_cons.mp nd).2 (by simpa using h1) (by simpa using h2) hk
noncomputable def q49(N:List Str)(vs:List V):St:=vs.map some++List.replicate (N.length-vs.length) none
noncomputable def cxOf(CX:CXT)(P:Program)(w:World)(K:PySem.W.Frag)(mg:Str->Option Value)(base:Heap)(N:List Str)(qual:Str)(scope:Scope)(f:Addr)(cd:Value)(A:Around)(outer:List Env)(s:Shared)(H:Hp)(E:XK):Cx where
 prog:=P
 w:=w
 K:=K
 mg:=mg
 base:=base
 A:=A.deeper (envOfC qual scope s.heap.objs.size f cd)
 N:=N
 s₀:=s
 H₀:=H
 env:=envOfC qual scope s.heap.objs.size f cd
 outer:=outer
 stack:=envOfC qual scope s.heap.objs.size f cd::outer
 ex:=[]
 calm:=true
 fn:=λ_=>true
 pn:=[]
 xe:=λe s'=>wpAny (model P w) (A.deeper (envOfC qual scope s.heap.objs.size f cd)) (leaving (envOfC qual scope s.heap.objs.size f cd) e) (λ_ s''=>CX outer H s E e s'') (λe' s''=>CX outer H s E e' s'') s'
theorem q7c{sc:Scope}{n:Nat}{x:Str}(h:sc.names.lookup x=some .cell):∃c,(cellsFrom n sc.names []).lookup x=some c:=by
 have q:=PySem.W.cellsFrom_some sc.names n [] (.inl h);exact Option.isSome_iff_exists.mp q
theorem inv_start{CX:CXT}{P:Program}{w:World}{K:PySem.W.Frag}{mg:Str->Option Value}{base:Heap}{N ps:List Str}{qual:Str}{scope:Scope}{f:Addr}{cd:Value}{A:Around}{outer:List Env}{s s1:Shared}{H:Hp}{E:XK}{us:List Value}{vs:List V}
  (S:FnScope N ps scope)(hd:A.handled=none)(e0:Env0 P w K mg base A outer s H)(hl:vs.length=ps.length)(r:Vals vs us)
  (x:InCallC s s.heap.objs.size (bindL (envOfC qual scope s.heap.objs.size f cd).kindOf (ps.zip us) λ_=>none) (cellsFrom (s.heap.objs.size+1) scope.names []) (bindC (envOfC qual scope s.heap.objs.size f cd).kindOf (ps.zip us) λ_=>none) s1):
  Inv (cxOf CX P w K mg base N qual scope f cd A outer s H E) [] (q49 N vs) H s1:=by
 have hpl:ps.length<=N.length:=by have:=congrArg List.length S.pre;rw[List.length_take] at this;lia
 obtain⟨h1,tk,rfl,hk⟩:=x.done;have noA:∀b:Addr,b∉(cxOf CX P w K mg base N qual scope f cd A outer s H E).ex:=λb z=>absurd (show b∈([]:List Addr) from z) (by simp)
 refine⟨⟨e0.mod,S.kind,rfl,rfl,Nat.le_refl _,λy z c h1 h2=>?_,λy hy=>?_,λy c _ h=>?_,λ_=>hd,Around.frames_deeper e0.frames,.inr ⟨rfl,rfl⟩,λb z=>absurd z (noA b),e0.bs,e0.bsz,λb _ _=>noA b,λb z=>absurd z (noA b),e0.funs,e0.frf⟩,
  rfl,e0.bare,Un.kept hk,⟨_,x.toInCall.ns,λi y v h1 h2 h3=>?_⟩,λy c h=>⟨_,x.cell y c h⟩,e0.hok.fresh (Nat.le_refl _),λy c h=>?_,λp hp=>absurd (show p∈([]:List (Addr×Obj)) from hp) (by simp),e0.hok.kept hk,?_⟩
 ·exact name_of_addr x.apart (PySem.mem_of_lookup h1) (PySem.mem_of_lookup h2)
 ·have hy:scope.names.lookup y=some .cell\/scope.names.lookup y=some .free:=hy
  rcases hy with hy|hy
  ·exact q7c hy
  ·exact absurd rfl (S.nofree _ (PySem.mem_of_lookup hy))
 ·exact Nat.le_of_lt (x.above y c (PySem.mem_of_lookup h))
 ·have hi:i < vs.length:=by
   unfold q49 at h2;by_cases hi:i < vs.length
   ·exact hi
   ·rw[List.getElem?_append_right (by simpa using hi)] at h2
    rw[List.getElem?_replicate] at h2;split at h2<;>cases h2
  have ha:vs[i]?=some v:=by
   unfold q49 at h2;rw[List.getElem?_append_left (by simpa using hi),List.getElem?_map] at h2
   cases e:vs[i]? with
   |none=>rw[e] at h2;cases h2
   |some a=>rw[e] at h2;cases h2;rfl
  obtain⟨u,hu,rv⟩:=r.get ha;have hp:ps[i]?=some y:=by
   rw[<-S.pre,List.getElem?_take_of_lt (by lia)];exact h1
  have ndP:ps.Nodup:=by rw[<-S.pre];exact S.nd.sublist (List.take_sublist _ _)
  refine⟨u,rv,?_⟩;rcases S.par y (List.mem_of_getElem? hp) with k|k
  ·exact .inl ⟨k,q6C ndP hp hu k⟩
  ·obtain⟨c,e⟩:=q7c (n:=s.heap.objs.size+1) k
   refine .inr ⟨.inl k,c,e,?_⟩;have q:=x.cell y c e;rw[q6E ndP hp hu (by show scope.names.lookup y≠_;rw[k];decide)] at q;exact q
 ·exact e0.hok.fresh (Nat.le_of_lt (x.above y c (PySem.mem_of_lookup h)))
 ·unfold q49
  show _=N.length;rw[List.length_append,List.length_map,List.length_replicate]
  lia
theorem fn_of{CX:CXT}{P:Program}{w:World}{K:PySem.W.Frag}{mg:Str->Option Value}{base:Heap}{k:Nat}{f:Addr}{name qual:Str}{params:Arguments}{body:List Stmt}{scope:Scope}{dV kV doc pm cdv ct oc:Value}{an od:Option Addr}
  {osl:Array (Option Value)}{N ps:List Str}{sp:Sp}(lk:K.lookup f=some ⟨oc,od,.func (PySem.W.fnOf name qual params body scope dV kV doc pm an cdv ct),osl⟩)(hcd:PySem.W.codeIn K cdv qual=true)(S:FnScope N ps scope)
  (len:∀vs H Q E,sp vs H Q E->vs.length=ps.length)
  (hbody:∀(A:Around) (outer:List Env) (s:Shared) (H:Hp) (vs:List V) (Q:VK) (E:XK),Room k (A.deeper (envOfC qual scope s.heap.objs.size f cdv))->sp vs H Q E ->
   ∃t,PSs (cxOf CX P w K mg base N qual scope f cdv A outer s H E) body t/\t {nx:=λ_ H'=>Q .non H',rt:=Q} (q49 N vs) H):
  FnOk P w K mg base CX (k+1) f (PySem.W.fnOf name qual params body scope dV kV doc pm an cdv ct) ps sp:=by
 refine⟨len,λA outer s H args us vs Q E hr e0 hb r hsp=>?_⟩;have hl:=len _ _ _ _ hsp;have KX:K.In s.heap:=e0.mod.kin.keeps λb o e=>(e0.bs b o e).1;have lim:s.heap.NoLimit:=e0.mod.nolimit.keeps λb o e=>(e0.bs b o e).1
 have hkind:∀y∈ps.zip us,scope.names.lookup y.1=some .local\/(scope.names.lookup y.1=some .cell/\((cellsFrom (s.heap.objs.size+1) scope.names []).lookup y.1).isSome=true):=λ⟨n,v⟩ hy=>by
  rcases S.par n (List.of_mem_zip hy).1 with q|q
  ·exact .inl q
  ·exact .inr ⟨q,PySem.W.cellsFrom_some _ _ _ (.inl q)⟩
 refine codeAny_call_function hr.depth (KX _ _ lk) rfl S.co S.gen rfl (PySem.W.codeRec_of KX hcd) (hb _ _ _ _ ?_);refine wpAny_newFunctionEnv_cells S.kind hkind λenv he s1 x=>?_;subst he;refine⟨lim.keeps x.toInCall.keep,codeAny_func ?_⟩;obtain⟨t,ht,hq⟩:=hbody A outer s H vs Q E (hr.deeper _) hsp;have I:Inv (cxOf CX P w K mg base N qual scope f cdv A outer s H E) [] (q49 N vs) H s1:=inv_start S hr.hd e0 hl r x;refine wpAny_mono (ht [] s1 (q49 N vs) H _ I hq) (λfl s' hs=>?_) λe s' hs=>hs
 have fin:∀{σ':St} {H':Hp} {v:V} {u:Value},Inv (cxOf CX P w K mg base N qual scope f cdv A outer s H E) [] σ' H' s'->RelV v u->Q v H'->CE outer P w H s Q u s':=
  λ{σ' H' v u} J rv q=>⟨v,H',J.os,J.bare,J.base,J.hok,rv,q⟩
 cases fl with
 | ret u=>
  obtain⟨v,σ',H',J,rv,q⟩:=hs;exact fin J rv q
 | next=>
  obtain⟨σ',H',J,q⟩:=hs;exact fin (v:=V.non) (u:=Value.none) J rfl q
 | brk=>
  obtain⟨_,_,_,q⟩:=hs;exact False.elim q
 | cont=>
  obtain⟨_,_,_,q⟩:=hs;exact False.elim q
section
variable {X:Cx}{x:Str}{p pos:Pos}{e:Expr}{es:List Expr}{t:TA}{id T:String}{r:List V->Hp->VK->Prop}
noncomputable def tCB(r:List V->Hp->VK->Prop)(t:TA):TE:=λσ H Q=>t σ H λvs H1=>r vs H1 Q
theorem qP(hc:q1C X (.builtin id) r)(hg:Gl X x)(hm:X.mg x=none)(hv:bootBuiltins x=some (.builtin id))(ha:PA X (e::es) t)(hn:x≠"__name__":=by decide)(hdb:(x == ("__debug__" : Str))=false:=by decide)
  (he:starEach (e::es) X.env=(false,eval e X.env)::starEach es X.env:=by rfl)(hpl:(backTo pos (starEach es X.env)).any (·.1)=false:=by rfl):PE X (.Call (.Name x p) (e::es) [] pos) (tCB r t):=by
 intro pins s σ H Q I h;refine wpAny_Call_Name_kw (q3D I hg hm hv ?_ hn hdb);exact PyProof.Rows.callWith_builtin1 (thn (ha pos pins s σ H _ I h) λus s1 ⟨vs,H1,I1,r1,q1⟩=>hc pins s1 σ H1 vs us Q I1 r1 q1) he hpl
theorem qa(hc:q1C X (.type T) r)(hg:Gl X x)(hm:X.mg x=none)(hv:bootBuiltins x=some (.type T))(ha:PA X (e::es) t)(hn:x≠"__name__":=by decide)(hdb:(x == ("__debug__" : Str))=false:=by decide)
  (he:starEach (e::es) X.env=(false,eval e X.env)::starEach es X.env:=by rfl)(hpl:(backTo pos (starEach es X.env)).any (·.1)=false:=by rfl):PE X (.Call (.Name x p) (e::es) [] pos) (tCB r t):=by
 intro pins s σ H Q I h;refine wpAny_Call_Name_kw (q3D I hg hm hv ?_ hn hdb);exact PyProof.Rows.callWith_type1 (thn (ha pos pins s σ H _ I h) λus s1 ⟨vs,H1,I1,r1,q1⟩=>hc pins s1 σ H1 vs us Q I1 r1 q1) he hpl
end
end L2
namespace HT
open PySem PyProof.Rows
noncomputable def lexLt:List Int->List Int->Bool
 |[],[]=>false
 |[],_::_=>true
 |_::_,[]=>false
 |x::xs,y::ys=>if x=y then lexLt xs ys else decide (x < y)
theorem lexLt_cons(x y:Int)(xs ys:List Int):lexLt (x::xs) (y::ys)=if x=y then lexLt xs ys else decide (x < y):=rfl
theorem lexLt_nil_nil:lexLt [] []=false:=rfl
theorem q4D(y:Int)(ys:List Int):lexLt [] (y::ys)=true:=rfl
theorem q4E(x:Int)(xs:List Int):lexLt (x::xs) []=false:=rfl
theorem eqAt_int(A:Around)(s:Shared)(a:Int)(t:Tok)(c:Int)(u:Tok):∃e,SeqAt.EqAt A s (.int a t) (.int c u) e/\(e=true↔a=c):=
 ⟨(a == c),SeqAt.EqAt.int_int a t c u,by simp⟩
theorem rcLt_int(A:Around)(s:Shared)(a:Int)(t:Tok)(c:Int)(u:Tok)(prog:Program)(w:World)(E:Value->Shared->Prop)(Q:Value->Shared->Prop)(h:Q (.bool (decide (a < c))) s):
  wpAny (model prog w) A (richCompare .Lt (.int a t) (.int c u)) Q E s:=
 (PyProof.Rows.lt_int h:wpAny (model prog w) A (compareOp .Lt (.int a t) (.int c u)) Q E s)
section
open PySem.SeqAt
open PySem.AutoSeq1 (wpAny_loadPart')
open PySem.MeetsSeq PySem.MeetsSeq2 PySem.MeetsSeq3
theorem q4e(l b:Addr)(items items2:Array Value)(n n2:Nat)(dd dd2:Option Addr)(sl sl2:Array (Option Value))(ns ms:List Int)(hi:IntsAre items.toList ns)(hj:IntsAre items2.toList ms):
  Meets (Builtin.«tuple.__lt__» ⟨[.ref l,.ref b],[]⟩)
   (λ_ R s=>s.heap.get? l=some {cls:=.type "tuple",dict:=dd,data:=.seq items n,slots:=sl}/\s.heap.get? b=some {cls:=.type "tuple",dict:=dd2,data:=.seq items2 n2,slots:=sl2}/\
    R (.ok (.ret (.bool (lexLt ns ms)))) s):=
 .of_wp λprog w A R s h=>by
  obtain⟨hp,g,d,tk,os⟩:=s;obtain⟨hl,hb,h⟩:=h;have f2:=AutoSeq1.sub_tuple_tuple;have z1:items.size=ns.length:=by rw[<-hi.length];simp
  have z2:items2.size=ms.length:=by rw[<-hj.length];simp
  wp_walk using wpAny_loadPart' hl,wpAny_loadPart' hb,wpAny_forIn_list _ (λrest b s'=>b.1=none/\s'=⟨hp,g,d,tk,os⟩/\∃(vs ws:List Value) (ns' ms':List Int),rest=vs.zip ws/\
   IntsAre vs ns'/\IntsAre ws ms'/\ns'.length+items2.size=ms'.length+items.size/\R (.ok (.ret (.bool (lexLt ns' ms')))) ⟨hp,g,d,tk,os⟩) _
  case turn=>
   rintro⟨y,x⟩ rest b s' ⟨hb',rfl,vs,ws,ns',ms',hz,hvi,hwi,hlen,hR⟩
   cases hvi with
   |nil=>rw[List.zip_nil_left] at hz;cases hz
   | cons a t hvi'=>
    cases hwi with
    |nil=>rw[List.zip_nil_right] at hz;cases hz
    | cons c u hwi'=>
     rw[List.zip_cons_cons] at hz;injection hz with hyx hrest;injection hyx with hy hx;subst hy hx;rw[lexLt_cons] at hR;simp only[List.length_cons] at hlen;obtain⟨e,he,hiff⟩:=eqAt_int A.in1 ⟨hp,g,d,tk,os⟩ a t c u;refine wpAny_bind (he prog w _ _ ?_)
     cases e with
     | true=>
      rw[if_pos (hiff.mp rfl)] at hR
      wp_walk
      exact⟨rfl,rfl,_,_,_,_,hrest,hvi',hwi',by lia,hR⟩
     | false=>
      rw[if_neg (λq=>absurd (hiff.mpr q) Bool.false_ne_true)] at hR;have hri:=rcLt_int A.in1 ⟨hp,g,d,tk,os⟩ a t c u prog w
      wp_walk using hri
      exact⟨_,rfl,by simpa using hR⟩
  case fin=>
   rintro⟨b1,b2⟩ s' ⟨hb',rfl,vs,ws,ns',ms',hz,hvi,hwi,hlen,hR⟩;simp only at hb';subst hb';have hv:lexLt ns' ms'=decide (items.size < items2.size):=by
    cases hvi with
    | nil=>
     cases hwi with
     | nil=>
      simp only[List.length_nil] at hlen;rw[lexLt_nil_nil];exact(decide_eq_false (by lia)).symm
     | cons c u hw=>
      simp only[List.length_nil,List.length_cons] at hlen;rw[q4D];exact(decide_eq_true (by lia)).symm
    | cons a t hv=>
     cases hwi with
     | nil=>
      simp only[List.length_nil,List.length_cons] at hlen;rw[q4E];exact(decide_eq_false (by lia)).symm
     | cons c u hw=>
      rw[List.zip_cons_cons] at hz;cases hz
   rw[hv] at hR
   wp_walk
   exact⟨_,rfl,by simpa[Builtin.Tuple.tupleCompareSizes] using hR⟩
  case h=>
   exact⟨rfl,rfl,items.toList,items2.toList,ns,ms,rfl,hi,hj,by lia,h⟩
end
section
variable {prog:Program}{w:World}{A:Around}{E:Value->Shared->Prop}{s:Shared}
theorem lt_tupInts{l b:Addr}{items items2:Array Value}{ns ms:List Int}{Q:Value->Shared->Prop}(hl:IsTup s.heap l items)(hb:IsTup s.heap b items2)(hi:IntsAre items.toList ns)(hj:IntsAre items2.toList ms)
  (hu:A.units < cLine)(h:Q (.bool (lexLt ns ms)) s):wpAny (model prog w) A (compareOp .Lt (.ref l) (.ref b)) Q E s:=by
 obtain⟨⟨cls,dd,data,sl⟩,ho,hc,n,hd⟩:=id hl;obtain⟨⟨cls2,dd2,data2,sl2⟩,ho2,hc2,n2,hd2⟩:=id hb;simp only at hc hd hc2 hd2;subst hc hd hc2 hd2
 exact richCompare_meets_room (op:=.Lt) ⟨_,ho,rfl⟩ ⟨_,ho2,rfl⟩ PySem.F.slot_tuple_lt PySem.F.entry_tuple_lt (PySem.F.args_tuple_lt_2 _ _) (q4e l b items items2 n n2 dd dd2 sl sl2 ns ms hi hj)
  ⟨ho,ho2,show Value.bool (lexLt ns ms)≠Value.notImplemented/\Q (.bool (lexLt ns ms)) s from⟨(λx=>nomatch x),h⟩⟩ hu
noncomputable def sIx(n d:Nat):Option Int->Nat
 |none=>d
 |some v=>if v < 0 then(v+(n:Int)).toNat else min v.toNat n
theorem sIx_none(n d:Nat):sIx n d none=d:=rfl
theorem sIx_nat(n d k:Nat):sIx n d (some (k:Int))=min k n:=by
 show(if(k:Int) < 0 then((k:Int)+(n:Int)).toNat else min (k:Int).toNat n)=min k n;rw[if_neg (by lia),Int.toNat_natCast]
end
end HT
namespace L2
open PySem PySem.Spec PyProof.Rows
noncomputable abbrev TO:=St->Hp->(Option Int->Hp->Prop)->Prop
noncomputable def PO(X:Cx)(e:Option Expr)(t:TO):Prop:=
 ∀(pins:List (Addr×Obj)) (s:Shared) (σ:St) (H:Hp) (Q:Option Int->Hp->Prop),Inv X pins σ H s->t σ H Q ->
  wpAny (model X.prog X.w) X.A (evalPart e X.env) (λu s'=>∃o H',Inv X pins σ H' s'/\IsPart u o/\Q o H') X.xe s
noncomputable def tNoPart:TO:=λ_ H Q=>Q none H
noncomputable def tPart(t:TE):TO:=λσ H Q=>t σ H λx H1=>∃i,x = .int i/\Q (some i) H1
theorem q29{ns:List Int}:∀{us:List Value},Vals (ns.map V.int) us->IntsAre us ns:=by
 induction ns with
 |nil=>intro us r;rw[List.map_nil] at r;cases r;exact .nil
 | cons n ns ih=>
  intro us r;rw[List.map_cons] at r
  cases r with
  | cons r1 r2=>
   obtain⟨t,e⟩:=r1;subst e;exact .cons n t (ih r2)
section
variable {X:Cx}{e:Expr}{te:TE}{lo hi:Option Expr}{tl th:TO}{pos p2:Pos}
theorem q05:PO X none tNoPart:=by
 intro pins s σ H Q I h;rw[evalPart_none];exact wpAny_pure ⟨none,H,I,.none,h⟩
theorem q04(h:PE X e te):PO X (some e) (tPart te):=by
 intro pins s σ H Q I hw;rw[evalPart_some];refine thn (h pins s σ H _ I hw) λu s1 ⟨x,H1,I1,r1,q1⟩=>?_;obtain⟨i,rfl,q⟩:=q1;obtain⟨t,rfl⟩:=r1;exact⟨some i,H1,I1,.int i t,q⟩
noncomputable def SlR(X:Cx)(r:V->Option Int->Option Int->Hp->VK->Prop):Prop:=
 ∀(pins:List (Addr×Obj)) (s:Shared) (σ:St) (H:Hp) (x:V) (v vl vu:Value) (lo hi:Option Int) (sl:Addr) (Q:VK),Inv X pins σ H s->RelV x v->s.heap.IsSliceOf sl vl vu .none->IsPart vl lo->IsPart vu hi->r x lo hi H Q ->
  ∃T id,typeLookup (.type T) "__getitem__" = pure (some (.builtin id))/\s.TypeIs v T/\wpAny (model X.prog X.w) X.A (getItem v (.ref sl)) (EP X pins σ Q) X.xe s
noncomputable def tSl(r:V->Option Int->Option Int->Hp->VK->Prop)(te:TE)(tl th:TO):TE:=λσ H Q=>te σ H λx H1=>tl σ H1 λl H2=>th σ H2 λu H3=>r x l u H3 Q
theorem qr{r:V->Option Int->Option Int->Hp->VK->Prop}(hr:SlR X r)(he:PE X e te)(hl:PO X lo tl)(hu:PO X hi th):PE X (.Subscript e (.Slice lo hi none p2) pos) (tSl r te tl th):=by
 intro pins s σ H Q I h;refine Subscript_ (thn (he pins s σ H _ I h) λv s1 ⟨x,H1,I1,r1,q1⟩=>?_);refine wpAny_Slice (thn (hl pins s1 σ H1 _ I1 q1) λvl s2 ⟨l,H2,I2,pl,q2⟩=>thn (hu pins s2 σ H2 _ I2 q2) λvu s3 ⟨u,H3,I3,pu,q3⟩=>?_);rw[evalPart_none];refine wpAny_pure ?_;have I4:Inv X pins σ H3 {s3 with heap:=s3.heap.push {cls:=.type "slice",data:=.fields #[vl,vu,.none]}}:=I3.kept (t':=s3.toks) λb ob q=>Heap.get?_push_of_some _ q;obtain⟨T,id,hT,ht,hg⟩:=hr pins {s3 with heap:=s3.heap.push {cls:=.type "slice",data:=.fields #[vl,vu,.none]}} σ H3 x v vl vu l u s3.heap.objs.size Q I4 r1 (Heap.IsSliceOf.new ..) pl pu q3;show wpAny (model X.prog X.w) X.A (subscriptTail e (.Slice lo hi none p2) v (.ref s3.heap.objs.size)) (EP X pins σ Q) X.xe {s3 with heap:=s3.heap.push {cls:=.type "slice",data:=.fields #[vl,vu,.none]}};exact tail_any (ops:=[.ref s3.heap.objs.size,v]) ht hT hg (by with_unfolding_all rfl)
noncomputable def cutV(xs:List V)(lo hi:Option Int):List V:=(xs.drop (HT.sIx xs.length 0 lo)).take (HT.sIx xs.length xs.length hi-HT.sIx xs.length 0 lo)
theorem q46(xs:List V)(lo hi:Option Int):(cutV xs lo hi).length<=xs.length:=by
 unfold cutV;rw[List.length_take,List.length_drop]
 lia
end
noncomputable def ixN(n:Nat)(i:Int):Option Nat:=if 0<=i then(if i < n then some i.toNat else none) else if -(n:Int)<=i then some (i+n).toNat else none
noncomputable def atI{α:Type}(xs:List α)(i:Int):Option α:=(ixN xs.length i).bind λj=>xs[j]?
theorem ixN_seq{n:Nat}{i:Int}{j:Nat}(h:ixN n i=some j):seqIndex? i n=some j/\j < n/\-(n:Int)<=i/\i < n:=by
 unfold ixN at h;by_cases h0:0<=i
 ·rw[if_pos h0] at h
  by_cases h1:i < n
  ·rw[if_pos h1] at h
   have e:i.toNat=j:=Option.some.inj h;exact⟨by rw[seqIndex_of h0 h1,e],by lia,by lia,h1⟩
  ·rw[if_neg h1] at h;cases h
 ·rw[if_neg h0] at h
  by_cases h1 : -(n:Int)<=i
  ·rw[if_pos h1] at h
   have e:(i+n).toNat=j:=Option.some.inj h;exact⟨by rw[seqIndex_neg (by lia) h1,e],by lia,h1,by lia⟩
  ·rw[if_neg h1] at h;cases h
theorem q6s{α:Type}{xs:List α}{i:Int}{v:α}(h:atI xs i=some v):∃j,seqIndex? i xs.length=some j/\xs[j]?=some v/\j < xs.length/\-(xs.length:Int)<=i/\i < xs.length:=by
 unfold atI at h
 cases e:ixN xs.length i with
 |none=>rw[e] at h;cases h
 | some j=>
  rw[e] at h;obtain⟨h1,h2,h3,h4⟩:=ixN_seq e;exact⟨j,h1,h,h2,h3,h4⟩
theorem qi{α:Type}{xs:List α}{j:Nat}{v:α}(h:xs[j]?=some v):atI xs (j:Int)=some v:=by
 have hj:j < xs.length:=(List.getElem?_eq_some_iff.mp h).1;have e:ixN xs.length (j:Int)=some j:=by
  unfold ixN;rw[if_pos (by lia),if_pos (by lia)];simp
 unfold atI;rw[e];exact h
theorem q7f{α:Type}(xs:List α)(v:α):atI (xs++[v]) (-1)=some v:=by
 have hl:(xs++[v]).length=xs.length+1:=by simp
 have e:ixN (xs++[v]).length (-1)=some xs.length:=by
  unfold ixN;rw[hl,if_neg (by decide),if_pos (by lia)]
  congr 1
  lia
 unfold atI;rw[e];show(xs++[v])[xs.length]?=some v;simp
noncomputable def PlainIx(b:Expr):Prop:=∀o i,subscripted b false o i=operate [o,i] (getItem o i)
noncomputable def IxR(X:Cx)(r:R2):Prop:=
 ∀(value slice:Expr) (pins:List (Addr×Obj)) (s:Shared) (σ:St) (H:Hp) (x y:V) (v u:Value) (Q:VK),Inv X pins σ H s->RelV x v->RelV y u->r x y H Q ->
  subscripted slice false v u=operate [v,u] (getItem v u)->wpAny (model X.prog X.w) X.A (subscriptTail value slice v u) (EP X pins σ Q) X.xe s
noncomputable def MtR(X:Cx)(id:String)(r:V->List V->Hp->VK->Prop):Prop:=
 ∀(pins:List (Addr×Obj)) (s:Shared) (σ:St) (H:Hp) (x:V) (xs:List V) (v:Value) (us:List Value) (Q:VK),Inv X pins σ H s->RelV x v->Vals xs us->r x xs H Q ->
  wpAny (model X.prog X.w) X.A (call (.builtin id) (v::us)) (EP X pins σ Q) X.xe s
section
variable {X:Cx}{a b:Expr}{ta tb:TE}{pos:Pos}
theorem qM{r:R2}(hr:IxR X r)(ha:PE X a ta)(hb:PE X b tb)(hs:PlainIx b):PE X (.Subscript a b pos) (tOp r ta tb):=by
 intro pins s σ H Q I h;exact Subscript_ (binT ha hb I h λv u s2 x y H2 I2 rx ry q=>hr a b pins s2 σ H2 x y v u Q I2 rx ry q (hs _ _))
noncomputable def rIxL(K:PySem.W.Frag):R2:=λx y H Q=>∃p xs i v,x = .ref p/\y = .int i/\SqL K H p xs/\atI xs i=some v/\Q v H
noncomputable def rIxT(K:PySem.W.Frag):R2:=λx y H Q=>∃p xs i v,x = .ref p/\y = .int i/\SqT K H p xs/\atI xs i=some v/\Q v H
noncomputable def rIxS:R2:=λx y H Q=>∃z i c,x = .str z/\y = .int i/\z.length<=sizeLine/\atI z.cps.toList i=some c/\Q (.str ⟨#[c]⟩) H
theorem ix_list:IxR X (rIxL X.K):=by
 intro value slice pins s σ H x y v u Q I rx ry h hs;obtain⟨p,xs,i,z,rfl,rfl,hq,he,q⟩:=h;cases rx;obtain⟨t,rfl⟩:=ry;obtain⟨its,r,pl,hz⟩:=I.list hq;obtain⟨j,h1,h2,h3,h4,h5⟩:=q6s he;obtain⟨w,ew,rw'⟩:=r.get h2;have hl:=r.length;have hn:=q3r
 have fin:EP X pins σ Q w s:=⟨z,H,I,rw',q⟩
 by_cases h0:0<=i
 ·have hj:i.toNat=j:=by
   rw[seqIndex_of h0 h5] at h1;exact Option.some.inj h1
  exact item_listR pl.isList h0 (by lia) (by rw[hj];simpa using ew) fin hs
 ·have hj:(i+(its.toArray.size:Int)).toNat=j:=by
   rw[seqIndex_neg (by lia) h4] at h1;rw[List.size_toArray,<-hl];exact Option.some.inj h1
  exact subscriptTail_builtinR (x:=w) pl.isList.typeIs slot_list_getitem.lookup
   (wpAny_getItem_list_neg (Q:=λr s'=>r=w/\EP X pins σ Q r s') pl.isList (by lia) (by rw[List.size_toArray]<;>lia) (by lia) (by rw[hj];simpa using ew) ⟨rfl,fin⟩) hs
theorem ix_tup:IxR X (rIxT X.K):=by
 intro value slice pins s σ H x y v u Q I rx ry h hs;obtain⟨p,xs,i,z,rfl,rfl,hq,he,q⟩:=h;cases rx;obtain⟨t,rfl⟩:=ry;obtain⟨its,r,pl,hz⟩:=I.tuple hq;obtain⟨j,h1,h2,h3,h4,h5⟩:=q6s he;obtain⟨w,ew,rw'⟩:=r.get h2;have hl:=r.length;have hn:=q3r
 have fin:EP X pins σ Q w s:=⟨z,H,I,rw',q⟩
 exact subscriptTail_builtinR (x:=w) pl.typeIs slot_tuple_getitem.lookup
  (getItem_tuple (j:=j) (Q:=λr s'=>r=w/\EP X pins σ Q r s') pl (by lia) (by lia) (by rw[List.size_toArray,<-hl];exact h1) (by simpa using ew) ⟨rfl,fin⟩) hs
theorem q5t:IxR X rIxS:=by
 intro value slice pins s σ H x y v u Q I rx ry h hs;obtain⟨z,i,c,rfl,rfl,hz,he,q⟩:=h;obtain⟨t,rfl⟩:=rx;obtain⟨t',rfl⟩:=ry;obtain⟨j,h1,h2,h3,h4,h5⟩:=q6s he;have hl:z.cps.toList.length=z.length:=by simp[Str.length]
 rw[hl] at h1 h4 h5;have hn:=q3r
 exact tail_any (typeIs_str s z t) slot_str_getitem.lookup (getItem_str (c:=c) (by
  have e1:decide (i < -(2 ^ 63:Int))=false:=decide_eq_false (by lia);have e2:decide (i ≥ 2 ^ 63)=false:=decide_eq_false (by lia)
  rw[e1,e2,Bool.or_false]) (by rw[h1];simpa using h2) ⟨.str ⟨#[c]⟩,H,I.tok _,⟨_,rfl⟩,q⟩) hs
theorem q81(its:List Value)(n j:Nat)(u:Value):Obj.mapSeq (·.setIfInBounds j u) {cls:=.type "list",data:=.seq its.toArray n}={cls:=.type "list",data:=.seq (its.set j u).toArray n}:=by
 simp[Obj.mapSeq]
theorem Inv.lst{pins:List (Addr×Obj)}{σ:St}{H:Hp}{s:Shared}{p:Addr}{xs:List V}(I:Inv X pins σ H s)(h:H p=some (.lst xs)):
  ∃(its:List Value) (n:Nat),Vals xs its/\s.heap.get? p=some {cls:=.type "list",data:=.seq its.toArray n}/\xs.length<=sizeLine:=by
 obtain⟨z,its,n,r,e⟩:=I.hok p _ h;exact⟨its,n,r,e,z⟩
theorem Inv.lstUpd{pins:List (Addr×Obj)}{σ:St}{H:Hp}{s:Shared}{p:Addr}{xs ys:List V}{its its':List Value}{n n':Nat}{f:Obj->Obj}(I:Inv X pins σ H s)(h:H p=some (.lst xs))
  (ho:s.heap.get? p=some {cls:=.type "list",data:=.seq its.toArray n})(hf:f {cls:=.type "list",data:=.seq its.toArray n}={cls:=.type "list",data:=.seq its'.toArray n'})(r:Vals ys its')(hz:ys.length<=sizeLine)(t:Nat):
  Inv X pins σ (upd H p (.lst ys)) {s with heap:=s.heap.update p f,toks:=t}:=by
 have e:(s.heap.update p f).get? p=some {cls:=.type "list",data:=.seq its'.toArray n'}:=by
  rw[Heap.get?_update_self f ho (by rw[hf]<;>rfl),hf]
 refine I.write (x:=p) (e:=p) (by rw[h];trivial) (.inl rfl) (λb u hb q=>(Heap.get?_update_other _ _ (Ne.symm hb)).trans q) ⟨_,e⟩ ?_;exact⟨hz,its',n',r,e⟩
noncomputable def rSetL:V->V->V->Hp->(Hp->Prop)->Prop:=λo i v H Q=>∃p xs k j,o = .ref p/\i = .int k/\H p=some (.lst xs)/\ixN xs.length k=some j/\Q (upd H p (.lst (xs.set j v)))
theorem q7F:PSet X rSetL:=by
 intro pins s σ H o i v ov iv u Q I ro ri rv h;obtain⟨p,xs,k,j,rfl,rfl,hp,hj,q⟩:=h;cases ro;obtain⟨t,rfl⟩:=ri;obtain⟨its,n,r,ho,hz⟩:=I.lst hp;obtain⟨h1,h2,h3,h4⟩:=ixN_seq hj;have hl:=r.length;have hn:=q3r
 have I':Inv X pins σ (upd H p (.lst (xs.set j v))) {s with heap:=s.heap.update p (Obj.mapSeq (·.setIfInBounds j u))}:=
  I.lstUpd hp ho (q81 its n j u) (r.set rv j) (by rw[List.length_set];exact hz) s.toks
 by_cases h0:0<=k
 ·have hk:k.toNat=j:=by
   rw[seqIndex_of h0 h4] at h1;exact Option.some.inj h1
  exact PySem.W.ki_setAt ho h0 (by lia) (by rw[List.size_toArray,<-hl];exact h4) (by rw[hk];exact⟨_,I',q⟩)
 ·have hk:(k+(its.toArray.size:Int)).toNat=j:=by
   rw[seqIndex_neg (by lia) h3] at h1;rw[List.size_toArray,<-hl];exact Option.some.inj h1
  exact PySem.W.ki_setBack ho (by lia) (by rw[List.size_toArray,<-hl];exact h3) (by lia) (by rw[hk];exact⟨_,I',q⟩)
theorem q5U(lo hi:Option Int)(n:Nat):(sliceBounds lo hi none n).1=((HT.sIx n 0 lo:Nat):Int)/\(sliceBounds lo hi none n).2.1=((HT.sIx n n hi:Nat):Int)/\(sliceBounds lo hi none n).2.2=1:=by
 refine⟨?_,?_,rfl⟩
 ·cases lo with
  |none=>simp[sliceBounds,HT.sIx]
  | some i=>
   simp only[sliceBounds,HT.sIx,Option.getD_none,show(1:Int) > 0 by decide,if_true];by_cases h:i < 0
   ·simp only[h,if_true]<;>lia
   ·simp only[h,if_false]<;>lia
 ·cases hi with
  |none=>simp[sliceBounds,HT.sIx]
  | some i=>
   simp only[sliceBounds,HT.sIx,Option.getD_none,show(1:Int) > 0 by decide,if_true];by_cases h:i < 0
   ·simp only[h,if_true]<;>lia
   ·simp only[h,if_false]<;>lia
theorem q4o(its:List Value)(lo hi:Option Int):slicePick its.toArray lo hi none=((its.drop (HT.sIx its.length 0 lo)).take (HT.sIx its.length its.length hi-HT.sIx its.length 0 lo)).toArray:=by
 obtain⟨h1,h2,h3⟩:=q5U lo hi its.toArray.size;unfold slicePick;rw[h1,h2,h3];simp only[sliceRange_one,pick_run,List.size_toArray]<;>rfl
noncomputable def rSlL(K:PySem.W.Frag):V->Option Int->Option Int->Hp->VK->Prop:=λx lo hi H Q=>∃a xs,x = .ref a/\SqL K H a xs/\∀p,H p=none->Q (.ref p) (upd H p (.lst (cutV xs lo hi)))
theorem sl_list:SlR X (rSlL X.K):=by
 intro pins s σ H x v vl vu lo hi sl Q I rx hs pl pu h;obtain⟨a,xs,rfl,hx,q⟩:=h;cases rx;obtain⟨its,r,ht,hz⟩:=I.list hx;have hlen:=r.length;refine⟨"list",_,slot_list_getitem.lookup,ht.isList.typeIs,?_⟩;refine wpAny_getItem_list_slice ht.isList hs pl pu .none (by simp) ?_ (by rw[List.size_toArray]<;>lia);rw[q4o,<-hlen];refine⟨.ref s.heap.objs.size,_,I.laid (t':=s.toks) (o:=.lst (cutV xs lo hi)) (λb ob q=>Heap.get?_push_of_some _ q) (Nat.le_refl _) ?_,rfl,q _ (I.hok.fresh (Nat.le_refl _))⟩;exact⟨Nat.le_trans (q46 xs lo hi) hz,_,0,(r.drop (HT.sIx xs.length 0 lo)).take (HT.sIx xs.length xs.length hi-HT.sIx xs.length 0 lo),Heap.get?_push_size _ rfl⟩
noncomputable def flatV:V->Bool
 |.non=>true
 |.bl _=>true
 |.int _=>true
 |.str _=>true
 |_=>false
noncomputable def eqV:V->V->Bool
 |.non,.non=>true
 |.bl a,.bl b=>a == b
 |.bl a,.int b=>(if a then 1 else 0) == b
 |.int a,.bl b=>a == (if b then 1 else 0)
 |.int a,.int b=>a == b
 |.str a,.str b=>a == b
 |_,_=>false
theorem eqAt_V{A:Around}{s:Shared}{y x:V}{u v:Value}(ry:RelV y u)(rx:RelV x v)(fy:flatV y=true)(fx:flatV x=true):SeqAt.EqAt A s u v (eqV y x):=by
 cases y with
 | non=>
  cases ry
  cases x with
  |non=>cases rx;exact SeqAt.EqAt.same _
  |bl b=>cases rx;exact SeqAt.EqAt.none_bool b
  |int b=>obtain⟨t,rfl⟩:=rx;exact SeqAt.EqAt.none_int b t
  |str b=>obtain⟨t,rfl⟩:=rx;exact SeqAt.EqAt.none_str b t
  |_=>exact absurd (show false=true from fx) Bool.false_ne_true
 | bl a=>
  cases ry
  cases x with
  |non=>cases rx;exact SeqAt.EqAt.bool_none a
  |bl b=>cases rx;exact SeqAt.EqAt.bool_bool a b
  |int b=>obtain⟨t,rfl⟩:=rx;exact SeqAt.EqAt.bool_int a b t
  |str b=>obtain⟨t,rfl⟩:=rx;exact SeqAt.EqAt.bool_str a b t
  |_=>exact absurd (show false=true from fx) Bool.false_ne_true
 | int a=>
  obtain⟨t',rfl⟩:=ry
  cases x with
  |non=>cases rx;exact SeqAt.EqAt.int_none a t'
  |bl b=>cases rx;exact SeqAt.EqAt.int_bool a t' b
  |int b=>obtain⟨t,rfl⟩:=rx;exact SeqAt.EqAt.int_int a t' b t
  |str b=>obtain⟨t,rfl⟩:=rx;exact SeqAt.EqAt.int_str a t' b t
  |_=>exact absurd (show false=true from fx) Bool.false_ne_true
 | str a=>
  obtain⟨t',rfl⟩:=ry
  cases x with
  |non=>cases rx;exact SeqAt.EqAt.str_none a t'
  |bl b=>cases rx;exact SeqAt.EqAt.str_bool a t' b
  |int b=>obtain⟨t,rfl⟩:=rx;exact SeqAt.EqAt.str_int a t' b t
  |str b=>obtain⟨t,rfl⟩:=rx;exact SeqAt.EqAt.str_str a t' b t
  |_=>exact absurd (show false=true from fx) Bool.false_ne_true
 |_=>exact absurd (show false=true from fy) Bool.false_ne_true
theorem q3E:q1C X (.builtin "len") (λxs H Q=>∃p ys,xs=[.ref p]/\(SqL X.K H p ys\/SqT X.K H p ys)/\Q (.int ys.length) H):=by
 intro pins s σ H xs us Q I r h;obtain⟨p,ys,rfl,hq,q⟩:=h;obtain⟨u,rfl,rx⟩:=q2F r;cases rx;have hn:=q3r;rcases hq with hq|hq
 ·obtain⟨its,r',pl,hz⟩:=I.list hq
  have hlen:=r'.length;exact Calls.call_len_list pl.isList (by simp only[List.size_toArray]<;>lia) ⟨.int ys.length,H,I.tok _,⟨s.toks+1,by rw[List.size_toArray,hlen]⟩,q⟩
 ·obtain⟨its,r',pl,hz⟩:=I.tuple hq
  have hlen:=r'.length;exact len_tuple pl (by simp only[List.size_toArray]<;>lia) ⟨.int ys.length,H,I.tok _,⟨s.toks+1,by rw[List.size_toArray,hlen]⟩,q⟩
theorem q06:q1C X (.builtin "len") (λxs H Q=>∃z,xs=[.str z]/\z.length<=sizeLine/\Q (.int z.length) H):=by
 intro pins s σ H xs us Q I r h;obtain⟨z,rfl,hz,q⟩:=h;obtain⟨u,rfl,t,rfl⟩:=q2F r;have hn:=q3r;exact len_str (by lia) ⟨.int z.length,H,I.tok _,⟨_,rfl⟩,q⟩
theorem q69:q1C X (.type "list") (λxs H Q=>∃p ys,xs=[.ref p]/\(SqL X.K H p ys\/SqT X.K H p ys)/\∀l,H l=none->Q (.ref l) (upd H l (.lst ys))):=by
 intro pins s σ H xs us Q I r h;obtain⟨p,ys,rfl,hq,q⟩:=h;obtain⟨u,rfl,rx⟩:=q2F r;cases rx
 have fin:∀(its:List Value),Vals ys its->ys.length<=sizeLine->∀(h':Heap) (c':Nat),(∀b o',s.heap.get? b=some o'->h'.get? b=some o')->
   h'.get? s.heap.objs.size=some {cls:=.type "list",dict:=none,data:=.seq its.toArray c',slots:=#[]}->EP X pins σ Q (.ref s.heap.objs.size) {s with heap:=h'}:=λits r' hz h' c' kp e=>
  ⟨.ref s.heap.objs.size,_,I.laid (t':=s.toks) kp (Nat.le_refl _) (show ObjOk X.prog X.w _ h' _ (.lst ys) from⟨hz,its,c',r',e⟩),rfl,q _ (I.hok.fresh (Nat.le_refl _))⟩
 rcases hq with hq|hq
 ·obtain⟨its,r',pl,hz⟩:=I.list hq
  have hlen:=r'.length;obtain⟨o,ho,hc,n,hd⟩:=pl.isList;exact call_list_seq p (.inl rfl) ho hc hd (λh' c' kp e=>fin its r' hz h' c' kp e) (by simp only[List.size_toArray]<;>lia)
 ·obtain⟨its,r',pl,hz⟩:=I.tuple hq
  have hlen:=r'.length;obtain⟨o,ho,hc,n,hd⟩:=pl;exact call_list_seq p (.inr rfl) ho hc hd (λh' c' kp e=>fin its r' hz h' c' kp e) (by simp only[List.size_toArray]<;>lia)
noncomputable def tyV(K:PySem.W.Frag)(T:String)(x:V)(H:Hp):Prop:=match x with
 |.str _=>T = "str"
 |.int _=>T = "int"
 | .ref p=>(T = "list"/\∃xs,SqL K H p xs)\/(T = "tuple"/\∃o,K.lookup p=some o/\o.cls = .type "tuple"/\o.dict=none) \/
   (T = "dict"/\((∃kvs,H p=some (.dK kvs))\/∃kvs,H p=some (.dT kvs)))\/(T = "set"/\∃S n,H p=some (.set S n))
 |_=>False
theorem tyV_is{pins:List (Addr×Obj)}{σ:St}{H:Hp}{s:Shared}{T:String}{x:V}{v:Value}(I:Inv X pins σ H s)(r:RelV x v)(ty:tyV X.K T x H):
  s.TypeIs v T/\∀a,v = .ref a->∃ob,s.heap.get? a=some ob/\ob.dict=none:=by
 cases x with
 | str z=>
  obtain⟨t,rfl⟩:=r;cases(show T = "str" from ty);exact⟨typeIs_str s z t,λ_ e=>nomatch e⟩
 | int i=>
  obtain⟨t,rfl⟩:=r;cases(show T = "int" from ty);exact⟨typeIs_int s i t,λ_ e=>nomatch e⟩
 | ref p=>
  cases r;rcases ty with⟨rfl,xs,hq⟩|⟨rfl,o,hk,hc,hd⟩|⟨rfl,hk⟩|⟨rfl,S,n,hk⟩
  ·obtain⟨its,_,pl,_⟩:=I.list hq
   refine⟨pl.isList.typeIs,λa e=>?_⟩;cases e;obtain⟨o,n,e,c,hd,_⟩:=pl;exact⟨o,e,hd⟩
  ·refine⟨⟨o,I.kIn p o hk,hc⟩,λa e=>?_⟩
   cases e;exact⟨o,I.kIn _ o hk,hd⟩
  ·have z:∃o,s.heap.get? p=some o/\o.ExactDict:=by
    rcases hk with⟨kvs,hk⟩|⟨kvs,hk⟩
    ·obtain⟨_,_,_,_,o,_,_,e,ex,_⟩:=I.hok p _ hk
     exact⟨o,e,ex⟩
    ·obtain⟨_,_,_,_,o,_,_,e,ex,_⟩:=I.hok p _ hk
     exact⟨o,e,ex⟩
   obtain⟨o,e,ex⟩:=z;refine⟨⟨o,e,ex.1⟩,λa e2=>?_⟩;cases e2;exact⟨o,e,ex.2.1⟩
  ·obtain⟨o,_,_,_,e,ex,_⟩:=I.hok p _ hk
   refine⟨⟨o,e,ex.1⟩,λa e2=>?_⟩;cases e2;exact⟨o,e,ex.2.1⟩
 |_=>exact False.elim ty
noncomputable def tBM0(K:PySem.W.Frag)(T:String)(r:V->List V->Hp->VK->Prop)(to:TE):TE:=λσ H Q=>to σ H λx H1=>tyV K T x H1/\r x [] H1 Q
noncomputable def tBM(K:PySem.W.Frag)(T:String)(r:V->List V->Hp->VK->Prop)(to:TE)(t:TA):TE:=λσ H Q=>to σ H λx H1=>tyV K T x H1/\t σ H1 λxs H2=>r x xs H2 Q
variable {o e:Expr}{es:List Expr}{to:TE}{t:TA}{name:Str}{apos cpos:Pos}{T id:String}{r:V->List V->Hp->VK->Prop}
theorem pe_bm0(pa:PlainAttrs T)(slot:Slot T name id)(hty:typeOf (.builtin id)=pure (.type "method_descriptor"))(hm:MtR X id r)(ho:PE X o to)
  (hbase:attributeBase o name X.env (eval o X.env)=eval o X.env:=by rfl)(hline:(apos.endLine == cpos.line)=true:=by rfl):PE X (.Call (.Attribute o name apos) [] [] cpos) (tBM0 X.K T r to):=by
 intro pins s σ H Q I h;refine wpAny_Call_method0_late hbase hline (thn (ho pins s σ H _ I h) λv s1 ⟨x,H1,I1,r1,ty,q1⟩=>?_);obtain⟨h1,h2⟩:=tyV_is I1 r1 ty;exact⟨T,id,pa,slot,hty,h1,h2,Calls.callWith_builtin rfl (PySem.evalArgs_none (hm pins s1 σ H1 x [] v [] Q I1 r1 .nil q1))⟩
theorem q5i(pa:PlainAttrs T)(slot:Slot T name id)(hty:typeOf (.builtin id)=pure (.type "method_descriptor"))(hm:MtR X id r)(ho:PE X o to)(ha:PA X (e::es) t)
  (hbase:attributeBase o name X.env (eval o X.env)=eval o X.env:=by rfl)
  (hfew:((backTo cpos (starEach (e::es) X.env)).all (λx=>!x.1) && (backToKw cpos (keywordEach [] X.env)).all (λx=>x.1.isSome)
   && decide ((e::es).length+([]:List Keyword).length+(if([]:List Keyword).isEmpty then 0 else 1) < 30))=true:=by rfl)
  (hline:(apos.endLine == cpos.line)=true:=by rfl)(hs:starEach (e::es) X.env=(false,eval e X.env)::starEach es X.env:=by rfl)(hplain:(backTo cpos (starEach es X.env)).any (·.1)=false:=by rfl):
  PE X (.Call (.Attribute o name apos) (e::es) [] cpos) (tBM X.K T r to t):=by
 intro pins s σ H Q I h;refine wpAny_Call_method_late hbase hfew hline rfl (thn (ho pins s σ H _ I h) λv s1 ⟨x,H1,I1,r1,ty,q1⟩=>?_);obtain⟨h1,h2⟩:=tyV_is I1 r1 ty;refine⟨T,id,pa,slot,hty,h1,h2,?_⟩;have hA:=ha cpos pins s1 σ H1 _ I1 q1;rw[hs] at hA ⊢;refine Calls.callWith_builtin (by show(false ||(backTo cpos (starEach es X.env)).any (·.1))=false;rw[hplain]<;>rfl) (Calls.evalArgs_plain ?_);exact thn hA λus s2 ⟨vs,H2,I2,r2,q2⟩=>hm pins s2 σ H2 x vs v us Q I2 r1 r2 q2
end
noncomputable def MtM(X:Cx)(id:String)(r:V->List V->Hp->VK->Prop):Prop:=
 ∀(pins:List (Addr×Obj)) (s:Shared) (σ:St) (H:Hp) (x:V) (xs:List V) (v:Value) (us:List Value) (Q:VK),Inv X pins σ H s->RelV x v->Vals xs us->r x xs H Q ->
  wpAny (model X.prog X.w) X.A (call (.builtin id) (v::us)) (EP X pins σ Q) X.xe s
theorem Vals.one:∀{x:V} {us:List Value},Vals [x] us->∃u,us=[u]/\RelV x u
 |_,_,.cons r .nil=>⟨_,rfl,r⟩
theorem Vals.zero:∀{us:List Value},Vals [] us->us=[]
 |_,.nil=>rfl
theorem Vals.dropLast{xs:List V}{us:List Value}(h:Vals xs us):Vals xs.dropLast us.dropLast:=by
 induction h with
 |nil=>exact .nil
 | cons r t ih=>
  cases t with
  |nil=>exact .nil
  |cons q t'=>exact .cons r ih
theorem Vals.eraseIdx:∀{xs:List V} {us:List Value} (i:Nat),Vals xs us->Vals (xs.eraseIdx i) (us.eraseIdx i)
 |_,_,_,.nil=>.nil
 |_,_,0,.cons _ t=>t
 |_,_,i+1,.cons r t=>.cons r (Vals.eraseIdx i t)
theorem Vals.reverse{xs:List V}{us:List Value}(h:Vals xs us):Vals xs.reverse us.reverse:=by
 induction h with
 |nil=>exact .nil
 |cons r t ih=>rw[List.reverse_cons,List.reverse_cons];exact Vals.append ih (.cons r .nil)
theorem Vals.rep{xs:List V}{us:List Value}(h:Vals xs us):∀k:Nat,Vals (List.replicate k xs).flatten (List.replicate k us).flatten
 |0=>.nil
 | k+1=>by
  rw[List.replicate_succ,List.replicate_succ,List.flatten_cons,List.flatten_cons];exact Vals.append h (Vals.rep h k)
theorem q8F{α:Type}(l:List α):l.eraseIdx (l.length-1)=l.dropLast:=by
 induction l with
 |nil=>rfl
 | cons a r ih=>
  cases r with
  |nil=>rfl
  | cons b r=>
   have e:(a::b::r).length-1=((b::r).length-1)+1:=by
    have h1:(a::b::r).length=r.length+2:=rfl;have h2:(b::r).length=r.length+1:=rfl
    lia
   rw[e,List.eraseIdx_cons_succ,ih]
   all_goals rfl
theorem q5r{α:Type}:∀(l:List α) (i:Nat),(l.eraseIdx i).length<=l.length
 |[],_=>Nat.le_refl _
 |_::_,0=>Nat.le_succ _
 |_::r,i+1=>Nat.succ_le_succ (q5r r i)
theorem q5z(its:List Value):∀(k:Nat) (acc:List Value),
  List.foldl (λx1 x2=>x1++x2) acc.toArray (List.replicate k its.toArray)=(acc++(List.replicate k its).flatten).toArray
 |0,acc=>by simp
 | k+1,acc=>by
  have e:acc.toArray++its.toArray=(acc++its).toArray:=by simp
  have e2:(acc++its)++(List.replicate k its).flatten=acc++(List.replicate (k+1) its).flatten:=by
   rw[List.replicate_succ,List.flatten_cons,List.append_assoc]
  rw[<-e2,<-q5z its k (acc++its),<-e,List.replicate_succ,List.foldl_cons]
section
variable {X:Cx}{pins:List (Addr×Obj)}{σ:St}{H:Hp}{s:Shared}{l b:Addr}{xs ys zs:List V}
theorem Inv.lset{its its':List Value}{n:Nat}{f:Array Value->Array Value}{t':Nat}(I:Inv X pins σ H s)(hH:H l=some (.lst xs))
  (e:s.heap.get? l=some {cls:=.type "list",data:=.seq its.toArray n})(hf:f its.toArray=its'.toArray)(hv:Vals ys its')(hz:ys.length<=sizeLine):
  Inv X pins σ (upd H l (.lst ys)) {s with heap:=s.heap.update l (Obj.mapSeq f),toks:=t'}:=by
 have q:=PySem.IsL.update e f;rw[hf] at q;refine I.write (x:=l) (e:=l) (by rw[hH];exact trivial) (.inl rfl) (λb' u hb hu=>(Heap.get?_update_other s.heap (Obj.mapSeq f) (Ne.symm hb)).trans hu) ⟨_,q⟩ ?_;exact⟨hz,its',_,hv,q⟩
theorem Inv.lnew{its:List Value}{t':Nat}(I:Inv X pins σ H s)(hv:Vals ys its)(hz:ys.length<=sizeLine):
  Inv X pins σ (upd H s.heap.objs.size (.lst ys)) {s with heap:=s.heap.push {cls:=.type "list",data:=.seq its.toArray},toks:=t'}:=
 I.laid (λ_ _ q=>Heap.get?_push_of_some _ q) (Nat.le_refl _) ⟨hz,its,0,hv,Heap.get?_push_size _ rfl⟩
theorem Inv.fresh(I:Inv X pins σ H s):H s.heap.objs.size=none:=I.hok.fresh (Nat.le_refl _)
theorem Inv.lstM(I:Inv X pins σ H s)(hH:H l=some (.lst xs)):xs.length<=sizeLine/\∃(its:List Value) (n:Nat),Vals xs its/\xs.length=its.length/\s.heap.get? l=some {cls:=.type "list",data:=.seq its.toArray n}:=by
 obtain⟨z,its,n,r,e⟩:=I.hok l _ hH;exact⟨z,its,n,r,r.length,e⟩
theorem q4v{n:Nat}(h:n<=sizeLine):Builtin.List.listTooLong n=false:=by
 unfold Builtin.List.listTooLong;exact decide_eq_false (by lia)
end
section
variable {X:Cx}
noncomputable def rAppend:V->List V->Hp->VK->Prop:=λx vs H Q=>∃l xs y,x = .ref l/\vs=[y]/\H l=some (.lst xs)/\xs.length < sizeLine/\Q .non (upd H l (.lst (xs++[y])))
theorem qx:MtM X "list.append" rAppend:=by
 intro pins s σ H x vs v us Q I rx rv h;obtain⟨l,xs,y,rfl,rfl,hH,hz,q⟩:=h;cases rx;obtain⟨u,rfl,ru⟩:=rv.one;obtain⟨z,its,n,r,hl,e⟩:=I.lstM hH;refine call_meets F.slot_list_append ⟨_,e,rfl⟩ F.entry_list_append (F.args_list_append_2 _ _) (PySem.list_append l its.toArray n u (by rw[List.size_toArray];lia)) ⟨e,?_⟩;refine⟨.non,_,I.lset (its':=its++[u]) hH e (by simp) (r.append (.cons ru .nil)) ?_,rfl,q⟩;rw[List.length_append,List.length_singleton]
 lia
noncomputable def rExtend:V->List V->Hp->VK->Prop:=λx vs H Q=>∃l b xs zs,x = .ref l/\vs=[.ref b]/\H l=some (.lst xs)/\H b=some (.lst zs)/\xs.length+zs.length<=sizeLine/\Q .non (upd H l (.lst (xs++zs)))
theorem mt_extend:MtM X "list.extend" rExtend:=by
 intro pins s σ H x vs v us Q I rx rv h;obtain⟨l,b,xs,zs,rfl,rfl,hH,hB,hz,q⟩:=h;cases rx;obtain⟨u,rfl,ru⟩:=rv.one;cases ru;obtain⟨z,its,n,r,hl,e⟩:=I.lstM hH;obtain⟨z2,its2,n2,r2,hl2,e2⟩:=I.lstM hB;have hsz:its.toArray.size+its2.toArray.size<=sizeLine:=by rw[List.size_toArray,List.size_toArray];lia
 have hlong:¬(!its.toArray.isEmpty && Builtin.List.listTooLong (its.toArray.size+its2.toArray.size))=true:=by
  rw[q4v hsz,Bool.and_false];exact Bool.false_ne_true
 refine call_meets F.slot_list_extend ⟨_,e,rfl⟩ F.entry_list_extend (F.args_list_extend_2 _ _)
  (AutoSeq1.list_extend_list_list_0 l its.toArray n b its2.toArray n2 hlong (by rw[List.size_toArray];lia) (by lia)) ⟨e,e2,?_⟩
 refine⟨.non,_,I.lset (its':=its++its2) hH e (by simp) (r.append r2) ?_,rfl,q⟩;rw[List.length_append]
 lia
noncomputable def rPop:V->List V->Hp->VK->Prop:=λx vs H Q=>∃l xs y,x = .ref l/\vs=[]/\H l=some (.lst xs)/\xs[xs.length-1]?=some y/\Q y (upd H l (.lst xs.dropLast))
theorem mt_pop:MtM X "list.pop" rPop:=by
 intro pins s σ H x vs v us Q I rx rv h;obtain⟨l,xs,y,rfl,rfl,hH,hy,q⟩:=h;cases rx;have hus:=rv.zero;subst hus;obtain⟨z,its,n,r,hl,e⟩:=I.lstM hH;obtain⟨u,hu,ru⟩:=r.get hy;have hy':its.toArray[its.toArray.size-1]?=some u:=by
  show its.toArray[its.length-1]?=some u;rw[<-Array.getElem?_toList,<-hl];exact hu
 refine call_meets F.slot_list_pop ⟨_,e,rfl⟩ F.entry_list_pop (F.args_list_pop_1 _) (MeetsSeq.list_pop_last l its.toArray n u hy' (by rw[List.size_toArray];lia)) ⟨e,?_⟩;refine⟨y,_,I.lset (its':=its.dropLast) hH e ?_ r.dropLast ?_,ru,q⟩
 ·show its.toArray.eraseIdxIfInBounds (its.toArray.size-1)=its.dropLast.toArray
  rw[List.size_toArray,List.eraseIdxIfInBounds_toArray,q8F]
 ·rw[List.length_dropLast]
  lia
noncomputable def rPopAt:V->List V->Hp->VK->Prop:=λx vs H Q=>∃l xs i k y,x = .ref l/\vs=[.int i]/\H l=some (.lst xs)/\-(2 ^ 63)<=i/\i < 2 ^ 63/\seqIndex? i xs.length=some k/\xs[k]?=some y/\Q y (upd H l (.lst (xs.eraseIdx k)))
theorem mt_popAt:MtM X "list.pop" rPopAt:=by
 intro pins s σ H x vs v us Q I rx rv h;obtain⟨l,xs,i,k,y,rfl,rfl,hH,h1,h2,hk,hy,q⟩:=h;cases rx;obtain⟨u,rfl,ru⟩:=rv.one;obtain⟨t,rfl⟩:=ru;obtain⟨z,its,n,r,hl,e⟩:=I.lstM hH;obtain⟨w,hw,rw'⟩:=r.get hy
 refine call_meets F.slot_list_pop ⟨_,e,rfl⟩ F.entry_list_pop (F.args_list_pop_2 _ _)
  (MeetsSeq.list_pop_at l its.toArray n i t k w (fitsIndex_both h1 h2) (by rw[List.size_toArray,<-hl];exact hk) (by rw[<-Array.getElem?_toList];exact hw) (by rw[List.size_toArray];lia)) ⟨e,?_⟩
 refine⟨y,_,I.lset (its':=its.eraseIdx k) hH e ?_ (r.eraseIdx k) ?_,rw',q⟩
 ·show its.toArray.eraseIdxIfInBounds k=(its.eraseIdx k).toArray
  rw[List.eraseIdxIfInBounds_toArray]
 ·have:=q5r xs k
  lia
noncomputable def rCat:R2:=λx y H Q=>∃l b xs zs,x = .ref l/\y = .ref b/\H l=some (.lst xs)/\H b=some (.lst zs)/\xs.length+zs.length<=sizeLine/\∀p,H p=none->Q (.ref p) (upd H p (.lst (xs++zs)))
theorem q0E:OpR X (binaryOp .Add) rCat:=by
 intro pins s σ H x y v u Q I rx ry h;obtain⟨l,b,xs,zs,rfl,rfl,hH,hB,hz,q⟩:=h;cases rx;cases ry;obtain⟨z,its,n,r,hl,e⟩:=I.lstM hH;obtain⟨z2,its2,n2,r2,hl2,e2⟩:=I.lstM hB;refine PySem.P.add_list e e2 ?_ (by rw[List.size_toArray,List.size_toArray];lia);have ea:its.toArray++its2.toArray=(its++its2).toArray:=by simp
 rw[ea];exact⟨.ref _,_,I.lnew (t':=s.toks) (r.append r2) (by rw[List.length_append];lia),rfl,q _ I.fresh⟩
noncomputable def rRep:R2:=λx y H Q=>∃l k xs,x = .ref l/\y = .int k/\H l=some (.lst xs)/\-(2 ^ 63)<=k/\k < 2 ^ 63/\xs.length*k.toNat<=sizeLine/\
 ∀p,H p=none->Q (.ref p) (upd H p (.lst (List.replicate k.toNat xs).flatten))
theorem len_rep{α:Type}(xs:List α)(k:Nat):(List.replicate k xs).flatten.length=k*xs.length:=by
 induction k with
 |zero=>simp
 |succ k ih=>rw[List.replicate_succ,List.flatten_cons,List.length_append,ih,Nat.succ_mul,Nat.add_comm]
theorem op_rep:OpR X (binaryOp .Mult) rRep:=by
 intro pins s σ H x y v u Q I rx ry h;obtain⟨l,k,xs,rfl,rfl,hH,h1,h2,hz,q⟩:=h;cases rx;obtain⟨t,rfl⟩:=ry;obtain⟨z,its,n,r,hl,e⟩:=I.lstM hH;have hlen:its.toArray.size*k.toNat<=sizeLine:=by rw[List.size_toArray,<-hl];exact hz
 have hcap:¬its.toArray.size*k.toNat > (2 ^ 63-1)/8:=by
  have:(sizeLine:Nat)<=(2 ^ 63-1)/8:=by decide
  lia
 have hfit:¬(!Builtin.List.listFitsIndex k)=true:=by
  rw[fitsIndex_both h1 h2];exact Bool.false_ne_true
 have hlong:¬Builtin.List.listTooLong (its.toArray.size*k.toNat)=true:=by
  rw[q4v hlen];exact Bool.false_ne_true
 have hnew:List.foldl (λx1 x2=>x1++x2) #[] (List.replicate (if its.toArray.isEmpty=true then 0 else k.toNat) its.toArray)=(List.replicate k.toNat its).flatten.toArray:=by
  have f0:∀m:Nat,List.foldl (λx1 x2=>x1++x2) #[] (List.replicate m its.toArray)=(List.replicate m its).flatten.toArray:=λm=>by
   have:=q5z its m [];rw[List.nil_append] at this;exact this
  rw[f0]
  cases its with
  |nil=>simp
  |cons a r'=>rw[if_neg (by simp)]
 refine wpAny_binaryOp_repeat_ref (T:="list") (U:="int") (by decide) ⟨_,e,rfl⟩ (λs'=>typeIs_int s' k t) noFill_list_mul F.fills_int_mul F.slot_int_rmul repeat_list F.slot_int_index.lookup
  (call_meets F.slot_int_rmul (typeIs_int s k t) F.entry_int_rmul (F.args_int_rmul_2 _ _) (int___rmul___int_list k t l its.toArray n)
   ⟨e,rfl,⟨_,e,rfl⟩,call_meets F.slot_list_mul ⟨_,e,rfl⟩ F.entry_list_mul (F.args_list_mul_2 _ _) (AutoListH.list___mul___list_int_3 l its.toArray n k t hfit hcap hlong) ⟨e,?_⟩⟩)
 rw[hnew];exact⟨.ref _,_,I.lnew (t':=s.toks) (r.rep k.toNat) (by rw[len_rep,Nat.mul_comm];exact hz),rfl,q _ I.fresh⟩
end
end L2
namespace Att
open PySem PySem.W PySem.Calls PyProof.Rows
theorem q3u{P:Params}{h:Heap}:∀(ns:List Int) (vs:List Value),WellAll P h vs (ns.map WData.int)->IntsAre vs ns:=by
 intro ns
 induction ns with
 | nil=>
  intro vs w;rw[List.map_nil] at w;cases w;exact .nil
 | cons n ns ih=>
  intro vs w;rw[List.map_cons] at w
  cases w with
  | cons a b=>
   cases a;exact .cons _ _ (ih _ b)
theorem script_of{l:OpenLaw}{n:Nat}(hn:l.most=some n){P:Params}{h:Heap}{args:List WData}{vals:List Value}
  (hpre:l.row.toRowW.claim.pre args=true)(hwl:WellAll P h vals args):
  ∃a vs ns,vals=[Value.ref a]/\args=[WData.list (ns.map WData.int)]/\h.get? a=some {cls:=.type "list",data:=.seq vs.toArray}/\IntsAre vs ns/\ns.length<=n:=by
 have hsh:WShape.hasAll [] args [.list .int]=true:=(pre_splitW hpre).1;have hc:l.pre.holds [] {args:=args}=true:=(pre_splitW hpre).2;obtain⟨d,r,rfl,h1,h2⟩:=hasAllW_cons hsh;obtain rfl:=hasAllW_nil h2;obtain⟨xs,rfl,h3⟩:=hasW_list h1;obtain⟨ns,rfl⟩:=items_int h3;have hlen:ns.length<=n:=by
  unfold OpenLaw.pre at hc;have h4:(WTm.not (.lt (.lit (.int (n:Int))) (.len (.arg 0)))).holds [] {args:=[.list (ns.map .int)]}=true:=by
   have h4:=(holds_andW hc).1;rw[hn] at h4;exact h4
  have h5:=condW_of h4 (w_not (w_lt w_lit (w_len_list (w_arg rfl))));rw[List.length_map] at h5;refine Nat.le_of_not_lt λq=>?_;have q':(n:Int) < ((ns.length:Nat):Int):=by lia
  first
   |(rw[decide_eq_true q'] at h5;exact absurd h5 (by decide))
   |(simp at h5;lia)
 cases hwl with
 | cons w1 w2=>
  cases w2
  cases w1 with
  |list ho hall=>exact⟨_,_,ns,rfl,rfl,ho,q3u ns _ hall,hlen⟩
theorem post_true(l:OpenLaw)(args:List WData):l.row.toRowW.claim.post args (.bool true) args=true:=
 postW_of (r:=l.row.toRowW) (X:=(true == true))
  (show WShape.has [] (.bool true) .bool=true by first|rfl|decide|simp[WShape.has,WShape.arms,WShape.armsAll])
  (show(WTm.eq .res (.lit (.bool true))).value [] {args:=args,res:=some (.bool true),after:=args}=some (.bool (true == true)) from w_eq_bool (w_res rfl) w_lit) rfl
theorem attach_call{l:OpenLaw}{n:Nat}{q:Program}{loose:List Str}{XP:(Str->Option Value)->Heap->Prop}{YP:World->Heap->Prop}{d:DefRec}
  (hn:l.most=some n)(hdf:d.params.defaults=[])
  (call:∀(w:World) (s₀ s₁:Shared) (mg mb:Str->Option Value) (fa:Addr) (o:Obj) (pm cd doc:Value) (a:Addr) (vs:List Value) (ns:List Int),
   Ground q loose [] XP w s₀ mg mb s₁.heap->YP w s₁.heap ->
   s₁.heap.get? fa=some o->o.data = .func (docDef d.name d.params d.body d.scope pm cd doc)->s₁.heap.CodeRec cd d.name->mg d.name=some (.ref fa)->
   s₁.heap.get? a=some {cls:=.type "list",data:=.seq vs.toArray}->IntsAre vs ns->ns.length<=n->s₁.gens = #[]->
   codeAny (model l.prog w) callerA (.call (.ref fa) ⟨[.ref a],[]⟩) (λr s'=>r = .ok (.ret (.bool true))/\OldK s₁.heap s'.heap/\s'.os=s₁.os/\AllBare s'.gens) s₁):
  WalkO q loose XP YP l.row.toRowW d [] (λf vs=>PySem.call f vs):=by
 intro w s₀ s₁ mg mb G Y fa o pm cd doc dV kV ho hd hcd hD hmg hg args vals as hpre hlay hrd hwl hlo;obtain rfl:dV = .none:=Dflts.none hD hdf;obtain rfl:kV = .none:=Dflts.noKw hD;obtain⟨a,vs,ns,rfl,rfl,hobj,hints,hlen⟩:=script_of hn hpre hwl;refine enter_call (codeAny_mono (call w s₀ s₁ mg mb fa o pm cd doc a vs ns G Y ho (fd_plain hd) hcd hmg hobj hints hlen hg) λr s' hq=>?_);obtain⟨rfl,h2,h3,h4⟩:=hq;exact⟨.inl ⟨.bool true,.bool true,[],rfl,λ_=>rfl,.bool true,post_true l _,λ_=>⟨List.Pairwise.nil,λ_ hm=>(nomatch hm)⟩⟩,h2,h3,h4⟩
end Att
namespace L2
open PySem PySem.Spec PyProof.Rows
variable {x:Str}{H:Hp}{w:World}{X:Cx}{P:Program}{s:Shared}{pos:Pos}{K:PySem.W.Frag}{sp:Sp}{σ:St}{base:Heap}{env:Env}{a:Addr}{ps:List Str}{pins:List (Addr×Obj)}{mg:Str->Option Value}{h:Heap}{e:Addr}{h':Heap}{outer:List Env}{a0:Value}{n:Nat}{E:Value->Shared->Prop}{p:Pos}{Q:Unit->Shared->Prop}{CX:CXT}{qual:Str}{H1:Hp}{C:Addr}{es:List Expr}{t:TA}{j:Int}{tg:Expr}{L:Addr}{st:Stmt}{N:List Str}{A:Around}{H':Hp}{i:Nat}{q:Program}{loose:List Str}{f:Addr}{t':Nat}{R:Result->Shared->Prop}{scope:Scope}{D:Ends}{s1:Shared}{cpos:Pos}{ob:Obj}{v:Array Value}
theorem q5H:∀{vs:List Value} {ns:List Int},IntsAre vs ns->Vals (ns.map V.int) vs
 |_,_,.nil=>.nil
 |_,_,.cons n t h=>.cons ⟨t,rfl⟩ (q5H h)
noncomputable def Only(H:Hp):Prop:=∀b,H b=none\/∃o xs,H b=some (.frz o (.lst xs))
theorem law_call{P:Program}{w:World}{mb:Str->Option Value}{CX:CXT}{k:Nat}{fa:Addr}{fd:FuncData}{sp:Sp}{s₁:Shared}{vs:List Value}{ns:List Int}
  (KX:K.In s₁.heap)(hns:s₁.heap.Ns mainGlobals mg)(hb:s₁.heap.Ns builtinsNs mb)(hbb:∀x:Str,x≠"__name__"->mb x=bootBuiltins x)(hlim:s₁.heap.NoLimit)(hg:s₁.gens = #[])
  (ha:s₁.heap.get? a=some {cls:=.type "list",data:=.seq vs.toArray})(hi:IntsAre vs ns)(hl:ns.length<=sizeLine)(hr:Room k callerA)
  (F:∀base:Heap,K.In base->base.Ns mainGlobals mg->FnOk P w K mg base CX k fa fd [x] sp)(hbind:∀(s:Shared) (u:Value),BindsTo s fd ⟨[u],[]⟩ [(x,u)])
  (hsp:∀H:Hp,Only H->SqL K H a (ns.map V.int)->sp [.ref a] H (λv _=>v = .bl true) λ_ _ _=>False)
  (hCX:∀H e s',CX [] H s₁ (λ_ _ _=>False) e s'->False):
  codeAny (model P w) callerA (.call (.ref fa) ⟨[.ref a],[]⟩) (λr s'=>r = .ok (.ret (.bool true))/\OldK s₁.heap s'.heap/\s'.os=s₁.os/\AllBare s'.gens) s₁:=by
 have rv:=q5H hi;have lenV:=hi.length
 have core:∀H:Hp,Only H->SqL K H a (ns.map V.int)->HOk P w H s₁.heap->(∀b,H b≠none->b=a)->(H a≠none->K.lookup a=none)->
   codeAny (model P w) callerA (.call (.ref fa) ⟨[.ref a],[]⟩) (λr s'=>r = .ok (.ret (.bool true))/\OldK s₁.heap s'.heap/\s'.os=s₁.os/\AllBare s'.gens) s₁:=by
  intro H hO hS hok hA hK;have base_of:∀{b:Addr} {o:Obj},s₁.heap.get? b=some o->H b=none->(hidT s₁.heap H).get? b=some o:=λe n=>hidT_get e n
  have noA:∀{b:Addr} {o:Obj} {es:Array DictEntry} {ep:Nat},s₁.heap.get? b=some o->o.data = .dict es ep->H b=none:=λ{b o es ep} e d=>by
   cases q:H b with
   |none=>rfl
   | some u=>
    have e':b=a:=hA b (by rw[q];simp);subst e';rw[ha] at e;cases e;have d':Data.seq vs.toArray _=Data.dict es ep:=d;cases d'
  have nsK:∀{b:Addr} {m:Str->Option Value},s₁.heap.Ns b m->(hidT s₁.heap H).Ns b m:=λ{b m} ⟨o,es,ep,e,d,r⟩=>⟨o,es,ep,base_of e (noA e d),d,r⟩
  have hKb:K.In (hidT s₁.heap H):=λb o e=>base_of (KX b o e) (by
   cases q:H b with
   |none=>rfl
   | some u=>
    have e':b=a:=hA b (by rw[q];simp);subst e'
    rw[hK (by rw[q];simp)] at e;cases e)
  have hM:Mod K mg (hidT s₁.heap H):=⟨hKb,nsK hns,⟨mb,nsK hb,hbb⟩,let⟨mc,h1,h2⟩:=hlim;⟨mc,nsK h1,h2⟩⟩
  have e0:Env0 P w K mg (hidT s₁.heap H) callerA [] s₁ H:=⟨rfl,hM,λb o e=>of_hidT e,Nat.le_of_eq (hidT_size _ _),trivial,λb hb=>absurd (show b∈([]:List Addr) from hb) (by simp),hok,.of_eq hg⟩
  refine codeAny_mono ((F _ hKb (nsK hns)).run callerA [] s₁ H ⟨[.ref a],[]⟩ [.ref a] [.ref a] _ _ hr e0 (hbind s₁ (.ref a)) (.cons rfl .nil) (hsp H hO hS)) λr s' h=>?_
  cases r with
  |error e=>exact(hCX H e s' h).elim
  | ok fl=>
   cases fl with
   |next=>exact False.elim h
   |brk=>exact False.elim h
   |cont=>exact False.elim h
   | ret u=>
    obtain⟨v,H',os,bare,un,hok',r',q⟩:=h;have q':v = .bl true:=q;subst q';obtain rfl:u=Value.bool true:=r';refine⟨rfl,OldK.of_keep λb o e=>?_,os,bare⟩
    cases q:H b with
    |none=>exact un.keep b o e q (by intro z;exact absurd (show b∈([]:List Addr) from z) (by simp)) (by simp)
    | some u=>
     rcases hO b with z|⟨ob,xs,z⟩
     ·rw[q] at z;cases z
     ·have z2:=un.frzs b ob _ z
      obtain⟨e1,_⟩:=hok b _ z;obtain⟨e2,_⟩:=hok' b _ z2;rw[e] at e1;cases e1;exact e2
 cases hk:K.lookup a with
 | some o=>
  have e:=KX a o hk;rw[ha] at e;cases e;refine core (λ_=>none) (λ_=>.inl rfl) (.inr ⟨_,vs.toArray,_,hk,rfl,rfl,rfl,by rw[List.size_toArray,lenV];exact hl,by simpa using rv⟩) (λb u z=>by have z':(none:Option HO)=some u:=z;cases z') (λb z=>absurd rfl z) λz=>absurd rfl z
 | none=>
  refine core (λb=>if b=a then some (.frz {cls:=.type "list",data:=.seq vs.toArray} (.lst (ns.map V.int))) else none) (λb=>?_) (.inl (.inr ⟨{cls:=.type "list",data:=.seq vs.toArray},if_pos rfl⟩)) (λb u z=>?_) (λb z=>?_) λ_=>hk
  ·by_cases hb:b=a
   ·exact .inr ⟨_,_,if_pos hb⟩
   ·exact .inl (if_neg hb)
  ·by_cases hb:b=a
   ·have z':=(if_pos hb).symm.trans z
    cases z';subst hb;exact⟨ha,by rw[List.length_map];exact hl,vs,_,rv,ha⟩
   ·have z':=(if_neg hb).symm.trans z
    cases z'
  ·by_cases hb:b=a
   ·exact hb
   ·exact absurd (if_neg hb) z
theorem walk_of{l:PySem.W.OpenLaw}{k:Nat}{XP:(Str->Option Value)->Heap->Prop}{YP:World->Heap->Prop}{d:DefRec}{K:Params->PySem.W.Frag}{CX:World->CXT}{sp:World->Sp}
  (hn:l.most=some n)(hn2:n<=sizeLine)(hdf:d.params.defaults=[])(hr:Room k callerA)
  (hY:∀(w:World) (h:Heap),YP w h->(K w.params).In h)
  (F:∀(w:World) (mg:Str->Option Value) (fa:Addr) (h:Heap),(K w.params).In h->h.Ns mainGlobals mg->mg d.name=some (.ref fa)->
   ∃fd:FuncData,(∀(s:Shared) (u:Value),BindsTo s fd ⟨[u],[]⟩ [(x,u)])/\
    ∀base:Heap,(K w.params).In base->base.Ns mainGlobals mg->FnOk l.prog w (K w.params) mg base (CX w) k fa fd [x] (sp w))
  (hsp:∀(w:World) (H:Hp) (a:Addr) (ns:List Int),ns.length<=n->Only H->SqL (K w.params) H a (ns.map V.int)->sp w [.ref a] H (λv _=>v = .bl true) λ_ _ _=>False)
  (hCX:∀(w:World) (H:Hp) (s:Shared) (e:Value) (s':Shared),CX w [] H s (λ_ _ _=>False) e s'->False):
  PySem.W.WalkO q loose XP YP l.row.toRowW d [] (λf vs=>PySem.call f vs):=by
 refine Att.attach_call hn hdf λw s₀ s₁ mg mb fa o pm cd doc a vs ns G Y ho hd hcd hmg hobj hints hlen hg=>?_;have KX:=hY w _ Y;obtain⟨fd,hb,hF⟩:=F w mg fa _ KX G.T.g hmg;exact law_call KX G.T.g G.T.b G.T.builtins G.T.nolimit hg hobj hints (Nat.le_trans hlen hn2) hr hF hb (λH hO hS=>hsp w H a ns hlen hO hS) λH e s'=>hCX w H s₁ e s'
noncomputable def q0o(s:Stmt):Arguments:=match s with
 |.FunctionDef _ a _ _ _ _ _ _ _ _=>a
 |_=>{posonlyargs:=[],args:=[],vararg:=none,kwonlyargs:=[],kw_defaults:=[],kwarg:=none,defaults:=[]}
noncomputable def q0M(s:Stmt):List Stmt:=match s with
 |.FunctionDef _ _ b _ _ _ _ _ _ _=>b
 |_=>[]
noncomputable def qF(s:Stmt):Scope:=match s with
 |.FunctionDef _ _ _ _ _ _ sc _ _ _=>sc
 |_=>{kind:=.function,names:=[],isGenerator:=false,isCoroutine:=false}
noncomputable abbrev CX0:CXT:=λ_ _ _ _ _ _=>False
noncomputable abbrev E0:XK:=λ_ _ _=>False
theorem pass0:q0Y CX0 X E0:=λ_ _ _ _ _ _ _ h=>h.elim
structure Fun(K:PySem.W.Frag)(x qual:Str)(st:Stmt)(f:Addr)(fd:FuncData):Prop where
 ex:∃(oc:Value) (od:Option Addr) (kV doc pm:Value) (an:Option Addr) (cdv ct:Value) (osl:Array (Option Value)),
  fd=PySem.W.fnOf x qual (q0o st) (q0M st) (qF st) .none kV doc pm an cdv ct/\K.lookup f=some ⟨oc,od,.func fd,osl⟩/\PySem.W.codeIn K cdv qual=true
 kp:PySem.W.keepIn K (.ref f)=true
section
variable {P:Program}{w:World}{K:PySem.W.Frag}{mg:Str->Option Value}{base:Heap}
theorem Fun.ok{fd:FuncData}{k:Nat}(F:Fun K x qual st f fd)(S:FnScope N ps (qF st))(len:∀vs H Q E,sp vs H Q E->vs.length=ps.length)
  (hbody:∀(cdv:Value) (A:Around) (outer:List Env) (s:Shared) (H:Hp) (vs:List V) (Q:VK) (E:XK),Room k (A.deeper (envOfC qual (qF st) s.heap.objs.size f cdv))->sp vs H Q E ->
   ∃t,PSs (cxOf CX0 P w K mg base N qual (qF st) f cdv A outer s H E).nox (q0M st) t/\t {nx:=λ_ H'=>Q .non H',rt:=Q} (q49 N vs) H):FnOk P w K mg base CX0 (k+1) f fd ps sp:=by
 obtain⟨oc,od,kV,doc,pm,an,cdv,ct,osl,rfl,lk,hcd⟩:=F.ex;refine fn_of lk hcd S len λA outer s H vs Q E hr hsp=>?_;obtain⟨t,h,q⟩:=hbody cdv A outer s H vs Q E hr hsp;exact⟨t,h.nox,q⟩
theorem Fun.binds{fd:FuncData}(F:Fun K x qual st f fd)
  (h:∀(kV doc pm:Value) (an:Option Addr) (cdv ct:Value) (us:List Value),us.length=ps.length->bindArgs (PySem.W.fnOf x qual (q0o st) (q0M st) (qF st) .none kV doc pm an cdv ct) ⟨us,[]⟩=pure (ps.zip us)):Binds K fd ps []:=by
 obtain⟨oc,od,kV,doc,pm,an,cdv,ct,osl,rfl,lk,hcd⟩:=F.ex;exact .all (h kV doc pm an cdv ct)
theorem q4V{oc:Value}{od an:Option Addr}{osl:Array (Option Value)}{kV doc pm cdv ct:Value}(l:K.lookup f=some ⟨oc,od,.func (PySem.W.fnOf x qual (q0o st) (q0M st) (qF st) .none kV doc pm an cdv ct),osl⟩)
  (c:PySem.W.codeIn K cdv qual=true)(k:PySem.W.keepIn K (.ref f)=true):Fun K x qual st f (PySem.W.fnOf x qual (q0o st) (q0M st) (qF st) .none kV doc pm an cdv ct):=⟨⟨oc,od,kV,doc,pm,an,cdv,ct,osl,rfl,l,c⟩,k⟩
end
theorem q6m{k:Nat}(hr:Room k A):A.units+1 < cLine:=Nat.lt_of_le_of_lt (Nat.add_le_add_left (by decide:1<=64) _) hr.units
section
variable {X:Cx}
theorem pv(i:Nat){x:Str}{pos:Pos}(hN:X.N[i]?=some x:=by rfl)(hv:Vis X.env.scope x:=by first|exact Or.inl rfl|exact Or.inr (Or.inl rfl)|exact Or.inr (Or.inr rfl))(hd:(x == ("__debug__" : Str))=false:=by decide)
  (hcd:(x == ("__classdict__" : Str))=false:=by decide):PE X (.Name x pos) (tVar i):=q2g hN hv hd hcd
end
theorem iteF{A B:Prop}(h:B):if false=true then A else B:=by
 rw[if_neg Bool.false_ne_true];exact h
theorem iteT{A B:Prop}(h:A):if true=true then A else B:=by
 rw[if_pos rfl];exact h
noncomputable def Same(H H':Hp):Prop:=∀b o,H b=some o->H' b=some o
theorem Same.refl(H:Hp):Same H H:=λ_ _ h=>h
theorem Same.trans{H2:Hp}(a:Same H H1)(b:Same H1 H2):Same H H2:=λc o h=>b c o (a c o h)
theorem Same.free(e:Same H H'){l:Addr}(h:H' l=Option.none):H l=Option.none:=by
 cases q:H l with
 |none=>rfl
 | some o=>
  rw[e l o q] at h;cases h
section
variable {κ:Type}[DecidableEq κ]
noncomputable def valV(kvs:List (κ×V))(k:κ):Option V:=(kvs.find? λkv=>decide (kv.1=k)).map (·.2)
noncomputable def putK(kvs:List (κ×V))(k:κ)(v:V):List (κ×V):=
 if(kvs.any λkv=>decide (kv.1=k))=true then kvs.map (λkv=>if kv.1=k then(kv.1,v) else kv) else kvs++[(k,v)]
theorem q6t{p:κ×V}{r:List (κ×V)}{k:κ}(e:p.1=k):valV (p::r) k=some p.2:=by simp[valV,List.find?_cons,e]
theorem q6u{p:κ×V}{r:List (κ×V)}{k:κ}(e:¬p.1=k):valV (p::r) k=valV r k:=by simp[valV,List.find?_cons,e]
theorem q6l(kvs:List (κ×V))(k:κ)(v:V):(putK kvs k v).length<=kvs.length+1:=by
 unfold putK;split
 ·rw[List.length_map];lia
 ·rw[List.length_append,List.length_cons,List.length_nil];lia
theorem KV.val{kvs:List (κ×V)}{vs:List (κ×Value)}(r:KV kvs vs)(k:κ):RelO (valV kvs k) (valueAt vs k):=by
 unfold KV at r
 induction r with
 |nil=>exact True.intro
 | @cons p q ps qs h t ih=>
  obtain⟨h1,h2⟩:=h;by_cases e:p.1=k
  ·have e':q.1=k:=h1.symm.trans e
   have b:valueAt (q::qs) k=some q.2:=by simp[valueAt,List.find?_cons,e']
   rw[q6t e,b];exact h2
  ·have e':¬q.1=k:=λz=>e (h1.trans z)
   have b:valueAt (q::qs) k=valueAt qs k:=by simp[valueAt,List.find?_cons,e']
   rw[q6u e,b];exact ih
theorem KV.any{kvs:List (κ×V)}{vs:List (κ×Value)}(r:KV kvs vs)(k:κ):(kvs.any λkv=>decide (kv.1=k))=vs.any λkv=>decide (kv.1=k):=by
 unfold KV at r
 induction r with
 |nil=>rfl
 |cons h t ih=>rw[List.any_cons,List.any_cons,ih,h.1]
theorem KV.repl{kvs:List (κ×V)}{vs:List (κ×Value)}(r:KV kvs vs)(k:κ){y:V}{u:Value}(ry:RelV y u):
  KV (kvs.map λkv=>if kv.1=k then(kv.1,y) else kv) (vs.map λkv=>if kv.1=k then(kv.1,u) else kv):=by
 unfold KV at r ⊢
 induction r with
 |nil=>exact .nil
 | @cons p q ps qs h t ih=>
  rw[List.map_cons,List.map_cons];refine .cons ?_ ih;obtain⟨h1,h2⟩:=h;by_cases e:p.1=k
  ·rw[if_pos e,if_pos (h1.symm.trans e)];exact⟨h1,ry⟩
  ·rw[if_neg e,if_neg (λz=>e (h1.trans z))];exact⟨h1,h2⟩
theorem KV.put{kvs:List (κ×V)}{vs:List (κ×Value)}(r:KV kvs vs)(k:κ){y:V}{u:Value}(ry:RelV y u):KV (putK kvs k y) (stored vs k u):=by
 unfold putK stored;rw[r.any k];by_cases e:(vs.any λkv=>decide (kv.1=k))=true
 ·rw[if_pos e,if_pos e];exact r.repl k ry
 ·rw[if_neg e,if_neg e];exact Paired.snoc r ⟨rfl,ry⟩
end
theorem kV_is{k:Key}{u:Value}(r:RelV (kV k) u):(q0D P w).is k u=true:=by
 cases k with
 |inl i=>obtain⟨t,e⟩:=(show ∃t,u=Value.int i t from r);subst e;exact q6i P w i t
 |inr x=>obtain⟨t,e⟩:=(show ∃t,u=Value.str x t from r);subst e;exact q6h P w x t
theorem q5u{P:Program}{w:World}:∀{ks:List Key} {us:List Value},Vals (ks.map kV) us->ItemsAre (q0D P w) ks us
 |[],_,r=>by rw[List.map_nil] at r;cases r;exact .nil
 | k::ks,_,r=>by
  rw[List.map_cons] at r
  cases r with
  |cons h t=>exact .cons (kV_is h) (q5u t)
noncomputable abbrev KT(H:Hp):List (List Key×V)->List (List Key×Addr×Value)->Prop:=Paired λp q=>p.1=q.1/\H q.2.1=some (.tup (p.1.map kV))/\RelV p.2 q.2.2
theorem KT.val{kvs:List (List Key×V)}{xs:List (List Key×Addr×Value)}(r:KT H kvs xs)(k:List Key):RelO (valV kvs k) ((atKey xs k).map (·.2)):=by
 induction r with
 |nil=>exact True.intro
 | @cons p q ps qs h t ih=>
  obtain⟨h1,_,h2⟩:=h;by_cases e:p.1=k
  ·have e':q.1=k:=h1.symm.trans e
   have b:atKey (q::qs) k=some q.2:=by simp[atKey,List.find?_cons,e']
   rw[q6t e,b];exact h2
  ·have e':¬q.1=k:=λz=>e (h1.trans z)
   have b:atKey (q::qs) k=atKey qs k:=by simp[atKey,List.find?_cons,e']
   rw[q6u e,b];exact ih
section
variable {P:Program}{w:World}{H:Hp}{h:Heap}{a:Addr}
theorem rd_of{u:HO}(ok:HOk P w H h)(e:Rd H a u):ObjOk P w H h a u:=e.ok ok
theorem dk_rd{kvs:List (Key×V)}(ok:HOk P w H h)(e:Rd H a (.dK kvs)):kvs.length<=sizeLine/\(a == sysModules)=false/\∃vs,KV kvs vs/\h.DictOf (q0D P w) a vs:=
 show ObjOk P w H h a (.dK kvs) from rd_of ok e
theorem dk_of{kvs:List (Key×V)}(ok:HOk P w H h)(e:H a=some (.dK kvs)):kvs.length<=sizeLine/\(a == sysModules)=false/\∃vs,KV kvs vs/\h.DictOf (q0D P w) a vs:=dk_rd ok (.inl e)
theorem key_of{ks:List Key}(ok:HOk P w H h)(e:H a=some (.tup (ks.map kV))):(tupleKind (q0D P w)).is h ks a:=by
 obtain⟨_,its,r,o,h1,h2,n,h3⟩:=(show ObjOk P w H h a (.tup (ks.map kV)) from ok a _ e)
 exact⟨o,its.toArray,n,h1,h2,h3,by simpa using q5u r⟩
theorem dt_rd{kvs:List (List Key×V)}(ok:HOk P w H h)(e:Rd H a (.dT kvs)):kvs.length<=sizeLine/\(a == sysModules)=false/\
  ∃xs,KT H kvs xs/\h.DictOfH (tupleKind (q0D P w)) a xs:=by
 obtain⟨z,y,xs,r,o,es,ep,h1,h2,h3,h4,h5⟩:=(show ObjOk P w H h a (.dT kvs) from rd_of ok e)
 refine⟨z,y,xs,r,o,es,ep,h1,h2,h3,h4,λx hx=>?_,h5⟩;have all:∀{l:List (List Key×V)} {m:List (List Key×Addr×Value)},KT H l m->∀x∈m,(tupleKind (q0D P w)).is h x.1 x.2.1:=by
  intro l m q
  induction q with
  |nil=>intro x hx;exact nomatch hx
  | @cons p q ps qs hq t ih=>
   intro x hx;rcases List.mem_cons.mp hx with e|hx
   ·subst e
    exact key_of ok (by rw[<-hq.1];exact hq.2.1)
   ·exact ih x hx
 exact all r x hx
end
noncomputable def DGet(H:Hp)(a:Addr)(y:V)(r:Option V):Prop:=
 (∃kvs k,Rd H a (.dK kvs)/\y=kV k/\r=valV kvs k)\/∃kvs k b,Rd H a (.dT kvs)/\y = .ref b/\H b=some (.tup (k.map kV))/\r=valV kvs k
theorem DGet.k{H:Hp}{a:Addr}{kvs:List (Key×V)}{k:Key}(e:H a=some (.dK kvs)):DGet H a (kV k) (valV kvs k):=.inl ⟨kvs,k,.inl e,rfl,rfl⟩
section
variable {X:Cx}{pins:List (Addr×Obj)}{σ:St}{H:Hp}{s:Shared}{a:Addr}{y v:V}{u r:Value}{o:Option V}{A:Around}{E:Value->Shared->Prop}
theorem Inv.big(I:Inv X pins σ H s):sysModules < s.heap.objs.size:=by
 have h:mainGlobals < s.heap.objs.size:=(I.mod.glob.keeps I.bk).lt;exact Nat.lt_trans (by decide) h
theorem d_getItem{Q:Value->Shared->Prop}(hu:A.units+1 < cLine)(I:Inv X pins σ H s)(g:DGet H a y (some v))(ry:RelV y u)(h:∀w' s',Inv X pins σ H s'->RelV v w'->Q w' s'):
  wpAny (model X.prog X.w) A (getItem (.ref a) u) Q E s:=by
 rcases g with⟨kvs,k,e,ey,l⟩|⟨kvs,k,b,e,ey,eb,l⟩
 ·subst ey
  obtain⟨z,hd,vs,rel,dd⟩:=dk_rd I.hok e;obtain⟨w',hw,rw'⟩:=RelO.some_of (v:=v) (o:=valueAt vs k) (by rw[l];exact rel.val k);exact wpAny_getItem_of (kV_is ry) dd.mapOf hw (h w' _ (I.tok _) rw')
 ·subst ey
  cases(show u=Value.ref b from ry);obtain⟨z,hd,xs,rel,dd⟩:=dt_rd I.hok e;obtain⟨w',hw,rw'⟩:=RelO.some_of (v:=v) (o:=(atKey xs k).map (·.2)) (by rw[l];exact rel.val k);obtain⟨p,hp,hp2⟩:=Option.map_eq_some_iff.mp hw;refine wpAny_getItem_heap (tupleKind_room_in1 hu) (key_of I.hok eb) dd hp ?_;rw[hp2];exact h w' _ (I.tok _) rw'
theorem d_write{ob:HO}(I:Inv X pins σ H s)(mu:Mut (H a))(hs:Heap.SameBut a s.heap h')(he:∃q,h'.get? a=some q)(new:ObjOk X.prog X.w (upd H a ob) h' a ob):
  Inv X pins σ (upd H a ob) {s with heap:=h',toks:=t'}:=
 I.write (x:=a) (e:=a) mu (.inl rfl) (λb q hb z=>(hs.2 b hb).trans z) he new
theorem dk_new{kvs:List (Key×V)}{vs:List (Key×Value)}(z:kvs.length<=sizeLine)(hd:(a == sysModules)=false)(rel:KV kvs vs)(dd:h'.DictOf (q0D P w) a vs):
  ObjOk P w H' h' a (.dK kvs):=⟨z,hd,vs,rel,dd⟩
end
noncomputable def NoSl(i:Expr):Prop:=∀ov iv,subscripted i false ov iv=operate [ov,iv] (getItem ov iv)
theorem subD_of{prog:Program}{value slice:Expr}{T id:String}{Q:Value->Shared->Prop}
  (hl:typeLookup (.type T) "__getitem__" = pure (some (.builtin id)))(hs:NoSl slice)
  (h:wpAny (model prog w) A (eval value env) (λo s₁=>wpAny (model prog w) A (eval slice env) (λi s₂=>s₂.TypeIs o T/\wpAny (model prog w) A (getItem o i) Q E s₂) E s₁) E s):
  wpAny (model prog w) A (eval (.Subscript value slice pos) env) Q E s:=by
 refine Subscript_ (wpAny_mono h (λo s₁ h₁=>wpAny_mono h₁ (λi s₂ h₂=>?_) λ_ _ x=>x) λ_ _ x=>x);obtain⟨hT,h₂⟩:=h₂;unfold subscriptTail;refine wpAny_bind ?_;rw[getitemInPython_of_ne hT.not_modules];refine wpAny_bind (wpAny_specialOf hT hl ?_);have fin:wpAny (model prog w) A (subscripted slice false o i) (λr s₃=>wpAny (model prog w) A (letTemporaryGo value o r >>= λ_=>pure r) Q E s₃) E s₂:=by
  rw[hs o i];exact wpAny_operating (wpAny_mono h₂ (λr s₃ h₃=>wpAny_bind (wpAny_letTemporaryGo (wpAny_pure h₃))) λ_ _ x=>x)
 first
  |exact wpAny_pure (wpAny_bind fin)
  |exact wpAny_bind (wpAny_pure (wpAny_bind fin))
  |exact wpAny_bind fin
theorem q6r{y:V}{o:Option V}(I:Inv X pins σ H s)(g:DGet H a y o):s.TypeIs (.ref a) "dict":=by
 rcases g with⟨kvs,k,e,_,_⟩|⟨kvs,k,b,e,_,_,_⟩
 ·obtain⟨_,_,vs,_,dd⟩:=dk_rd I.hok e
  exact dd.typeIs
 ·obtain⟨_,_,xs,_,dd⟩:=dt_rd I.hok e
  exact dd.typeIs
noncomputable def tDGet(td ty:TE):TE:=λσ H Q=>td σ H λx H1=>ty σ H1 λy H2=>∃a v,x = .ref a/\DGet H2 a y (some v)/\Q v H2
section
variable {X:Cx}{o i e value:Expr}{pos pos' tpos:Pos}{td ty tv:TE}
theorem q2O(hu:X.A.units+1 < cLine)(ho:PE X o td)(hi:PE X i ty)(hs:NoSl i):PE X (.Subscript o i pos) (tDGet td ty):=by
 intro pins s σ H Q I h;refine subD_of PySem.F.slot_dict_getitem.lookup hs (thn (ho pins s σ H _ I h) λu s1 ⟨x,H1,I1,rx,q1⟩=>thn (hi pins s1 σ H1 _ I1 q1) λiv s2 ⟨y,H2,I2,ry,a,v,ex,g,q2⟩=>?_);subst ex;obtain rfl:u=Value.ref a:=rx;exact⟨q6r I2 g,d_getItem hu I2 g ry λw' s3 I3 rw'=>⟨v,H2,I3,rw',q2⟩⟩
end
theorem dk_empty(h:Heap)(hb:sysModules < h.objs.size):ObjOk P w H (h.push {cls:=.type "dict",data:=.dict #[]}) h.objs.size (.dK []):=
 ⟨Nat.zero_le _,beq_eq_false_iff_ne.mpr (Ne.symm (Nat.ne_of_lt hb)),[],.nil,Heap.DictOf.new h⟩
noncomputable def tPairs:List (TE×TE)->St->Hp->(List (V×V)->Hp->Prop)->Prop
 |[],_,H,Q=>Q [] H
 |(tk,tv)::r,σ,H,Q=>tk σ H λx H1=>tv σ H1 λy H2=>tPairs r σ H2 λps H3=>Q ((x,y)::ps) H3
noncomputable abbrev VV:List (V×V)->List (Value×Value)->Prop:=Paired λp q=>RelV p.1 q.1/\RelV p.2 q.2
noncomputable def PPs(X:Cx)(pos:Pos)(keys:List (Option Expr))(values:List Expr)(trs:List (TE×TE)):Prop:=
 ∀(pins:List (Addr×Obj)) (s:Shared) (σ:St) (H:Hp) (Q:List (V×V)->Hp->Prop),Inv X pins σ H s->tPairs trs σ H Q ->
  wpAny (model X.prog X.w) X.A (evalPairs (pairTrees keys values X.env pos)) (λvs s'=>∃ps H',Inv X pins σ H' s'/\VV ps vs/\Q ps H') X.xe s
theorem pps_nil:PPs X pos [] [] []:=λpins s σ H Q I h=>pairTrees_nil_walk ⟨[],H,I,.nil,h⟩
theorem q27{k v:Expr}{ks:List (Option Expr)}{vs:List Expr}{tk tv:TE}{trs:List (TE×TE)}(hk:PE X k tk)(hv:PE X v tv)(hr:PPs X pos ks vs trs):
  PPs X pos (some k::ks) (v::vs) ((tk,tv)::trs):=λpins s σ H Q I h=>
 pairTrees_cons_walk (thn (hk pins s σ H _ I h) λu s1 ⟨x,H1,I1,rx,q1⟩=>thn (hv pins s1 σ H1 _ I1 q1) λw2 s2 ⟨y,H2,I2,ry,q2⟩=>
  thn (hr pins s2 σ H2 _ I2 q2) λws s3 ⟨ps,H3,I3,rel,q3⟩=>⟨(x,y)::ps,H3,I3,.cons ⟨rx,ry⟩ rel,q3⟩)
noncomputable def q1S(kvs more:List (Key×V)):List (Key×V):=more.foldl (λacc kv=>putK acc kv.1 kv.2) kvs
theorem KV.merge:∀{more:List (Key×V)} {rs:List (Key×Value)} {kvs:List (Key×V)} {vs:List (Key×Value)},KV more rs->KV kvs vs->KV (q1S kvs more) (merged vs rs):=by
 intro more rs kvs vs r;unfold KV at r
 induction r generalizing kvs vs with
 |nil=>intro q;exact q
 | @cons p q ps qs h t ih=>
  intro r0;have e:KV (putK kvs p.1 p.2) (stored vs q.1 q.2):=by
   have:=r0.put p.1 h.2;rw[<-h.1];exact this
  exact ih e
theorem q2j:∀(more kvs:List (Key×V)),(q1S kvs more).length<=kvs.length+more.length
 |[],kvs=>by show kvs.length<=kvs.length+0;lia
 | p::r,kvs=>by
  have h1:=q2j r (putK kvs p.1 p.2);have h2:=q6l kvs p.1 p.2;show(q1S (putK kvs p.1 p.2) r).length<=_;rw[List.length_cons];lia
theorem q4X{P:Program}{w:World}:∀{kvs:List (Key×V)} {ws:List (Value×Value)},VV (kvs.map λkv=>(kV kv.1,kv.2)) ws->∃rs,Carries (q0D P w) ws rs/\KV kvs rs
 |[],_,r=>by rw[List.map_nil] at r;cases r;exact⟨[],True.intro,.nil⟩
 | p::kvs,_,r=>by
  rw[List.map_cons] at r
  cases r with
  | @cons a b as bs h t=>
   obtain⟨rs,c,q⟩:=q4X (P:=P) (w:=w) t;obtain⟨b1,b2⟩:=b;exact⟨(p.1,b2)::rs,⟨kV_is h.1,rfl,c⟩,.cons ⟨rfl,h.2⟩ q⟩
noncomputable def tDisp(trs:List (TE×TE)):TE:=λσ H Q=>∀p,H p=none->tPairs trs σ (upd H p (.dK [])) λps H2=>H2 p=some (.dK [])/\∃kvs:List (Key×V),ps=kvs.map (λkv=>(kV kv.1,kv.2))/\kvs.length<=15/\Q (.ref p) (upd H2 p (.dK (q1S [] kvs)))
theorem pe_disp{keys:List (Option Expr)}{values:List Expr}{trs:List (TE×TE)}(h:PPs X pos keys values trs)(hall:keys.all (·.isSome)=true)(hl:keys.length=values.length)(h0:keys≠[])
  (h15:keys.length<=15):PE X (.Dict keys values pos) (tDisp trs):=by
 intro pins s σ H Q I q;have hn:=I.hok.fresh (Nat.le_refl s.heap.objs.size);have I1:=I.laid (a:=s.heap.objs.size) (o:=.dK []) (h':=s.heap.push {cls:=.type "dict",data:=.dict #[]}) (t':=s.toks) (λ_ _ q=>Heap.get?_push_of_some _ q) (Nat.le_refl _) (dk_empty s.heap I.big);refine wpAny_Dict_walk (knd:=q0D X.prog X.w) hall hl h0 h15 (thn (h pins _ σ _ _ I1 (q _ hn)) λws s2 ⟨ps,H2,I2,rel,e,kvs,ep,lk,q2⟩=>?_);subst ep;obtain⟨rs,c,rk⟩:=q4X (P:=X.prog) (w:=X.w) rel;obtain⟨z,hd,vs0,r0,dd⟩:=dk_of I2.hok e;cases r0;refine⟨rs,c,dd,λh' dd' hs=>⟨.ref s.heap.objs.size,_,?_,rfl,q2⟩⟩;have hz:(q1S [] kvs).length<=sizeLine:=by
  have h1:=q2j kvs [];rw[List.length_nil] at h1;rw[sizeLine_eq];lia
 have he:∃q,h'.get? s.heap.objs.size=some q:=let⟨q,_,_,hq,_⟩:=dd';⟨q,hq⟩;exact d_write I2 (by rw[e];exact True.intro) hs he (dk_new hz hd (rk.merge .nil) dd')
structure M1(X:Cx)(o:Expr)(m:Str)(apos:Pos)(e:Expr)(cpos:Pos):Prop where
 base:attributeBase o m X.env (eval o X.env)=eval o X.env
 few:((backTo cpos (starEach [e] X.env)).all (λx=>!x.1) && (backToKw cpos (keywordEach [] X.env)).all (λx=>x.1.isSome)
  && decide (([e]:List Expr).length+([]:List Keyword).length+(if([]:List Keyword).isEmpty then 0 else 1) < 30))=true
 line:(apos.endLine == cpos.line)=true
 trees:backTo cpos (starEach [e] X.env)=[(false,eval e X.env)]
structure M2(X:Cx)(o:Expr)(m:Str)(apos:Pos)(e f:Expr)(cpos:Pos):Prop where
 base:attributeBase o m X.env (eval o X.env)=eval o X.env
 few:((backTo cpos (starEach [e,f] X.env)).all (λx=>!x.1) && (backToKw cpos (keywordEach [] X.env)).all (λx=>x.1.isSome)
  && decide (([e,f]:List Expr).length+([]:List Keyword).length+(if([]:List Keyword).isEmpty then 0 else 1) < 30))=true
 line:(apos.endLine == cpos.line)=true
 trees:backTo cpos (starEach [e,f] X.env)=[(false,eval e X.env),(false,eval f X.env)]
noncomputable def clOf(env:Env):List (Str×NameKind)->List (Str×Addr)->List (Str×Addr)
 |[],acc=>acc
 |(n,k)::r,acc=>clOf env r (if k == .free then(match env.cells.lookup n with|some c=>(n,c)::acc|none=>acc) else acc)
theorem q3Q{env:Env}{x:Str}{c:Addr}:∀(ns:List (Str×NameKind)) (acc:List (Str×Addr)),(∀x c,acc.lookup x=some c->env.cells.lookup x=some c)->(clOf env ns acc).lookup x=some c->env.cells.lookup x=some c
 |[],acc,h,e=>h x c e
 | (n,k)::r,acc,h,e=>by
  refine q3Q r _ (λy d=>?_) e;split
  ·cases q:env.cells.lookup n with
   |none=>exact h y d
   | some d'=>
    intro z;rw[List.lookup_cons] at z
    cases b:y == n with
    | true=>
     rw[b] at z;have b':y=n:=eq_of_beq b;rw[b',q];exact z
    |false=>rw[b] at z;exact h y d z
  ·exact h y d
theorem q67{env:Env}{x:Str}:∀(ns:List (Str×NameKind)) (acc:List (Str×Addr)),(∃c,acc.lookup x=some c)->∃c,(clOf env ns acc).lookup x=some c
 |[],acc,h=>h
 | (n,k)::r,acc,h=>by
  refine q67 r _ ?_;obtain⟨c,h⟩:=h;split
  ·cases q:env.cells.lookup n with
   |none=>exact⟨c,h⟩
   | some d'=>
    show ∃c,List.lookup x ((n,d')::acc)=some c;rw[List.lookup_cons]
    cases b:x == n with
    |true=>exact⟨d',rfl⟩
    |false=>exact⟨c,h⟩
  ·exact⟨c,h⟩
theorem q7b{env:Env}{x:Str}{c:Addr}(hc:env.cells.lookup x=some c):∀(ns:List (Str×NameKind)) (acc:List (Str×Addr)),(x,NameKind.free)∈ns->∃c,(clOf env ns acc).lookup x=some c
 |[],acc,h=>by cases h
 | (n,k)::r,acc,h=>by
  rcases List.mem_cons.mp h with h|h
  ·cases h
   refine q67 r _ ?_;rw[if_pos (by rfl),hc];exact⟨c,by simp⟩
  ·exact q7b hc r _ h
theorem q14{env:Env}{x:Str}:∀(names:List (Str×NameKind)),
  (names.map λ(n,k)=>if(k == NameKind.free && env.scope.kind == .function && env.kindOf n == some .cell) then(n,NameKind.cell) else(n,k)).lookup x
   = (names.lookup x).map λk=>if(k == NameKind.free && env.scope.kind == .function && env.kindOf x == some .cell) then NameKind.cell else k
 |[]=>rfl
 | (n,k)::r=>by
  have ih:=q14 (env:=env) (x:=x) r;show List.lookup x ((if(k == NameKind.free && env.scope.kind == .function && env.kindOf n == some .cell)=true then(n,NameKind.cell) else(n,k))::_)=_;rw[List.lookup_cons (k:=n)]
  cases hx:x == n with
  | true=>
   have e:x=n:=eq_of_beq hx;subst e;split<;>simp_all [List.lookup_cons]
  | false=>
   split<;>simp only[List.lookup_cons,hx]<;>exact ih
noncomputable def blk(X:Cx)(N':List Str)(scope:Scope)(C:Addr)(s:Shared)(H:Hp)(fp:List Addr):Cx where
 prog:=X.prog
 w:=X.w
 K:=X.K
 mg:=X.mg
 base:=X.base
 A:=X.A
 N:=N'
 s₀:=s
 H₀:=H
 env:=compEnvC scope (clOf X.env scope.names []) C X.env
 outer:=X.stack
 stack:=X.stack
 ex:=fp
 calm:=X.calm
 fn:=λ_=>false
 pn:=[]
 xe:=λ_ _=>False
noncomputable def PTs(X:Cx)(ifs:List Expr)(t:TT):Prop:=
 ∀(pins:List (Addr×Obj)) (s:Shared) (σ:St) (H:Hp) (Q:Bool->Hp->Prop),Inv X pins σ H s->t σ H Q ->
  wpAny (model X.prog X.w) X.A (forIn ifs true λc r=>if r=true then do let ok <-isTrue c X.env (eval c X.env);pure (ForInStep.yield ok) else pure (ForInStep.yield r)) (TP X pins σ Q) X.xe s
noncomputable def tTrue:TT:=λ_ H Q=>Q true H
theorem qq:PTs X [] tTrue:=λ_ _ _ H _ I h=>wpAny_tests_nil ⟨H,I,h⟩
theorem q6V{c:Expr}{t:TT}(h:PT X c t):PTs X [c] t:=λpins s σ H Q I hw=>wpAny_tests_one (h pins s σ H Q I hw)
noncomputable def subSt(σ:St)(ix:List (Option Nat)):St:=ix.map λo=>o.bind λj=>(σ[j]?).join
noncomputable def CompW(J:It)(g:TG)(tc:TT)(te:TE)(τ0:St)(H1:Hp)(acc:Addr)(Q:VK):Prop:=
 ∃W:Nat->Nat->St->List V->Hp->Prop,(∃m,W 0 m τ0 [] (upd H1 acc (.lst [])))/\∀i m τ ys H,W i m τ ys H->H acc=some (.lst ys)/\
  ((J.stop i H/\Q (.ref acc) H)\/(J.go i H/\ys.length < sizeLine/\∀x H',J.yld i H x H'->g x τ H' λτ2 H2=>tc τ2 H2 λb H3=>
   if b=true then te τ2 H3 λy H4=>H4 acc=some (.lst ys)/\∃m',m' < m/\W (i+1) m' τ2 (ys++[y]) (upd H4 acc (.lst (ys++[y]))) else ∃m',m' < m/\W (i+1) m' τ2 ys H3))
noncomputable def q6F(wi:TI)(g:TG)(tc:TT)(te:TE)(ix:List (Option Nat)):TE:=λσ H Q=>wi σ H λJ H1=>∀acc,H1 acc=none->CompW J g tc te (subSt σ ix) H1 acc Q
theorem comp_loop{prog:Program}{R:Result->Shared->Prop}{elt target iter:Expr}{ifs:List Expr}{scope:Scope}{pos:Pos}{it acc:Value}{env:Env}(I:Nat->Shared->Prop)
  (turn:∀n s,I n s->wpAny (model prog w) A (pyNext it) (λr s₁=>match r with
   |none=>R (.ok .next) s₁
   | some v=>wpAny (model prog w) A (letOwnedTupleGo target it v) (λ_ s₀=>wpAny (model prog w) A (assign target env v) (λ_ s₂=>
     wpAny (model prog w) A (forIn ifs true λc r=>if r=true then do let ok <-isTrue c env (eval c env);pure (ForInStep.yield ok) else pure (ForInStep.yield r)) (λok s₃=>
      if ok=true then wpAny (model prog w) A (eval elt env) (λx s₄=>
       wpAny (model prog w) A (call (.builtin "list.append") [acc,x]) (λ_ s₅=>∃m,m < n/\I m s₅) (λ_ _=>False) s₄) (λ_ _=>False) s₃
      else ∃m,m < n/\I m s₃) (λ_ _=>False) s₂) (λ_ _=>False) s₀) (λ_ _=>False) s₁) (λ_ _=>False) s)
  (n:Nat)(h:I n s):
  codeAny (model prog w) A (.compLoop (.ListComp elt [⟨target,iter,ifs,0⟩] scope pos) 0 it acc env) R s:=by
 refine codeAny_loop rfl I (λn s hI=>?_) n h;show wpAny _ A ((compTurn (.ListComp elt [⟨target,iter,ifs,0⟩] scope pos) 0 it acc env).onRaise (λx=>do noteFrame x env;theTreesLotGoes x)) _ _ s;refine wpAny_noted ?_;rw[compTurn_list];refine wpAny_bind (wpAny_standAt (wpAny_bind (wpAny_mono (turn n s hI) (λr s₁ h₁=>?_) λ_ _ z=>z.elim)))
 cases r with
 |none=>exact wpAny_pure h₁
 | some v=>
  refine wpAny_bind (wpAny_mono h₁ (λ_ s₀ h₀'=>?_) λ_ _ z=>z.elim);refine wpAny_bind (wpAny_mono h₀' (λ_ s₂ h₂=>wpAny_bind (wpAny_mono h₂ (λok s₃ h₃=>?_) λ_ _ z=>z.elim)) λ_ _ z=>z.elim)
  cases ok with
  |false=>exact wpAny_pure ⟨rfl,h₃⟩
  | true=>
   exact wpAny_bind (wpAny_bind (wpAny_mono h₃ (λx s₄ h₄=>wpAny_bind (wpAny_mono h₄ (λ_ s₅ h₅=>wpAny_pure (wpAny_pure ⟨rfl,h₅⟩)) λ_ _ z=>z.elim)) λ_ _ z=>z.elim))
section
variable {X:Cx}{elt tg iter:Expr}{ifs:List Expr}{scope:Scope}{pos:Pos}{wi:TI}{g:TG}{tc:TT}{te:TE}{N':List Str}{ix:List (Option Nat)}
theorem q6A{h₁:Heap}{fp:List Addr}{m:Str->Option Value}
  (hkind:scope.kind = .function)(hcell:∀y∈scope.names,y.2≠.cell)
  (hfr:∀y∈scope.names,y.2 = .free->X.env.kindOf y.1=some .cell\/X.env.kindOf y.1=some .free)
  (hlen:ix.length=N'.length)
  (hix:∀(i j:Nat) (x:Str),ix[i]?=some (some j)->N'[i]?=some x->X.N[j]?=some x/\scope.names.lookup x=some .free)
  (I:Inv X pins σ H s)(hf:∀b∈fp,FpOk X pins H b)(hob:∀b∈fp,∃o,s.heap.get? b=some o)
  (hn:h₁.Ns s.heap.objs.size m)(hk:∀b o,s.heap.get? b=some o->h₁.get? b=some o):
  Inv (blk X N' scope s.heap.objs.size s H fp) [] (subSt σ ix) H {s with heap:=h₁,toks:=t'}:=by
 have kinds:∀x,scope.names.lookup x=some .free->(relabel scope X.env).names.lookup x=some .cell\/(relabel scope X.env).names.lookup x=some .free:=λx e=>by
  have q:=q14 (env:=X.env) (x:=x) scope.names;rw[e] at q;show List.lookup x (scope.names.map _)=_\/List.lookup x (scope.names.map _)=_;rw[q];simp only[Option.map_some];split
  ·exact .inl rfl
  ·exact .inr rfl
 have kinds':∀x,((relabel scope X.env).names.lookup x=some .cell\/(relabel scope X.env).names.lookup x=some .free)->scope.names.lookup x=some .free:=λx e=>by
  have q:=q14 (env:=X.env) (x:=x) scope.names
  have e':List.lookup x (scope.names.map λ(n,k)=>if(k == NameKind.free && X.env.scope.kind == .function && X.env.kindOf n == some .cell) then(n,NameKind.cell) else(n,k))=some .cell \/
   List.lookup x (scope.names.map λ(n,k)=>if(k == NameKind.free && X.env.scope.kind == .function && X.env.kindOf n == some .cell) then(n,NameKind.cell) else(n,k))=some .free:=e
  rw[q] at e'
  cases z:scope.names.lookup x with
  |none=>rw[z] at e';rcases e' with e'|e'<;>simp at e'
  | some k=>
   rw[z] at e';simp only[Option.map_some,Option.some.injEq] at e'
   cases k with
   |free=>rfl
   |cell=>exact absurd rfl (hcell _ (PySem.mem_of_lookup z))
   | _=>
    rcases e' with e'|e'
    ·simp at e'
    ·simp at e'
 have sub:∀x c,(clOf X.env scope.names []).lookup x=some c->X.env.cells.lookup x=some c:=λx c e=>q3Q scope.names [] (λ_ _ z=>by simp at z) e
 have has:∀x,scope.names.lookup x=some .free->∃c,(clOf X.env scope.names []).lookup x=some c:=λx e=>by
  obtain⟨c,hc⟩:=I.ok.has x (hfr (x,.free) (PySem.mem_of_lookup e) rfl);exact q7b hc scope.names [] (PySem.mem_of_lookup e)
 have cellK:∀c v,s.heap.IsCell c v->h₁.IsCell c v:=λc v ⟨o,ho,hd⟩=>⟨o,hk c o ho,hd⟩
 refine⟨⟨I.ok.mod,hkind,I.ok.glob,I.ok.blt,Nat.le_refl _,λx y c h1 h2=>I.ok.inj x y c (sub x c h1) (sub y c h2),λx hx=>has x (kinds' x hx),λx c z _=>Bool.noConfusion z,I.ok.hd,I.ok.frames,.inl rfl,λb hb=>?_,λb o e=>⟨(I.bs b o e).1,(I.bs b o e).2⟩,
  Nat.le_trans I.ok.bsz I.sz,λb o e hb=>?_,λb hb hz=>?_,I.stack,I.stkFree⟩,rfl,I.bare,Un.kept hk,⟨m,hn,λi x v h1 h2 h3=>?_⟩,λx c e=>?_,?_,λx c e=>I.freeC x c (sub x c e),λp hp=>absurd (show p∈([]:List (Addr×Obj)) from hp) (by simp),I.hok.kept hk,?_⟩
 ·obtain⟨o,ho⟩:=hob b hb
  exact⟨Nat.ne_of_lt (Heap.lt_size ho),λx c e=>(hf b hb).2.2.2.2.1 x c (sub x c e)⟩
 ·obtain⟨_,_,_,f3,_⟩:=hf b hb
  rcases f3 with z|z
  ·exact I.ok.noex b o e z
  ·exact absurd (Nat.lt_of_lt_of_le (Heap.lt_size (I.ok.bs b o e).1) z) (Nat.lt_irrefl _)
 ·obtain⟨_,f1,f2,_⟩:=hf b hb
  rcases List.mem_cons.mp (I.stkSub b hz) with z|z
  ·exact f1 z
  ·exact f2 z
 ·-- a name of the block: a free one
  have h2':(ix[i]?.map λo:Option Nat=>o.bind λj=>(σ[j]?).join)=some (some v):=by rw[<-List.getElem?_map];exact h2
  cases q:ix[i]? with
  |none=>rw[q] at h2';cases h2'
  | some o=>
   rw[q] at h2'
   cases o with
   |none=>cases h2'
   | some j=>
    have h2'':(σ[j]?).join=some v:=by simpa using h2'
    have hj:σ[j]?=some (some v):=by
     cases z:σ[j]? with
     |none=>rw[z] at h2'';cases h2''
     |some y=>rw[z] at h2'';simp at h2'';rw[h2'']
    obtain⟨e1,e2⟩:=hix i j x q h1;obtain⟨m',hn',hl⟩:=I.loc;have kk:=hfr (x,.free) (PySem.mem_of_lookup e2) rfl;have vis:Vis X.env.scope x:=by
     rcases kk with z|z
     ·exact .inr (.inl z)
     ·exact .inr (.inr z)
    obtain⟨u,r,lk⟩:=hl j x v e1 hj vis;refine⟨u,r,.inr ⟨kinds x e2,?_⟩⟩;rcases lk with⟨z,_⟩|⟨_,c,hc,hv⟩
    ·rcases kk with z'|z'<;>(rw[z] at z';cases z')
    ·obtain⟨c',hc'⟩:=has x e2
     have:c'=c:=by
      have:=sub x c' hc';rw[hc] at this;exact(Option.some.inj this).symm
     subst this;exact⟨c',hc',cellK _ _ hv⟩
 ·obtain⟨v,z⟩:=I.cell x c (sub x c e)
  exact⟨v,cellK c v z⟩
 ·exact I.hok.fresh (Nat.le_refl _)
 ·show(ix.map _).length=N'.length
  rw[List.length_map,hlen]
theorem Inv.letgo(I:Inv X pins σ H s)(f:FpOk X pins H C)(sb:Heap.SameBut C s.heap h'):Inv X pins σ H {s with heap:=h'}:=by
 have ne:∀b,b∉[C]->b≠C:=λb hb z=>hb (by rw[z];exact List.mem_singleton.mpr rfl)
 have U:Un (frs X.stack) [C] H H s.heap h':=⟨λb o e _ _ hx=>(sb.2 b (ne b hx)).trans e,λb o e _ _ hx=>⟨o.slots,(sb.2 b (ne b hx)).trans e⟩,λ_ _ _ n _=>n,λb o e hx=>⟨o,(sb.2 b (ne b hx)).trans e⟩,λ_ _ z=>z,λ_ _ _ z=>z,λ_ ps z=>⟨#[],by rw[Array.append_empty];exact z⟩⟩
 have hok:HOk X.prog X.w H h':=λb ob e=>by
  refine(I.hok b ob e).stay (λc w' hc z=>(sb.2 c ?_).trans z) (λ_ z=>z) λ_ _ z=>z;rintro rfl;rcases hc with rfl|hc
  ·rw[f.1] at e;cases e
  ·rw[f.1] at hc;cases hc
 exact I.call' (s':={s with heap:=h'}) (ch:=[C]) rfl U hok I.bare (λb hb=>by
  obtain rfl:=List.mem_singleton.mp hb
  exact⟨f.2.2.2.1,f.2.1,f.2.2.2.2.1,f.2.2.2.2.2⟩)
theorem q66{ipos:Pos}{use:Option (Value->Sem Unit)}{QQ:Value->Shared->Prop}{Q:VK}(hc:X.calm=true)(hkind:scope.kind = .function)(hcell:∀y∈scope.names,y.2≠.cell)(hnames:∀y∈scope.names,y.2 = .local->scope.names.lookup y.1=some .local)
  (hfr:∀y∈scope.names,y.2 = .free->X.env.kindOf y.1=some .cell\/X.env.kindOf y.1=some .free)
  (hclos:closureFor scope X.env=pure (clOf X.env scope.names []))
  (hlen:ix.length=N'.length)
  (hix:∀(i j:Nat) (x:Str),ix[i]?=some (some j)->N'[i]?=some x->X.N[j]?=some x/\scope.names.lookup x=some .free)
  (hi:PI X tg iter wi)(hg:∀C s H fp,PG (blk X N' scope C s H fp) tg g)(ht:∀C s H fp,PTs (blk X N' scope C s H fp) ifs tc)(he:∀C s H fp,PE (blk X N' scope C s H fp) elt te)
  (hs:∀x,foldedSetIterable iter X.env x=pure x)(I:Inv X pins σ H s)(h:q6F wi g tc te ix σ H Q)
  (post:∀(a C:Addr) (H':Hp) (s6:Shared) (m':Str->Option Value),Inv X pins σ H' s6->FpOk X pins H' C->s6.heap.Ns C m'->Q (.ref a) H'->compPost (model X.prog X.w) X.A X.xe use QQ (.ref a) C (.ok .next) s6):
  wpAny (model X.prog X.w) X.A (comprehension (.ListComp elt [⟨tg,iter,ifs,0⟩] scope pos) scope X.env ipos (newList []) false (eval iter X.env) use) QQ X.xe s:=by
 refine wpAny_comprehension_free (use:=use) rfl hs hclos hkind hnames ?_;refine thn (hi pins s σ H _ I h) λv s1 h1=>thn h1 λitv s2 h2=>?_;obtain⟨it,fp,tn,J,H2,e,I2,T,st2,f2,q2⟩:=h2;subst e;have hfresh:H2 s2.heap.objs.size=none:=I2.hok.fresh (Nat.le_refl _);obtain⟨W,⟨m0,w0⟩,turn⟩:=q2 s2.heap.objs.size hfresh;refine wpAny_newObj_type (wpAny_newFunctionEnv hcell (by intro y hy;simp at hy) (λh₁ hns₁ hsb₁=>?_) hkind);dsimp only at hns₁ hsb₁ ⊢;generalize hP:s2.heap.push {cls:=.type "list",dict:=none,data:=.seq ([]:List Value).toArray}=P3 at hns₁ hsb₁ ⊢;have hPs:P3.objs.size=s2.heap.objs.size+1:=by rw[<-hP,Heap.size_push]
 have up3:∀b o,s2.heap.get? b=some o->P3.get? b=some o:=λb o e=>by rw[<-hP];exact Heap.get?_push_of_some _ e
 have I3:Inv X pins σ (upd H2 s2.heap.objs.size (.lst [])) {s2 with heap:=P3}:=by
  refine I2.laid (t':=s2.toks) up3 (Nat.le_refl _) ?_;refine⟨by show 0<=sizeLine;exact Nat.zero_le _,[],0,.nil,?_⟩;rw[<-hP];exact Heap.get?_push_size _ rfl
 have old:∀b o,P3.get? b=some o->h₁.get? b=some o:=λb o e=>hsb₁.extBut b o (Nat.ne_of_lt (Heap.lt_size e)) (Heap.get?_push_of_some _ e)
 have hob:∀b∈fp,∃o,P3.get? b=some o:=λb hb=>by
  obtain⟨o,ho,_⟩:=T.obj _ _ st2 b hb;exact⟨o,up3 b o ho⟩
 have f3:∀b∈fp,FpOk X pins (upd H2 s2.heap.objs.size (.lst [])) b:=λb hb=>by
  obtain⟨o,ho,_⟩:=T.obj _ _ st2 b hb;refine⟨?_,(f2 b hb).2⟩;rw[qG (Nat.ne_of_lt (Heap.lt_size ho))];exact(f2 b hb).1
 have I4:=q6A (t':=s2.toks+([]:List (Str×Value)).length) (ix:=ix) (N':=N') hkind hcell hfr hlen hix I3 f3 hob hns₁ old;have st4:tn 0 h₁:=T.keep _ _ _ st2 λb hb o e=>old b o (up3 b o e)
 have fpok:∀{H':Hp},(∀b∈fp,H' b=none)->∀b∈fp,FpOk (blk X N' scope P3.objs.size {s2 with heap:=P3} (upd H2 s2.heap.objs.size (.lst [])) fp) [] H' b:=λhn b hb=>by
  obtain⟨o,ho⟩:=hob b hb;obtain⟨_,f1,f2',f3',f4,f5⟩:=f3 b hb;refine⟨hn b hb,Nat.ne_of_lt (Heap.lt_size ho),λhz=>?_,.inl hb,λx c e=>f4 x c (q3Q scope.names [] (λ_ _ z=>by simp at z) e),λp hp=>absurd (show p∈([]:List (Addr×Obj)) from hp) (by simp)⟩;rcases List.mem_cons.mp (I3.stkSub b hz) with z|z
  ·exact f1 z
  ·exact f2' z
 have fin:∀{τ:St} {H':Hp} {s6:Shared},Inv (blk X N' scope P3.objs.size {s2 with heap:=P3} (upd H2 s2.heap.objs.size (.lst [])) fp) [] τ H' s6->Q (.ref s2.heap.objs.size) H' ->
   compPost (model X.prog X.w) X.A X.xe use QQ (.ref s2.heap.objs.size) P3.objs.size (.ok .next) s6:=λ{τ H' s6} J q=>by
  obtain⟨m',hn',_⟩:=id J.loc;have U0:Un (frs X.stack) fp H2 (upd H2 s2.heap.objs.size (.lst [])) s2.heap P3:=Un.laid up3 (Nat.le_refl _) hfresh;have U1:Un (frs X.stack) fp H2 H' s2.heap s6.heap:=U0.trans J.base;exact post _ _ H' s6 m' (I2.call' (s':=s6) (ch:=fp) J.os U1 J.hok J.bare (λb hb=>⟨(f2 b hb).2.2.2.1,(f2 b hb).2.1,(f2 b hb).2.2.2.2.1,(f2 b hb).2.2.2.2.2⟩)) (I2.fpOk (by rw[hPs];exact Nat.le_succ _) J.free) hn' q
 have loop:codeAny (model X.prog X.w) X.A (.compLoop (.ListComp elt [⟨tg,iter,ifs,0⟩] scope pos) 0 (.ref it) (.ref s2.heap.objs.size) (compEnvC scope (clOf X.env scope.names []) P3.objs.size X.env))
   (compPost (model X.prog X.w) X.A X.xe use QQ (.ref s2.heap.objs.size) P3.objs.size) {s2 with heap:=h₁,toks:=s2.toks+([]:List (Str×Value)).length}:=by
  refine comp_loop (λn s'=>∃i τ ys H',Inv (blk X N' scope P3.objs.size {s2 with heap:=P3} (upd H2 s2.heap.objs.size (.lst [])) fp) [] τ H' s'/\tn i s'.heap/\(∀b∈fp,H' b=none)/\W i n τ ys H') ?_ m0
   ⟨0,_,[],_,I4,st4,λb hb=>(f3 b hb).1,w0⟩
  rintro n s5 ⟨i,τ,ys,H5,I5,st5,fr5,w5⟩;obtain⟨hacc,alt⟩:=turn i n τ ys H5 w5;rcases alt with⟨stop,qn⟩|⟨go,hsz,step⟩
  ·refine thn (T.done (blk X N' scope P3.objs.size {s2 with heap:=P3} (upd H2 s2.heap.objs.size (.lst [])) fp) rfl rfl rfl hc i [] s5 τ H5 (λ_ _=>False) I5 (fpok fr5) st5 stop) λr s6 ⟨hr,I6⟩=>?_
   subst hr;exact fin I6 qn
  ·refine thn (T.item (blk X N' scope P3.objs.size {s2 with heap:=P3} (upd H2 s2.heap.objs.size (.lst [])) fp) rfl rfl rfl hc i [] s5 τ H5 (λ_ _=>False) I5 (fpok fr5) st5 go) λr s6 ⟨u,hr,h6⟩=>?_
   subst hr;refine thn h6 λ_ s7 ⟨x,H7,I7,r7,y7,st7,fr7⟩=>?_;have I7':=I7.pinned (fpok fr7) (T.obj _ _ st7)
   have again:∀{τ9:St} {H9:Hp} {s9:Shared} {ys9:List V} {m9:Nat},Inv (blk X N' scope P3.objs.size {s2 with heap:=P3} (upd H2 s2.heap.objs.size (.lst [])) fp) ([]++q4O fp s7.heap) τ9 H9 s9->m9 < n->W (i+1) m9 τ9 ys9 H9 ->
     ∃m,m < n/\∃i τ ys H',Inv (blk X N' scope P3.objs.size {s2 with heap:=P3} (upd H2 s2.heap.objs.size (.lst [])) fp) [] τ H' s9/\tn i s9.heap/\(∀b∈fp,H' b=none)/\W i m τ ys H':=λ{τ9 H9 s9 ys9 m9} I9 hm w9=>by
    refine⟨m9,hm,i+1,τ9,ys9,H9,I9.unpinned,T.keep _ _ _ st7 λb hb o e=>(I9.pin (b,o) (List.mem_append_right _ (List.mem_append_right _ (q0S hb e)))).1,λb hb=>?_,w9⟩;obtain⟨o,e,d⟩:=T.obj _ _ st7 b hb;exact(I9.pin (b,o) (List.mem_append_right _ (List.mem_append_right _ (q0S hb e)))).2.1
   refine thn (hg P3.objs.size _ _ fp _ s7 τ H7 x u _ I7' r7 (step x H7 y7)) λ_ s8 ⟨τ8,H8,I8,q8⟩=>?_;refine thn (ht P3.objs.size _ _ fp _ s8 τ8 H8 _ I8 q8) λb s9 ⟨H9,I9,q9⟩=>?_
   cases b with
   | false=>
    simp only[Bool.false_eq_true,if_false] at q9 ⊢;obtain⟨m9,hm,w9⟩:=q9;exact again I9 hm w9
   | true=>
    simp only[if_true] at q9 ⊢;refine thn (he P3.objs.size _ _ fp _ s9 τ8 H9 _ I9 q9) λy s10 ⟨yv,H10,I10,r10,ha10,m10,hm,w10⟩=>?_
    refine thn (qx (X:=blk X N' scope P3.objs.size {s2 with heap:=P3} (upd H2 s2.heap.objs.size (.lst [])) fp) _ s10 τ8 H10 (.ref s2.heap.objs.size) [yv] (.ref s2.heap.objs.size) [y] (λ_ H11=>H11=upd H10 s2.heap.objs.size (.lst (ys++[yv]))) I10 rfl (.cons r10 .nil)
     ⟨s2.heap.objs.size,ys,yv,rfl,rfl,ha10,hsz,rfl⟩) λ_ s11 ⟨_,H11,I11,_,e11⟩=>?_
    subst e11;exact again I11 hm w10
 exact codeAny_compStart_list loop (T.self _ 0 _ _ _ st4 loop)
theorem pe_comp(hc:X.calm=true)(hkind:scope.kind = .function)(hcell:∀y∈scope.names,y.2≠.cell)(hnames:∀y∈scope.names,y.2 = .local->scope.names.lookup y.1=some .local)
  (hfr:∀y∈scope.names,y.2 = .free->X.env.kindOf y.1=some .cell\/X.env.kindOf y.1=some .free)
  (hclos:closureFor scope X.env=pure (clOf X.env scope.names []))
  (hlen:ix.length=N'.length)
  (hix:∀(i j:Nat) (x:Str),ix[i]?=some (some j)->N'[i]?=some x->X.N[j]?=some x/\scope.names.lookup x=some .free)
  (hi:PI X tg iter wi)(hg:∀C s H fp,PG (blk X N' scope C s H fp) tg g)(ht:∀C s H fp,PTs (blk X N' scope C s H fp) ifs tc)(he:∀C s H fp,PE (blk X N' scope C s H fp) elt te)
  (hs:∀x,foldedSetIterable iter X.env x=pure x:=by intro _;rfl):PE X (.ListComp elt [⟨tg,iter,ifs,0⟩] scope pos) (q6F wi g tc te ix):=by
 intro pins s σ H Q I h;rw[eval_ListComp];show wpAny _ X.A (comprehension (.ListComp elt [⟨tg,iter,ifs,0⟩] scope pos) scope X.env (firstIterPos [⟨tg,iter,ifs,0⟩] pos) (newList []) false (eval iter X.env) none) _ _ s
 exact q66 (ipos:=firstIterPos [⟨tg,iter,ifs,0⟩] pos) (use:=none) (QQ:=EP X pins σ Q) hc hkind hcell hnames hfr hclos hlen hix hi hg ht he hs I h λa C H' s6 m' I6 f hn q=>⟨m',hn,λh' sb=>⟨.ref a,H',I6.letgo f sb,rfl,q⟩⟩
theorem ps_comp0{y:Str}{py spos:Pos}(hN:X.N.Nodup)(hiN:X.N[i]?=some y)(hy:Loc X.env.scope y)(hc:X.calm=true)(hkind:scope.kind = .function)(hcell:∀y∈scope.names,y.2≠.cell)(hnames:∀y∈scope.names,y.2 = .local->scope.names.lookup y.1=some .local)
  (hfr:∀y∈scope.names,y.2 = .free->X.env.kindOf y.1=some .cell\/X.env.kindOf y.1=some .free)
  (hclos:closureFor scope X.env=pure (clOf X.env scope.names []))
  (hlen:ix.length=N'.length)
  (hix:∀(i j:Nat) (x:Str),ix[i]?=some (some j)->N'[i]?=some x->X.N[j]?=some x/\scope.names.lookup x=some .free)
  (hi:PI X tg iter wi)(hg:∀C s H fp,PG (blk X N' scope C s H fp) tg g)(ht:∀C s H fp,PTs (blk X N' scope C s H fp) ifs tc)(he:∀C s H fp,PE (blk X N' scope C s H fp) elt te)
  (hsw:swapsWith (.ListComp elt [⟨tg,iter,ifs,0⟩] scope pos) (some (.Name y py)) spos.line X.env=pure true:=by rfl)
  (hs:∀x,foldedSetIterable iter X.env x=pure x:=by intro _;rfl)(hf:X.fn y=true\/X.env.scope.names.lookup y=some .local:=by first|exact .inl rfl|exact .inr rfl|assumption):
  PS X (.Assign [.Name y py] (.ListComp elt [⟨tg,iter,ifs,0⟩] scope pos) spos) (tAsg (q6F wi g tc te ix) (gName i)):=by
 intro pins s σ H D I h;rw[exec_Assign_Name_used _ _ _ _ hsw];refine wpAny_bind (wpAny_standAt (wpAny_bind ?_));show wpAny _ X.A (do let _ <-comprehension (.ListComp elt [⟨tg,iter,ifs,0⟩] scope pos) scope X.env (firstIterPos [⟨tg,iter,ifs,0⟩] pos) (newList []) false (eval iter X.env) (some (assign (.Name y py) X.env))) _ _ s;refine wpAny_bind (wpAny_mono (q66 (ipos:=firstIterPos [⟨tg,iter,ifs,0⟩] pos) (use:=some (assign (.Name y py) X.env)) (QQ:=λ_ s'=>SP X pins D .next s') hc hkind hcell hnames hfr hclos hlen hix hi hg ht he hs I h ?_) (λ_ s' hq=>wpAny_pure (wpAny_pure hq)) λ_ _ e=>e);intro a C H' s6 m' I6 f hn q;refine wpAny_assign_Name (q5K I6 hN hiN hy (v:=.ref a) rfl (λs7 I7 sb7=>?_) hf);obtain⟨b,sb,hb⟩:=sb7;have hne:C≠b:=by
  rcases hb with hb|hb
  ·rw[hb];exact f.2.1
  ·exact(f.2.2.2.2.1 y b hb).symm
 exact⟨m',hn.sameBut sb hne,λh' sb'=>⟨_,H',I7.letgo f sb',q⟩⟩
end
section
variable {X:Cx}
noncomputable def rIsi(K:PySem.W.Frag):List V->Hp->VK->Prop:=λxs H Q=>∃x T t b,xs=[x,.ty T]/\TyOf K H x t/\PySem.W.kitOne K t (.type T)=some b/\Q (.bl b) H
theorem q5A:q1C X (.builtin "isinstance") (rIsi X.K):=by
 intro pins s σ H xs us Q I r h;obtain⟨x,T,t,b,rfl,ty,e,q⟩:=h;obtain⟨u,w',rfl,rx,rT⟩:=vals2 r;cases rT
 exact isinst_ok I rx ty e λtk=>⟨.bl b,H,I.tok tk,rfl,q⟩
theorem call_sum(hc:X.calm=true):q1C X (.builtin "sum") (λxs H Q=>∃(p:Addr) (ns:List Int),xs=[.ref p]/\SqL X.K H p (ns.map V.int)/\Q (.int ns.sum) H):=by
 intro pins s σ H xs us Q I r h;obtain⟨p,ns,rfl,hq,q⟩:=h;obtain⟨u,rfl,ru⟩:=q2F r;cases ru;obtain⟨its,rv,pl,_⟩:=I.list hq;have hi:=q29 rv;obtain⟨ys,e⟩:=hi.allInts.items;have hl:=pl.isList;rw[e] at hl
 refine sum_intListG (I.ok.hd hc) hl λh' tk t' hk=>⟨.int ns.sum,H,I.kept hk,⟨t',?_⟩,q⟩
 have hns:ns=ys.toList.map (·.1):=by rw[<-hi.numsOf,<-nums_intItems,<-e]
 rw[preSum_eq,List.take_of_length_le (by simp),hns]
theorem q6j(hc:X.calm=true):q1C X (.builtin "max") (λxs H Q=>∃(p:Addr) (ns:List Int),xs=[.ref p]/\SqL X.K H p (ns.map V.int)/\0 < ns.length/\∀M,M∈ns->(∀a,a∈ns->a<=M)->Q (.int M) H):=by
 intro pins s σ H xs us Q I r h;obtain⟨p,ns,rfl,hq,hne,q⟩:=h;obtain⟨u,rfl,ru⟩:=q2F r;cases ru;obtain⟨its,rv,pl,_⟩:=I.list hq;have hi:=q29 rv;obtain⟨ys,e⟩:=hi.allInts.items;have hl:=pl.isList;rw[e] at hl;have hns:ns=ys.toList.map (·.1):=by rw[<-hi.numsOf,<-nums_intItems,<-e]
 have hsz:0 < ys.size:=by rw[hns,List.length_map,Array.length_toList] at hne;exact hne
 refine max_intList (I.ok.hd hc) hl hsz λv h' tk hv hk=>?_;obtain⟨t,rfl⟩:=intItems_at hv;obtain⟨h1,h2⟩:=argBest_gt (numAt ys) (ys.size-1);refine⟨.int _,H,I.kept hk,⟨t,rfl⟩,q _ ?_ λa ha=>?_⟩
 ·rw[hns,numAt_eq];exact getD_mem (by rw[List.length_map,Array.length_toList];lia)
 ·rw[hns] at ha
  obtain⟨j,hj,rfl⟩:=mem_getD ha;rw[List.length_map,Array.length_toList] at hj;rw[<-numAt_eq];exact h2 j (by lia)
inductive EqD (K:PySem.W.Frag) (H:Hp):Nat->V->V->Bool->Prop
 |flat {x y:V} (fx:flatV x=true) (fy:flatV y=true):EqD K H 0 x y (eqV x y)
 | tup {n:Nat} {a b:Addr} {xs ys:List V} {e:Nat->Bool} (ha:SqT K H a xs) (hb:SqT K H b ys) (h:∀(j:Nat) x y,xs[j]?=some x->ys[j]?=some y->EqD K H n x y (e j)):
   EqD K H (n+1) (.ref a) (.ref b) ((List.range (min xs.length ys.length)).all e && xs.length == ys.length)
 | lst {n:Nat} {a b:Addr} {xs ys:List V} {e:Nat->Bool} (ha:SqL K H a xs) (hb:SqL K H b ys) (hl:xs.length=ys.length) (h:∀(j:Nat) x y,xs[j]?=some x->ys[j]?=some y->EqD K H n x y (e j)):
   EqD K H (n+1) (.ref a) (.ref b) ((List.range xs.length).all e)
 |len {n:Nat} {a b:Addr} {xs ys:List V} (ha:SqL K H a xs) (hb:SqL K H b ys) (hl:xs.length≠ys.length):EqD K H (n+1) (.ref a) (.ref b) false
theorem q48{e:Nat->Bool}(h:∀j,j < n->e j=true):(List.range n).all e=true:=List.all_eq_true.mpr λj hj=>h j (List.mem_range.mp hj)
theorem EqD.same(I:Inv X pins σ H s){n:Nat}{x y:V}{b:Bool}(h:EqD X.K H n x y b):x=y->b=true:=by
 induction h with
 | @flat x y fx fy=>
  rintro rfl;cases x<;>first|rfl|exact beq_self_eq_true _|exact absurd (show false=true from fx) Bool.false_ne_true
 | @tup n a b xs ys e ha hb h ih=>
  intro z;cases z;have q:=I.tuple_inj ha hb;subst q;rw[Bool.and_eq_true];refine⟨q48 λj hj=>?_,beq_self_eq_true _⟩;have hj':j < xs.length:=by lia
  exact ih j xs[j] xs[j] (List.getElem?_eq_getElem hj') (List.getElem?_eq_getElem hj') rfl
 | @lst n a b xs ys e ha hb hl h ih=>
  intro z;cases z;have q:=I.list_inj ha hb;subst q;refine q48 λj hj=>?_;exact ih j xs[j] xs[j] (List.getElem?_eq_getElem hj) (List.getElem?_eq_getElem hj) rfl
 | @len n a b xs ys ha hb hl=>
  intro z;cases z;exact absurd (congrArg List.length (I.list_inj ha hb)) hl
theorem Vals.at{xs:List V}{us:List Value}(r:Vals xs us){j:Nat}(h:j < us.length):∃x,xs[j]?=some x/\RelV x us[j]:=by
 have h':j < xs.length:=by rw[r.length];exact h
 obtain⟨u,e,q⟩:=r.get (List.getElem?_eq_getElem h');rw[List.getElem?_eq_getElem h] at e;cases e;exact⟨_,List.getElem?_eq_getElem h',q⟩
theorem EqD.at{pins:List (Addr×Obj)}{σ:St}{H:Hp}{s:Shared}(I:Inv X pins σ H s){n:Nat}{x y:V}{b:Bool}(h:EqD X.K H n x y b):
  ∀{A:Around} {u v:Value},RelV x u->RelV y v->A.units+n < cLine->SeqAt.EqAt A s u v b:=by
 induction h with
 |@flat x y fx fy=>intro A u v rx ry _;exact eqAt_V rx ry fx fy
 | @tup n a b xs ys e ha hb h ih=>
  intro A u v rx ry hu;cases rx;cases ry;by_cases hab:a=b
  ·have z:=(EqD.tup (n:=n) ha hb h).same I (by rw[hab])
   rw[z,hab];exact SeqAt.EqAt.same _
  ·obtain⟨ia,ra,pa,_⟩:=I.tuple ha
   obtain⟨ib,rb,pb,_⟩:=I.tuple hb
   have q:=SeqAt.RcAt.tuples (A:=A) (e:=e) (show s.heap.IsTuple a ia.toArray from pa) (show s.heap.IsTuple b ib.toArray from pb) (by lia) λj h1 h2=>by
    have h1':j < ia.length:=by simpa using h1
    have h2':j < ib.length:=by simpa using h2
    obtain⟨x,ex,rx⟩:=ra.at h1';obtain⟨y,ey,ry⟩:=rb.at h2';have:=ih j x y ex ey (A:=A.in1) (u:=ia[j]) (v:=ib[j]) rx ry (by show A.units+1+n < cLine;lia);simpa using this
   have la:=ra.length;have lb:=rb.length;have q':=SeqAt.EqAt.of_refs hab q;simpa[la,lb] using q'
 | @lst n a b xs ys e ha hb hl h ih=>
  intro A u v rx ry hu;cases rx;cases ry;by_cases hab:a=b
  ·have z:=(EqD.lst (n:=n) ha hb hl h).same I (by rw[hab])
   rw[z,hab];exact SeqAt.EqAt.same _
  ·obtain⟨ia,ra,pa,_⟩:=I.list ha
   obtain⟨ib,rb,pb,_⟩:=I.list hb;have la:=ra.length;have lb:=rb.length
   have q:=SeqAt.RcAt.lists (A:=A) (e:=e) pa.isList pb.isList (by simp;lia) (by lia) λj h1 h2=>by
    have h1':j < ia.length:=by simpa using h1
    have h2':j < ib.length:=by simpa using h2
    obtain⟨x,ex,rx⟩:=ra.at h1';obtain⟨y,ey,ry⟩:=rb.at h2';have:=ih j x y ex ey (A:=A.in1) (u:=ia[j]) (v:=ib[j]) rx ry (by show A.units+1+n < cLine;lia);simpa using this
   have q':=SeqAt.EqAt.of_refs hab q;simpa[la,lb] using q'
 | @len n a b xs ys ha hb hl=>
  intro A u v rx ry hu;cases rx;cases ry;have hab:a≠b:=λz=>by subst z;exact hl (congrArg List.length (I.list_inj ha hb))
  obtain⟨ia,ra,pa,_⟩:=I.list ha;obtain⟨ib,rb,pb,_⟩:=I.list hb;have la:=ra.length;have lb:=rb.length;exact SeqAt.EqAt.of_refs hab (SeqAt.RcAt.lists_lengths pa.isList pb.isList (by simp;lia) (by lia))
noncomputable def rEqD(K:PySem.W.Frag)(neg:Bool):R2:=λx y H Q=>∃n b,EqD K H (n+1) x y b/\n<=50/\Q (.bl (if neg then !b else b)) H
theorem op_eqD{k:Nat}(hr:Room k X.A):OpR X (compareOp .Eq) (rEqD X.K false):=by
 intro pins s σ H x y v u Q I rx ry h;obtain⟨n,b,h,hn,q⟩:=h;have hu:=hr.units;have fin:∀{b:Bool} {u v:Value},SeqAt.RcAt X.A s u v b->Q (.bl b) H->wpAny (model X.prog X.w) X.A (compareOp .Eq u v) (EP X pins σ Q) X.xe s:=λ{b _ _} z q=>z _ _ _ _ ⟨.bl b,H,I,rfl,q⟩
 cases h with
 | @tup n a b xs ys e ha hb h=>
  cases rx;cases ry;obtain⟨ia,ra,pa,_⟩:=I.tuple ha;obtain⟨ib,rb,pb,_⟩:=I.tuple hb;have la:=ra.length;have lb:=rb.length;refine fin (SeqAt.RcAt.tuples (A:=X.A) (e:=e) (show s.heap.IsTuple a ia.toArray from pa) (show s.heap.IsTuple b ib.toArray from pb) (by lia) λj h1 h2=>?_) (by simpa[la,lb] using q);have h1':j < ia.length:=by simpa using h1
  have h2':j < ib.length:=by simpa using h2
  obtain⟨x,ex,rx⟩:=ra.at h1';obtain⟨y,ey,ry⟩:=rb.at h2';have:=(h j x y ex ey).at I (A:=X.A.in1) (u:=ia[j]) (v:=ib[j]) rx ry (by show X.A.units+1+n < cLine;lia);simpa using this
 | @lst n a b xs ys e ha hb hl h=>
  cases rx;cases ry;obtain⟨ia,ra,pa,_⟩:=I.list ha;obtain⟨ib,rb,pb,_⟩:=I.list hb;have la:=ra.length;have lb:=rb.length;refine fin (SeqAt.RcAt.lists (A:=X.A) (e:=e) pa.isList pb.isList (by simp;lia) (by lia) λj h1 h2=>?_) (by simpa[la,lb] using q);have h1':j < ia.length:=by simpa using h1
  have h2':j < ib.length:=by simpa using h2
  obtain⟨x,ex,rx⟩:=ra.at h1';obtain⟨y,ey,ry⟩:=rb.at h2';have:=(h j x y ex ey).at I (A:=X.A.in1) (u:=ia[j]) (v:=ib[j]) rx ry (by show X.A.units+1+n < cLine;lia);simpa using this
 | @len n a b xs ys ha hb hl=>
  cases rx;cases ry;obtain⟨ia,ra,pa,_⟩:=I.list ha;obtain⟨ib,rb,pb,_⟩:=I.list hb;have la:=ra.length;have lb:=rb.length;exact fin (SeqAt.RcAt.lists_lengths pa.isList pb.isList (by simp;lia) (by lia)) (by simpa using q)
theorem op_neD{k:Nat}(hr:Room k X.A):OpR X (compareOp .NotEq) (rEqD X.K true):=by
 intro pins s σ H x y v u Q I rx ry h;obtain⟨n,b,h,hn,q⟩:=h;have hu:=hr.units;have fin:∀{b:Bool} {u v:Value},SeqAt.RcNeAt X.A s u v b->Q (.bl b) H->wpAny (model X.prog X.w) X.A (compareOp .NotEq u v) (EP X pins σ Q) X.xe s:=λ{b _ _} z q=>z _ _ _ _ ⟨.bl b,H,I,rfl,q⟩
 cases h with
 | @tup n a b xs ys e ha hb h=>
  cases rx;cases ry;obtain⟨ia,ra,pa,_⟩:=I.tuple ha;obtain⟨ib,rb,pb,_⟩:=I.tuple hb;have la:=ra.length;have lb:=rb.length;refine fin (SeqAt.RcNeAt.tuples (A:=X.A) (e:=e) (show s.heap.IsTuple a ia.toArray from pa) (show s.heap.IsTuple b ib.toArray from pb) (by lia) λj h1 h2=>?_) (by simpa[la,lb] using q);have h1':j < ia.length:=by simpa using h1
  have h2':j < ib.length:=by simpa using h2
  obtain⟨x,ex,rx⟩:=ra.at h1';obtain⟨y,ey,ry⟩:=rb.at h2';have:=(h j x y ex ey).at I (A:=X.A.in1) (u:=ia[j]) (v:=ib[j]) rx ry (by show X.A.units+1+n < cLine;lia);simpa using this
 | @lst n a b xs ys e ha hb hl h=>
  cases rx;cases ry;obtain⟨ia,ra,pa,_⟩:=I.list ha;obtain⟨ib,rb,pb,_⟩:=I.list hb;have la:=ra.length;have lb:=rb.length;refine fin (SeqAt.RcNeAt.lists (A:=X.A) (e:=e) pa.isList pb.isList (by simp;lia) (by lia) λj h1 h2=>?_) (by simpa[la,lb] using q);have h1':j < ia.length:=by simpa using h1
  have h2':j < ib.length:=by simpa using h2
  obtain⟨x,ex,rx⟩:=ra.at h1';obtain⟨y,ey,ry⟩:=rb.at h2';have:=(h j x y ex ey).at I (A:=X.A.in1) (u:=ia[j]) (v:=ib[j]) rx ry (by show X.A.units+1+n < cLine;lia);simpa using this
 | @len n a b xs ys ha hb hl=>
  cases rx;cases ry;obtain⟨ia,ra,pa,_⟩:=I.list ha;obtain⟨ib,rb,pb,_⟩:=I.list hb;have la:=ra.length;have lb:=rb.length;exact fin (SeqAt.RcNeAt.lists_lengths pa.isList pb.isList (by simp;lia) (by lia)) (by simpa using q)
end
section
variable {X:Cx}{a b c d:Expr}{ta tb tc td:TE}{pos:Pos}
noncomputable def tChain3(r r' r'':R2)(ta tb tc td:TE):TE:=λσ H Q=>ta σ H λx H1=>tb σ H1 λy H2=>r x y H2 λz H3=>∃k,z = .bl k/\
 (if k=true then tc σ H3 λw' H4=>r' y w' H4 λz' H5=>∃k',z' = .bl k'/\(if k'=true then td σ H5 λw'' H6=>r'' w' w'' H6 Q else Q (.bl false) H5) else Q (.bl false) H3)
theorem pe_chain3{op op' op'':CmpOp}{r r' r'':R2}(ho:OpR X (compareOp op) r)(ho':OpR X (compareOp op') r')(ho'':OpR X (compareOp op'') r'')(ha:PE X a ta)(hb:PE X b tb)(hc:PE X c tc)(hd:PE X d td)
  (hm:lastMarks [op,op',op''] [b,c,d]=false:=by with_unfolding_all rfl):PE X (.Compare a [op,op',op''] [b,c,d] pos) (tChain3 r r' r'' ta tb tc td):=by
 intro pins s σ H Q I h
 refine Compare_chain (thn (ha pins s σ H _ I h) λv s1 ⟨x,H1,I1,r1,q1⟩=>chain_link (thn (hb pins s1 σ H1 _ I1 q1) λu s2 ⟨y,H2,I2,r2,q2⟩=>
  thn (ho pins s2 σ H2 x y v u _ I2 r1 r2 q2) λd s3 ⟨z,H3,I3,r3,k,e,q3⟩=>?_)) hm
 subst e;cases r3;refine wpAny_truthy_bool ?_
 cases k with
 |false=>exact ite_ff ⟨.bl false,H3,I3,rfl,q3⟩
 | true=>
  refine ite_tt (chain_link (thn (hc pins s3 σ H3 _ I3 q3) λw' s4 ⟨z',H4,I4,r4,q4⟩=>thn (ho' pins s4 σ H4 y z' u w' _ I4 r2 r4 q4) λd' s5 ⟨z2,H5,I5,r5,k',e',q5⟩=>?_));subst e';cases r5;refine wpAny_truthy_bool ?_
  cases k' with
  |false=>exact ite_ff ⟨.bl false,H5,I5,rfl,q5⟩
  |true=>exact ite_tt (chain_last (thn (hd pins s5 σ H5 _ I5 q5) λw'' s6 ⟨z3,H6,I6,r6,q6⟩=>ho'' pins s6 σ H6 z' z3 w' w'' Q I6 r4 r6 q6))
end
structure Def(P:Program)(w:World)(K:PySem.W.Frag)(mg:Str->Option Value)(base:Heap)(k:Nat)(x:Str)(ps:List Str)(sp:Sp):Prop where
 ex:∃(f:Addr) (fd:FuncData),FnOk P w K mg base CX0 k f fd ps sp/\Binds K fd ps []/\PySem.W.keepIn K (.ref f)=true/\mg x=some (.ref f)
theorem Def.mono{P:Program}{w:World}{K:PySem.W.Frag}{mg:Str->Option Value}{base:Heap}{j k:Nat}{x:Str}{ps:List Str}{sp:Sp}(D:Def P w K mg base j x ps sp)(h:j<=k):Def P w K mg base k x ps sp:=by
 obtain⟨f,fd,F,b,kp,m⟩:=D.ex;exact⟨f,fd,F.mono h,b,kp,m⟩
theorem qI{k:Nat}{p pos:Pos}{e:Expr}(D:Def X.prog X.w X.K X.mg X.base k x ps sp)(hr:Room k X.A)(hg:Gl X x)(ha:PA X (e::es) t)
  (hdb:(x == ("__debug__" : Str))=false:=by decide)(he:starEach (e::es) X.env=(false,eval e X.env)::starEach es X.env:=by rfl)(hpl:(backTo pos (starEach es X.env)).any (·.1)=false:=by rfl):PE X (.Call (.Name x p) (e::es) [] pos) (q7m sp [] E0 t):=by
 obtain⟨f,fd,F,b,kp,m⟩:=D.ex;exact q6W F hr hg m kp b .nil pass0 ha hdb he hpl
structure Blt(mg:Str->Option Value):Prop where
 len_:mg "len" = none
 range_:mg "range" = none
 isinstance_:mg "isinstance" = none
 int_:mg "int" = none
 bool_:mg "bool" = none
 tuple_:mg "tuple" = none
 list_:mg "list" = none
 sum_:mg "sum" = none
 abs_:mg "abs" = none
 min_:mg "min" = none
 max_:mg "max" = none
 zip_:mg "zip" = none
 enumerate_:mg "enumerate" = none
 all_:mg "all" = none
 str_:mg "str" = none
noncomputable def okCell(ns:List (Str×NameKind)):Bool:=ns.all λy=>(y.2 != .cell) && (y.2 != .local ||ns.lookup y.1 == some .local)
noncomputable def okFree(fs ns:List (Str×NameKind)):Bool:=ns.all λy=>y.2 != .free ||(fs.lookup y.1 == some .cell ||fs.lookup y.1 == some .free)
noncomputable def okIx(N XN:List Str)(ns:List (Str×NameKind))(ix:List (Option Nat)):Bool:=(List.range ix.length).all λi=>match ix[i]?,N[i]? with
 |some (some j),some x=>XN[j]? == some x && ns.lookup x == some .free
 |_,_=>true
theorem q6f{XN:List Str}{ns:List (Str×NameKind)}{ix:List (Option Nat)}(h:okIx N XN ns ix=true)(i j:Nat)(x:Str)(h1:ix[i]?=some (some j))(h2:N[i]?=some x):XN[j]?=some x/\ns.lookup x=some .free:=by
 have hi:i < ix.length:=by
  obtain⟨q,_⟩:=List.getElem?_eq_some_iff.mp h1;exact q
 have q:=List.all_eq_true.mp h i (List.mem_range.mpr hi);rw[h1,h2] at q;simp only[Bool.and_eq_true,beq_iff_eq] at q;exact q
section
variable {X:Cx}{elt tg iter:Expr}{ifs:List Expr}{scope:Scope}{pos:Pos}{wi:TI}{g:TG}{tc:TT}{te:TE}{N':List Str}{ix:List (Option Nat)}
theorem q18(hc:X.calm=true)(hkind:scope.kind = .function)(h1:okCell scope.names=true)(h2:okFree X.env.scope.names scope.names=true)
  (hclos:closureFor scope X.env=pure (clOf X.env scope.names []))(hlen:ix.length=N'.length)(h3:okIx N' X.N scope.names ix=true)
  (hi:PI X tg iter wi)(hg:∀C s H fp,PG (blk X N' scope C s H fp) tg g)(ht:∀C s H fp,PTs (blk X N' scope C s H fp) ifs tc)(he:∀C s H fp,PE (blk X N' scope C s H fp) elt te)
  (hs:∀x,foldedSetIterable iter X.env x=pure x:=by intro _;rfl):PE X (.ListComp elt [⟨tg,iter,ifs,0⟩] scope pos) (q6F wi g tc te ix):=by
 refine pe_comp hc hkind (λy hy=>?_) (λy hy hl=>?_) (λy hy hf=>?_) hclos hlen (q6f h3) hi hg ht he hs
 ·have q:=List.all_eq_true.mp h1 y hy
  simp only[Bool.and_eq_true,bne_iff_ne,ne_eq] at q;exact q.1
 ·have q:=List.all_eq_true.mp h1 y hy
  rw[hl] at q;simp only[Bool.and_eq_true,Bool.or_eq_true,bne_self_eq_false,Bool.false_eq_true,false_or,beq_iff_eq] at q;exact q.2
 ·have q:=List.all_eq_true.mp h2 y hy
  rw[hf] at q;simp only[Bool.or_eq_true,bne_self_eq_false,Bool.false_eq_true,false_or,beq_iff_eq] at q;exact q
theorem ps_lc{y:Str}{py spos:Pos}(hN:X.N.Nodup)(hiN:X.N[i]?=some y)(hy:Loc X.env.scope y)(hc:X.calm=true)(hkind:scope.kind = .function)(h1:okCell scope.names=true)(h2:okFree X.env.scope.names scope.names=true)
  (hclos:closureFor scope X.env=pure (clOf X.env scope.names []))(hlen:ix.length=N'.length)(h3:okIx N' X.N scope.names ix=true)
  (hi:PI X tg iter wi)(hg:∀C s H fp,PG (blk X N' scope C s H fp) tg g)(ht:∀C s H fp,PTs (blk X N' scope C s H fp) ifs tc)(he:∀C s H fp,PE (blk X N' scope C s H fp) elt te)
  (hsw:swapsWith (.ListComp elt [⟨tg,iter,ifs,0⟩] scope pos) (some (.Name y py)) spos.line X.env=pure true:=by rfl)
  (hs:∀x,foldedSetIterable iter X.env x=pure x:=by intro _;rfl)(hf:X.fn y=true\/X.env.scope.names.lookup y=some .local:=by first|exact .inl rfl|exact .inr rfl|assumption):
  PS X (.Assign [.Name y py] (.ListComp elt [⟨tg,iter,ifs,0⟩] scope pos) spos) (tAsg (q6F wi g tc te ix) (gName i)):=by
 refine ps_comp0 hN hiN hy hc hkind (λy hy=>?_) (λy hy hl=>?_) (λy hy hf=>?_) hclos hlen (q6f h3) hi hg ht he hsw hs hf
 ·have q:=List.all_eq_true.mp h1 y hy
  simp only[Bool.and_eq_true,bne_iff_ne,ne_eq] at q;exact q.1
 ·have q:=List.all_eq_true.mp h1 y hy
  rw[hl] at q;simp only[Bool.and_eq_true,Bool.or_eq_true,bne_self_eq_false,Bool.false_eq_true,false_or,beq_iff_eq] at q;exact q.2
 ·have q:=List.all_eq_true.mp h2 y hy
  rw[hf] at q;simp only[Bool.or_eq_true,bne_self_eq_false,Bool.false_eq_true,false_or,beq_iff_eq] at q;exact q
end
theorem ifD{c A B:Prop}{_:Decidable c}(h1:c->A)(h2:¬c->B):if decide c=true then A else B:=by
 by_cases h:c
 ·rw[if_pos (decide_eq_true h)];exact h1 h
 ·rw[if_neg (by rw[decide_eq_true_iff];exact h)];exact h2 h
theorem ifN{c A B:Prop}{_:Decidable c}(h1:¬c->A)(h2:c->B):if(!decide c)=true then A else B:=by
 by_cases h:c
 ·rw[decide_eq_true h];exact iteF (h2 h)
 ·rw[decide_eq_false h];exact iteT (h1 h)
theorem q7Y{i:Int}:decide (V.int i=V.int j)=decide (i=j):=by
 by_cases h:i=j
 ·subst h;simp
 ·rw[decide_eq_false h,decide_eq_false (λz=>h (V.int.inj z))]
theorem ifI{i:Int}{A B:Prop}(h1:i=j->A)(h2:i≠j->B):if decide (V.int i=V.int j)=true then A else B:=by
 rw[q7Y];exact ifD h1 h2
theorem ifIN{i:Int}{A B:Prop}(h1:i≠j->A)(h2:i=j->B):if(!decide (V.int i=V.int j))=true then A else B:=by
 rw[q7Y];exact ifN h1 h2
theorem Same.new{p:Addr}(h:H p=none)(o:HO):Same H (upd H p o):=λb u q=>by rw[qG (qJ q h)];exact q
theorem Same.upd{H H':Hp}{p:Addr}{o:HO}(e:Same H H')(h:H p=none):Same H (upd H' p o):=λb u q=>by rw[qG (qJ q h)];exact e b u q
theorem q4Y{ns:List Int}{k:Int}(h0:0<=k)(h:k < (ns.length:Int)):atI (ns.map V.int) k=some (.int (ns.getD k.toNat 0)):=by
 have hk:k.toNat < ns.length:=by lia
 have ek:k=((k.toNat:Nat):Int):=by lia
 have q:atI (ns.map V.int) ((k.toNat:Nat):Int)=some (.int (ns.getD k.toNat 0)):=qi (by rw[List.getElem?_map,List.getElem?_eq_getElem hk,List.getD_eq_getElem?_getD,List.getElem?_eq_getElem hk]<;>rfl);rw[<-ek] at q;exact q
theorem cDiv{i:Int}(h:(decide (0 < j) && decide (j < 1073741824))=true):CDiv i j:=by
 simp only[Bool.and_eq_true,decide_eq_true_eq] at h;exact h
theorem cMulL{i:Int}(h:(decide (-(2 ^ 64) < i) && decide (i < 2 ^ 64))=true):CMul i j:=by
 simp only[Bool.and_eq_true,decide_eq_true_eq] at h;exact .inl h
theorem cPos(h:decide (0 < j)=true):0 < j:=of_decide_eq_true h
theorem seqU{t u:TS}(I:St->Hp->Prop)(tail:∀σ' H',I σ' H'->u D σ' H')(h:∀R:St->Hp->Prop,(∀σ' H',I σ' H'->R σ' H')->t {D with nx:=R} σ H):tSeq t u D σ H:=h (u D) tail
theorem ifJ{c:Prop}{_:Decidable c}{t:TS}(I:St->Hp->Prop)(tail:∀σ' H',I σ' H'->D.nx σ' H')(h0:¬c->I σ H)(hA:∀R:St->Hp->Prop,(∀σ' H',I σ' H'->R σ' H')->c->t {D with nx:=R} σ H):
  if decide c=true then t D σ H else tNext D σ H:=by
 by_cases h:c
 ·rw[if_pos (decide_eq_true h)];exact hA D.nx tail h
 ·rw[if_neg (by rw[decide_eq_true_iff];exact h)];exact tail _ _ (h0 h)
theorem small(h:n<=100000):n < sizeLine:=Nat.lt_of_le_of_lt h (by decide)
section
variable {X:Cx}{N':List Str}{scope:Scope}{C:Addr}{s:Shared}{H:Hp}{fp:List Addr}{pos:Pos}
theorem q51:IxR (blk X N' scope C s H fp) (rIxL X.K):=ix_list
end
section
variable {K:PySem.W.Frag}
theorem kit_ii:PySem.W.kitOne K (.type "int") (.type "int")=some true:=by kernel_rfl
theorem kit_ib:PySem.W.kitOne K (.type "int") (.type "bool")=some false:=by kernel_rfl
theorem kit_tt:PySem.W.kitOne K (.type "tuple") (.type "tuple")=some true:=by kernel_rfl
end
noncomputable def Nx(n i:Nat)(P:Prop):Prop:=∃m',m' < n-i/\m'=n-(i+1)/\i+1<=n/\P
theorem Nx.mk{P:Prop}(h:i < n)(p:P):Nx n i P:=⟨n-(i+1),by lia,rfl,h,p⟩
theorem qp{J:It}{g:TG}{tc:TT}{te:TE}{τ0:St}{Q:VK}{acc:Addr}(Pv:Nat->St->List V->Hp->Prop)(h0:Pv 0 τ0 [] (upd H1 acc (.lst [])))(hn:n<=100000)
  (hacc:∀i τ zs H,Pv i τ zs H->H acc=some (.lst zs)/\zs.length<=i)(hgo:∀i τ zs H,i < n->Pv i τ zs H->J.go i H)(hstop:∀τ zs H,Pv n τ zs H->J.stop n H/\Q (.ref acc) H)
  (hs:∀i τ zs H x H',i < n->Pv i τ zs H->J.yld i H x H'->g x τ H' λτ2 H2=>tc τ2 H2 λb H3=>if b=true then te τ2 H3 λy H4=>H4 acc=some (.lst zs)/\Nx n i (Pv (i+1) τ2 (zs++[y]) (upd H4 acc (.lst (zs++[y])))) else Nx n i (Pv (i+1) τ2 zs H3)):
  CompW J g tc te τ0 H1 acc Q:=by
 refine⟨λi m τ ys H=>m=n-i/\i<=n/\Pv i τ ys H,⟨n,by simp,Nat.zero_le _,h0⟩,?_⟩;rintro i m τ ys H ⟨rfl,hi,p⟩;obtain⟨ha,hl⟩:=hacc i τ ys H p;refine⟨ha,?_⟩;by_cases hlt:i < n
 ·exact .inr ⟨hgo i τ ys H hlt p,small (by lia),λx H' y=>hs i τ ys H x H' hlt p y⟩
 ·have e:i=n:=by lia
  subst e;exact .inl (hstop τ ys H p)
section
variable {X:Cx}
theorem q47:∀{bs:List Bool} {us:List Value},Vals (bs.map V.bl) us->PyProof.Rows.LSm.BoolsAre us bs
 |[],_,.nil=>.nil
 | b::bs,_,.cons r t=>by
  cases(show _=Value.bool b from r);exact .cons b (q47 t)
theorem q5B(hc:X.calm=true):q1C X (.builtin "all") (λxs H Q=>∃(p:Addr) (bs:List Bool),xs=[.ref p]/\SqL X.K H p (bs.map V.bl)/\Q (.bl (bs.all id)) H):=by
 intro pins s σ H xs us Q I r h;obtain⟨p,bs,rfl,hq,q⟩:=h;obtain⟨u,rfl,ru⟩:=q2F r;cases ru;obtain⟨vs,rv,pl,_⟩:=I.list hq;have hb:=q47 rv;have hl:=pl.isList;have hlt:p < s.heap.objs.size:=by obtain⟨_,e,_⟩:=hl;exact Heap.lt_size e
 refine call_all_walk (wpAny_pyIter_list hl ?_)
 refine⟨s.heap.objs.size,[s.heap.objs.size,p],[s.heap.objs.size],vs.toArray.size,_,_,λi=>(bs[i]?).getD true,rfl,Walks.list (A:=X.A.in1) (I.ok.hd hc) _ p (Nat.ne_of_lt hlt) vs.toArray,
  ⟨⟨_,Heap.get?_push_size _ rfl,rfl,rfl⟩,hl.push _⟩,λi v s' Q' E' hP hQ=>?_,λh' tk hk=>?_⟩
 ·obtain⟨b,e,rfl⟩:=hb.get i v (by simpa using hP)
  simp only[e,Option.getD_some] at hQ;exact wpAny_truthy_bool hQ
 ·have e:((List.range vs.toArray.size).all λi=>(bs[i]?).getD true)=bs.all id:=by
   rw[List.size_toArray,hb.length];exact PyProof.Rows.LSm.range_all bs
  rw[e];exact⟨.bl _,H,I.kept (PyProof.Rows.LSm.kept_iter hk),rfl,q⟩
end
noncomputable def Itd(hi:Int)(n:Nat):It:=⟨λi _=>i < n,λi H x H'=>H'=H/\x = .int (hi-i),λi _=>n<=i⟩
theorem turn_down(it:Addr)(hi:Int)(n:Nat):Turn P w K tg (Itd hi n) [it] it (λi h=>IsRangeIter h it (hi+(i:Nat)*(-1)) ((n:Int)-(i:Nat)) (-1)) where
 mem:=by simp
 obj:=λi h st b hb=>by
  have e:b=it:=by simpa using hb
  subst e
  exact⟨_,st,λv z=>by
   have z':Data.fields _=Data.cell v:=z
   cases z'⟩
 keep:=λi h h' st k=>k it (by simp) _ st
 item:=by
  intro X hP hw hK hc i pins s σ H E I hf st hg;subst hP hw hK;obtain⟨f0,f1,f2,f3,f4,f5⟩:=hf it (by simp);have W:=Walks.range (prog:=X.prog) (w:=X.w) (I.ok.hd hc) it hi (-1) n;refine W.item i s _ _ hg st λv h' tk hv st' kk=>?_;obtain⟨t,rfl⟩:=hv;have I1:Inv X pins σ H {s with heap:=h',toks:=tk}:=I.turned (λb o hb e=>kk b o (by simpa using hb) e) f0 f1 f3 f4 f5;refine⟨_,rfl,q89 (s:={s with heap:=h',toks:=tk}) (n:="range_iterator") st' rfl rfl (by decide) ⟨.int (hi-i),H,I1,⟨t,?_⟩,⟨rfl,rfl⟩,st',λb hb=>(hf b hb).1⟩⟩
  congr 1
  lia
 done:=by
  intro X hP hw hK hc i pins s σ H E I hf st hg;subst hP hw hK;obtain⟨f0,f1,f2,f3,f4,f5⟩:=hf it (by simp)
  exact wpAny_pyNext_range_end (I.ok.hd hc) st (by have:n<=i:=hg;lia) λh' eb=>⟨rfl,I.turned (t':=s.toks) (λb o hb e=>eb b o hb e) f0 f1 f3 f4 f5⟩
 self:=λ_ _ _ _ _ st h=>wpAny_pyIter_rangeiter st h
theorem q5V(a b:Int):Builtin.Range.rangeSize a b (-1)=((a-b).toNat:Int):=by
 unfold Builtin.Range.rangeSize;rw[if_neg (by decide)];split<;>simp<;>lia
theorem q7n{a b:Int}(ha : -(2 ^ 62)<=a)(ha':a < 2 ^ 62)(hb : -(2 ^ 62)<=b)(hb':b < 2 ^ 62):Builtin.Range.small a b (-1)=true:=by
 unfold Builtin.Range.small;rw[q5V];simp only[Builtin.Range.rangeFitsLong,Bool.and_eq_true,Bool.or_eq_true,decide_eq_true_eq,beq_iff_eq,show¬(-1:Int) > 0 by decide,if_false]
 lia
section
variable {X:Cx}{tg:Expr}
theorem range_itd{R:It->Hp->Prop}{lo hi:Int}{t u v:Tok}{tk:Nat}(I:Inv X pins σ H s)(h1 : -(2 ^ 62)<=lo)(h2:lo < 2 ^ 62)(h3 : -(2 ^ 62)<=hi)(h4:hi < 2 ^ 62)
  (q:R (Itd hi (hi-lo).toNat) H):wpAny (model X.prog X.w) X.A (pyIter (.ref s.heap.objs.size)) (PIE X pins σ tg R) E {s with heap:=s.heap.push {cls:=.type "range",data:=.fields #[.int hi t,.int lo u,.int (-1) v]},toks:=tk}:=by
 refine wpAny_pyIter_range (IsRange.new ..) (q7n h3 h4 h1 h2) ?_;have I1:Inv X pins σ H {s with heap:=s.heap.push {cls:=.type "range",data:=.fields #[.int hi t,.int lo u,.int (-1) v]},toks:=tk}:=I.kept λb o e=>Heap.get?_push_of_some _ e
 refine⟨(s.heap.push {cls:=.type "range",data:=.fields #[.int hi t,.int lo u,.int (-1) v]}).objs.size,[(s.heap.push {cls:=.type "range",data:=.fields #[.int hi t,.int lo u,.int (-1) v]}).objs.size],_,_,H,rfl,
  I1.kept (t':=tk) λb o e=>Heap.get?_push_of_some _ e,turn_down _ hi (hi-lo).toNat,?_,λb hb=>?_,q⟩
 ·have e1:hi+((0:Nat):Int)*(-1)=hi:=by simp
  have e2:(((hi-lo).toNat:Nat):Int)-((0:Nat):Int)=Builtin.Range.rangeSize hi lo (-1):=by rw[q5V];simp
  show IsRangeIter _ _ (hi+((0:Nat):Int)*(-1)) ((((hi-lo).toNat:Nat):Int)-((0:Nat):Int)) (-1);rw[e1,e2];exact Heap.get?_push_size _ rfl
 ·have e:b=(s.heap.push {cls:=.type "range",data:=.fields #[.int hi t,.int lo u,.int (-1) v]}).objs.size:=by simpa using hb
  subst e;exact I1.fpOk (Nat.le_refl _) (I1.hok.fresh (Nat.le_refl _))
noncomputable def iRng3(ta:TA):TI:=λσ H R=>ta σ H λvs H1=>∃i j:Int,vs=[.int i,.int j,.int (-1)]/\(-(2 ^ 62)<=i/\i < 2 ^ 62/\-(2 ^ 62)<=j/\j < 2 ^ 62)/\R (Itd i (i-j).toNat) H1
theorem q3l{a b c:Expr}{ta:TA}{p pos:Pos}(hg:Gl X "range")(hm:X.mg "range" = none)(ha:PA X [a,b,c] ta)(hs:starEach [a,b,c] X.env=[(false,eval a X.env),(false,eval b X.env),(false,eval c X.env)]:=by rfl)(hs2:starEach [b,c] X.env=[(false,eval b X.env),(false,eval c X.env)]:=by rfl):
  PI X tg (.Call (.Name "range" p) [a,b,c] [] pos) (iRng3 ta):=by
 intro pins s σ H R I h;refine Call_ (q3D I hg hm boot_range (PyProof.Rows.callWith_type1 (thn (ha pos pins s σ H _ I h) λus s1 ⟨vs,H1,I1,r1,q1⟩=>?_) (by rw[hs,hs2]) (by rw[hs2];rfl)));obtain⟨i,j,e,⟨q1,q2,q3,q4⟩,q⟩:=q1;subst e
 cases r1 with
 | cons r rr=>
  cases rr with
  | cons r' rr=>
   cases rr with
   | cons r'' rr=>
    cases rr;obtain⟨t,rfl⟩:=r;obtain⟨t',rfl⟩:=r';obtain⟨t'',rfl⟩:=r'';exact call_range_3 (by decide) (range_itd I1 q3 q4 q1 q2 q) (Or.inl (PyProof.noPylong_small (by lia)))
end
theorem q53{hi:Int}{g:TG}{tb:TS}(Pv:Nat->St->Hp->Prop)(h0:Pv 0 σ H)
  (hs:∀i σ H,i < n->Pv i σ H->g (.int (hi-i)) σ H λσ2 H2=>tb {D with nx:=Pv (i+1),ct:=Pv (i+1),bk:=D.nx} σ2 H2)(hd:∀σ H,Pv n σ H->D.nx σ H):
  ∃W:Nat->Nat->St->Hp->Prop,(∃m,W 0 m σ H)/\∀i m σ H,W i m σ H ->
   ((Itd hi n).stop i H/\D.nx σ H)\/((Itd hi n).go i H/\∃N:St->Hp->Prop,(∀σ' H',N σ' H'->∃m',m' < m/\W (i+1) m' σ' H')/\∀x H',(Itd hi n).yld i H x H'->g x σ H' λσ2 H2=>tb {D with nx:=N,ct:=N,bk:=D.nx} σ2 H2):=by
 refine⟨λi m σ H=>m=n-i/\i<=n/\Pv i σ H,⟨n,by simp,Nat.zero_le _,h0⟩,?_⟩;rintro i m σ H ⟨rfl,hi',p⟩;by_cases hlt:i < n
 ·refine .inr ⟨hlt,Pv (i+1),λσ' H' p'=>⟨n-(i+1),by lia,rfl,hlt,p'⟩,?_⟩
  rintro x H' ⟨rfl,rfl⟩;exact hs i σ H' hlt p
 ·have e:i=n:=by lia
  subst e;exact .inl ⟨Nat.le_refl _,hd σ H p⟩
open PySem.W
section
variable {X:Cx}{e st:Expr}{te ts:TE}{pos p2:Pos}
noncomputable def tRev(K:PySem.W.Frag)(te ts:TE):TE:=λσ H Q=>te σ H λx H1=>ts σ H1 λy H2=>∃a xs,x = .ref a/\y = .int (-1)/\SqL K H2 a xs/\∀p,H2 p=none->Q (.ref p) (upd H2 p (.lst xs.reverse))
theorem pe_rev(he:PE X e te)(hst:PE X st ts):PE X (.Subscript e (.Slice none none (some st) p2) pos) (tRev X.K te ts):=by
 intro pins s σ H Q I h;refine Subscript_ (thn (he pins s σ H _ I h) λv s1 ⟨x,H1,I1,r1,q1⟩=>?_);refine wpAny_Slice ?_;rw[evalPart_none];refine wpAny_pure ?_;refine wpAny_pure ?_;rw[evalPart_some];refine thn (hst pins s1 σ H1 _ I1 q1) λvs s3 ⟨y,H3,I3,r3,q3⟩=>?_;obtain⟨a,xs,rfl,rfl,hx,q⟩:=q3;obtain⟨t,rfl⟩:=r3;cases r1;have I4:Inv X pins σ H3 {s3 with heap:=s3.heap.push {cls:=.type "slice",data:=.fields #[.none,.none,.int (-1) t]}}:=I3.kept (t':=s3.toks) λb ob q=>Heap.get?_push_of_some _ q;show wpAny (model X.prog X.w) X.A (subscriptTail e (.Slice none none (some st) p2) (.ref a) (.ref s3.heap.objs.size)) (EP X pins σ Q) X.xe {s3 with heap:=s3.heap.push {cls:=.type "slice",data:=.fields #[.none,.none,.int (-1) t]}};obtain⟨its,r,ht,hz⟩:=I4.list hx;have hlen:=r.length;refine tail_any (ops:=[.ref a,.ref s3.heap.objs.size]) ht.isList.typeIs slot_list_getitem.lookup ?_ (by with_unfolding_all rfl);refine wpAny_getItem_list_slice ht.isList (Heap.IsSliceOf.new ..) .none .none (.int (-1) t) (by simp) ?_ (by rw[List.size_toArray]<;>lia);rw[krv_pick];refine⟨.ref _,_,I4.laid (t':=s3.toks) (o:=.lst xs.reverse) (λb ob q=>Heap.get?_push_of_some _ q) (Nat.le_refl _) ?_,rfl,q _ (I4.hok.fresh (Nat.le_refl _))⟩;exact⟨by rw[List.length_reverse];exact hz,_,0,r.reverse,Heap.get?_push_size _ rfl⟩
end
open PySem.SeqAt
theorem Un.fly{fs:List Addr}{h1 h2:Heap}(U:Un fs [] H H' h h1)(kp:∀b o,h.get? b=some o->H b=none->b∉fs->h2.get? b=some o)
  (sl:∀b∈fs,∀o,h1.get? b=some o->∃z,h2.get? b=some {o with slots:=z})(th:∀b o,h.get? b=some o->b∉fs->∃o',h2.get? b=some o'):Un fs [] H H' h h2 where
 keep:=λb o e n hb _=>kp b o e n hb
 slot:=λb o e n hb hx=>by
  obtain⟨z,e1⟩:=U.slot b o e n hb hx;obtain⟨z2,e2⟩:=sl b hb _ e1;exact⟨z2,e2⟩
 free:=U.free
 there:=λb o e hx=>by
  by_cases hb:b∈fs
  ·obtain⟨o',e1⟩:=U.there b o e hx
   obtain⟨z,e2⟩:=sl b hb o' e1;exact⟨_,e2⟩
  ·exact th b o e hb
 tups:=U.tups
 frzs:=U.frzs
 tbls:=U.tbls
theorem ObjOk.here{o:HO}(x:ObjOk P w H h a o):∃ob,h.get? a=some ob:=by
 cases o with
 |lst xs=>obtain⟨_,_,_,_,e⟩:=x;exact⟨_,e⟩
 |tup xs=>obtain⟨_,_,_,ob,e,_⟩:=x;exact⟨_,e⟩
 |dK kvs=>obtain⟨_,_,_,_,o,_,_,e,_⟩:=x;exact⟨_,e⟩
 |dT kvs=>obtain⟨_,_,_,_,o,_,_,e,_⟩:=x;exact⟨_,e⟩
 |set S n=>obtain⟨o,_,_,_,e,_⟩:=x;exact⟨_,e⟩
 |ins C dx fs=>obtain⟨_,_,_,e,_⟩:=x;exact⟨_,e⟩
 |own y=>obtain⟨_,e⟩:=x;exact⟨_,e⟩
 |xd fs=>obtain⟨_,⟨_,_,_,e,_⟩,_⟩:=x;exact⟨_,e⟩
 |rng lo hi=>obtain⟨_,_,_,e⟩:=x;exact⟨_,e⟩
 |frz ob u=>obtain⟨e,_⟩:=x;exact⟨_,e⟩
 |tbl ps=>exact⟨_,(show h.get? a=some _ from x)⟩
 |met f y=>exact⟨_,(show h.get? a=some _ from x)⟩
 |ext φ=>obtain⟨_,⟨_,e⟩,_⟩:=x;exact⟨_,e⟩
structure Aloft(P:Program)(w:World)(outer:List Env)(H:Hp)(s:Shared)(C:Value)(a:Addr)(a0:Value)(B:Heap)(H':Hp)(s':Shared):Prop where
 fl:Heap.FlyingW B outer a C a0 s'.heap
 os:s'.os=s.os
 bare:AllBare s'.gens
 hok:HOk P w H' B
 un:Un (frs outer) [] H H' s.heap s'.heap
 old:∀b o,s.heap.get? b=some o->H b=none->b∉frs outer->B.get? b=some o
 has:∀b o,s.heap.get? b=some o->b∉frs outer->∃o',B.get? b=some o'
 fresh:H' a=none/\a∉frs outer/\s.heap.get? a=none
noncomputable def CXE(P:Program)(w:World):CXT:=λouter H s E e s'=>∃C a a0 B H',e = .ref a/\Aloft P w outer H s C a a0 B H' s'/\E C none H'
theorem q00{b:Addr}(h:b∈frs outer):b∈frs (env::outer):=by
 unfold frs at h ⊢;rw[List.filterMap_cons]
 cases env.frame with
 |none=>exact h
 |some L=>exact List.mem_cons_of_mem _ h
theorem q7V{b:Addr}(hf:env.frame=some L)(h:b∈frs (env::outer)):b=L\/b∈frs outer:=by
 unfold frs at h ⊢;rw[List.filterMap_cons,hf] at h;exact List.mem_cons.mp h
section
variable {P:Program}{w:World}{outer:List Env}{H H':Hp}{s s':Shared}{C a0:Value}{a:Addr}{B:Heap}
theorem Aloft.on{h2:Heap}(F:Aloft P w outer H s C a a0 B H' s')(g:Heap.FlyingW B outer a C a0 h2)(u:s'.heap.UpToSlots h2):Aloft P w outer H s C a a0 B H' {s' with heap:=h2}:=
 ⟨g,F.os,F.bare,F.hok,F.un.fly (λb o e n hb=>g.1 b o (F.old b o e n hb)) (λb hb o e=>by
  obtain⟨_,o1,e1,d1⟩:=F.fl.2.2.1.mem hb;rw[e] at e1;cases e1
  exact u b o e d1) λb o e hb=>by
   obtain⟨o',e1⟩:=F.has b o e hb
   exact⟨o',g.1 b o' e1⟩,F.old,F.has,F.fresh⟩
end
section
variable {P:Program}{w:World}{K:PySem.W.Frag}{mg:Str->Option Value}{base:Heap}{N:List Str}{qual:Str}{scope:Scope}{f:Addr}{cd:Value}{A:Around}{outer:List Env}{s:Shared}{H:Hp}{E:XK}
theorem qz:q0Y (CXE P w) (cxOf (CXE P w) P w K mg base N qual scope f cd A outer s H E) E:=by
 rintro pins σ H1 s1 e s' I ⟨C,a,a0,B,H',rfl,F,q⟩;have hf:(envOfC qual scope s.heap.objs.size f cd).frame=some s.heap.objs.size:=rfl;have F:Aloft P w (envOfC qual scope s.heap.objs.size f cd::outer) H1 s1 C a a0 B H' s':=F;have ub:Un (frs outer) [] H H1 s.heap s1.heap:=I.base
 have nl:∀b o,s.heap.get? b=some o->b∉frs outer->b∉frs (envOfC qual scope s.heap.objs.size f cd::outer):=λb o e n z=>by
  rcases q7V hf z with z|z
  ·rw[z] at e;exact absurd (Heap.lt_size e) (Nat.lt_irrefl _)
  ·exact n z
 show wpAny _ _ (leaving _ _) _ _ s';refine wpAny_leaves_onW (base:=B) (outer:=outer) (L:=s.heap.objs.size) (cls:=C) (a0:=a0) I.ok.frames rfl F.fl λh2 g u=>?_;refine⟨C,a,a0,B,H',rfl,⟨g,F.os.trans I.os,F.bare,F.hok,?_,λb o e n hb=>?_,λb o e hb=>?_,F.fresh.1,λz=>F.fresh.2.1 (q00 z),?_⟩,q⟩
 ·have t:Un (frs (envOfC qual scope s.heap.objs.size f cd::outer)) [] H H' s.heap s'.heap:=(ub.mono (λb hb=>q00 hb) λ_ z=>z).trans F.un
  refine⟨λb o e n hb hx=>?_,λb o e n hb hx=>?_,t.free,λb o e hx=>?_,t.tups,t.frzs,t.tbls⟩
  ·exact g.1 b o (F.old b o (ub.keep b o e n hb hx) (ub.free b o e n hx) (nl b o e hb))
  ·obtain⟨z,e1⟩:=t.slot b o e n (q00 hb) hx
   obtain⟨_,o1,e2,d1⟩:=F.fl.2.2.1.mem (q00 hb);rw[e1] at e2;cases e2;obtain⟨z2,e3⟩:=u b _ e1 d1;exact⟨z2,e3⟩
  ·by_cases hb:b∈frs outer
   ·obtain⟨_,o1,e1,d1⟩:=F.fl.2.2.1.mem (q00 hb)
    obtain⟨z2,e3⟩:=u b _ e1 d1;exact⟨_,e3⟩
   ·obtain⟨o1,e1⟩:=ub.there b o e hx
    obtain⟨o2,e2⟩:=F.has b o1 e1 (nl b o e hb);exact⟨o2,g.1 b o2 e2⟩
 ·exact F.old b o (ub.keep b o e n hb (by simp)) (ub.free b o e n (by simp)) (nl b o e hb)
 ·obtain⟨o1,e1⟩:=ub.there b o e (by simp)
  exact F.has b o1 e1 (nl b o e hb)
 ·cases z:s.heap.get? a with
  |none=>rfl
  | some o=>
   obtain⟨o1,e1⟩:=ub.there a o z (by simp);rw[F.fresh.2.2] at e1;cases e1
theorem madeE{C:Value}{vs:List Value}(I:Inv (cxOf (CXE P w) P w K mg base N qual scope f cd A outer s H E) pins σ H1 s1)
  (hx:Heap.MadeExcOf s1.heap h' e C vs)(q:E C none H1):(cxOf (CXE P w) P w K mg base N qual scope f cd A outer s H E).xe (.ref e) {s1 with heap:=h'}:=by
 have hf:(envOfC qual scope s.heap.objs.size f cd).frame=some s.heap.objs.size:=rfl;have ub:Un (frs outer) [] H H1 s.heap s1.heap:=I.base
 have nl:∀b o,s.heap.get? b=some o->b∉frs outer->b∉frs (envOfC qual scope s.heap.objs.size f cd::outer):=λb o e n z=>by
  rcases q7V hf z with z|z
  ·rw[z] at e;exact absurd (Heap.lt_size e) (Nat.lt_irrefl _)
  ·exact n z
 have st:s1.heap.FunFrames base (envOfC qual scope s.heap.objs.size f cd::outer):=I.stack
 have tr:∀b u,H1 b=some u->b∉frs (envOfC qual scope s.heap.objs.size f cd::outer):=λb u e z=>by
  have:=I.stkFree b z;rw[e] at this;cases this
 have ne:s1.heap.get? e=none:=hx.new
 have nfr:e∉frs (envOfC qual scope s.heap.objs.size f cd::outer):=λz=>by
  obtain⟨_,o,e1,_⟩:=st.mem z;rw[ne] at e1;cases e1
 have hf2:s1.heap.FunFrames (hideAll s1.heap (frs (envOfC qual scope s.heap.objs.size f cd::outer))) (envOfC qual scope s.heap.objs.size f cd::outer):=
  funFrames_hide st λenv he a ha=>List.mem_filterMap.mpr ⟨env,he,ha⟩
 show wpAny _ _ (leaving _ _) _ _ _;refine wpAny_leaves_madeW (base:=hideAll s1.heap (frs (envOfC qual scope s.heap.objs.size f cd::outer))) (h:=s1.heap) (outer:=outer) (L:=s.heap.objs.size) (cls:=C) (args:=vs) I.ok.frames rfl (λb o z=>of_hideAll _ z) hf2 hx λh2 t g _ _ u=>?_;have u2:s1.heap.UpToSlots h2:=(Heap.UpToSlots.of_keeps hx.keeps).trans u;refine⟨C,e,.ref t,_,H1,rfl,⟨g,I.os,I.bare,λb u e=>?_,?_,λb o e n hb=>hideAll_get _ (ub.keep b o e n hb (by simp)) (nl b o e hb),λb o e hb=>?_,?_,λz=>nfr (q00 z),?_⟩,q⟩
 ·refine(I.hok b u e).stay (λc v hc z=>hideAll_get _ z ?_) (λ_ z=>z) λ_ _ z=>z
  rcases hc with hc|hc
  ·rw[hc];exact tr b u e
  ·exact tr c _ hc
 ·refine ub.fly (λb o e n hb=>g.1 b o (hideAll_get _ (ub.keep b o e n hb (by simp)) (nl b o e hb))) (λb hb o e=>?_) λb o e hb=>?_
  ·obtain⟨_,o1,e1,d1⟩:=st.mem (q00 hb)
   rw[e] at e1;cases e1;exact u2 b o e d1
  ·obtain⟨o1,e1⟩:=ub.there b o e (by simp)
   exact⟨o1,g.1 b o1 (hideAll_get _ e1 (nl b o e hb))⟩
 ·obtain⟨o1,e1⟩:=ub.there b o e (by simp)
  exact⟨o1,hideAll_get _ e1 (nl b o e hb)⟩
 ·cases z:H1 e with
  |none=>rfl
  | some u=>
   obtain⟨o1,e1⟩:=(I.hok e u z).here;rw[ne] at e1;cases e1
 ·cases z:s.heap.get? e with
  |none=>rfl
  | some o=>
   obtain⟨o1,e1⟩:=ub.there e o z (by simp);rw[ne] at e1;cases e1
end
open PySem.Builtin PySem.Builtin.Getset_descriptor PySem.Builtin.ObjectAttr PySem.Calls
noncomputable def Thr(X:Cx)(E:XK):Prop:=∀(pins:List (Addr×Obj)) (σ:St) (H1:Hp) (s1:Shared) (C:Value) (e:Addr) (vs:List Value) (h':Heap),Inv X pins σ H1 s1->Heap.MadeExcOf s1.heap h' e C vs->E C none H1->X.xe (.ref e) {s1 with heap:=h'}
theorem thrE{cd:Value}{E:XK}:
  Thr (cxOf (CXE P w) P w K mg base N qual scope f cd A outer s H E) E:=λ_ _ _ _ _ _ _ _ I hx q=>madeE I hx q
noncomputable def tRaise(C:Value)(E:XK)(t:TA):TS:=λ_ σ H=>t σ H λvs H1=>vs.length<=sizeLine/\E C none H1
theorem q07{E:XK}{B newId initId:String}{bm:List Value}{np cpos pos:Pos}{e:Expr}(hT:Thr X E)(hc:X.calm=true)(O:OwnCls x C bm newId X.mg X.base)(FB:ExcBaseFacts B newId initId bm)
  (hg:Gl X x)(ha:PA X (e::es) t)(he:starEach (e::es) X.env=(false,eval e X.env)::starEach es X.env:=by rfl)(hpl:(backTo cpos (starEach es X.env)).any (·.1)=false:=by rfl)(hd:(x == ("__debug__" : Str))=false:=by decide):
  PS X (.Raise (some (.Call (.Name x np) (e::es) [] cpos)) none pos) (tRaise (.ref C) E t):=by
 intro pins s σ H D I h;obtain⟨tl,Nn,nm,q,bs,hdct,sn,sub,ab,col,dd,k0,k1,k2,k3,k5,mN,hC,hN,hni,T⟩:=O.obj
 refine wpAny_Raise_call_subT (C:=C) (nm:=nm) (q:=q) (N:=Nn) (bs:=bs) (bm:=tl) (hdct:=hdct) (sn:=sn) (sub:=sub) (ab:=ab) (col:=col) (dd:=dd) (k0:=k0) (k1:=k1) (k2:=k2) (k3:=k3) (k5:=k5)
  FB (mN:=mN) (T.hasType FB.hasBase) (I.ok.hd hc) ?_ hni (q1r I hg O.bound ⟨rfl,?_⟩ hd)
 ·rw[he]
  show(false ||(backTo cpos (starEach es X.env)).any (·.1))=false;rw[hpl];rfl
 ·have p:=ha cpos pins s σ H _ I h
  rw[he] at p ⊢;refine Calls.evalArgs_plain (thn p λus s1 ⟨xs,H1,I1,r,z,q⟩=>?_);exact⟨rfl,by rw[<-r.length];exact z,I1.bk _ _ hC,hN.keeps I1.bk,T.keeps I1.bk,λh' a hm=>hT pins σ H1 s1 (.ref C) a us h' I1 hm q⟩
structure ExK(K:PySem.W.Frag)(D:Addr):Prop where
 get:findIn K (.ref D) "__getattribute__" = some (some (.builtin "BaseException.__getattribute__"))
 hok:findIn K (.ref D) "__getattr__" = some none
 bex:mroIn K D (.type "BaseException")=some true
 cls:(clsIn K D).isSome=true
 att:findIn K (.ref D) "__class__" = some (some (.builtin "object.__class__"))
 dsc:specialIn K (.builtin "object.__class__") "__get__" = some (some (.builtin "getset_descriptor.__get__"))
 tak:takesIn K (.builtin "object.__class__")=some true
 obj:mroIn K D (.type "object")=some true
noncomputable def OfCls(x D:Addr)(h:Heap):Prop:=∃o,h.get? x=some o/\o.cls = .ref D
section
variable {prog:Program}{w:World}{A:Around}{E:Value->Shared->Prop}{s:Shared}{K:PySem.W.Frag}{x D:Addr}
theorem OfCls.type{M:Model}(I:OfCls x D h):Looks M h (typeOf (.ref x)) (.ref D):=by
 obtain⟨o,e,c⟩:=I;exact c▸(Looks.ld e).andThen .now
theorem find_cls{M:Model}(X:K.In h)(k:ExK K D):Looks M h (find (.ref x) (.ref D) "__class__") (.bind (.builtin "getset_descriptor.__get__") (.builtin "object.__class__")):=by
 have L1:=looks_findIn (M:=M) X k.att;have L2:Looks M h (getOf (some (Value.builtin "object.__class__"))) (some (.builtin "getset_descriptor.__get__")):=looks_specialIn X k.dsc;have L3:=looks_takesIn (M:=M) X k.tak;have L4:Looks M h (dataDescriptor? (some (Value.builtin "object.__class__")) (some (.builtin "getset_descriptor.__get__"))) (some (.builtin "getset_descriptor.__get__",.builtin "object.__class__")):=L3.andThen .now;exact L1.andThen (L2.andThen (L4.andThen (Looks.tag .now)))
theorem q5w{tp:Value}(X:K.In s.heap)(I:OfCls x D s.heap)(k:ExK K D)(q:R (.ok (.ret (.ref D))) s):
  codeAny (model prog w) A (.call (.builtin "getset_descriptor.__get__") ⟨[.builtin "object.__class__",.ref x,tp],[]⟩) R s:=by
 obtain⟨hh,g,dr,t,os⟩:=s;have T1:=I.type (M:=model prog w);have T2:=looks_mroIn (M:=model prog w) X k.obj;refine codeAny_call_builtin KF.slot_gs.plain KF.entry_gs (KF.slot_gs.check _ _ _ _ _ _ _ _ KF.type_class (KF.args_gs _ _ _) ?_);unfold Builtin.«getset_descriptor.__get__» descrGet;rw[dga_obj];refine wpAny_bind (wpAny_pure ?_);unfold descrGetter descrCheckInstance descrNameAndClass isInstance;simp only[KF.owner_class]
 repeat lk
 refine⟨Code.quiet_builtin _ (by decide +kernel),?_⟩;refine codeAny_builtin KF.entry_class ?_;unfold Builtin.«object.__class__» shownTypeOf
 repeat lk
 exact q
theorem cls_entry{tk:Tok}{Q:Fin->Shared->Prop}{g:Array GenState}{d:Drawn}{t:Nat}{os:OsState}(X:K.In h)(I:OfCls x D h)(k:ExK K D)(q:Q (.done (.ret (.ref D))) ⟨h,g,d,t,os⟩):
  wpAny (model prog w) A (Builtin.«object.__getattribute__» ⟨[.ref x,.str "__class__" tk],[]⟩) Q E ⟨h,g,d,t,os⟩:=by
 have T1:=I.type (M:=model prog w);have T3:=find_cls (M:=model prog w) (x:=x) X k;unfold Builtin.«object.__getattribute__»
 repeat (any_goals (first|assumption|with_reducible refine Looks.at (by assumption) ?_|wp_step))
 refine q5w X I k ?_
 repeat (any_goals (first|assumption|wp_step))
theorem cls_check{M:Model}{v:Value}{g:Array GenState}{d:Drawn}{t:Nat}{os:OsState}(X:K.In h)(I:OfCls x D h)(k:ExK K D)(q:Q () ⟨h,g,d,t,os⟩):
  wpAny M A (checkBuiltinCall "BaseException.__getattribute__" ⟨[.ref x,v],[]⟩) Q E ⟨h,g,d,t,os⟩:=by
 have h1:builtinKind "BaseException.__getattribute__" = some .slot:=by decide +kernel
 have h2:splitId "BaseException.__getattribute__" = some ("BaseException","__getattribute__"):=by decide +kernel
 have h3:=F.args_bexc_ga (.ref x) v;have T1:=I.type (M:=M);have T2:=looks_mroIn (M:=M) X k.bex;simp only[checkBuiltinCall,h1,h2];refine wpAny_bind ?_;unfold isInstance
 repeat (first|with_reducible refine Looks.at (by assumption) ?_|wp_step)
 exact q
theorem q8B{tk:Tok}{Q:Value->Shared->Prop}{g:Array GenState}{d:Drawn}{t:Nat}{os:OsState}(X:K.In h)(I:OfCls x D h)(k:ExK K D)(q:Q (.ref D) ⟨h,g,d,t,os⟩):
  wpAny (model prog w) A (getAttrBy (.ref x) (.str "__class__" tk) false) Q E ⟨h,g,d,t,os⟩:=by
 have T1:=I.type (M:=model prog w);have T2:=looks_findIn (M:=model prog w) X k.get;have T4:=looks_findIn (M:=model prog w) X k.hok;have f3:=F.excAttr_ValueError.ga.bind (.ref x);have e2:(Value.builtin "BaseException.__getattribute__" == Value.builtin "object.__getattribute__")=false:=by decide +kernel
 have e1:(onTheHeap (Value.ref D) && Value.builtin "BaseException.__getattribute__" == Value.builtin "object.__getattribute__")=false:=by rw[e2];rfl
 repeat (any_goals (first|assumption|with_reducible refine Looks.at (by assumption) ?_|wp_step))
 refine codeAny_call_builtin F.excAttr_ValueError.ga.plain F.entry_bexc_ga (cls_check X I k (cls_entry X I k ?_))
 repeat (any_goals (first|assumption|wp_step))
theorem q8C{Q:Option Value->Shared->Prop}(X:K.In s.heap)(I:OfCls x D s.heap)(k:ExK K D)(q:Q (some (.ref D)) {s with toks:=s.toks+1}):wpAny (model prog w) A (getAttr? (.ref x) "__class__") Q E s:=by
 obtain⟨hh,g,dr,t,os⟩:=s;unfold getAttr? getAttrBy?
 repeat (any_goals (first|assumption|with_reducible apply q8B X I k|wp_step))
theorem kit_exc(k:ExK K D):KitX K (.ref x) (.ref D) (OfCls x D) where
 ty:=λ_ _ _ I=>I.type
 it:=λ_ _ X _=>by
  obtain⟨cd,hc⟩:=Option.isSome_iff_exists.mp k.cls;unfold clsIn at hc;split at hc
  ·rename_i c' d' cd' sl' ho
   intro A' Q' E' s' kk q;unfold isType loadHead;exact wpAny_bind (wpAny_loadPart (kk _ _ (X _ _ ho)) (wpAny_pure q))
  ·cases hc
 ne:=λh tp dd its n sl X htp=>by
  obtain⟨cd,hc⟩:=Option.isSome_iff_exists.mp k.cls;refine Bool.eq_false_iff.mpr λq=>?_;obtain rfl:D=tp:=Value.ref.inj (beq_iff_eq.mp q);unfold clsIn at hc;split at hc
  ·rename_i c' d' cd' sl' ho
   have z:=(X _ _ ho).symm.trans htp;cases z
  ·cases hc
 ca:=λX I q=>q8C X I k q
end
noncomputable abbrev Cx.suite(X:Cx)(a:Addr)(o:Obj)(pins:List (Addr×Obj)):Cx:={X with A:=X.A.mark (some (.ref a)),calm:=false,pn:=(a,o)::(X.pn++pins),xe:=λ_ _=>False}
noncomputable abbrev Cx.tried(X:Cx)(pins:List (Addr×Obj))(E:Value->Shared->Prop):Cx:={X with pn:=X.pn++pins,xe:=E}
section
variable {X:Cx}{pins:List (Addr×Obj)}{σ:St}{H:Hp}{s:Shared}
theorem Cx.Ok.tried{E:Value->Shared->Prop}(ok:X.Ok):(X.tried pins E).Ok:=
 ⟨ok.mod,ok.kind,ok.glob,ok.blt,ok.above,ok.inj,ok.has,ok.cab,ok.hd,ok.frames,ok.stk,ok.exf,ok.bs,ok.bsz,ok.noex,ok.exfs,ok.funs,ok.frf⟩
theorem Cx.Ok.untried(ok:(X.tried pins E).Ok):X.Ok:=
 ⟨ok.mod,ok.kind,ok.glob,ok.blt,ok.above,ok.inj,ok.has,ok.cab,ok.hd,ok.frames,ok.stk,ok.exf,ok.bs,ok.bsz,ok.noex,ok.exfs,ok.funs,ok.frf⟩
theorem Inv.tried{E:Value->Shared->Prop}(I:Inv X pins σ H s):Inv (X.tried pins E) [] σ H s:=
 ⟨I.ok.tried,I.os,I.bare,I.base,I.loc,I.cell,I.free,I.freeC,λp hp=>I.pin p (by simpa using hp),I.hok,I.len⟩
theorem Inv.untried{E:Value->Shared->Prop}{ps:List (Addr×Obj)}(I:Inv (X.tried pins E) ps σ H s):Inv X pins σ H s:=
 ⟨I.ok.untried,I.os,I.bare,I.base,I.loc,I.cell,I.free,I.freeC,λp hp=>I.pin p (List.mem_append_left _ hp),I.hok,I.len⟩
theorem Inv.suite{a:Addr}{o:Obj}(I:Inv X pins σ H s)(e:s.heap.get? a=some o)(n:H a=none)(hl:a≠X.env.locals)(hf:a∉X.fs)(hd:∀v,o.data≠.cell v):Inv (X.suite a o pins) [] σ H s:=by
 have ok:=I.ok;refine⟨⟨ok.mod,ok.kind,ok.glob,ok.blt,ok.above,ok.inj,ok.has,ok.cab,λz=>absurd z (by simp),ok.frames,ok.stk,ok.exf,ok.bs,ok.bsz,ok.noex,ok.exfs,ok.funs,ok.frf⟩,I.os,I.bare,I.base,I.loc,I.cell,I.free,I.freeC,λp hp=>?_,I.hok,I.len⟩;rw[List.append_nil] at hp;rcases List.mem_cons.mp hp with rfl|hp
 ·exact⟨e,n,hl,hf,hd⟩
 ·exact I.pin p hp
theorem Inv.unsuite{o:Obj}(I:Inv (X.suite a o pins) [] σ H s)(hh:X.calm=true->X.A.handled=none):Inv X pins σ H s:=by
 have ok:=I.ok;exact⟨⟨ok.mod,ok.kind,ok.glob,ok.blt,ok.above,ok.inj,ok.has,ok.cab,hh,ok.frames,ok.stk,ok.exf,ok.bs,ok.bsz,ok.noex,ok.exfs,ok.funs,ok.frf⟩,I.os,I.bare,I.base,I.loc,I.cell,I.free,I.freeC,λp hp=>I.pin p (by rw[List.append_nil];exact List.mem_cons_of_mem _ hp),I.hok,I.len⟩
theorem Inv.gone{n:Str}{m:Str->Option Value}{v:Option Value}(I:Inv X pins σ H s)(hN:X.N.Nodup)(hi:X.N[i]?=some n)(hm:s.heap.Ns X.env.locals m)
  (hn:h'.Ns X.env.locals (λx=>if x=n then v else m x))(hs:Heap.SameBut X.env.locals s.heap h'):Inv X pins (σ.set i none) H {s with heap:=h',toks:=t'}:=by
 obtain⟨m2,hn2,hl⟩:=id I.loc;have em:m2=m:=by
  obtain⟨o1,es1,ep1,g1,d1,_,q1⟩:=hn2;obtain⟨o2,es2,ep2,g2,d2,_,q2⟩:=hm;rw[g1] at g2;cases g2;rw[d1] at d2;cases d2;funext y;rw[<-q1 y,<-q2 y]
 subst em;have ne:∀b o,X.s₀.heap.get? b=some o->b≠X.env.locals:=λb o e=>Nat.ne_of_lt (Nat.lt_of_lt_of_le (Heap.lt_size e) I.ok.above);refine⟨I.ok,I.os,I.bare,⟨λb o e n hb hx=>?_,λb o e n hb hx=>?_,I.base.free,λb o e hx=>?_,I.base.tups,I.base.frzs,I.base.tbls⟩,⟨_,hn,λj y w e1 e2 e3=>?_⟩,λy c e=>?_,I.free,I.freeC,λp hp=>?_,λb ob e=>?_,by simpa using I.len⟩
 ·exact(hs.2 b (ne b o e)).trans (I.base.keep b o e n hb hx)
 ·obtain⟨sl,e1⟩:=I.base.slot b o e n hb hx
  exact⟨sl,(hs.2 b (ne b o e)).trans e1⟩
 ·obtain⟨o',e1⟩:=I.base.there b o e hx
  exact⟨o',(hs.2 b (ne b o e)).trans e1⟩
 ·by_cases hj:j=i
  ·subst hj
   rw[List.getElem?_set] at e2;simp at e2
  ·rw[List.getElem?_set_ne (Ne.symm hj)] at e2
   obtain⟨u',r',q⟩:=hl j y w e1 e2 e3;refine⟨u',r',?_⟩;rcases q with⟨k,e⟩|⟨k,c,e,z⟩
   ·have hy:y≠n:=λe=>hj (q4w hN e1 (e▸hi))
    exact .inl ⟨k,by simp[hy,e]⟩
   ·exact .inr ⟨k,c,e,z.sameBut hs (I.cne y c e)⟩
 ·obtain⟨w',z⟩:=I.cell y c e
  exact⟨w',z.sameBut hs (I.cne y c e)⟩
 ·obtain⟨e,n,nl,nf,d⟩:=I.pin p hp
  exact⟨(hs.2 p.1 nl).trans e,n,nl,nf,d⟩
 ·refine(I.hok b ob e).stay (λc w' hc q=>(hs.2 c ?_).trans q) (λ_ q=>q) λ_ _ q=>q
  rintro rfl;rcases hc with hc|hc
  ·rw[<-hc,I.free] at e;cases e
  ·rw[I.free] at hc;cases hc
end
structure DefE(P:Program)(w:World)(K:PySem.W.Frag)(mg:Str->Option Value)(base:Heap)(k:Nat)(x:Str)(ps:List Str)(sp:Sp):Prop where
 ex:∃(f:Addr) (fd:FuncData),FnOk P w K mg base (CXE P w) k f fd ps sp/\Binds K fd ps []/\PySem.W.keepIn K (.ref f)=true/\mg x=some (.ref f)
theorem DefE.mono{P:Program}{w:World}{K:PySem.W.Frag}{mg:Str->Option Value}{base:Heap}{j k:Nat}{x:Str}{ps:List Str}{sp:Sp}(D:DefE P w K mg base j x ps sp)(h:j<=k):DefE P w K mg base k x ps sp:=by
 obtain⟨f,fd,F,b,kp,m⟩:=D.ex;exact⟨f,fd,F.mono h,b,kp,m⟩
theorem qd{k:Nat}{E:XK}{p pos:Pos}{e:Expr}(D:DefE X.prog X.w X.K X.mg X.base k x ps sp)(hr:Room k X.A)(hg:Gl X x)(hx:q0Y (CXE X.prog X.w) X E)(ha:PA X (e::es) t)
  (hdb:(x == ("__debug__" : Str))=false:=by decide)(he:starEach (e::es) X.env=(false,eval e X.env)::starEach es X.env:=by rfl)(hpl:(backTo pos (starEach es X.env)).any (·.1)=false:=by rfl):PE X (.Call (.Name x p) (e::es) [] pos) (q7m sp [] E t):=by
 obtain⟨f,fd,F,b,kp,m⟩:=D.ex;exact q6W F hr hg m kp b .nil hx ha hdb he hpl
section
variable {P:Program}{w:World}{K:PySem.W.Frag}{mg:Str->Option Value}{base:Heap}{k:Nat}{f:Addr}{fd:FuncData}{ps:List Str}
theorem Fun.okE(F:Fun K x qual st f fd)(S:FnScope N ps (qF st))(len:∀vs H Q E,sp vs H Q E->vs.length=ps.length)
  (hbody:∀(cdv:Value) (A:Around) (outer:List Env) (s:Shared) (H:Hp) (vs:List V) (Q:VK) (E:XK),Room k (A.deeper (envOfC qual (qF st) s.heap.objs.size f cdv))->sp vs H Q E ->
   ∃t,PSs (cxOf (CXE P w) P w K mg base N qual (qF st) f cdv A outer s H E) (q0M st) t/\t {nx:=λ_ H'=>Q .non H',rt:=Q} (q49 N vs) H):FnOk P w K mg base (CXE P w) (k+1) f fd ps sp:=by
 obtain⟨oc,od,kV,doc,pm,an,cdv,ct,osl,rfl,lk,hcd⟩:=F.ex;exact fn_of lk hcd S len λA outer s H vs Q E hr hsp=>hbody cdv A outer s H vs Q E hr hsp
theorem FnOk.toE(F:FnOk P w K mg base CX0 k f fd ps sp):FnOk P w K mg base (CXE P w) k f fd ps sp:=
 ⟨F.len,λA outer s H args us vs Q E hr he hb hv hs=>codeAny_mono (F.run A outer s H args us vs Q E hr he hb hv hs) λr s' q=>by
  cases r with
  |error e=>exact False.elim q
  | ok fl=>cases fl with
   |ret u=>exact q
   |next=>exact q
   |brk=>exact q
   |cont=>exact q⟩
theorem FnOk.two{sp':Sp}(F:FnOk P w K mg base CX k f fd ps sp)(G:FnOk P w K mg base CX k f fd ps sp'):FnOk P w K mg base CX k f fd ps (λvs H Q E=>sp vs H Q E\/sp' vs H Q E):=
 ⟨λvs H Q E h=>h.elim (F.len vs H Q E) (G.len vs H Q E),λA outer s H args us vs Q E hr he hb hv hs=>hs.elim (F.run A outer s H args us vs Q E hr he hb hv) (G.run A outer s H args us vs Q E hr he hb hv)⟩
end
noncomputable def bmV:List Value:=[.type "ValueError",.type "Exception",.type "BaseException",.type "object"]
theorem q3C{bmB:List Value}{newId:String}(X:K.In h)(hm:mg x=some (.ref C))(q:excIn K C bmB newId=true):OwnCls x C bmB newId mg h:=by
 refine⟨hm,?_⟩;unfold excIn at q;split at q
 ·rename_i dd cd sl ho
  split at q
  ·rename_i C' bm k0 k1 k2 k3 n k5 hm hs
   simp only[Bool.and_eq_true,beq_iff_eq,Bool.not_eq_true'] at q;obtain⟨⟨⟨⟨⟨rfl,rfl⟩,hdel⟩,ht⟩,hok⟩,hni⟩:=q;obtain⟨nm,bs,mro,ns,qn,hd,sn,sub,ab,col,del⟩:=cd;dsimp only at hm hdel hok hni;subst hm hdel;obtain⟨l⟩:=sl;simp only at hs;subst hs;exact⟨bm,ns,nm,qn,bs,hd,sn,sub,ab,col,dd,k0,k1,k2,k3,k5,_,X _ _ ho,.of_isNs (isNs_of_in X hok),nsMap_none_of_in X hok hni,tail_of_in X ht⟩
  ·cases q
 ·cases q
structure Errs(mg:Str->Option Value)(T c1 c2 c3 c4 c5 c6 c7 c8:Addr):Prop where
 top:mg "TopError" = some (.ref T)
 n1:mg "NoStretch" = some (.ref c1)
 n2:mg "NoLength" = some (.ref c2)
 n3:mg "NoCount" = some (.ref c3)
 n4:mg "NoPlace" = some (.ref c4)
 n5:mg "NoText" = some (.ref c5)
 n6:mg "NoShape" = some (.ref c6)
 n7:mg "NoneYet" = some (.ref c7)
 n8:mg "NoRound" = some (.ref c8)
 val:mg "ValueError" = none
structure Fault(K:PySem.W.Frag)(T c1 c2 c3 c4 c5 c6 c7 c8 C:Addr)(b1 b2 b3 b4 b5 b6 b7 b8:Bool):Prop where
 exm:PySem.W.exmOne K (.ref C) (.ref T)=some true
 k1:PySem.W.kitOne K (.ref C) (.ref c1)=some b1
 k2:PySem.W.kitOne K (.ref C) (.ref c2)=some b2
 k3:PySem.W.kitOne K (.ref C) (.ref c3)=some b3
 k4:PySem.W.kitOne K (.ref C) (.ref c4)=some b4
 k5:PySem.W.kitOne K (.ref C) (.ref c5)=some b5
 k6:PySem.W.kitOne K (.ref C) (.ref c6)=some b6
 k7:PySem.W.kitOne K (.ref C) (.ref c7)=some b7
 k8:PySem.W.kitOne K (.ref C) (.ref c8)=some b8
 kv:PySem.W.kitOne K (.ref C) (.type "ValueError")=some true
 exk:ExK K C
theorem q1R{o e:Expr}{to:TE}{name:Str}{apos cpos:Pos}{T id:String}{r:V->List V->Hp->VK->Prop}(hK:X.K=K)(pa:PlainAttrs T)(slot:Slot T name id)(hty:typeOf (.builtin id)=pure (.type "method_descriptor"))(hm:MtR X id r)(ho:PE X o to)(ha:PA X (e::es) t)
  (hbase:attributeBase o name X.env (eval o X.env)=eval o X.env:=by rfl)
  (hfew:((backTo cpos (starEach (e::es) X.env)).all (λx=>!x.1) && (backToKw cpos (keywordEach [] X.env)).all (λx=>x.1.isSome) && decide ((e::es).length+([]:List Keyword).length+(if([]:List Keyword).isEmpty then 0 else 1) < 30))=true:=by rfl)
  (hline:(apos.endLine == cpos.line)=true:=by rfl)(hs:starEach (e::es) X.env=(false,eval e X.env)::starEach es X.env:=by rfl)(hplain:(backTo cpos (starEach es X.env)).any (·.1)=false:=by rfl):
  PE X (.Call (.Attribute o name apos) (e::es) [] cpos) (tBM K T r to t):=hK▸q5i pa slot hty hm ho ha hbase hfew hline hs hplain
theorem boot_VE:bootBuiltins "ValueError" = some (.type "ValueError"):=by boot_by_name
section
variable {X:Cx}
noncomputable def rNeL(K:PySem.W.Frag):R2:=λx y H Q=>∃(a b:Addr) (xs ys:List V),x = .ref a/\y = .ref b/\SqL K H a xs/\SqL K H b ys/\xs.length=ys.length/\
 (∀(j:Nat) (x y:V),xs[j]?=some x->ys[j]?=some y->∃n,n<=50/\EqD K H n x y true)/\Q (.bl false) H
theorem op_neL{k:Nat}(hr:Room k X.A):OpR X (compareOp .NotEq) (rNeL X.K):=by
 intro pins s σ H x y v u Q I rx ry h;obtain⟨a,b,xs,ys,rfl,rfl,ha,hb,hl,h,q⟩:=h;have hu:=hr.units;have fin:∀{b:Bool} {u v:Value},SeqAt.RcNeAt X.A s u v b->Q (.bl b) H->wpAny (model X.prog X.w) X.A (compareOp .NotEq u v) (EP X pins σ Q) X.xe s:=λ{b _ _} z q=>z _ _ _ _ ⟨.bl b,H,I,rfl,q⟩;cases rx;cases ry;obtain⟨ia,ra,pa,_⟩:=I.list ha;obtain⟨ib,rb,pb,_⟩:=I.list hb;have la:=ra.length;have lb:=rb.length;refine fin (SeqAt.RcNeAt.lists (A:=X.A) (e:=λ_=>true) pa.isList pb.isList (by simp;lia) (by lia) λj h1 h2=>?_) ?_
 ·have h1':j < ia.length:=by simpa using h1
  have h2':j < ib.length:=by simpa using h2
  obtain⟨x,ex,rx⟩:=ra.at h1';obtain⟨y,ey,ry⟩:=rb.at h2';obtain⟨n,hn,g⟩:=h j x y ex ey;have:=g.at I (A:=X.A.in1) (u:=ia[j]) (v:=ib[j]) rx ry (by show X.A.units+1+n < cLine;lia);simpa using this
 ·have e:(List.range ia.length).all (λ_=>true)=true:=q48 λ_ _=>rfl
  have q':Q (.bl (!(List.range ia.length).all λ_=>true)) H:=by rw[e];exact q
  simpa only[List.size_toArray] using q'
end
theorem q8I(a b c:Value):argsOk "min" ⟨[a,b],[(Str.ofString "key",c)]⟩:=by unfold argsOk;kernel_rfl
section
variable {X:Cx}{k:Nat}{f:Addr}{fd:FuncData}{ps:List Str}{sp:Sp}{pins:List (Addr×Obj)}{σ:St}
theorem key_run{Q:VK}{x:V}{u:Value}{E':Value->Shared->Prop}(F:FnOk X.prog X.w X.K X.mg X.base CX0 k f fd ps sp)(hr:Room (k+1) X.A)(hb:Binds X.K fd ps [])(I:Inv X pins σ H s)(r:RelV x u)(h:sp [x] H Q E0):
  wpAny (model X.prog X.w) X.A.in1 (call (.ref f) [u]) (EP X pins σ Q) E' s:=by
 have r2:Vals [x] [u]:=.cons r .nil;have hl:[u].length=ps.length:=by rw[<-r2.length];exact F.len _ _ _ _ h
 refine wpAny_call (codeAny_mono (F.run X.A.in1 X.stack s H ⟨[u],[]⟩ [u] [x] Q E0 hr.in1 I.env0.in1 (by have:=hb s [u] I.kIn (by simpa using hl);simpa using this) r2 h) λr s' hq=>?_)
 cases r with
 |error e=>exact False.elim hq
 | ok fl=>
  cases fl with
  |ret u=>exact I.after hq
  |next=>exact False.elim hq
  |brk=>exact False.elim hq
  |cont=>exact False.elim hq
theorem key_pin{Q:VK}{x:V}{u:Value}{E':Value->Shared->Prop}{fp:List Addr}(F:FnOk X.prog X.w X.K X.mg X.base CX0 k f fd ps sp)(hr:Room (k+1) X.A)(hb:Binds X.K fd ps [])(I:Inv X pins σ H s)(r:RelV x u)(h:sp [x] H Q E0)
  (hf:∀b∈fp,FpOk X pins H b)(ho:∀b∈fp,∃o,s.heap.get? b=some o/\∀v,o.data≠.cell v):
  wpAny (model X.prog X.w) X.A.in1 (call (.ref f) [u]) (λu1 s2=>∃v H2,Inv X pins σ H2 s2/\RelV v u1/\Q v H2/\∀b∈fp,H2 b=none/\∀o,s.heap.get? b=some o->s2.heap.get? b=some o) E' s:=by
 have I2:=I.pinned hf ho
 refine thn (key_run (E':=E') F hr hb I2 r h) λu1 s2 ⟨v,H2,J,rv,q⟩=>⟨v,H2,J.unpinned,rv,q,λb hb=>?_⟩
 have z:∀o,s.heap.get? b=some o->s2.heap.get? b=some o/\H2 b=none:=λo e=>by
  have w:=J.pin (b,o) (List.mem_append_right _ (List.mem_append_right _ (q0S hb e)));exact⟨w.1,w.2.1⟩
 obtain⟨o,e,_⟩:=ho b hb;exact⟨(z o e).2,λo e=>(z o e).1⟩
theorem Inv.turned2{b:Addr}(I:Inv X pins σ H s)(k:∀c o,c≠a->c≠b->s.heap.get? c=some o->h'.get? c=some o)(fa:FpOk X pins H a)(fb:FpOk X pins H b):Inv X pins σ H {s with heap:=h',toks:=t'}:=by
 have na:∀c u,H c=some u->c≠a:=λc u e z=>by rw[z,fa.1] at e;cases e
 have nb:∀c u,H c=some u->c≠b:=λc u e z=>by rw[z,fb.1] at e;cases e
 have kk:∀c o,c∉[a,b]->s.heap.get? c=some o->h'.get? c=some o:=λc o hc e=>k c o (λz=>hc (by simp[z])) (λz=>hc (by simp[z])) e
 refine I.step (g':=s.gens) (d':=s.drawn) (ch:=[a,b]) (λc hc=>?_) (λc o _ _ hc e _=>kk c o hc e) (λc o _ _ hc e _=>⟨o.slots,kk c o hc e⟩) (λ_ _ _ _ n=>n)
  (λc o hc e=>⟨o,kk c o hc e⟩) (λ_ _ e=>e) (λ_ _ _ e=>e) (λc ps e=>⟨#[],by rw[e];simp⟩) (λm hm=>?_) (λc u e=>?_) I.bare
 ·simp only[List.mem_cons,List.not_mem_nil,or_false] at hc
  rcases hc with rfl|rfl
  ·exact⟨fa.2.2.2.1,fa.2.1,fa.2.2.2.2.1,fa.2.2.2.2.2⟩
  ·exact⟨fb.2.2.2.1,fb.2.1,fb.2.2.2.2.1,fb.2.2.2.2.2⟩
 ·obtain⟨o,es,ep,ho,r⟩:=hm
  exact⟨o,es,ep,k _ o (Ne.symm fa.2.1) (Ne.symm fb.2.1) ho,r⟩
 ·refine(I.hok c u e).stay (λd v hd q=>?_) (λ_ q=>q) λ_ _ q=>q
  rcases hd with z|z
  ·exact k d v (by rw[z];exact na c u e) (by rw[z];exact nb c u e) q
  ·exact k d v (na d _ z) (nb d _ z) q
theorem min_end{tk:Nat}{T it S:Addr}{ux uy vb kb:Value}{q:Value}{c:Nat}(hh:X.A.handled=none)(hne:T≠it)(hS:S≠it)
  (hi:h.IsTupleIter it T 2)(hT:h.IsTuple T #[ux,uy])(gS:h.get? S=some (seqObj "list" #[vb,kb] c))
  (hR:∀h' tk',(∀b o,b≠it->b≠S->h.get? b=some o->h'.get? b=some o)->R (.ok (.ret vb)) {s with heap:=h',toks:=tk'}):
  codeAny (model X.prog X.w) X.A (.builtin "min.loop" ⟨[.ref it,q,.ref S],[]⟩) R {s with heap:=h,toks:=tk}:=by
 have W:=Walks.tuple (prog:=X.prog) (w:=X.w) (A:=X.A.in1) hh it T hne #[ux,uy];refine codeAny_builtin PySem.F.entry_min_loop ?_;rw[Around.under_plainId PySem.F.plain_min_loop _];show wpAny _ X.A.in1 (seqItems? (.ref S) >>= _) _ _ _;refine wpAny_bind (wpAny_seqItems gS rfl ?_);show wpAny _ X.A.in1 (tryCatch (pyNext (.ref it)) _ >>= _) _ _ _;refine wpAny_bind (wpAny_tryCatch (W.done _ _ _ ⟨hi,hT⟩ λh' tk' hk'=>?_));have hS':=hk' S _ (by simpa using hS) gS;have s1:=Heap.SameBut.update h' S (Obj.mapSeq λ_=>(#[]:Array Value));show wpAny _ X.A.in1 (updateSeq S (λ_=>#[]) >>= _) _ _ _;refine wpAny_bind ?_;refine wpAny_updateSeq hS' rfl (wpAny_bind (wpAny_letGo (wpAny_pure ?_)));exact hR _ _ λb o h1 h2 e=>(s1.2 b h2).trans (hk' b o (by simpa using h1) e)
theorem min_key{Q:VK}{x y:V}{ux uy:Value}(F:FnOk X.prog X.w X.K X.mg X.base CX0 k f fd ps sp)(hr:Room (k+1) X.A)(hb:Binds X.K fd ps [])(I:Inv X pins σ H s)(rx:RelV x ux)(ry:RelV y uy)
  (h:sp [x] H (λv1 H2=>sp [y] H2 (λv2 H3=>∃a b ns ms,v1 = .ref a/\v2 = .ref b/\SqT X.K H3 a (ns.map V.int)/\SqT X.K H3 b (ms.map V.int)/\Q (if HT.lexLt ms ns=true then y else x) H3) E0) E0):
  wpAny (model X.prog X.w) X.A (call (.builtin "min") [ux,uy] [(Str.ofString "key",.ref f)]) (EP X pins σ Q) X.xe s:=by
 have hname:(toString "min"++toString ".loop" : String) = "min.loop":=by decide
 have hh:X.A.handled=none:=hr.hd;refine kmk_tree PySem.F.kind_min PySem.F.plain_min PySem.F.entry_min (q8I _ _ _) ?_;show wpAny _ X.A.in1 (Builtin.Builtins.bindParams "min" ["key","default"] 0 ⟨[],[(Str.ofString "key",.ref f)]⟩ >>= _) _ _ s;refine wpAny_bind (wpAny_of_eq (show Builtin.Builtins.bindParams "min" ["key","default"] 0 ⟨[],[(Str.ofString "key",.ref f)]⟩=pure [some (.ref f),none] from rfl) ?_);show wpAny _ X.A.in1 (newTuple [ux,uy] >>= _) _ _ s;refine wpAny_bind (wpAny_newObj_type ?_)
 obtain⟨n,en⟩:∃n,n=s.heap.objs.size:=⟨_,rfl⟩
 rw[<-en];have sT:(s.heap.push {cls:=.type "tuple",data:=.seq #[ux,uy]}).objs.size=n+1:=by rw[en];exact Heap.size_push ..
 have hT0:(s.heap.push {cls:=.type "tuple",data:=.seq #[ux,uy]}).IsTuple n #[ux,uy]:=⟨_,by rw[en];exact Heap.get?_push_size _ rfl,rfl,0,rfl⟩
 refine wpAny_bind (wpAny_pyIter_tuple hT0 ?_);refine wpAny_bind (wpAny_newList ?_ (Nat.zero_le _));dsimp only
 obtain⟨hI,ehI⟩:∃z,z=(s.heap.push {cls:=.type "tuple",data:=.seq #[ux,uy]}).push {cls:=.type "tuple_iterator",data:=.fields #[.ref n,.int 0 0]}:=⟨_,rfl⟩
 rw[sT,<-ehI];have sI:hI.objs.size=n+2:=by rw[ehI,Heap.size_push,sT]
 obtain⟨hA,ehA⟩:∃z,z=hI.push (seqObj "list" #[] 0):=⟨_,rfl⟩
 have eA:hI.push {cls:=.type "list",data:=.seq (List.toArray ([]:List Value))}=hA:=ehA.symm;rw[eA,sI,hname];have kA:∀b o,s.heap.get? b=some o->hA.get? b=some o:=λb o e=>by rw[ehA,ehI];exact Heap.get?_push_of_some _ (Heap.get?_push_of_some _ (Heap.get?_push_of_some _ e))
 have gS:hA.get? (n+2)=some (seqObj "list" #[] 0):=by rw[ehA,<-sI];exact Heap.get?_push_size _ rfl
 have gI:hA.IsTupleIter (n+1) n 0:=⟨_,by rw[ehA,ehI,<-sT];exact Heap.get?_push_of_some _ (Heap.get?_push_size _ rfl),rfl,rfl⟩
 have gT:hA.IsTuple n #[ux,uy]:=⟨_,by rw[ehA,ehI,en];exact Heap.get?_push_of_some _ (Heap.get?_push_of_some _ (Heap.get?_push_size _ rfl)),rfl,0,rfl⟩
 have fpk:∀(H':Hp) b,n<=b->H' b=none->FpOk X pins H' b:=λH' b hb hn=>I.fpOk (by rw[<-en];exact hb) hn;have fr:∀b,n<=b->H b=none:=λb hb=>I.hok.fresh (by rw[<-en];exact hb);have I0:Inv X pins σ H {s with heap:=hA}:=I.kept (t':=s.toks) kA;have W:=Walks.tuple (prog:=X.prog) (w:=X.w) (A:=X.A.in1) hh (n+1) n (Nat.ne_of_lt (Nat.lt_succ_self n)) #[ux,uy]
 have tn:∀{H':Hp} {s':Shared} {h':Heap} {t':Nat} (b:Addr),Inv X pins σ H' s'->n<=b->H' b=none->(∀c o,c≠b->s'.heap.get? c=some o->h'.get? c=some o)->Inv X pins σ H' {s' with heap:=h',toks:=t'}:=λ{H' s' h' t'} b J hb hn hk=>by
  obtain⟨f0,f1,f2,f3,f4,f5⟩:=fpk H' b hb hn;exact J.turned hk f0 f1 f3 f4 f5
 have tn2:∀{H':Hp} {s':Shared} {h':Heap} {t':Nat},Inv X pins σ H' s'->(∀b∈[n,n+1,n+2],H' b=none)->(∀c o,c≠n+1->c≠n+2->s'.heap.get? c=some o->h'.get? c=some o)->Inv X pins σ H' {s' with heap:=h',toks:=t'}:=λ{H' s' h' t'} J hn hk=>
  J.turned2 (a:=n+1) (b:=n+2) hk (fpk H' _ (Nat.le_succ n) (hn _ (by simp))) (fpk H' _ (Nat.le_add_right n 2) (hn _ (by simp)))
 refine wpAny_pure ⟨plainId_quiet PySem.F.plain_min_loop _,?_⟩;refine codeAny_builtin PySem.F.entry_min_loop ?_;rw[Around.under_plainId PySem.F.plain_min_loop _];show wpAny _ X.A.in1 (seqItems? (.ref (n+2)) >>= _) _ _ _;refine wpAny_bind (wpAny_seqItems gS rfl ?_);show wpAny _ X.A.in1 (tryCatch (pyNext (.ref (n+1))) _ >>= _) _ _ _;refine wpAny_bind (wpAny_tryCatch (W.item 0 _ _ _ (by simp) ⟨gI,gT⟩ λv h1 tk1 hP hst1 hk1=>?_));have hv:v=ux:=by simpa using hP.symm
 subst hv;have I1:Inv X pins σ H {s with heap:=h1,toks:=tk1}:=tn (s':={s with heap:=hA}) (n+1) I0 (by lia) (fr _ (by lia)) λc o hc e=>hk1 c o (by simpa using hc) e;have gS1:=hk1 (n+2) _ (by simp) gS;obtain⟨oI1,goI1,coI1,doI1⟩:=id hst1.1;obtain⟨oT1,goT1,coT1,nT1,doT1⟩:=id hst1.2
 have ncell:∀{h':Heap} {c:Nat} {its:Array Value} {i:Nat},h'.get? (n+2)=some (seqObj "list" its c)->h'.IsTupleIter (n+1) n i->h'.IsTuple n #[v,uy]->∀b∈[n,n+1,n+2],∃o,h'.get? b=some o/\∀z,o.data≠.cell z:=λ{h' c its i} a1 a2 a3 b hb=>by
  simp only[List.mem_cons,List.not_mem_nil,or_false] at hb;rcases hb with rfl|rfl|rfl
  ·obtain⟨o,e,_,_,d⟩:=a3;exact⟨o,e,λz w=>by rw[d] at w;cases w⟩
  ·obtain⟨o,e,_,d⟩:=a2;exact⟨o,e,λz w=>by rw[d] at w;cases w⟩
  ·exact⟨_,a1,λz w=>by cases w⟩
 have ge:∀b∈[n,n+1,n+2],n<=b:=λb hb=>by
  simp only[List.mem_cons,List.not_mem_nil,or_false] at hb
  lia
 show wpAny _ X.A.in1 (tryCatch (holding [v] (call (.ref f) [v])) _ >>= _) _ _ _;refine wpAny_bind (wpAny_tryCatch (wpAny_holding (wpAny_mono (key_pin (fp:=[n,n+1,n+2]) (E':=λ_ _=>False) F hr hb I1 rx h (λb hb=>fpk H b (ge b hb) (fr b (ge b hb))) (ncell gS1 hst1.1 hst1.2)) (λk1 s2 he=>?_) λ_ _ hF=>hF.elim)));obtain⟨v1,H2,I2,r1,q1,p2⟩:=he;have gS2:=(p2 (n+2) (by simp)).2 _ gS1
 have gI2:s2.heap.IsTupleIter (n+1) n 1:=⟨oI1,(p2 (n+1) (by simp)).2 _ goI1,coI1,doI1⟩
 have gT2:s2.heap.IsTuple n #[v,uy]:=⟨oT1,(p2 n (by simp)).2 _ goT1,coT1,nT1,doT1⟩
 have fr2:∀b∈[n,n+1,n+2],H2 b=none:=λb hb=>(p2 b hb).1;have s1':=Heap.SameBut.update s2.heap (n+2) (Obj.mapSeq λ_=>#[v,k1])
 obtain⟨c2,hc2⟩:∃c2,(s2.heap.update (n+2) (Obj.mapSeq λ_=>#[v,k1])).get? (n+2)=some (seqObj "list" #[v,k1] c2):=⟨_,get?_update_seq gS2 λ_=>#[v,k1]⟩
 show wpAny _ X.A.in1 (updateSeq (n+2) (λ_=>#[v,k1]) >>= _) _ _ _;refine wpAny_bind ?_;refine wpAny_updateSeq gS2 rfl ?_;rw[hname]
 obtain⟨h3,eh3⟩:∃z,z=s2.heap.update (n+2) (Obj.mapSeq λ_=>#[v,k1]):=⟨_,rfl⟩
 rw[<-eh3] at hc2 s1' ⊢;have k3:∀c o,c≠n+2->s2.heap.get? c=some o->h3.get? c=some o:=λc o hc e=>(s1'.2 c hc).trans e;have I3:Inv X pins σ H2 {s2 with heap:=h3}:=tn (t':=s2.toks) (n+2) I2 (by lia) (fr2 _ (by simp)) k3;have gI3:h3.IsTupleIter (n+1) n 1:=by obtain⟨o,e,r⟩:=gI2;exact⟨o,k3 _ _ (by lia) e,r⟩
 have gT3:h3.IsTuple n #[v,uy]:=by obtain⟨o,e,r⟩:=gT2;exact⟨o,k3 _ _ (by lia) e,r⟩
 refine wpAny_pure ⟨plainId_quiet PySem.F.plain_min_loop _,?_⟩;refine codeAny_builtin PySem.F.entry_min_loop ?_;rw[Around.under_plainId PySem.F.plain_min_loop _];show wpAny _ X.A.in1 (seqItems? (.ref (n+2)) >>= _) _ _ _;refine wpAny_bind (wpAny_seqItems hc2 rfl ?_);show wpAny _ X.A.in1 (tryCatch (pyNext (.ref (n+1))) _ >>= _) _ _ _;refine wpAny_bind (wpAny_tryCatch (W.item 1 _ _ _ (by simp) ⟨gI3,gT3⟩ λv' h4 tk4 hP4 hst4 hk4=>?_));have hv':v'=uy:=by simpa using hP4.symm
 subst hv';have I4:Inv X pins σ H2 {s2 with heap:=h4,toks:=tk4}:=tn (s':={s2 with heap:=h3}) (n+1) I3 (by lia) (fr2 _ (by simp)) λc o hc e=>hk4 c o (by simpa using hc) e;have gS4:=hk4 (n+2) _ (by simp) hc2;obtain⟨oI4,goI4,coI4,doI4⟩:=id hst4.1;obtain⟨oT4,goT4,coT4,nT4,doT4⟩:=id hst4.2;show wpAny _ X.A.in1 (tryCatch (holding [v'] (call (.ref f) [v'])) _ >>= _) _ _ _;refine wpAny_bind (wpAny_tryCatch (wpAny_holding (wpAny_mono (key_pin (fp:=[n,n+1,n+2]) (E':=λ_ _=>False) F hr hb I4 ry q1 (λb hb=>fpk H2 b (ge b hb) (fr2 b hb)) (ncell gS4 hst4.1 hst4.2)) (λk2 s5 he=>?_) λ_ _ hF=>hF.elim)));obtain⟨v2,H5,I5,r2,⟨a,b,ns,ms,e1,e2,hq1,hq2,q⟩,p5⟩:=he;subst e1 e2;obtain rfl:k1 = .ref a:=r1;obtain rfl:k2 = .ref b:=r2;have gS5:=(p5 (n+2) (by simp)).2 _ gS4
 have gI5:s5.heap.IsTupleIter (n+1) n 2:=⟨oI4,(p5 (n+1) (by simp)).2 _ goI4,coI4,doI4⟩
 have gT5:s5.heap.IsTuple n #[v,v']:=⟨oT4,(p5 n (by simp)).2 _ goT4,coT4,nT4,doT4⟩
 have fr5:∀b∈[n,n+1,n+2],H5 b=none:=λb hb=>(p5 b hb).1;obtain⟨ia,ra,pa,_⟩:=I5.tuple hq1;obtain⟨ib,rb,pb,_⟩:=I5.tuple hq2;show wpAny _ X.A.in1 (tryCatch (holding [v',.ref b] (richCompare .Lt (.ref b) (.ref a) >>= _)) _ >>= _) _ _ _;refine wpAny_bind (wpAny_tryCatch (wpAny_holding (wpAny_bind ?_)));refine HT.lt_tupInts (A:=X.A.in1) (ns:=ms) (ms:=ns) (Q:=_) pb pa (q29 rb) (q29 ra) (by have:=hr.in1.un;lia) ?_;refine wpAny_bind (wpAny_holding (wpAny_truthy_bool ?_));refine wpAny_bind (wpAny_letGo (wpAny_pure ?_))
 cases hlt:HT.lexLt ms ns with
 | true=>
  rw[hlt,if_pos rfl] at q;simp only[if_true];have s6:=Heap.SameBut.update s5.heap (n+2) (Obj.mapSeq λ_=>#[v',.ref b])
  obtain⟨c6,hc6⟩:∃c6,(s5.heap.update (n+2) (Obj.mapSeq λ_=>#[v',.ref b])).get? (n+2)=some (seqObj "list" #[v',.ref b] c6):=⟨_,get?_update_seq gS5 λ_=>#[v',.ref b]⟩
  refine wpAny_bind ?_;refine wpAny_updateSeq gS5 rfl (wpAny_bind (wpAny_letGo ?_));rw[hname]
  obtain⟨h6,eh6⟩:∃z,z=s5.heap.update (n+2) (Obj.mapSeq λ_=>#[v',.ref b]):=⟨_,rfl⟩
  rw[<-eh6] at hc6 s6 ⊢;have k6:∀c o,c≠n+2->s5.heap.get? c=some o->h6.get? c=some o:=λc o hc e=>(s6.2 c hc).trans e;have I6:Inv X pins σ H5 {s5 with heap:=h6}:=tn (t':=s5.toks) (n+2) I5 (by lia) (fr5 _ (by simp)) k6;have gI6:h6.IsTupleIter (n+1) n 2:=by obtain⟨o,e,r⟩:=gI5;exact⟨o,k6 _ _ (by lia) e,r⟩
  have gT6:h6.IsTuple n #[v,v']:=by obtain⟨o,e,r⟩:=gT5;exact⟨o,k6 _ _ (by lia) e,r⟩
  refine wpAny_pure ⟨plainId_quiet PySem.F.plain_min_loop _,min_end (s:=s5) (tk:=s5.toks) (T:=n) (it:=n+1) (S:=n+2) hh (Nat.ne_of_lt (Nat.lt_succ_self n)) (Nat.ne_of_gt (Nat.lt_succ_self (n+1))) gI6 gT6 hc6 λh' tk' hk'=>?_⟩;exact⟨y,H5,tn2 (s':={s5 with heap:=h6}) I6 fr5 hk',ry,q⟩
 | false=>
  rw[hlt,if_neg (by decide)] at q;simp only[Bool.false_eq_true,if_false];refine wpAny_bind (wpAny_letGo ?_);rw[hname];refine wpAny_pure ⟨plainId_quiet PySem.F.plain_min_loop _,min_end (s:=s5) (tk:=s5.toks) (T:=n) (it:=n+1) (S:=n+2) hh (Nat.ne_of_lt (Nat.lt_succ_self n)) (Nat.ne_of_gt (Nat.lt_succ_self (n+1))) gI5 gT5 gS5 λh' tk' hk'=>?_⟩;exact⟨x,H5,tn2 I5 fr5 hk',rx,q⟩
noncomputable def tMinK(K:PySem.W.Frag)(sp:Sp)(t:TA):TE:=λσ H Q=>t σ H λvs H1=>∃x y,vs=[x,y]/\sp [x] H1 (λv1 H2=>sp [y] H2 (λv2 H3=>∃a b ns ms,v1 = .ref a/\v2 = .ref b/\SqT K H3 a (ns.map V.int)/\SqT K H3 b (ms.map V.int)/\Q (if HT.lexLt ms ns=true then y else x) H3) E0) E0
theorem pe_minK{g:Str}{ps':List Str}{a b:Expr}{p p2 pos kpos:Pos}(D:Def X.prog X.w X.K X.mg X.base k g ps' sp)(hr:Room (k+1) X.A)(hg:Gl X "min")(hm:X.mg "min" = none)(hgg:Gl X g)(ha:PA X [a,b] t)
  (hdb:(g == ("__debug__" : Str))=false:=by decide)
  (he:backTo pos (starEach [a,b] X.env)=(false,eval a X.env)::backTo pos (starEach [b] X.env):=by rfl)
  (hplain:(backTo pos (starEach [a,b] X.env)).any (·.1)=false:=by rfl)
  (hall:(backToKw pos (keywordEach [⟨some "key",.Name g p2,kpos⟩] X.env)).all (·.1.isSome)=true:=by rfl)
  (hkw:(backToKw pos (keywordEach [⟨some "key",.Name g p2,kpos⟩] X.env)).any (·.1.isNone)=false:=by rfl):
  PE X (.Call (.Name "min" p) [a,b] [⟨some "key",.Name g p2,kpos⟩] pos) (tMinK X.K sp t):=by
 obtain⟨f,fd,F,bi,kp,m⟩:=D.ex;intro pins s σ H Q I h;refine wpAny_Call_Name_kw (q3D I hg hm PyProof.Rows.boot_min ?_);refine PyProof.Rows.callWith_kw (thn (ha pos pins s σ H _ I h) λus s1 ⟨vs,H1,I1,r,q⟩=>?_) he hplain hall hkw;obtain⟨x,y,rfl,q⟩:=q;obtain⟨ux,uy,rfl,rx,ry⟩:=vals2 r;refine thn (pk_cons (q0R (v:=.ref f) hgg m rfl hdb) pk_nil pos pins s1 σ H1 _ I1 (show tCons (tC (.ref f)) tNil σ H1 (λzs H2=>zs=[.ref f]/\H2=H1) from⟨rfl,rfl⟩)) λws s2 ⟨zs,H2,I2,rz,ez,eh⟩=>?_;subst ez eh;obtain⟨w,rfl,rw'⟩:=q2F rz;obtain rfl:w = .ref f:=rw';exact min_key F hr bi I2 rx ry q
end
noncomputable def okV:V->Bool
 |.non=>true
 |.bl _=>true
 |.int _=>true
 |.str _=>true
 |.ref _=>true
 |_=>false
inductive Like (K:PySem.W.Frag) (H:Hp):Nat->V->V->Prop
 |same {n:Nat} {x:V} (ok:okV x=true):Like K H n x x
 |tup {n:Nat} {a b:Addr} {xs ys:List V} (ha:SqT K H a xs) (hb:SqT K H b ys) (hl:xs.length=ys.length) (h:∀(j:Nat) x y,xs[j]?=some x->ys[j]?=some y->Like K H n x y):Like K H (n+1) (.ref a) (.ref b)
 |lst {n:Nat} {a b:Addr} {xs ys:List V} (ha:SqL K H a xs) (hb:SqL K H b ys) (hl:xs.length=ys.length) (h:∀(j:Nat) x y,xs[j]?=some x->ys[j]?=some y->Like K H n x y):Like K H (n+1) (.ref a) (.ref b)
section
variable {X:Cx}
theorem qS{n:Int}{pos:Pos}(hg:Gl X x)(hm:∃t,X.mg x=some (.int n t))(hd:(x == ("__debug__" : Str))=false:=by decide):PE X (.Name x pos) (tC (.int n)):=by
 obtain⟨t,hm⟩:=hm;exact q0R (v:=.int n) hg hm ⟨t,rfl⟩ hd
end
theorem Def.toE{P:Program}{w:World}{K:PySem.W.Frag}{mg:Str->Option Value}{base:Heap}{k:Nat}{x:Str}{ps:List Str}{sp:Sp}(D:Def P w K mg base k x ps sp):DefE P w K mg base k x ps sp:=by
 obtain⟨f,fd,F,b,kp,m⟩:=D.ex;exact⟨f,fd,F.toE,b,kp,m⟩
section
variable {X:Cx}
theorem q5G:∀{l:List (Str×Tok)},Vals ((l.map (·.1)).map V.str) (strValues l)
 |[]=>.nil
 |(x,t)::l=>.cons ⟨t,rfl⟩ q5G
noncomputable def rSplit:V->List V->Hp->VK->Prop:=λx xs H Q=>∃z y,x = .str z/\xs=[.str y]/\(y.length == 0)=false/\z.length<=sizeLine/\(Txt.split z y).length<=sizeLine/\∀l,H l=none->Q (.ref l) (upd H l (.lst ((Txt.split z y).map V.str)))
theorem q3P:MtR X "str.split" rSplit:=by
 intro pins s σ H x xs v us Q I rx rv h;obtain⟨z,y,rfl,rfl,hy,hz,hn,q⟩:=h;obtain⟨t,rfl⟩:=rx;obtain⟨u,rfl,tu,rfl⟩:=q2F rv
 have key:∀(l:List (Str×Tok)) (tk:Nat),l.map (·.1)=Txt.split z y->EP X pins σ Q (.ref s.heap.objs.size) {s with heap:=s.heap.push {cls:=.type "list",data:=.seq (strValues l).toArray},toks:=tk}:=λl tk e=>by
  refine⟨.ref _,_,I.laid (t':=tk) (o:=.lst ((Txt.split z y).map V.str)) (λb o e=>Heap.get?_push_of_some _ e) (Nat.le_refl _) ⟨by rw[List.length_map];exact hn,strValues l,0,by rw[<-e];exact q5G,Heap.get?_push_size _ rfl⟩,rfl,q _ (I.hok.fresh (Nat.le_refl _))⟩
 cases h1:(decide (z.length < y.length) ||decide (Builtin.Str.strKind z < Builtin.Str.strKind y))
 ·cases hf:(Builtin.Str.occurrences z y 0 z.length (z.length+1)).isEmpty
  ·have es:Txt.split z y=Builtin.Str.partsBetween z (Builtin.Str.occurrences z y 0 z.length (z.length+1)) y.length:=(if_neg (ne_true_of_eq_false h1)).trans (if_neg (ne_true_of_eq_false hf))
   refine call_meets F.slot_str_split (typeIs_str _ _ _) F.entry_str_split (F.args_str_split_2 _ _) (meets_str_split_sep z y t tu h1 hy hf hz (by rw[<-es];exact hn)) ?_;show wants _ _ _ {s with toks:=_,heap:=s.heap.push {cls:=.type "list",data:=.seq (strsFrom s.toks (Builtin.Str.partsBetween z (Builtin.Str.occurrences z y 0 z.length (z.length+1)) y.length)).toArray}};rw[strsFrom_eq];exact key (numbered s.toks _) _ ((numbered_texts _ _).trans es.symm)
  ·exact call_meets F.slot_str_split (typeIs_str _ _ _) F.entry_str_split (F.args_str_split_2 _ _) (meets_str_split_not_found z y t tu h1 hy hf) (key [(z,t)] _ ((if_neg (ne_true_of_eq_false h1)).trans (if_pos hf)).symm)
 ·exact call_meets F.slot_str_split (typeIs_str _ _ _) F.entry_str_split (F.args_str_split_2 _ _) (meets_str_split_cannot_occur z y t tu h1) (key [(z,t)] _ (if_pos h1).symm)
theorem q5J:∀{ts:List Str} {us:List Value},Vals (ts.map V.str) us->∃l:List (Str×Tok),us=strValues l/\l.map (·.1)=ts
 |[],_,.nil=>⟨[],rfl,rfl⟩
 | x::ts,_,.cons ⟨t,e⟩ r=>by
  obtain⟨l,e1,e2⟩:=q5J r;exact⟨(x,t)::l,by rw[e,e1];rfl,by rw[List.map_cons,e2]⟩
noncomputable def rJoin(K:PySem.W.Frag):V->List V->Hp->VK->Prop:=λx xs H Q=>∃z a ts,x = .str z/\xs=[.ref a]/\SqL K H a (ts.map V.str)/\JoinOk z ts=true/\Q (.str (Txt.join z ts)) H
theorem mt_join:MtR X "str.join" (rJoin X.K):=by
 intro pins s σ H x xs v us Q I rx rv h;obtain⟨z,a,ts,rfl,rfl,hl,hok,q⟩:=h;obtain⟨t,rfl⟩:=rx;obtain⟨u,rfl,ru⟩:=q2F rv;cases ru;obtain⟨its,r,pl,_⟩:=I.list hl;obtain⟨l,rfl,el⟩:=q5J r
 exact PySem.SC.join pl.isList el hok λt' k=>⟨.str _,H,I.tok _,⟨_,rfl⟩,q⟩
noncomputable def rStarts:V->List V->Hp->VK->Prop:=λx xs H Q=>∃z y,x = .str z/\xs=[.str y]/\Q (.bl (0+y.length<=z.length && Builtin.Str.subAt z y 0)) H
theorem mt_starts:MtR X "str.startswith" rStarts:=by
 intro pins s σ H x xs v us Q I rx rv h;obtain⟨z,y,rfl,rfl,q⟩:=h;obtain⟨t,rfl⟩:=rx;obtain⟨u,rfl,tu,rfl⟩:=q2F rv
 exact call_gives F.slot_str_startswith (typeIs_str _ _ _) F.entry_str_startswith (F.args_str_startswith_2 _ _) (gives_str_startswith z y t tu) ⟨.bl _,H,I,rfl,q⟩
theorem q0O:q1C X (.type "int") (λxs H Q=>∃z n,xs=[.str z]/\PySem.intText? z=some n/\z.length<=640/\Q (.int n) H):=by
 intro pins s σ H xs us Q I r h;obtain⟨z,n,rfl,hn,hl,q⟩:=h;obtain⟨u,rfl,t,rfl⟩:=q2F r;exact KIN.call_text hn hl ⟨.int n,H,I.tok _,⟨_,rfl⟩,q⟩
noncomputable def Its(x:Str):It:=⟨λi _=>i < x.cps.size,λi H v H'=>H'=H/\∃c,x.cps[i]?=some c/\v = .str ⟨#[c]⟩,λi _=>x.cps.size<=i⟩
theorem q7k(it:Addr)(x:Str)(t:Tok):Turn P w K tg (Its x) [it] it (λi h=>h.IsStrIter it "str_ascii_iterator" x t i) where
 mem:=by simp
 obj:=λi h st b hb=>by
  have e:b=it:=by simpa using hb
  subst e;obtain⟨o,e,c,d⟩:=st;exact⟨o,e,λv z=>by rw[d] at z;cases z⟩
 keep:=λi h h' st k=>by
  obtain⟨o,e,c,d⟩:=st;exact⟨o,k it (by simp) o e,c,d⟩
 item:=by
  intro X hP hw hK hc i pins s σ H E I hf st hg;subst hP hw hK;have hi:i < x.cps.size:=hg;obtain⟨f0,f1,f2,f3,f4,f5⟩:=hf it (by simp);refine wpAny_pyNext_ascii_item st (c:=x.cps[i]) (by simp[hi]) λh' st' sb=>?_;have I1:Inv X pins σ H {s with heap:=h',toks:=s.toks+1}:=I.turned (λb o hb e=>(sb.2 b hb).trans e) f0 f1 f3 f4 f5;obtain⟨o,e,c,d⟩:=id st';exact⟨_,rfl,q89 (s:={s with heap:=h',toks:=s.toks+1}) e c d (by decide) ⟨.str ⟨#[x.cps[i]]⟩,H,I1,⟨_,rfl⟩,⟨rfl,x.cps[i],by simp[hi],rfl⟩,st',λb hb=>(hf b hb).1⟩⟩
 done:=by
  intro X hP hw hK hc i pins s σ H E I hf st hg;subst hP hw hK;have hi:x.cps.size<=i:=hg;obtain⟨f0,f1,f2,f3,f4,f5⟩:=hf it (by simp)
  exact wpAny_pyNext_ascii_end (I.ok.hd hc) st (by simp;lia) λh' eb=>⟨rfl,I.turned (t':=s.toks) (λb o hb e=>eb b o hb e) f0 f1 f3 f4 f5⟩
 self:=λ_ _ _ _ _ st h=>wpAny_pyIter_striter_ascii st h
theorem turn_wide(it:Addr)(x:Str)(t:Tok):Turn P w K tg (Its x) [it] it (λi h=>h.IsStrIter it "str_iterator" x t i) where
 mem:=by simp
 obj:=λi h st b hb=>by
  have e:b=it:=by simpa using hb
  subst e;obtain⟨o,e,c,d⟩:=st;exact⟨o,e,λv z=>by rw[d] at z;cases z⟩
 keep:=λi h h' st k=>by
  obtain⟨o,e,c,d⟩:=st;exact⟨o,k it (by simp) o e,c,d⟩
 item:=by
  intro X hP hw hK hc i pins s σ H E I hf st hg;subst hP hw hK;have hi:i < x.cps.size:=hg;obtain⟨f0,f1,f2,f3,f4,f5⟩:=hf it (by simp);refine wpAny_pyNext_wide_item st (c:=x.cps[i]) (by simp[hi]) λh' st' sb=>?_;have I1:Inv X pins σ H {s with heap:=h',toks:=s.toks+1}:=I.turned (λb o hb e=>(sb.2 b hb).trans e) f0 f1 f3 f4 f5;obtain⟨o,e,c,d⟩:=id st';exact⟨_,rfl,q89 (s:={s with heap:=h',toks:=s.toks+1}) e c d (by decide) ⟨.str ⟨#[x.cps[i]]⟩,H,I1,⟨_,rfl⟩,⟨rfl,x.cps[i],by simp[hi],rfl⟩,st',λb hb=>(hf b hb).1⟩⟩
 done:=by
  intro X hP hw hK hc i pins s σ H E I hf st hg;subst hP hw hK;have hi:x.cps.size<=i:=hg;obtain⟨f0,f1,f2,f3,f4,f5⟩:=hf it (by simp)
  exact wpAny_pyNext_wide_end (I.ok.hd hc) st (by simp;lia) λh' eb=>⟨rfl,I.turned (t':=s.toks) (λb o hb e=>eb b o hb e) f0 f1 f3 f4 f5⟩
 self:=λ_ _ _ _ _ st h=>wpAny_pyIter_striter_wide st h
noncomputable def iStr(tl:TE):TI:=λσ H R=>tl σ H λx H1=>∃z,x = .str z/\R (Its z) H1
theorem pi_str{l:Expr}{tl:TE}(hl:PE X l tl):PI X tg l (iStr tl):=by
 intro pins s σ H R I h;refine thn (hl pins s σ H _ I h) λv s1 ⟨x,H1,I1,r1,q1⟩=>?_;obtain⟨z,e,q⟩:=q1;subst e;obtain⟨t,rfl⟩:=r1
 have fp:∀b,b∈[s1.heap.objs.size]->FpOk X pins H1 b:=λb hb=>by
  have e:b=s1.heap.objs.size:=by simpa using hb
  subst e;exact I1.fpOk (Nat.le_refl _) (I1.hok.fresh (Nat.le_refl _))
 cases ha:z.cps.all (· < 128)
 ·refine wpAny_pyIter_wide ha ?_
  exact⟨s1.heap.objs.size,[s1.heap.objs.size],_,_,H1,rfl,I1.kept (t':=s1.toks) λb o e=>Heap.get?_push_of_some _ e,turn_wide _ z t,⟨_,Heap.get?_push_size _ rfl,rfl,rfl⟩,fp,q⟩
 ·refine wpAny_pyIter_ascii ha ?_
  exact⟨s1.heap.objs.size,[s1.heap.objs.size],_,_,H1,rfl,I1.kept (t':=s1.toks) λb o e=>Heap.get?_push_of_some _ e,q7k _ z t,⟨_,Heap.get?_push_size _ rfl,rfl,rfl⟩,fp,q⟩
noncomputable def rSlS:V->Option Int->Option Int->Hp->VK->Prop:=λx lo hi H Q=>∃z,x = .str z/\z.length<=sizeLine/\Q (.str (Txt.slice z lo hi)) H
theorem part_of{v:Value}{o:Option Int}(h:IsPart v o):∃l:Option (Int×Tok),v=partValue l/\l.map (·.1)=o:=by
 cases h with
 |none=>exact⟨none,rfl,rfl⟩
 |int i t=>exact⟨some (i,t),rfl,rfl⟩
theorem q38:SlR X rSlS:=by
 intro pins s σ H x v vl vu lo hi sl Q I rx hs pl pu h;obtain⟨z,rfl,hz,q⟩:=h;obtain⟨t,rfl⟩:=rx;obtain⟨l,rfl,rfl⟩:=part_of pl;obtain⟨u,rfl,rfl⟩:=part_of pu;refine⟨"str",_,F.slot_str_getitem.lookup,typeIs_str _ _ _,wpAny_getItem_str_slice (l:=l) (u:=u) (st:=none) hs rfl (post_val_or_str ⟨Nat.le_trans (Txt.slice_le z _ _) hz,λt' k=>⟨.str _,H,I.tok _,⟨t',rfl⟩,q⟩⟩)⟩
theorem pe_conS{z:Str}{pos:Pos}(hg:Gl X x)(hm:∃t,X.mg x=some (.str z t))(hd:(x == ("__debug__" : Str))=false:=by decide):PE X (.Name x pos) (tC (.str z)):=by
 obtain⟨t,hm⟩:=hm;exact q0R (v:=.str z) hg hm ⟨t,rfl⟩ hd
end
section
variable {X:Cx}{N':List Str}{scope:Scope}{C:Addr}{s:Shared}{H:Hp}{fp:List Addr}
theorem q34:OpR (blk X N' scope C s H fp) (compareOp .In) (λx y H Q=>∃i j,x = .str i/\y = .str j/\Q (.bl (!(Builtin.Str.occurrences j i 0 j.length 1).isEmpty)) H):=op_in_str
end
open PySem.AutoSeq1 (wpAny_loadPart')
open PySem.MeetsSeq PySem.MeetsSeq2 PySem.MeetsSeq3
section
variable {X:Cx}
structure CDivL(i j:Int):Prop where
 pos:0 < j
 lt:j < 2 ^ 200
theorem op_fdivL:OpR X (binaryOp .FloorDiv) (rI CDivL λi j=>.int (i/j)):=opI λi j _ _ _ _ _ hc q=>by
 obtain⟨h0,h1⟩:=hc;refine floordiv_int (by lia) (by rw[Int.fdiv_eq_ediv_of_nonneg i (by lia)];exact q) (.inl (PyProof.noPylong_of_log2 ?_));have h2:j.natAbs≠0:=by lia
 have h3:j.natAbs.log2 < 200:=(Nat.log2_lt h2).mpr (by lia)
 lia
end
section
variable {X:Cx}{N':List Str}{scope:Scope}{C:Addr}{s:Shared}{H:Hp}{fp:List Addr}{e st o i:Expr}{te ts td ty:TE}{pos p2:Pos}
theorem pe_revB(he:PE (blk X N' scope C s H fp) e te)(hst:PE (blk X N' scope C s H fp) st ts):PE (blk X N' scope C s H fp) (.Subscript e (.Slice none none (some st) p2) pos) (tRev X.K te ts):=pe_rev he hst
theorem pe_dgetB(hu:X.A.units+1 < cLine)(ho:PE (blk X N' scope C s H fp) o td)(hi:PE (blk X N' scope C s H fp) i ty)(hs:NoSl i):PE (blk X N' scope C s H fp) (.Subscript o i pos) (tDGet td ty):=q2O hu ho hi hs
end
noncomputable def exV(a:Addr)(C:Value):HO:=.ext (λh=>∃o,h.get? a=some o/\o.cls=C)
section
variable {X:Cx}{pins:List (Addr×Obj)}{σ:St}{H:Hp}{s:Shared}
theorem Inv.track{o:Obj}{C:Value}(I:Inv X pins σ H s)(e:s.heap.get? a=some o)(hc:o.cls=C)(n:H a=none)(new:X.s₀.heap.get? a=none)(hl:a≠X.env.locals)(hd:∀v,o.data≠.cell v)(hp:∀p∈X.pn++pins,p.1≠a):
  Inv X pins σ (upd H a (exV a C)) s:=by
 refine⟨I.ok,I.os,I.bare,⟨I.base.keep,I.base.slot,λb ob e1 n1 hx=>?_,I.base.there,λb xs z=>?_,λb ob u z=>?_,λb ps z=>?_⟩,I.loc,I.cell,?_,λx c z=>?_,λp z=>?_,λb ob z=>?_,I.len⟩
 ·rw[qG (λz=>by subst z;rw[new] at e1;cases e1)]
  exact I.base.free b ob e1 n1 hx
 ·have q:=I.base.tups b xs z
  rw[qG (qJ q n)];exact q
 ·have q:=I.base.frzs b ob u z
  rw[qG (qJ q n)];exact q
 ·obtain⟨more,q⟩:=I.base.tbls b ps z
  refine⟨more,?_⟩;rw[qG (qJ q n)];exact q
 ·rw[qG (Ne.symm hl)]
  exact I.free
 ·rw[qG (λy=>?_)]
  ·exact I.freeC x c z
  ·subst y
   obtain⟨v,o1,e1,d1⟩:=I.cell x c z;rw[e] at e1;cases e1;exact hd v d1
 ·obtain⟨q1,q2,q3⟩:=I.pin p z
  refine⟨q1,?_,q3⟩;rw[qG (hp p z)];exact q2
 ·by_cases hb:b=a
  ·subst hb
   rw[q0] at z;cases z;exact⟨⟨o,e,hc⟩,⟨o,e⟩,λh1 h2 ⟨o1,e1,c1⟩ k=>⟨o1,k o1 e1,c1⟩⟩
  ·rw[qG hb] at z
   exact(I.hok b ob z).stay (λc v _ q=>q) (λc q=>by rw[qG (qJ q n)];exact q) λc xs q=>by rw[qG (qJ q n)];exact q
end
noncomputable def goneK(i:Nat)(a:Addr)(C:Value)(D:Ends):Ends:={nx:=λσ H=>D.nx (σ.set i none) (upd H a (exV a C)),rt:=λv H=>D.rt v (upd H a (exV a C)),bk:=λσ H=>D.bk (σ.set i none) (upd H a (exV a C)),ct:=λσ H=>D.ct (σ.set i none) (upd H a (exV a C))}
noncomputable def tTryK(K:PySem.W.Frag)(T:Value)(len i:Nat)(tb:XK->TS)(th:Addr->Value->TS):TS:=λD σ H=>
 tb (λC _ H'=>PySem.W.exmOne K C T=some true/\∀(a:Addr) (σ':St),H' a=none->σ'.length=len->th a C (goneK i a C D) (σ'.set i (some (.ref a))) H') D σ H
theorem ps_tryK{n:Str}{np hpos pos:Pos}{body:List Stmt}{b₀:Stmt}{suite:List Stmt}{T:Addr}{tb:XK->TS}{th:Addr->Value->TS}
  (hN:X.N.Nodup)(hi:X.N[i]?=some n)(hn:X.env.scope.names.lookup n=some .local)(hfr:X.env.frame=some X.env.locals)(hst:X.stack=X.env::X.outer)(hg:Gl X x)(hm:X.mg x=some (.ref T))
  (hb:∀(pins:List (Addr×Obj)) (xe:Value->Shared->Prop) (E:XK),q0Y (CXE X.prog X.w) (X.tried pins xe) E->PSs (X.tried pins xe) body (tb E))
  (hh:∀(a:Addr) (o:Obj) (pins:List (Addr×Obj)) (C:Value),o.cls=C->PSs (X.suite a o pins) (b₀::suite) (th a C))(hex:X.ex=[]:=by rfl)(hd:(x == ("__debug__" : Str))=false:=by decide):
  PS X (.Try body [.ExceptHandler (some (.Name x np)) (some n) (b₀::suite) hpos] [] [] pos) (tTryK X.K (.ref T) X.N.length i tb th):=by
 intro pins s σ H D I h
 refine wpAny_Try_except (wpAny_mono (hb pins (λe s₁=>wpAny (model X.prog X.w) X.A (noteFrame e X.env) (λ_ s₂=>wpAny (model X.prog X.w) X.A (setFlight e none) (λ_ s₃=>
  wpAny (model X.prog X.w) X.A (handleBy e X.env [.ExceptHandler (some (.Name x np)) (some n) (b₀::suite) hpos]) (SP X pins D) X.xe s₃) X.xe s₂) X.xe s₁) _ ?_ [] s σ H D I.tried h) (λfl s1 q=>?_) λe s1 q=>q)
 ·rintro ps σ' H1 s1 e s' J0 ⟨C,a,a0,B,H',rfl,F,hx,k⟩
  have J:Inv X pins σ' H1 s1:=J0.untried;have F:Aloft X.prog X.w X.stack H1 s1 C a a0 B H' s':=F
  have nL:a≠X.env.locals:=λz=>F.fresh.2.1 (by
   rw[hst,z];unfold frs;rw[List.filterMap_cons,hfr];exact List.mem_cons_self)
  have nF:a∉X.fs:=λz=>F.fresh.2.1 (by rw[hst];exact q00 z);have n0:X.s₀.heap.get? a=none:=by
   cases z:X.s₀.heap.get? a with
   |none=>rfl
   | some o=>
    obtain⟨o1,e1⟩:=J.base.there a o z (by rw[hex];simp);rw[F.fresh.2.2] at e1;cases e1
  have nP:∀p∈X.pn++pins,p.1≠a:=λp hp z=>by
   have q:=(J.pin p hp).1;rw[z,F.fresh.2.2] at q;cases q
  have fl0:Heap.FlyingW B (X.env::X.outer) a C a0 s'.heap:=hst▸F.fl
  have land:∀h2,Heap.FlyingW B X.stack a C a0 h2->s'.heap.UpToSlots h2->Inv X pins σ' H' {s' with heap:=h2}:=λh2 g u=>by
   have F2:=F.on g u;exact J.call' F2.os F2.un (F2.hok.kept λb o e=>g.1 b o e) F2.bare (λb z=>absurd z (by simp))
  show wpAny _ _ (noteFrame _ _) _ _ s';refine wpAny_looks_onW (base:=B) (outer:=X.outer) (L:=X.env.locals) (cls:=C) (a0:=a0) (hst▸J.ok.frames) hfr fl0 λh2 g2 u2=>?_;refine wpAny_landsW g2 λh3 g3 u3=>?_;have J3:=land h3 (hst▸g3) (u2.trans u3);obtain⟨o3,v3,e3,c3,d3,_⟩:=g3.first;have S3:=J3.suite e3 F.fresh.1 nL nF (λv z=>by rw[d3] at z;cases z);refine wpAny_handleBy_cons (codeAny_handlers_test (q1r S3 hg hm ?_ hd)) (by intro q;cases q);refine(exm_one (M:=model X.prog X.w) S3.kIn (c3▸(Looks.ld e3).andThen .now) hx).here ?_;refine codeAny_handlers_suite_as (lands_againW g3 λh4 g4 u4=>?_);have J4:=land h4 (hst▸g4) ((u2.trans u3).trans u4);obtain⟨o4,v4,e4,c4,d4,_⟩:=g4.first;have S4:=J4.suite e4 F.fresh.1 nL nF (λv z=>by rw[d4] at z;cases z);refine q1w (X:=X.suite a o4 pins) (v:=.ref a) (u:=.ref a) S4 hN hi (.inl hn) rfl (λs5 I5=>?_) (.inr hn);refine wpAny_mono (hh a o4 pins C c4 [] s5 _ H' (goneK i a C D) I5 (k a σ' F.fresh.1 J.len)) (λfl s6 q=>?_) λ_ _ z=>z.elim
  have fin:∀{σ6:St} {H6:Hp} {Z:Shared->Prop},Inv (X.suite a o4 pins) [] σ6 H6 s6->(∀s7,Inv X pins (σ6.set i none) (upd H6 a (exV a C)) s7->Z s7)->
    wpAny (model X.prog X.w) X.A (do bindName X.env n .none;unbindBehindTheSuite X.env n hpos) (λ_ s7=>Z s7) X.xe s6:=λ{σ6 H6 Z} I6 hz=>by
   have pn6:=I6.pin (a,o4) (by rw[List.append_nil];exact List.mem_cons_self);have J6:=(I6.unsuite J.ok.hd).track pn6.1 c4 pn6.2.1 n0 nL pn6.2.2.2.2 nP;obtain⟨m,hm6,_⟩:=id J6.loc;exact wpAny_nameGoes_keeps hn hm6 (by rw[J6.ok.kind];rfl) λh' v hn' hs=>hz _ (J6.gone hN hi hm6 hn' hs)
  cases fl with
  |next=>obtain⟨σ6,H6,I6,q⟩:=q;exact fin I6 λs7 I7=>⟨_,_,I7,q⟩
  |brk=>obtain⟨σ6,H6,I6,q⟩:=q;exact fin I6 λs7 I7=>⟨_,_,I7,q⟩
  |cont=>obtain⟨σ6,H6,I6,q⟩:=q;exact fin I6 λs7 I7=>⟨_,_,I7,q⟩
  |ret u=>obtain⟨v,σ6,H6,I6,r,q⟩:=q;exact fin I6 λs7 I7=>⟨v,_,_,I7,r,q⟩
 ·cases fl with
  |next=>obtain⟨σ1,H1,I1,q⟩:=q;exact wpAny_execs_nil ⟨σ1,H1,I1.untried,q⟩
  |brk=>obtain⟨σ1,H1,I1,q⟩:=q;exact⟨σ1,H1,I1.untried,q⟩
  |cont=>obtain⟨σ1,H1,I1,q⟩:=q;exact⟨σ1,H1,I1.untried,q⟩
  |ret u=>obtain⟨v,σ1,H1,I1,r,q⟩:=q;exact⟨v,σ1,H1,I1.untried,r,q⟩
noncomputable def rIsX(K:PySem.W.Frag):List V->Hp->VK->Prop:=λxs H Q=>∃(a D:Addr) (c:V) (cv:Value) (b:Bool),xs=[.ref a,c]/\H a=some (exV a (.ref D))/\ExK K D/\((∃C,c = .ref C/\cv = .ref C)\/∃T,c = .ty T/\cv = .type T)/\PySem.W.kitOne K (.ref D) cv=some b/\Q (.bl b) H
theorem q0j(hK:X.K=K):q1C X (.builtin "isinstance") (rIsX K):=by
 subst hK;intro pins s σ H xs us Q I r h;obtain⟨a,D,c,cv,b,rfl,ha,k,rc,e,q⟩:=h;obtain⟨u,w',rfl,rx,rT⟩:=vals2 r;cases(show u=Value.ref a from rx)
 obtain rfl:cv=w':=by
  rcases rc with⟨C,rfl,rfl⟩|⟨T,rfl,rfl⟩
  ·exact(show w'=Value.ref C from rT).symm
  ·exact(show w'=Value.type T from rT).symm
 obtain⟨⟨o,e1,c1⟩,_⟩:=(show ObjOk X.prog X.w H s.heap a (exV a (.ref D)) from I.hok a _ ha)
 exact PySem.W.kia_one (kit_exc k) I.kIn ⟨o,e1,c1⟩ e (λz=>nomatch z) λtk=>⟨.bl b,H,I.tok tk,rfl,q⟩
theorem wk1{α:Sort _}{p q:α->Prop}(v:α)(h:p v)(k:q v):∃x,p x/\q x:=⟨v,h,k⟩
theorem wk2{α β:Sort _}{p:α->Prop}{q:β->Prop}{r:α->β->Prop}(v:α)(u:β)(h:p v)(g:q u)(k:r v u):∃x y,p x/\q y/\r x y:=⟨v,u,h,g,k⟩
section
variable {X:Cx}{K:PySem.W.Frag}
theorem qR(hK:X.K=K):IxR X (rIxL K):=hK▸ix_list
theorem qH(hK:X.K=K):IxR X (rIxT K):=hK▸ix_tup
theorem q0e(hK:X.K=K):SlR X (rSlL K):=hK▸sl_list
noncomputable def rLen(K:PySem.W.Frag):List V->Hp->VK->Prop:=λxs H Q=>∃(p:Addr) (ys:List V),xs=[.ref p]/\(SqL K H p ys\/SqT K H p ys)/\Q (.int ys.length) H
theorem qQ(hK:X.K=K):q1C X (.builtin "len") (rLen K):=by subst hK;exact q3E
noncomputable def rListOf(K:PySem.W.Frag):List V->Hp->VK->Prop:=λxs H Q=>∃(p:Addr) (ys:List V),xs=[.ref p]/\(SqL K H p ys\/SqT K H p ys)/\∀l:Addr,H l=none->Q (.ref l) (upd H l (.lst ys))
theorem q0N(hK:X.K=K):q1C X (.type "list") (rListOf K):=by subst hK;exact q69
noncomputable def rSum(K:PySem.W.Frag):List V->Hp->VK->Prop:=λxs H Q=>∃(p:Addr) (ns:List Int),xs=[.ref p]/\SqL K H p (ns.map V.int)/\Q (.int ns.sum) H
theorem call_sumK(hc:X.calm=true)(hK:X.K=K):q1C X (.builtin "sum") (rSum K):=by subst hK;exact call_sum hc
theorem op_eqDK{k:Nat}(hr:Room k X.A)(hK:X.K=K):OpR X (compareOp .Eq) (rEqD K false):=hK▸op_eqD hr
theorem q6a{k:Nat}(hr:Room k X.A)(hK:X.K=K):OpR X (compareOp .NotEq) (rEqD K true):=hK▸op_neD hr
noncomputable def rMax(K:PySem.W.Frag):List V->Hp->VK->Prop:=λxs H Q=>∃(p:Addr) (ns:List Int),xs=[.ref p]/\SqL K H p (ns.map V.int)/\0 < ns.length/\∀M,M∈ns->(∀a,a∈ns->a<=M)->Q (.int M) H
theorem q5n(hc:X.calm=true)(hK:X.K=K):q1C X (.builtin "max") (rMax K):=by subst hK;exact q6j hc
theorem pg_tupK{pos:Pos}{k:Nat}{t:TGs}(hK:X.K=K)(hc:X.calm=true)(h:PGs X es t)(hl:(assignEach es X.env).length=n:=by rfl)(hf:List.findIdx? (λx=>x.fst) (assignEach es X.env)=none:=by rfl):PG X (.Tuple es k pos) (gTup K n t):=hK▸pg_tup hc h hl hf
theorem q6X{o:Expr}{to:TE}{name:Str}{apos cpos:Pos}{T id:String}{r:V->List V->Hp->VK->Prop}(hK:X.K=K)(pa:PlainAttrs T)(slot:Slot T name id)(hty:typeOf (.builtin id)=pure (.type "method_descriptor"))(hm:MtR X id r)(ho:PE X o to)
  (hbase:attributeBase o name X.env (eval o X.env)=eval o X.env:=by rfl)(hline:(apos.endLine == cpos.line)=true:=by rfl):PE X (.Call (.Attribute o name apos) [] [] cpos) (tBM0 K T r to):=hK▸pe_bm0 pa slot hty hm ho hbase hline
theorem qm{l:Expr}{tl:TE}(hK:X.K=K)(h:PE X l tl):PI X tg l (iList K tl):=hK▸pi_list h
end
noncomputable def topRunT(tb:String->Option Builtin)(p:Program)(w:World)(n₀:Nat)(ann:Option Value):Nat->SharedT->Thread->Option SharedT
 |0,_,_=>none
 | n+1,s,t=>match through t with
  |true=>some s
  | false=>match stepOk n₀ ann t with
   |false=>none
   | true=>match stepT (denote tb) p w s t with
    |some (s',t')=>topRunT tb p w n₀ ann n s' t'
    |none=>none
theorem q4I{tb:String->Option Builtin}{p:Program}{w:World}{n₀:Nat}{ann:Option Value}:∀{n:Nat} {s s':SharedT} {t:Thread},topRunT tb p w n₀ ann n s t=some s'->topRun tb p w n₀ ann n s.abs t=some s'.abs
 |0,_,_,_,h=>by cases h
 | n+1,s,s',t,h=>by
  unfold topRunT at h;unfold topRun
  cases ht:through t with
  |true=>rw[ht] at h;cases h;rfl
  | false=>
   rw[ht] at h
   cases hk:stepOk n₀ ann t with
   |false=>rw[hk] at h;cases h
   | true=>
    rw[hk] at h
    cases hs:stepT (denote tb) p w s t with
    |none=>rw[hs] at h;cases h
    |some r=>obtain⟨s₂,t₂⟩:=r;rw[hs] at h;rw[stepT_spec hs];exact q4I h
noncomputable def mkT:Nat->List Obj->Nat->Nat->BT
 |0,_,_,_=>.nil
 | k+1,os,a,b=>match os[b]? with
  |some o=>.node o (mkT k os (2*a) (a+b)) (mkT k os (2*a) (2*a+b))
  |none=>.nil
noncomputable def bootT(P:Params):BT:=mkT 12 (boot_heap P).objs.toList 1 0
theorem boot_tree(P:Params):absHeap (bootT P) 11 (boot_heap P).life=boot_heap P:=by kernel_rfl
theorem boot_size(P:Params):((boot_heap P).isNs mainGlobals && (#[]:Array GenState).size == 0,(boot_heap P).objs.size,(boot_heap P).nsMap mainGlobals "__annotations__")=(true,11,some (.ref 6)):=by kernel_rfl
theorem LeftO.of_tree{p:Program}{Xt:Shared->Bool}{α:Type}{Yf:Shared->α}{Ya:World->α}{N:Nat}{g0:Bool}(e:opening p=plainProg p.main.scope.names)(hN:Nat.ble 600 N=true)(f:∀s,fenceModules? p s=some s)
  (run:∀(w:World) (os:OsState),(topRunT treeTable p w 11 (some (.ref 6)) N ⟨bootT w.params,11,(boot_heap w.params).life,#[],boot_drawn,boot_toks,os⟩ (topStub p)).map (λs=>
   ((staticsOk (importedModules p.main.body) (boot_heap w.params) s.abs.heap && namesBound p s.abs.heap && gensDone s.abs && laidKept (boot_heap w.params) s.abs.heap),openSeen q loose (importedModules p.main.body) Xt g0 s.abs,Yf s.abs))=some (true,openGood q loose,Ya w)):
  PySem.W.LeftO p q loose Xt Yf Ya N g0:=λw=>by
 obtain⟨⟨h,gs,d,k,os⟩,e1,e'⟩:=Option.map_eq_some_iff.mp (boot_open e hN f w);obtain⟨rfl,rfl,rfl,rfl⟩:h=boot_heap w.params/\gs = #[]/\d=boot_drawn/\k=boot_toks:=by simpa using e'
 obtain⟨z1,z2,z3⟩:_/\_/\_:=by simpa only[Prod.mk.injEq] using boot_size w.params
 obtain⟨sT,r0,l0⟩:=Option.map_eq_some_iff.mp (run w os);obtain⟨l1,l2,l3⟩:_/\_/\_:=by simpa only[Prod.mk.injEq] using l0
 have r:=q4I r0;rw[show(SharedT.abs ⟨bootT w.params,11,(boot_heap w.params).life,#[],boot_drawn,boot_toks,os⟩)=⟨boot_heap w.params,#[],boot_drawn,boot_toks,os⟩ from congrArg (λz=>(⟨z,#[],boot_drawn,boot_toks,os⟩:Shared)) (boot_tree w.params)] at r;have t:topFrom treeTable p w N ⟨boot_heap w.params,#[],boot_drawn,boot_toks,os⟩=some sT.abs:=by
  unfold topFrom;dsimp only;rw[z1,z2,z3,r];show(match staticsOk (importedModules p.main.body) (boot_heap w.params) sT.abs.heap && namesBound p sT.abs.heap && gensDone sT.abs && laidKept (boot_heap w.params) sT.abs.heap with|true=>_|false=>_)=_;rw[l1]
 unfold openEnds;rw[e1];show(topFrom treeTable p w N _).map _=_;rw[t];exact congrArg some (Prod.ext l2 l3)
theorem LeftO.of_tree2{p:Program}{Xt:Shared->Bool}{α:Type}{Yf:Shared->α}{Ya:World->α}{N:Nat}{g0:Bool}(e:opening p=plainProg p.main.scope.names)(hN:Nat.ble 600 N=true)(f:∀s,fenceModules? p s=some s)
  (run:∀(w:World) (os:OsState),(topRunT treeTable p w 11 (some (.ref 6)) N ⟨bootT w.params,11,(boot_heap w.params).life,#[],boot_drawn,boot_toks,os⟩ (topStub p)).map (λs=>
   (((staticsOk (importedModules p.main.body) (boot_heap w.params) s.abs.heap && namesBound p s.abs.heap && gensDone s.abs && laidKept (boot_heap w.params) s.abs.heap),openSeen q loose (importedModules p.main.body) Xt g0 s.abs),Yf s.abs))=some ((true,openGood q loose),Ya w)):
  PySem.W.LeftO p q loose Xt Yf Ya N g0:=LeftO.of_tree e hN f λw os=>by
 obtain⟨sT,r0,l0⟩:=Option.map_eq_some_iff.mp (run w os);rw[r0];show some _=some _;rw[Prod.ext_iff,Prod.ext_iff] at l0;exact congrArg some (Prod.ext l0.1.1 (Prod.ext l0.1.2 l0.2))
structure MDef(CX:CXT)(P:Program)(w:World)(K:PySem.W.Frag)(mg:Str->Option Value)(base:Heap)(k:Nat)(C:Addr)(m:Str)(ps:List Str)(sp:Sp):Prop where
 ex:∃(f:Addr) (fd:FuncData),FnOk P w K mg base CX k f fd ps sp/\Binds K fd ps []/\Meth K C m f
theorem MDef.mono{CX:CXT}{P:Program}{w:World}{K:PySem.W.Frag}{mg:Str->Option Value}{base:Heap}{j k:Nat}{C:Addr}{m:Str}{ps:List Str}{sp:Sp}(D:MDef CX P w K mg base j C m ps sp)(h:j<=k):MDef CX P w K mg base k C m ps sp:=by
 obtain⟨f,fd,F,b,z⟩:=D.ex;exact⟨f,fd,F.mono h,b,z⟩
section
variable {X:Cx}{CX:CXT}{k:Nat}{C:Addr}{m:Str}{ps:List Str}{sp:Sp}{E:XK}{apos pos p:Pos}{o e:Expr}{es:List Expr}{ta:TE}{t:TA}
theorem q2h{pl:Sem Bool}(D:MDef CX X.prog X.w X.K X.mg X.base k C m ps sp)(c:Cls X.K C)(hr:Room k X.A)(hx:q0Y CX X E)(ho:PE X o ta)(ha:PA X (e::es) t)
  (hst:starEach (e::es) X.env=(false,eval e X.env)::starEach es X.env:=by rfl)(hpl:(backTo pos (starEach es X.env)).any (·.1)=false:=by rfl)
  (ht:eval (.Call (.Attribute o m apos) (e::es) [] pos) X.env=(do
   let ov <-eval o X.env
   standAt apos.atName
   let(f,first) <-holding [ov] (getMethod ov m pl)
   callWith pos f first (backTo pos (starEach (e::es) X.env)) (backToKw pos (keywordEach [] X.env))):=by rfl):
  PE X (.Call (.Attribute o m apos) (e::es) [] pos) (tMeth C m sp [] E ta t):=by
 obtain⟨f,fd,F,b,z⟩:=D.ex;exact pe_meth ho c z F hr b .nil hx ha hst hpl ht
theorem pe_md0{pl:Sem Bool}(D:MDef CX X.prog X.w X.K X.mg X.base k C m ps sp)(c:Cls X.K C)(hr:Room k X.A)(hx:q0Y CX X E)(ho:PE X o ta)
  (ht:eval (.Call (.Attribute o m apos) [] [] pos) X.env=(do
   let ov <-eval o X.env
   standAt apos.atName
   let(f,first) <-holding [ov] (getMethod ov m pl)
   callWith pos f first (backTo pos (starEach [] X.env)) (backToKw pos (keywordEach [] X.env))):=by rfl):
  PE X (.Call (.Attribute o m apos) [] [] pos) (tMeth C m sp [] E ta tNil):=by
 obtain⟨f,fd,F,b,z⟩:=D.ex;exact pe_meth0 ho c z F hr b .nil hx ht
structure NDef(P:Program)(w:World)(K:PySem.W.Frag)(mg:Str->Option Value)(base:Heap)(k:Nat)(C:Addr)(x:Str)(ps:List Str)(sp:Sp):Prop where
 ex:∃(f:Addr) (fd:FuncData),FnOk P w K mg base CX0 k f fd ps sp/\Binds K fd ps []/\Mk K C f/\mg x=some (.ref C)
theorem NDef.mono{P:Program}{w:World}{K:PySem.W.Frag}{mg:Str->Option Value}{base:Heap}{j k:Nat}{C:Addr}{x:Str}{ps:List Str}{sp:Sp}(D:NDef P w K mg base j C x ps sp)(h:j<=k):NDef P w K mg base k C x ps sp:=by
 obtain⟨f,fd,F,b,z⟩:=D.ex;exact⟨f,fd,F.mono h,b,z⟩
theorem pe_nd(D:NDef X.prog X.w X.K X.mg X.base k C x ps sp)(hr:Room (k+1) X.A)(hg:Gl X x)(hdb:(x == ("__debug__" : Str))=false:=by decide):PE X (.Call (.Name x p) [] [] pos) (tMake C sp [] E0 tNil):=by
 obtain⟨f,fd,F,b,z,mg⟩:=D.ex;exact pe_make0 z F hr hg mg b .nil pass0 hdb
end
section
variable {X:Cx}{K:PySem.W.Frag}{o e value:Expr}{f:Str}{pos pos':Pos}{ta tv:TE}
theorem qy(hK:X.K=K)(he:PE X e ta)(hb:attributeBase e f X.env (eval e X.env)=eval e X.env:=by rfl):PE X (.Attribute e f pos) (tFld K ta f):=hK▸pe_fld he hb
theorem q13(hK:X.K=K)(ha:PE X o ta)(hv:PE X value tv)(hs:swapsWith value (some (.Attribute o f pos')) pos.line X.env=pure false:=by rfl):PS X (.Assign [.Attribute o f pos'] value pos) (sFld K ta tv f):=hK▸ps_fld ha hv hs
end
theorem q55(l:Addr)(items:Array Value)(n:Nat)(b:Addr)(items2:Array Value)(n2:Nat)(dd:Option Addr)(sl:Array (Option Value))(hs0:¬(!items.isEmpty && Builtin.List.listTooLong (items.size+items2.size))=true)(hs1:items.size<=sizeLine)(hs2:items.size+items2.size<=sizeLine+1):
  Meets (Builtin.«list.extend» ⟨[.ref l,.ref b],[]⟩) (λ_ R s=>s.heap.get? l=some {cls:=.type "list",dict:=none,data:=.seq items n,slots:=#[]}/\s.heap.get? b=some {cls:=.type "tuple",dict:=dd,data:=.seq items2 n2,slots:=sl}/\R (.ok (.ret Value.none)) {s with heap:=s.heap.update l (Obj.mapSeq λx=>x++items2),toks:=s.toks}):=
 .of_wp λprog w A R s h=>by
  obtain⟨hp,g,d,tk,os⟩:=s;obtain⟨hl,hb,h⟩:=h;have f1:=AutoSeq1.idx_int;have f2:=AutoSeq1.sub_tuple_tuple;have f3:=AutoSeq1.sub_list_list;have f4:=AutoSeq1.sub_tuple_list;have f5:=AutoSeq1.sub_list_tuple;have hz':(items++items2).size<=sizeLine+1:=by rw[Array.size_append];exact hs2
  wp_walk using(wpAny_updateSeq hl rfl (hz:=hs1) (_hz':=hz')),AutoSeq1.wpAny_loadPart' hl,AutoSeq1.wpAny_loadPart' hb;exact⟨_,rfl,h⟩
noncomputable def rExtendT(K:PySem.W.Frag):V->List V->Hp->VK->Prop:=λx vs H Q=>∃l b xs zs,x = .ref l/\vs=[.ref b]/\H l=some (.lst xs)/\SqT K H b zs/\xs.length+zs.length<=sizeLine/\Q .non (upd H l (.lst (xs++zs)))
theorem q80(hK:X.K=K):MtM X "list.extend" (rExtendT K):=by
 subst hK;intro pins s σ H x vs v us Q I rx rv h;obtain⟨l,b,xs,zs,rfl,rfl,hH,hB,hz,q⟩:=h;cases rx;obtain⟨u,rfl,ru⟩:=rv.one;cases ru;obtain⟨z,its,n,r,hl,e⟩:=I.lstM hH;obtain⟨its2,r2,⟨o,e2,c2,n2,d2⟩,hl2⟩:=I.tuple hB;obtain⟨cl,dd,da,sl⟩:=o;simp only at c2 d2;subst c2 d2;have hl3:=r2.length;have hsz:its.toArray.size+its2.toArray.size<=sizeLine:=by rw[List.size_toArray,List.size_toArray];lia
 have hlong:¬(!its.toArray.isEmpty && Builtin.List.listTooLong (its.toArray.size+its2.toArray.size))=true:=by
  rw[q4v hsz,Bool.and_false];exact Bool.false_ne_true
 refine call_meets F.slot_list_extend ⟨_,e,rfl⟩ F.entry_list_extend (F.args_list_extend_2 _ _)
  (q55 l its.toArray n b its2.toArray n2 dd sl hlong (by rw[List.size_toArray];lia) (by lia)) ⟨e,e2,?_⟩
 refine⟨.non,_,I.lset (its':=its++its2) hH e (by simp) (r.append r2) ?_,rfl,q⟩;rw[List.length_append]
 lia
noncomputable def LitD(P:Params):List DictEntry->List (Str×Int)->Prop
 |[],[]=>True
 |e::r,(x,i)::l=>(∃t,e.key = .str x t)/\e.hash=PyData.keyHash P x/\(∃t,e.val = .int i t)/\LitD P r l
 |_,_=>False
theorem LitD.keys{P:Params}:∀{es:List DictEntry} {l:List (Str×Int)},LitD P es l->KeysLit P es
 |[],[],_=>True.intro
 |_::_,(_,_)::_,⟨⟨t,e⟩,h,_,r⟩=>⟨⟨_,t,e,h⟩,r.keys⟩
noncomputable def valD(l:List (Str×Int))(x:Str):V:=match l.find? (λp=>p.1 == x) with|some p=>.int p.2|none=>.non
theorem LitD.find{P:Params}{x:Str}:∀{es:List DictEntry} {l:List (Str×Int)},LitD P es l->RelV (valD l x) (((es.find? (λd:DictEntry=>Value.isStrOf x d.key)).map (·.val)).getD .none)
 |[],[],_=>rfl
 | e::es,(y,i)::l,⟨⟨t,e1⟩,_,⟨t2,e2⟩,r⟩=>by
  have ih:=r.find (x:=x);unfold valD at ih ⊢;rw[List.find?_cons,List.find?_cons,e1];have hb:Value.isStrOf x (.str y t)=(y == x):=by
   simp[Value.isStrOf]
  rw[hb];by_cases h:(y == x)=true
  ·rw[h]
   exact⟨t2,e2⟩
  ·have h':(y == x)=false:=by simpa using h
   rw[h'];exact ih
structure NumD(K:PySem.W.Frag)(w:World)(a:Addr)(l:List (Str×Int)):Prop where
 at_:∃es n,K.lookup a=some ⟨.type "dict",none,.dict es n,#[]⟩/\LitD w.params es.toList l
 mods:(a == sysModules)=false
noncomputable def tDGetK(a:Addr)(l:List (Str×Int))(td ty:TE):TE:=λσ H Q=>td σ H λx H1=>x = .ref a/\ty σ H1 λy H2=>∃z,y = .str z/\Q (valD l z) H2
theorem q7Q{o e:Expr}{apos:Pos}{td ty:TE}{l:List (Str×Int)}(hK:X.K=K)(hw:X.w=w)(D:NumD K w a l)(ho:PE X o td)(he:PE X e ty)(m:M1 X o "get" apos e cpos):
  PE X (.Call (.Attribute o "get" apos) [e] [] cpos) (tDGetK a l td ty):=by
 subst hK hw;obtain⟨⟨es,n,hl,hd⟩,hm⟩:=D;intro pins s σ H Q I h;refine wpAny_Call_method m.base m.few m.line PySem.F.plainAttrs_dict PySem.F.slot_dict_get PySem.F.type_dict_get (thn (ho pins s σ H _ I h) λu s1 ⟨x,H1,I1,rx,ex,q1⟩=>?_);subst ex;obtain rfl:u=Value.ref a:=rx;have mp:=mapOf_K (prog:=X.prog) I1.kIn hl hd.keys;refine⟨mp.typeIs,?_,?_⟩
 ·intro b q
  cases q;exact⟨_,I1.kIn _ _ hl,rfl⟩
 rw[m.trees];refine Calls.callWith_builtin rfl (Calls.evalArgs_plain (Calls.spliced_cons (thn (he pins s1 σ H1 _ I1 q1) λiv s2 ⟨y,H2,I2,ry,z,ey,q2⟩=>Calls.spliced_nil ?_)));subst ey;obtain⟨t,rfl⟩:∃t,iv=Value.str z t:=ry;have mp2:=mapOf_K (prog:=X.prog) I2.kIn hl hd.keys;refine call_meetsIn PySem.F.slot_dict_get mp2.typeIs PySem.F.entry_dict_get (PySem.F.args_dict_get_2 _ _) (meets_dict_get (strKind X.prog X.w) a (strKind_is X.prog X.w z t) hm) ⟨_,mp2,?_⟩;refine⟨valD l z,H2,I2.tok _,?_,q2⟩;have hf:=hd.find (x:=z);unfold findBy;rw[<-Array.find?_toList]
 revert hf
 cases hq:es.toList.find? (λd:DictEntry=>Value.isStrOf z d.key)<;>exact λhf=>hf
theorem Def.imp{P:Program}{w:World}{K:PySem.W.Frag}{mg:Str->Option Value}{base:Heap}{k:Nat}{x:Str}{ps:List Str}{sp sp':Sp}(D:Def P w K mg base k x ps sp)(h:∀vs H Q E,sp' vs H Q E->sp vs H Q E):Def P w K mg base k x ps sp':=by
 obtain⟨f,fd,F,b,kp,m⟩:=D.ex;exact⟨f,fd,F.imp h,b,kp,m⟩
noncomputable def Itw(hi:Int)(n:Nat):It:=⟨λi _=>i < n,λi H x H'=>H'=H/\x = .int (hi+i*2),λi _=>n<=i⟩
theorem turn_two(it:Addr)(hi:Int)(n:Nat):Turn P w K tg (Itw hi n) [it] it (λi h=>IsRangeIter h it (hi+(i:Nat)*2) ((n:Int)-(i:Nat)) 2) where
 mem:=by simp
 obj:=λi h st b hb=>by
  have e:b=it:=by simpa using hb
  subst e
  exact⟨_,st,λv z=>by
   have z':Data.fields _=Data.cell v:=z
   cases z'⟩
 keep:=λi h h' st k=>k it (by simp) _ st
 item:=by
  intro X hP hw hK hc i pins s σ H E I hf st hg;subst hP hw hK;obtain⟨f0,f1,f2,f3,f4,f5⟩:=hf it (by simp);have W:=Walks.range (prog:=X.prog) (w:=X.w) (I.ok.hd hc) it hi 2 n;refine W.item i s _ _ hg st λv h' tk hv st' kk=>?_;obtain⟨t,rfl⟩:=hv;have I1:Inv X pins σ H {s with heap:=h',toks:=tk}:=I.turned (λb o hb e=>kk b o (by simpa using hb) e) f0 f1 f3 f4 f5;refine⟨_,rfl,q89 (s:={s with heap:=h',toks:=tk}) (n:="range_iterator") st' rfl rfl (by decide) ⟨.int (hi+i*2),H,I1,⟨t,?_⟩,⟨rfl,rfl⟩,st',λb hb=>(hf b hb).1⟩⟩;rfl
 done:=by
  intro X hP hw hK hc i pins s σ H E I hf st hg;subst hP hw hK;obtain⟨f0,f1,f2,f3,f4,f5⟩:=hf it (by simp)
  exact wpAny_pyNext_range_end (I.ok.hd hc) st (by have:n<=i:=hg;lia) λh' eb=>⟨rfl,I.turned (t':=s.toks) (λb o hb e=>eb b o hb e) f0 f1 f3 f4 f5⟩
 self:=λ_ _ _ _ _ st h=>wpAny_pyIter_rangeiter st h
theorem q7E(a b:Int):Builtin.Range.rangeSize a b 2=(((b-a+1)/2).toNat:Int):=by
 unfold Builtin.Range.rangeSize;rw[if_pos (by decide)];split<;>simp<;>lia
theorem small_two{a b:Int}(ha : -(2 ^ 62)<=a)(ha':a < 2 ^ 62)(hb : -(2 ^ 62)<=b)(hb':b < 2 ^ 62):Builtin.Range.small a b 2=true:=by
 unfold Builtin.Range.small;rw[q7E];simp only[Builtin.Range.rangeFitsLong,Bool.and_eq_true,Bool.or_eq_true,decide_eq_true_eq,beq_iff_eq,show(2:Int) > 0 by decide,if_true]
 lia
section
variable {X:Cx}{tg:Expr}
theorem range_itw{R:It->Hp->Prop}{lo hi:Int}{t u v:Tok}{tk:Nat}(I:Inv X pins σ H s)(h1 : -(2 ^ 62)<=lo)(h2:lo < 2 ^ 62)(h3 : -(2 ^ 62)<=hi)(h4:hi < 2 ^ 62)
  (q:R (Itw hi ((lo-hi+1)/2).toNat) H):wpAny (model X.prog X.w) X.A (pyIter (.ref s.heap.objs.size)) (PIE X pins σ tg R) E {s with heap:=s.heap.push {cls:=.type "range",data:=.fields #[.int hi t,.int lo u,.int 2 v]},toks:=tk}:=by
 refine wpAny_pyIter_range (IsRange.new ..) (small_two h3 h4 h1 h2) ?_;have I1:Inv X pins σ H {s with heap:=s.heap.push {cls:=.type "range",data:=.fields #[.int hi t,.int lo u,.int 2 v]},toks:=tk}:=I.kept λb o e=>Heap.get?_push_of_some _ e
 refine⟨(s.heap.push {cls:=.type "range",data:=.fields #[.int hi t,.int lo u,.int 2 v]}).objs.size,[(s.heap.push {cls:=.type "range",data:=.fields #[.int hi t,.int lo u,.int 2 v]}).objs.size],_,_,H,rfl,
  I1.kept (t':=tk) λb o e=>Heap.get?_push_of_some _ e,turn_two _ hi ((lo-hi+1)/2).toNat,?_,λb hb=>?_,q⟩
 ·have e1:hi+((0:Nat):Int)*2=hi:=by simp
  have e2:((((lo-hi+1)/2).toNat:Nat):Int)-((0:Nat):Int)=Builtin.Range.rangeSize hi lo 2:=by rw[q7E];simp
  show IsRangeIter _ _ (hi+((0:Nat):Int)*2) (((((lo-hi+1)/2).toNat:Nat):Int)-((0:Nat):Int)) 2;rw[e1,e2];exact Heap.get?_push_size _ rfl
 ·have e:b=(s.heap.push {cls:=.type "range",data:=.fields #[.int hi t,.int lo u,.int 2 v]}).objs.size:=by simpa using hb
  subst e;exact I1.fpOk (Nat.le_refl _) (I1.hok.fresh (Nat.le_refl _))
noncomputable def iRngT(ta:TA):TI:=λσ H R=>ta σ H λvs H1=>∃i j:Int,vs=[.int i,.int j,.int 2]/\(-(2 ^ 62)<=i/\i < 2 ^ 62/\-(2 ^ 62)<=j/\j < 2 ^ 62)/\R (Itw i ((j-i+1)/2).toNat) H1
theorem q5g{a b c:Expr}{ta:TA}{p pos:Pos}(hg:Gl X "range")(hm:X.mg "range" = none)(ha:PA X [a,b,c] ta)(hs:starEach [a,b,c] X.env=[(false,eval a X.env),(false,eval b X.env),(false,eval c X.env)]:=by rfl)(hs2:starEach [b,c] X.env=[(false,eval b X.env),(false,eval c X.env)]:=by rfl):
  PI X tg (.Call (.Name "range" p) [a,b,c] [] pos) (iRngT ta):=by
 intro pins s σ H R I h;refine Call_ (q3D I hg hm boot_range (PyProof.Rows.callWith_type1 (thn (ha pos pins s σ H _ I h) λus s1 ⟨vs,H1,I1,r1,q1⟩=>?_) (by rw[hs,hs2]) (by rw[hs2];rfl)));obtain⟨i,j,e,⟨q1,q2,q3,q4⟩,q⟩:=q1;subst e
 cases r1 with
 | cons r rr=>
  cases rr with
  | cons r' rr=>
   cases rr with
   | cons r'' rr=>
    cases rr;obtain⟨t,rfl⟩:=r;obtain⟨t',rfl⟩:=r';obtain⟨t'',rfl⟩:=r'';exact call_range_3 (by decide) (range_itw I1 q3 q4 q1 q2 q) (Or.inl (PyProof.noPylong_small (by lia)))
end
theorem ps_tryN{h₀:ExceptHandler}{hs:List ExceptHandler}{body:List Stmt}{tb:TS}(hb:∀(pins:List (Addr×Obj)) (xe:Value->Shared->Prop),PSs (X.tried pins xe) body tb):PS X (.Try body (h₀::hs) [] [] pos) tb:=by
 intro pins s σ H D I h
 refine wpAny_Try_except (wpAny_mono (hb pins (λe s₁=>wpAny (model X.prog X.w) X.A (noteFrame e X.env) (λ_ s₂=>wpAny (model X.prog X.w) X.A (setFlight e none) (λ_ s₃=>
  wpAny (model X.prog X.w) X.A (handleBy e X.env (h₀::hs)) (SP X pins D) X.xe s₃) X.xe s₂) X.xe s₁) [] s σ H D I.tried h) (λfl s1 q=>?_) λe s1 q=>q)
 cases fl with
 |next=>obtain⟨σ1,H1,I1,q⟩:=q;exact wpAny_execs_nil ⟨σ1,H1,I1.untried,q⟩
 |brk=>obtain⟨σ1,H1,I1,q⟩:=q;exact⟨σ1,H1,I1.untried,q⟩
 |cont=>obtain⟨σ1,H1,I1,q⟩:=q;exact⟨σ1,H1,I1.untried,q⟩
 |ret u=>obtain⟨v,σ1,H1,I1,r,q⟩:=q;exact⟨v,σ1,H1,I1.untried,r,q⟩
noncomputable def lookA(p q:Program)(mods:List Str)(Xt:Shared->Bool)(g0:Bool)(P:Params)(s:Shared):=
 ((staticsOk (importedModules p.main.body) (boot_heap P) s.heap && namesBound p s.heap && gensDone s && laidKept (boot_heap P) s.heap),s.heap.bltView,
  s.heap.accountedOkI mods && s.heap.isNs mainGlobals && s.heap.isNs builtinsNs && tablesOk q s.heap && Xt s && (if g0 then s.gens.size == 0 else !leftWithCleanup s.gens))
noncomputable def lookB(q:Program)(s:Shared):=seen ((recsOf q).map (·.name)) (ownsOf q) [] {s with gens:=#[]}
noncomputable def lookC(q:Program)(loose:List Str)(s:Shared):=s.heap.keysOk (looseW q loose) ((recsOf q).map (·.name)) ((litsOf q).map (·.1)) ((clssOf q (looseW q loose)).map (·.name))
noncomputable def lookE(q:Program)(loose:List Str)(s:Shared):=(pinSeenD q (drecsOf q) s,plainSeenE q (looseW q loose) s,plainSeenD q loose s,wideSeen q s,clsSeenW q loose s)
noncomputable def goodE(q:Program)(loose:List Str):=(pinGoodD (drecsOf q),plainGoodE q (looseW q loose),plainGoodD q loose,wideGood q,clsGoodW q loose)
theorem q84{p:Program}{Xt:Shared->Bool}{g0:Bool}{P:Params}(a:lookA p q (importedModules p.main.body) Xt g0 P s=(true,bltViewBooted,true))(b:lookB q s=expectedOf q)(c:lookC q loose s=true)(d:tabsOk q s=true)(e:lookE q loose s=goodE q loose):
  ((staticsOk (importedModules p.main.body) (boot_heap P) s.heap && namesBound p s.heap && gensDone s && laidKept (boot_heap P) s.heap),openSeen q loose (importedModules p.main.body) Xt g0 s)=(true,openGood q loose):=by
 unfold lookA at a;unfold lookB at b;unfold lookC at c;unfold lookE goodE at e;unfold openSeen openGood;rw[Prod.mk.injEq,Prod.mk.injEq] at a;obtain⟨a1,a2,a3⟩:=a;have a4:(s.heap.keysOk (looseW q loose) ((recsOf q).map (·.name)) ((litsOf q).map (·.1)) ((clssOf q (looseW q loose)).map (·.name)) && s.heap.accountedOkI (importedModules p.main.body) && s.heap.isNs mainGlobals && s.heap.isNs builtinsNs && tablesOk q s.heap && Xt s && (if g0 then s.gens.size == 0 else !leftWithCleanup s.gens))=true:=by
  rw[c,Bool.true_and];exact a3
 rw[a1,a2,a4,b,d,e]
theorem map_six{α β γ δ ε κ ζ ξ:Type}{o:Option α}{f:α->β}{g:α->γ}{h:α->δ}{i:α->κ}{j:α->ξ}{y:α->ε}{l:α->ζ}{a:β}{b:γ}{c:δ}{d:κ}{e:ξ}{u:ε}{z:ζ}(ha:o.map f=some a)(hb:o.map g=some b)(hc:o.map h=some c)(hd:o.map i=some d)(he:o.map j=some e)(hy:o.map y=some u)
  (k:∀s,f s=a->g s=b->h s=c->i s=d->j s=e->l s=z):o.map (λs=>(l s,y s))=some (z,u):=by
 cases o with
 |none=>cases ha
 |some s=>exact congrArg some (Prod.ext (k s (Option.some.inj ha) (Option.some.inj hb) (Option.some.inj hc) (Option.some.inj hd) (Option.some.inj he)) (Option.some.inj hy))
section
variable {p q:Program}{loose:List Str}{Xt:Shared->Bool}{α:Type}{Yf:Shared->α}{Ya:World->α}{N:Nat}{g0:Bool}
noncomputable def Ran(p:Program)(N:Nat){β:Type}(f:World->Shared->β)(b:World->β):Prop:=∀(w:World) (os:OsState),(topRunT treeTable p w 11 (some (.ref 6)) N ⟨bootT w.params,11,(boot_heap w.params).life,#[],boot_drawn,boot_toks,os⟩ (topStub p)).map (λs=>f w s.abs)=some (b w)
theorem LeftO.of_parts(e:opening p=plainProg p.main.scope.names)(hN:Nat.ble 600 N=true)(f:∀s,fenceModules? p s=some s)
  (rA:Ran p N (λw s=>lookA p q (importedModules p.main.body) Xt g0 w.params s) (λ_=>(true,bltViewBooted,true)))(rB:Ran p N (λ_ s=>lookB q s) (λ_=>expectedOf q))(rC:Ran p N (λ_ s=>lookC q loose s) (λ_=>true))(rD:Ran p N (λ_ s=>tabsOk q s) (λ_=>true))
  (rE:Ran p N (λ_ s=>lookE q loose s) (λ_=>goodE q loose))(rY:Ran p N (λ_ s=>Yf s) Ya):PySem.W.LeftO p q loose Xt Yf Ya N g0:=
 LeftO.of_tree2 e hN f λw os=>map_six (rA w os) (rB w os) (rC w os) (rD w os) (rE w os) (rY w os) λs a b c d e=>q84 a b c d e
theorem Ran.of{β:Type}{f:World->Shared->β}{b:World->β}{r:World->OsState->Option SharedT}(t:∀w os,topRunT treeTable p w 11 (some (.ref 6)) N ⟨bootT w.params,11,(boot_heap w.params).life,#[],boot_drawn,boot_toks,os⟩ (topStub p)=r w os)(h:∀w os,(r w os).map (λs=>f w s.abs)=some (b w)):Ran p N f b:=λw os=>by
 rw[t w os];exact h w os
end
theorem ifU{c:TT}{t u:TS}(I:Bool->Hp->Prop)(tail:∀b H',I b H'->if b=true then t D σ H' else u D σ H')(h:∀R:Bool->Hp->Prop,(∀b H',I b H'->R b H')->c σ H R):tIfS c t u D σ H:=h _ tail
section
variable {M:Model}{A:Around}{E:Value->Shared->Prop}{s:Shared}
theorem q4T{cls fl:Value}(hA:A.frames=some (env::outer))(hL:env.frame=some L)(kb:base.StaysIn s.heap)(ke:base.get? e=none)
  (kf:s.heap.FunFrames base (env::outer))(kt:s.heap.TracedAtW base e cls a0 fl)(fin:∀h',Heap.FlyingW base outer e cls a0 h'->s.heap.UpToSlots h'->Q () {s with heap:=h'}):wpAny M A (leaving env (.ref e)) Q E s:=by
 by_cases hz:fl=rawInt L
 ·subst hz
  unfold leaving;refine wpAny_bind (wpAny_noteFrame_againW hL kt ?_);refine wpAny_landsW (l:=env::outer) (L:=L) ⟨kb,ke,kf,kt⟩ λh' g u=>?_;exact fin h' ⟨g.1,g.2.1,g.2.2.1.2.2,g.2.2.2⟩ u
 ·obtain⟨ob,vs,T,oT,ts,he,⟨rfl,z0⟩,ed,e1,nT,Te,hT,dT,e3⟩:=kt
  unfold leaving noteFrame;simp only[hL];refine wpAny_bind (wpAny_bind (wpAny_field he ed e1 ?_));rw[if_pos (by simp)];refine wpAny_bind (wpAny_field hT dT e3 ?_);rw[if_neg (by simpa using hz)];refine wpAny_bind (wpAny_setField hT dT (Array.getElem?_eq_some_iff.mp e3).1 ?_);have off:∀b,b≠T->(s.heap.update T (Obj.mapFields λv=>v.setIfInBounds 3 Value.none)).get? b=s.heap.get? b:=λb hb=>Heap.get?_update_other _ _ (Ne.symm hb)
  have plain:∀b o,s.heap.get? b=some o->(∀v,o.data≠.fields v)->b≠T:=λb o hb hn q=>by
   rw[q,hT] at hb;cases hb;exact hn ts dT
  refine wpAny_newEntryW hA (kf.of_keeps λb o hb hn=>⟨o,(off b (plain b o hb hn)).trans hb,rfl⟩) hL ((off e (Ne.symm Te)).trans he) (λb o hb=>(off b λq=>by rw[q,nT] at hb;cases hb).trans (kb b o hb)) ke ed (Array.getElem?_eq_some_iff.mp e1).1 z0 λh' g=>?_;obtain⟨g1,⟨_,_,g2⟩,g3,g4⟩:=g;exact fin h' ⟨g1,ke,g2,g3⟩ λb o hb hn=>g4 b o ((off b (plain b o hb hn)).trans hb) hn
noncomputable def Ctx0(h:Heap)(a:Addr):Prop:=∃o v,h.get? a=some o/\o.data = .fields v/\v[2]?=some .none
theorem entryC{top:Value}{more:Bool}(hA:A.frames=some (env::outer))(kf:s.heap.FunFrames base (env::outer))(hL:env.frame=some L)
  (he:s.heap.get? e=some ob)(kb:base.StaysIn s.heap)(ke:base.get? e=none)(ed:ob.data = .fields v)(sz:1 < v.size)(z0:v[0]?=some a0)(z2:v[2]?=some .none)
  (fin:∀h',Heap.NotedW base (env::outer) e ob.cls a0 (rawInt L) s.heap h'->Ctx0 h' e->Q () {s with heap:=h'}):
  wpAny M A (do let fr <-frameOf env;let pl <-entryPlaceOf L more;let b <-EntryCells.newEntry top fr .none (rawInt L) .none pl;setField (.ref e) 1 b) Q E s:=by
 have out:e∉(env::outer).filterMap (·.frame):=λhm=>by
  obtain⟨_,o,ho,nf⟩:=kf.mem hm;rw[he] at ho;cases ho;exact nf v ed
 refine wpAny_bind (wpAny_frameOf_fun hA kf hL λh1 sl=>?_);refine wpAny_bind (wpAny_entryPlaceOf λpl ip=>?_);unfold EntryCells.newEntry newFields;refine wpAny_bind (wpAny_newObj_type ?_ (ip.sizeOk5 _ _ _ _ _));have g1:h1.get? e=some ob:=(sl.2.1 e out).trans he;have kb1:base.StaysIn h1:=λb o hb=>(sl.2.1 b λhm=>by rw[(kf.mem hm).1] at hb;cases hb).trans (kb b o hb);generalize hn:({cls:=.type "traceback",dict:=none,data:=.fields ([top,.ref L,.none,rawInt L,.none]++(if pl.isEmpty then List.replicate 6 Value.none else pl)).toArray}:Obj)=nt;have g2:=Heap.get?_push_of_some (h:=h1) nt g1;refine wpAny_setField g2 ed sz ?_;have Te:h1.objs.size≠e:=Nat.ne_of_gt (Heap.lt_size g1);have ed3:=Obj.data_mapFields ed (λw=>w.setIfInBounds 1 (Value.ref h1.objs.size));have g3:=Heap.get?_update_self (Obj.mapFields λw=>w.setIfInBounds 1 (Value.ref h1.objs.size)) g2 (Obj.isFreed_of_fields ed3);have gT:=(Heap.get?_update_other (h1.push nt) (Obj.mapFields λw=>w.setIfInBounds 1 (Value.ref h1.objs.size)) (Ne.symm Te)).trans (Heap.get?_push_size h1 (by rw[<-hn];rfl))
 have on:∀b o,b≠e->h1.get? b=some o->((h1.push nt).update e (Obj.mapFields λw=>w.setIfInBounds 1 (Value.ref h1.objs.size))).get? b=some o:=λb o hb z=>by
  rw[Heap.get?_update_other _ _ (Ne.symm hb)];exact Heap.get?_push_of_some _ z
 have plain:∀b o,s.heap.get? b=some o->(∀w,o.data≠.fields w)->b≠e:=λb o hb nf q=>by
  rw[q,he] at hb;cases hb;exact nf v ed
 refine fin _ ⟨λb o hb=>on b o (λq=>by rw[q,ke] at hb;cases hb) (kb1 b o hb),kf.of_keeps λb o hb nf=>?_,?_,λb o hb nf=>?_⟩ ⟨_,_,g3,ed3,by rw[Array.getElem?_setIfInBounds_ne (by decide)];exact z2⟩
 ·obtain⟨sl2,hs⟩:=sl.2.2 b o hb
  exact⟨_,on b _ (plain b o hb nf) hs,rfl⟩
 ·refine⟨_,_,h1.objs.size,_,_,g3,⟨Obj.cls_mapFields _ _,by rw[Array.getElem?_setIfInBounds_ne (by decide)];exact z0⟩,ed3,by simp[sz],kb1.fresh,Te,gT,by rw[<-hn],?_⟩
  first|(simp;done)|(rcases ip with rfl|⟨_,_,_,_,_,_,_,rfl⟩<;>simp)
 ·obtain⟨sl2,hs⟩:=sl.2.2 b o hb
  exact⟨sl2,on b _ (plain b o hb nf) hs⟩
theorem q1u{l:List Env}{cls fl:Value}{fr:Option Addr}(kb:base.StaysIn s.heap)(kf:s.heap.FunFrames base l)(kt:s.heap.TracedAtW base e cls a0 fl)
  (fin:∀h',base.StaysIn h'->h'.FunFrames base l->h'.TracedAtW base e cls a0 (fr.elim .none λf=>rawInt f)->s.heap.UpToSlots h'->(Ctx0 s.heap e->Ctx0 h' e)->Q () {s with heap:=h'}):wpAny M A (setFlight (.ref e) fr) Q E s:=by
 obtain⟨ob,vs,T,oT,ts,he,hc,ed,e1,nT,Te,hT,dT,e3⟩:=kt;have sz:3 < ts.size:=(Array.getElem?_eq_some_iff.mp e3).1;have off:∀b,b≠T->(s.heap.update T (Obj.mapFields λv=>v.setIfInBounds 3 (fr.elim Value.none λf=>rawInt f))).get? b=s.heap.get? b:=λb hb=>Heap.get?_update_other _ _ (Ne.symm hb)
 have plain:∀b o,s.heap.get? b=some o->(∀v,o.data≠.fields v)->b≠T:=λb o hb hn q=>by
  rw[q,hT] at hb;cases hb;exact hn ts dT
 unfold setFlight;refine wpAny_bind (wpAny_field he ed e1 ?_);rw[if_pos (by simp)];refine wpAny_setField hT dT sz (fin _ (λb o hb=>(off b λq=>by rw[q,nT] at hb;cases hb).trans (kb b o hb)) (kf.of_keeps λb o hb hn=>⟨o,(off b (plain b o hb hn)).trans hb,rfl⟩) ?_ (λb o hb hn=>⟨o.slots,(off b (plain b o hb hn)).trans hb⟩) λ⟨o,v,c1,c2,c3⟩=>⟨o,v,(off e (Ne.symm Te)).trans c1,c2,c3⟩);exact⟨ob,vs,T,_,_,(off e (Ne.symm Te)).trans he,hc,ed,e1,nT,Te,Heap.get?_update_self _ hT (Obj.isFreed_of_fields (Obj.data_mapFields dT _)),Obj.data_mapFields dT _,by simp[sz]⟩
theorem note_made(hA:A.frames=some (env::outer))(kf:s.heap.FunFrames base (env::outer))(hL:env.frame=some L)
  (he:s.heap.get? e=some ob)(kb:base.StaysIn s.heap)(ke:base.get? e=none)(ed:ob.data = .fields v)(z0:v[0]?=some a0)(z1:v[1]?=some .none)
  (fin:∀h',Heap.HeldW base (env::outer) e ob.cls a0 L h'->s.heap.UpToSlots h'->Q () {s with heap:=h'}):wpAny M A (noteFrame (.ref e) env) Q E s:=by
 unfold noteFrame;simp only[hL];refine wpAny_bind (wpAny_field he ed z1 ?_);rw[if_neg (by decide)];exact wpAny_entryW hA kf hL he kb ke ed (Array.getElem?_eq_some_iff.mp z1).1 z0 λh' g=>fin h' ⟨g.1,ke,g.2.1,g.2.2.1⟩ g.2.2.2
theorem q7x(hA:A.frames=some (env::outer))(kf:s.heap.FunFrames base (env::outer))(hL:env.frame=some L)
  (he:s.heap.get? e=some ob)(kb:base.StaysIn s.heap)(ke:base.get? e=none)(ed:ob.data = .fields v)(z0:v[0]?=some a0)(z1:v[1]?=some .none)(z2:v[2]?=some .none)
  (fin:∀h',Heap.HeldW base (env::outer) e ob.cls a0 L h'->s.heap.UpToSlots h'->Ctx0 h' e->Q () {s with heap:=h'}):wpAny M A (noteFrame (.ref e) env) Q E s:=by
 unfold noteFrame;simp only[hL];refine wpAny_bind (wpAny_field he ed z1 ?_);rw[if_neg (by decide)];exact entryC hA kf hL he kb ke ed (Array.getElem?_eq_some_iff.mp z1).1 z0 z2 λh' g c=>fin h' ⟨g.1,ke,g.2.1,g.2.2.1⟩ g.2.2.2 c
theorem note_onC{cls:Value}(hA:A.frames=some (env::outer))(hL:env.frame=some L)(kl:Heap.FlyingW base (env::outer) e cls a0 s.heap)(c:Ctx0 s.heap e)
  (fin:∀h',Heap.HeldW base (env::outer) e cls a0 L h'->s.heap.UpToSlots h'->Ctx0 h' e->Q () {s with heap:=h'}):wpAny M A (noteFrame (.ref e) env) Q E s:=by
 obtain⟨kb,ke,kf,ob,vs,T,oT,ts,he,⟨rfl,z0⟩,ed,e1,nT,Te,hT,dT,e3⟩:=kl;obtain⟨o',v',c1,c2,c3⟩:=c;rw[he] at c1;cases c1;rw[ed] at c2;cases c2;unfold noteFrame;simp only[hL];refine wpAny_bind (wpAny_field he ed e1 ?_);rw[if_pos (by simp)];refine wpAny_bind (wpAny_field hT dT e3 ?_);rw[if_neg (by simp[rawInt])];refine wpAny_bind (wpAny_setField hT dT (Array.getElem?_eq_some_iff.mp e3).1 ?_);have off:∀b,b≠T->(s.heap.update T (Obj.mapFields λv=>v.setIfInBounds 3 Value.none)).get? b=s.heap.get? b:=λb hb=>Heap.get?_update_other _ _ (Ne.symm hb)
 have plain:∀b o,s.heap.get? b=some o->(∀v,o.data≠.fields v)->b≠T:=λb o hb hn q=>by
  rw[q,hT] at hb;cases hb;exact hn ts dT
 exact entryC hA (kf.of_keeps λb o hb hn=>⟨o,(off b (plain b o hb hn)).trans hb,rfl⟩) hL ((off e (Ne.symm Te)).trans he) (λb o hb=>(off b λq=>by rw[q,nT] at hb;cases hb).trans (kb b o hb)) ke ed (Array.getElem?_eq_some_iff.mp e1).1 z0 c3 λh' g c=>fin h' ⟨g.1,ke,g.2.1,g.2.2.1⟩ (λb o hb hn=>g.2.2.2 b o ((off b (plain b o hb hn)).trans hb) hn) c
end
section
variable {CX:CXT}{P:Program}{w:World}{K:PySem.W.Frag}{mg:Str->Option Value}{base:Heap}{N:List Str}{qual:Str}{scope:Scope}{f:Addr}{cd:Value}{A:Around}{outer:List Env}{s:Shared}{H:Hp}{E:XK}
noncomputable abbrev q1t(qual:Str)(scope:Scope)(f:Addr)(cd:Value)(outer:List Env)(s:Shared)(h:Heap):Heap:=hideAll h (frs (envOfC qual scope s.heap.objs.size f cd::outer))
theorem q2l(I:Inv (cxOf CX P w K mg base N qual scope f cd A outer s H E) pins σ H1 s1):s1.heap.FunFrames (q1t qual scope f cd outer s s1.heap) (envOfC qual scope s.heap.objs.size f cd::outer):=
 funFrames_hide (show s1.heap.FunFrames base (envOfC qual scope s.heap.objs.size f cd::outer) from I.stack) λenv he a ha=>List.mem_filterMap.mpr ⟨env,he,ha⟩
theorem q7g{C:Value}{h2:Heap}(I:Inv (cxOf CX P w K mg base N qual scope f cd A outer s H E) pins σ H1 s1)(kp:∀b o,s1.heap.get? b=some o->h'.get? b=some o)(ne:s1.heap.get? e=none)
  (g:Heap.FlyingW (q1t qual scope f cd outer s s1.heap) outer e C a0 h2)(u:h'.UpToSlots h2):Aloft P w outer H s C e a0 (q1t qual scope f cd outer s s1.heap) H1 {s1 with heap:=h2}:=by
 have hf:(envOfC qual scope s.heap.objs.size f cd).frame=some s.heap.objs.size:=rfl;have ub:Un (frs outer) [] H H1 s.heap s1.heap:=I.base
 have nl:∀b o,s.heap.get? b=some o->b∉frs outer->b∉frs (envOfC qual scope s.heap.objs.size f cd::outer):=λb o e n z=>by
  rcases q7V hf z with z|z
  ·rw[z] at e;exact absurd (Heap.lt_size e) (Nat.lt_irrefl _)
  ·exact n z
 have st:s1.heap.FunFrames base (envOfC qual scope s.heap.objs.size f cd::outer):=I.stack
 have tr:∀b u,H1 b=some u->b∉frs (envOfC qual scope s.heap.objs.size f cd::outer):=λb u e z=>by
  have:=I.stkFree b z;rw[e] at this;cases this
 have nfr:e∉frs (envOfC qual scope s.heap.objs.size f cd::outer):=λz=>by
  obtain⟨_,o,e1,_⟩:=st.mem z;rw[ne] at e1;cases e1
 have u2:s1.heap.UpToSlots h2:=(Heap.UpToSlots.of_keeps kp).trans u;refine⟨g,I.os,I.bare,λb u e=>?_,?_,λb o e n hb=>hideAll_get _ (ub.keep b o e n hb (by simp)) (nl b o e hb),λb o e hb=>?_,?_,λz=>nfr (q00 z),?_⟩
 ·refine(I.hok b u e).stay (λc v hc z=>hideAll_get _ z ?_) (λ_ z=>z) λ_ _ z=>z
  rcases hc with hc|hc
  ·rw[hc];exact tr b u e
  ·exact tr c _ hc
 ·refine ub.fly (λb o e n hb=>g.1 b o (hideAll_get _ (ub.keep b o e n hb (by simp)) (nl b o e hb))) (λb hb o e=>?_) λb o e hb=>?_
  ·obtain⟨_,o1,e1,d1⟩:=st.mem (q00 hb)
   rw[e] at e1;cases e1;exact u2 b o e d1
  ·obtain⟨o1,e1⟩:=ub.there b o e (by simp)
   exact⟨o1,g.1 b o1 (hideAll_get _ e1 (nl b o e hb))⟩
 ·obtain⟨o1,e1⟩:=ub.there b o e (by simp)
  exact⟨o1,hideAll_get _ e1 (nl b o e hb)⟩
 ·cases z:H1 e with
  |none=>rfl
  | some u=>
   obtain⟨o1,e1⟩:=(I.hok e u z).here;rw[ne] at e1;cases e1
 ·cases z:s.heap.get? e with
  |none=>rfl
  | some o=>
   obtain⟨o1,e1⟩:=ub.there e o z (by simp);rw[ne] at e1;cases e1
noncomputable def CXC(P:Program)(w:World):CXT:=λouter H s E e s'=>∃C a a0 B H',e = .ref a/\Aloft P w outer H s C a a0 B H' s'/\Ctx0 s'.heap a/\E C none H'
theorem thrC:Thr (cxOf (CXC P w) P w K mg base N qual scope f cd A outer s H E) E:=λpins σ H1 s1 C e vs h' I hx q=>by
 obtain⟨t,he,htn,ht⟩:=hx.there;have kb:(q1t qual scope f cd outer s s1.heap).StaysIn h':=λb o z=>hx.keeps b o (of_hideAll _ z);have ke:(q1t qual scope f cd outer s s1.heap).get? e=none:=by
  cases z:(q1t qual scope f cd outer s s1.heap).get? e with
  |none=>rfl
  | some o=>
   have:=of_hideAll _ z;rw[hx.new] at this;cases this
 show wpAny _ _ (leaving _ _) _ _ _;unfold leaving;refine wpAny_bind (q7x (base:=q1t qual scope f cd outer s s1.heap) (outer:=outer) (L:=s.heap.objs.size) (a0:=.ref t) I.ok.frames ((q2l I).of_keeps λb o hb _=>⟨o,hx.keeps b o hb,rfl⟩) rfl he kb ke rfl rfl rfl rfl λh2 g u c=>?_);refine q1u (l:=envOfC qual scope s.heap.objs.size f cd::outer) g.1 g.2.2.1 g.2.2.2 λh3 g1 g2 g3 u3 c3=>?_;have al:=q7g (C:=C) (a0:=.ref t) (h2:=h3) I hx.keeps hx.new ⟨g1,ke,g2.2.2,g3⟩ (u.trans u3);exact⟨C,e,.ref t,_,H1,rfl,al,c3 c,q⟩
end
section
variable {P:Program}{w:World}{K:PySem.W.Frag}{mg:Str->Option Value}{base:Heap}{k:Nat}{f:Addr}{fd:FuncData}{ps:List Str}
theorem Fun.okC(F:Fun K x qual st f fd)(S:FnScope N ps (qF st))(len:∀vs H Q E,sp vs H Q E->vs.length=ps.length)
  (hbody:∀(cdv:Value) (A:Around) (outer:List Env) (s:Shared) (H:Hp) (vs:List V) (Q:VK) (E:XK),Room k (A.deeper (envOfC qual (qF st) s.heap.objs.size f cdv))->sp vs H Q E ->
   ∃t,PSs (cxOf (CXC P w) P w K mg base N qual (qF st) f cdv A outer s H E) (q0M st) t/\t {nx:=λ_ H'=>Q .non H',rt:=Q} (q49 N vs) H):FnOk P w K mg base (CXC P w) (k+1) f fd ps sp:=by
 obtain⟨oc,od,kV,doc,pm,an,cdv,ct,osl,rfl,lk,hcd⟩:=F.ex;exact fn_of lk hcd S len λA outer s H vs Q E hr hsp=>hbody cdv A outer s H vs Q E hr hsp
end
theorem q56:entryFor table "proto.unchain" = some Builtin.«proto.unchain»:=entryFor_of_tree (by kernel_rfl)
section
variable {prog:Program}{w:World}{A:Around}{E:Value->Shared->Prop}{s:Shared}{env:Env}
theorem q5I{Q:Value->Shared->Prop}(c:Ctx0 s.heap a)(q:Q .none s):wpAny (model prog w) A (runValue (.builtin "proto.unchain" ⟨[.ref e,.ref a,.ref a,.bool false],[]⟩)) Q E s:=by
 obtain⟨o,v,c1,c2,c3⟩:=c;refine wpAny_runValue (codeAny_builtin q56 ?_);unfold Builtin.«proto.unchain»;refine wpAny_bind (wpAny_field c1 c2 c3 ?_)
 repeat wp_step
 exact q
theorem raise_new{α:Type}{Q:α->Shared->Prop}(hh:A.handled=some (.ref a))(ne:e≠a)(he:s.heap.get? e=some ob)(ed:ob.data = .fields v)(sz:2 < v.size)(c:Ctx0 s.heap a)
  (q:E (.ref e) {s with heap:=s.heap.update e (Obj.mapFields λx=>x.setIfInBounds 2 (.ref a))}):wpAny (model prog w) A (raiseNew (.ref e):Sem α) Q E s:=by
 unfold raiseNew;refine wpAny_bind (wpAny_handled ?_);rw[hh];dsimp only;rw[if_pos (by simpa using Ne.symm ne)];refine wpAny_bind (wpAny_holding (q5I c ?_));have st:=wpAny_setField (M:=model prog w) (A:=A) (E:=E) (x:=Value.ref a) (Q:=λ_ s'=>E (.ref e) s') he ed sz q;unfold setField at st;exact wpAny_bind (wpAny_mono st (λ_ s' z=>wpAny_throw z) λ_ _ z=>z)
variable {nm q:Str}{C N:Addr}{bs bm:List Value}{hdct:Bool}{sn:List Str}{sub:List Value}{ab:Bool}{col:Option Bool}{dd:Option Addr}{k0 k1 k2 k3 k5:Option Value}{newId:String}
theorem q7s{x c:Sem Value}{Q:Flow->Shared->Prop}(hbase:bm.contains (.type "BaseException")=true)(hh:A.handled=some (.ref a))
  (h:wpAny (model prog w) A x (λv s1=>∃e t,v = .ref e/\e≠a/\s1.heap.get? C=some (excClassObj nm q C N bs bm hdct sn sub ab col dd k0 k1 k2 k3 k5 newId)/\
   s1.heap.get? e=some {cls:=.ref C,data:=.fields #[.ref t,.none,.none,.none,.bool false,.none]}/\Ctx0 s1.heap a/\(∀R:Value->Shared->Prop,R .none s1->wpAny (model prog w) A c R E s1)/\
   ∀h',h'.get? e=some {cls:=.ref C,data:=.fields #[.ref t,.none,.ref a,.none,.bool true,.none]}->(∀b,b≠e->h'.get? b=s1.heap.get? b)->E (.ref e) {s1 with heap:=h'}) E s):
  wpAny (model prog w) A (raiseStmt env (some x) (some c)) Q E s:=by
 have hcB:(Value.ref C::bm).contains (.type "BaseException")=true:=by rw[List.contains_cons,hbase,Bool.or_true]
 unfold raiseStmt;refine wpAny_bind (wpAny_mono h (λv s1 h1=>?_) λ_ _ z=>z);obtain⟨e,t,rfl,ne,hC,he,ctx,hc,fin⟩:=h1;refine wpAny_bind (wpAny_holding (hc _ ?_));refine wpAny_bind (wpAny_pure ?_);obtain⟨hp,g,d,tk,os⟩:=s1;dsimp only at hC he ctx fin ⊢
 have exc:∀(z:String) (R:Value->Shared->Prop),R (.ref e) ⟨hp,g,d,tk,os⟩->wpAny (model prog w) A (excFromValue (.ref e) z) R E ⟨hp,g,d,tk,os⟩:=λz R r=>by
  unfold excFromValue
  repeat (first|with_reducible refine wpAny_loadPart_at he ?_|with_reducible refine wpAny_loadPart_at hC ?_|(with_reducible refine wpAny_isSubtype_exc hC ?_;rw[hcB])|wp_step)
  exact r
 refine wpAny_bind (wpAny_holding (exc _ _ ?_));have e3:=Heap.get?_update_self (Obj.mapFields λx=>x.setIfInBounds 3 Value.none) he rfl;have o3:∀b,b≠e->(hp.update e (Obj.mapFields λx=>x.setIfInBounds 3 Value.none)).get? b=hp.get? b:=λb hb=>Heap.get?_update_other _ _ (Ne.symm hb);refine wpAny_bind (wpAny_pure (wpAny_bind (wpAny_setField (i:=3) (vs:=#[.ref t,.none,.none,.none,.bool false,.none]) he rfl (show 3 < 6 by decide) ?_)));dsimp only;generalize hp.update e (Obj.mapFields λx=>x.setIfInBounds 3 Value.none)=h3 at e3 o3 ⊢;have e3':h3.get? e=some {cls:=.ref C,data:=.fields #[.ref t,.none,.none,.none,.bool false,.none]}:=e3;have e4:=Heap.get?_update_self (Obj.mapFields λx=>x.setIfInBounds 4 (Value.bool true)) e3' rfl;have o4:∀b,b≠e->(h3.update e (Obj.mapFields λx=>x.setIfInBounds 4 (Value.bool true))).get? b=hp.get? b:=λb hb=>(Heap.get?_update_other _ _ (Ne.symm hb)).trans (o3 b hb);refine wpAny_bind (wpAny_setField (i:=4) (vs:=#[.ref t,.none,.none,.none,.bool false,.none]) e3' rfl (show 4 < 6 by decide) ?_);dsimp only;generalize h3.update e (Obj.mapFields λx=>x.setIfInBounds 4 (Value.bool true))=h4 at e4 o4 ⊢;have e4':h4.get? e=some {cls:=.ref C,data:=.fields #[.ref t,.none,.none,.none,.bool true,.none]}:=e4;have C4:=(o4 C (λz=>by rw[z,he] at hC;cases hC)).trans hC;have c4:Ctx0 h4 a:=by
  obtain⟨o,v,c1,c2,c3⟩:=ctx;exact⟨o,v,(o4 a (Ne.symm ne)).trans c1,c2,c3⟩
 repeat (first|with_reducible refine wpAny_loadPart_at e4' ?_|with_reducible refine wpAny_loadPart_at C4 ?_|wp_step)
 refine raise_new (v:=#[.ref t,.none,.none,.none,.bool true,.none]) hh ne e4' rfl (show 2 < 6 by decide) c4 ?_;exact fin _ (Heap.get?_update_self (Obj.mapFields λx=>x.setIfInBounds 2 (Value.ref a)) e4' rfl) λb hb=>(Heap.get?_update_other _ _ (Ne.symm hb)).trans (o4 b hb)
theorem exec_from{bmB:List Value}{B initId:String}(F:ExcBaseFacts B newId initId bmB){mN:Str->Option Value}{x:Str}{np cpos pos cp:Pos}{args:List Expr}{kc:Nat}{a:Addr}{Q:Flow->Shared->Prop}(hbase:bm.contains (.type "BaseException")=true)(hh:A.handled=some (.ref a))
  (hplain:(backTo cpos (starEach args env)).any (·.1)=false)(hni:mN "__init__" = none)
  (h:wpAny (model prog w) A (eval (.Name x np) env) (λf s1=>f = .ref C/\wpAny (model prog w) A (evalArgs (.ref C) true (backTo cpos (starEach args env)) [])
   (λr s2=>r.kw=[]/\r.pos.length<=sizeLine/\s2.heap.get? C=some (excClassObj nm q C N bs bm hdct sn sub ab col dd k0 k1 k2 k3 k5 newId)/\s2.heap.Ns N mN/\OwnTail s2.heap bmB bm/\Ctx0 s2.heap a/\
    ∀(h':Heap) (e t:Addr),(∀b o,s2.heap.get? b=some o->h'.get? b=some o)->s2.heap.get? e=none->h'.get? e=some {cls:=.ref C,data:=.fields #[.ref t,.none,.ref a,.none,.bool true,.none]}->E (.ref e) {s2 with heap:=h'}) E s1) E s):
  wpAny (model prog w) A (exec (.Raise (some (.Call (.Name x np) args [] cpos)) (some (.Constant .none kc cp)) pos) env) Q E s:=by
 rw[arm_exec_Raise];refine wpAny_bind (wpAny_standAt ?_);refine q7s (C:=C) (nm:=nm) (q:=q) (N:=N) (bs:=bs) (bm:=bm) (hdct:=hdct) (sn:=sn) (sub:=sub) (ab:=ab) (col:=col) (dd:=dd) (k0:=k0) (k1:=k1) (k2:=k2) (k3:=k3) (k5:=k5) (newId:=newId) hbase hh ?_;refine wpAny_bind (wpAny_mono (wpAny_Call_ofName (wpAny_mono h (λf s1 h1=>?_) λ_ _ z=>z)) (λv s3 h3=>wpAny_bind (wpAny_standAt (wpAny_pure h3))) λ_ _ z=>z);obtain⟨rfl,h1⟩:=h1;unfold callWith;refine wpAny_bind (wpAny_holding (wpAny_mono h1 (λr s2 h2=>wpAny_bind (wpAny_standAt ?_)) λ_ _ z=>z));obtain⟨rp,rk⟩:=r;obtain⟨e1,e2,hC,hn,T,ctx,fin⟩:=h2;obtain rfl:rk=[]:=e1;obtain⟨hp,g,d,tk,os⟩:=s2;simp only[hplain];refine wpAny_bind (wpAny_keeperOf_exc hC ?_);refine wpAny_bind (wpAny_call_exc_subT (hrest:=e2) F T hC hn hni λh' e hm=>wpAny_bind (wpAny_holding (wpAny_point (wpAny_pure ?_))));obtain⟨t,ht,_,_⟩:=hm.there
 have ea:e≠a:=λz=>by
  obtain⟨o,v,c1,_⟩:=ctx;have:=hm.new;rw[z] at this;rw[show hp.get? a=some o from c1] at this;cases this
 refine⟨e,t,rfl,ea,hm.keeps _ _ hC,ht,?_,λR r=>wpAny_bind (wpAny_pure (wpAny_bind (wpAny_standAt (wpAny_pure r)))),λh2 he ho=>?_⟩
 ·obtain⟨o,v,c1,c2,c3⟩:=ctx
  exact⟨o,v,hm.keeps _ _ c1,c2,c3⟩
 ·exact fin h2 e t (λb o hb=>(ho b λz=>by rw[z] at hb;rw[hm.new] at hb;cases hb).trans (hm.keeps b o hb)) hm.new he
end
noncomputable def tTryR(K:PySem.W.Frag)(T C2:Value)(E:XK)(tb:XK->TS):TS:=λD σ H=>tb (λC _ H'=>PySem.W.exmOne K C T=some true/\E C2 none H') D σ H
section
variable {P:Program}{w:World}{K:PySem.W.Frag}{mg:Str->Option Value}{base:Heap}{N:List Str}{qual:Str}{scope:Scope}{f:Addr}{cd:Value}{A:Around}{outer:List Env}{s₀:Shared}{H₀:Hp}{E:XK}
theorem ps_tryR(hX:X=cxOf (CXE P w) P w K mg base N qual scope f cd A outer s₀ H₀ E){x y z:Str}{np yp zp hpos pos cpos cp rpos:Pos}{kz kc:Nat}{body:List Stmt}{T C2:Addr}{B newId initId:String}{bm:List Value}{tb:XK->TS}
  (hg:Gl X x)(hm:X.mg x=some (.ref T))(hy:Gl X y)(O:OwnCls y C2 bm newId X.mg X.base)(FB:ExcBaseFacts B newId initId bm)
  (hb:∀(pins:List (Addr×Obj)) (xe:Value->Shared->Prop) (E':XK),q0Y (CXC P w) (X.tried pins xe) E'->PSs (X.tried pins xe) body (tb E'))
  (hd:(x == ("__debug__" : Str))=false:=by decide)(hd2:(y == ("__debug__" : Str))=false:=by decide):
  PS X (.Try body [.ExceptHandler (some (.Name x np)) none [.Raise (some (.Call (.Name y yp) [.Constant (.str z) kz zp] [] cpos)) (some (.Constant .none kc cp)) rpos] hpos] [] [] pos) (tTryR K (.ref T) (.ref C2) E tb):=by
 subst hX;intro pins s σ H D I h
 refine wpAny_Try_except (wpAny_mono (hb pins (λe s₁=>wpAny (model P w) (A.deeper (envOfC qual scope s₀.heap.objs.size f cd)) (noteFrame e (envOfC qual scope s₀.heap.objs.size f cd)) (λ_ s₂=>wpAny (model P w) (A.deeper (envOfC qual scope s₀.heap.objs.size f cd)) (setFlight e none) (λ_ s₃=>
  wpAny (model P w) (A.deeper (envOfC qual scope s₀.heap.objs.size f cd)) (handleBy e (envOfC qual scope s₀.heap.objs.size f cd) [.ExceptHandler (some (.Name x np)) none [.Raise (some (.Call (.Name y yp) [.Constant (.str z) kz zp] [] cpos)) (some (.Constant .none kc cp)) rpos] hpos]) (SP (cxOf (CXE P w) P w K mg base N qual scope f cd A outer s₀ H₀ E) pins D) (cxOf (CXE P w) P w K mg base N qual scope f cd A outer s₀ H₀ E).xe s₃) (cxOf (CXE P w) P w K mg base N qual scope f cd A outer s₀ H₀ E).xe s₂) (cxOf (CXE P w) P w K mg base N qual scope f cd A outer s₀ H₀ E).xe s₁) _ ?_ [] s σ H D I.tried h) (λfl s1 q=>?_) λe s1 q=>q)
 ·rintro ps σ' H1 s1 e s' J0 ⟨C,a,a0,Bh,H',rfl,F,ctx,hx,k⟩
  have J:Inv (cxOf (CXE P w) P w K mg base N qual scope f cd A outer s₀ H₀ E) pins σ' H1 s1:=J0.untried;have F:Aloft P w (envOfC qual scope s₀.heap.objs.size f cd::outer) H1 s1 C a a0 Bh H' s':=F;have nL:a≠s₀.heap.objs.size:=λz=>F.fresh.2.1 (by rw[z];unfold frs;rw[List.filterMap_cons];exact List.mem_cons_self);have nF:a∉(cxOf (CXE P w) P w K mg base N qual scope f cd A outer s₀ H₀ E).fs:=λz=>F.fresh.2.1 (q00 z)
  have land:∀h2,Heap.FlyingW Bh (envOfC qual scope s₀.heap.objs.size f cd::outer) a C a0 h2->s'.heap.UpToSlots h2->Inv (cxOf (CXE P w) P w K mg base N qual scope f cd A outer s₀ H₀ E) pins σ' H' {s' with heap:=h2}:=λh2 g u=>by
   have F2:=F.on g u;exact J.call' F2.os F2.un (F2.hok.kept λb o e=>g.1 b o e) F2.bare (λb z=>absurd z (by simp))
  show wpAny _ _ (noteFrame _ _) _ _ s';refine note_onC (base:=Bh) (outer:=outer) (L:=s₀.heap.objs.size) J.ok.frames rfl F.fl ctx λh2 g2 u2 c2=>?_;refine q1u (l:=envOfC qual scope s₀.heap.objs.size f cd::outer) g2.1 g2.2.2.1 g2.2.2.2 λh3 q1 q2 q3 u3 c3=>?_
  have g3:Heap.FlyingW Bh (envOfC qual scope s₀.heap.objs.size f cd::outer) a C a0 h3:=⟨q1,g2.2.1,q2,q3⟩
  have J3:=land h3 g3 (u2.trans u3);obtain⟨o3,v3,e3,cl3,d3,_⟩:=g3.first;have S3:=J3.suite e3 F.fresh.1 nL nF (λv z=>by rw[d3] at z;cases z);refine wpAny_handleBy_cons (codeAny_handlers_test (q1r S3 hg hm ?_ hd)) (by intro q;cases q);refine(exm_one (M:=model P w) S3.kIn (cl3▸(Looks.ld e3).andThen .now) hx).here ?_;refine codeAny_handlers_suite (q1u (l:=envOfC qual scope s₀.heap.objs.size f cd::outer) (fr:=none) q1 q2 q3 λh4 r1 r2 r3 u4 c4=>?_)
  have g4:Heap.FlyingW Bh (envOfC qual scope s₀.heap.objs.size f cd::outer) a C a0 h4:=⟨r1,g2.2.1,r2,r3⟩
  have J4:=land h4 g4 ((u2.trans u3).trans u4);have ctx4:=c4 (c3 c2);obtain⟨o4,v4,e4,cl4,d4,_⟩:=g4.first;have S4:=J4.suite e4 F.fresh.1 nL nF (λv z=>by rw[d4] at z;cases z);obtain⟨tl,Nn,nm,q,bs,hdct,sn,sub,ab,col,dd,k0,k1,k2,k3,k5,mN,hC,hN,hni,OT⟩:=O.obj;refine wpAny_execs_cons (exec_from (C:=C2) (nm:=nm) (q:=q) (N:=Nn) (bs:=bs) (bm:=tl) (hdct:=hdct) (sn:=sn) (sub:=sub) (ab:=ab) (col:=col) (dd:=dd) (k0:=k0) (k1:=k1) (k2:=k2) (k3:=k3) (k5:=k5) FB (mN:=mN) (a:=a) (OT.hasType FB.hasBase) rfl rfl hni (q1r S4 hy O.bound ⟨rfl,?_⟩ hd2));have p:=(pa_cons qE qA:PA ((cxOf (CXE P w) P w K mg base N qual scope f cd A outer s₀ H₀ E).suite a o4 pins) [.Constant (.str z) kz zp] _) cpos [] _ σ' H' (λvs H5=>vs.length<=sizeLine/\H5=H') S4 ⟨by show 1<=sizeLine;decide,rfl⟩;refine Calls.evalArgs_plain (thn p λus s5 ⟨xs,H5,I5,r,hz,e5⟩=>?_);subst e5;have pn5:=I5.pin (a,o4) (by rw[List.append_nil];exact List.mem_cons_self);have J5:=I5.unsuite J.ok.hd;have ctx5:Ctx0 s5.heap a:=by
   obtain⟨o,v,x1,x2,x3⟩:=ctx4;rw[e4] at x1;cases x1;exact⟨o4,v,pn5.1,x2,x3⟩
  refine⟨rfl,by rw[<-r.length];exact hz,I5.bk _ _ hC,hN.keeps I5.bk,OT.keeps I5.bk,ctx5,λh6 e t kp ne he=>?_⟩;have kb:(q1t qual scope f cd outer s₀ s5.heap).StaysIn h6:=λb o z=>kp b o (of_hideAll _ z);have ke:(q1t qual scope f cd outer s₀ s5.heap).get? e=none:=by
   cases z:(q1t qual scope f cd outer s₀ s5.heap).get? e with
   |none=>rfl
   | some o=>
    have:=of_hideAll _ z;rw[ne] at this;cases this
  refine note_made (base:=q1t qual scope f cd outer s₀ s5.heap) (outer:=outer) (L:=s₀.heap.objs.size) (a0:=.ref t) J.ok.frames ((q2l J5).of_keeps λb o hb _=>⟨o,kp b o hb,rfl⟩) rfl he kb ke rfl rfl rfl λh7 g7 u7=>?_;show cameBackBy _ _ _ _ _ _;unfold cameBackBy;obtain⟨y1,y2,y3,ob,vs,T7,oT,ts,z1,z2,z3,z4,z5⟩:=id g7;refine wpAny_bind (wpAny_field z1 z3 z4 ?_);rw[if_neg (by simp)];refine q1u (l:=envOfC qual scope s₀.heap.objs.size f cd::outer) g7.1 g7.2.2.1 g7.2.2.2 λh8 w1 w2 w3 u8 _=>?_;show wpAny _ _ (leaving _ _) _ _ _;refine q4T (outer:=outer) (L:=s₀.heap.objs.size) J.ok.frames rfl w1 ke w2 w3 λh9 g9 u9=>?_;have al:=q7g (C:=.ref C2) (a0:=.ref t) (h2:=h9) J5 kp ne g9 ((u7.trans u8).trans u9);exact⟨.ref C2,e,.ref t,_,_,rfl,al,k⟩
 ·cases fl with
  |next=>obtain⟨σ1,H1,I1,q⟩:=q;exact wpAny_execs_nil ⟨σ1,H1,I1.untried,q⟩
  |brk=>obtain⟨σ1,H1,I1,q⟩:=q;exact⟨σ1,H1,I1.untried,q⟩
  |cont=>obtain⟨σ1,H1,I1,q⟩:=q;exact⟨σ1,H1,I1.untried,q⟩
  |ret u=>obtain⟨v,σ1,H1,I1,r,q⟩:=q;exact⟨v,σ1,H1,I1.untried,r,q⟩
end
theorem q3w{h h' base base':Heap}:∀{l:List Env},(∀b,base.get? b=none->base'.get? b=none)->(∀b o,b∈frs l->h.get? b=some o->(∀v,o.data≠.fields v)->∃o',h'.get? b=some o'/\o'.data=o.data)->h.FunFrames base l->h'.FunFrames base' l
 |[],_,_,_=>True.intro
 | env::l,hb,hk,⟨k1,⟨L,o,e1,e2,e3,e4⟩,k3⟩=>by
  obtain⟨o',e5,e6⟩:=hk L o (by unfold frs;rw[List.filterMap_cons,e1];exact List.mem_cons_self) e3 e4;exact⟨k1,⟨L,o',e1,hb L e2,e5,λv=>by rw[e6];exact e4 v⟩,q3w hb (λb o m=>hk b o (q00 m)) k3⟩
section
variable {CX:CXT}{P:Program}{w:World}{K:PySem.W.Frag}{mg:Str->Option Value}{base:Heap}{N:List Str}{qual:Str}{scope:Scope}{f:Addr}{cd:Value}{A:Around}{outer:List Env}{s:Shared}{H:Hp}{E:XK}
theorem q8J{s':Shared}{C:Value}{c:Addr}{B h9:Heap}(I:Inv (cxOf CX P w K mg base N qual scope f cd A outer s H E) pins σ H1 s1)(F:Aloft P w (envOfC qual scope s.heap.objs.size f cd::outer) H1 s1 C a a0 B H' s')
  (hc:s.heap.get? c=none)(hc2:H' c=none)(g:Heap.FlyingW (hideAll B [c]) outer a C a0 h9)(u:∀b o,b∈frs outer->s'.heap.get? b=some o->(∀v,o.data≠.fields v)->∃sl,h9.get? b=some {o with slots:=sl}):Aloft P w outer H s C a a0 (hideAll B [c]) H' {s' with heap:=h9}:=by
 have hf:(envOfC qual scope s.heap.objs.size f cd).frame=some s.heap.objs.size:=rfl;have ub:Un (frs outer) [] H H1 s.heap s1.heap:=I.base
 have nl:∀b o,s.heap.get? b=some o->b∉frs outer->b∉frs (envOfC qual scope s.heap.objs.size f cd::outer):=λb o e n z=>by
  rcases q7V hf z with z|z
  ·rw[z] at e;exact absurd (Heap.lt_size e) (Nat.lt_irrefl _)
  ·exact n z
 have nc:∀b o,s.heap.get? b=some o->b∉[c]:=λb o e z=>by
  rw[List.mem_singleton.mp z,hc] at e;cases e
 refine⟨g,F.os.trans I.os,F.bare,λb u e=>?_,?_,λb o e n hb=>?_,λb o e hb=>?_,F.fresh.1,λz=>F.fresh.2.1 (q00 z),?_⟩
 ·refine(F.hok b u e).stay (λd v hd z=>hideAll_get _ z ?_) (λ_ z=>z) λ_ _ z=>z
  intro m;rw[List.mem_singleton.mp m] at hd;rcases hd with hd|hd
  ·rw[<-hd,hc2] at e;cases e
  ·rw[hc2] at hd;cases hd
 ·have t:Un (frs (envOfC qual scope s.heap.objs.size f cd::outer)) [] H H' s.heap s'.heap:=(ub.mono (λb hb=>q00 hb) λ_ z=>z).trans F.un
  refine⟨λb o e n hb hx=>?_,λb o e n hb hx=>?_,t.free,λb o e hx=>?_,t.tups,t.frzs,t.tbls⟩
  ·exact g.1 b o (hideAll_get _ (F.old b o (ub.keep b o e n hb hx) (ub.free b o e n hx) (nl b o e hb)) (nc b o e))
  ·obtain⟨z,e1⟩:=t.slot b o e n (q00 hb) hx
   obtain⟨_,o1,e2,d1⟩:=F.fl.2.2.1.mem (q00 hb);rw[e1] at e2;cases e2;obtain⟨z2,e3⟩:=u b _ hb e1 d1;exact⟨z2,e3⟩
  ·by_cases hb:b∈frs outer
   ·obtain⟨_,o1,e1,d1⟩:=F.fl.2.2.1.mem (q00 hb)
    obtain⟨z2,e3⟩:=u b _ hb e1 d1;exact⟨_,e3⟩
   ·obtain⟨o1,e1⟩:=ub.there b o e hx
    obtain⟨o2,e2⟩:=F.has b o1 e1 (nl b o e hb);exact⟨o2,g.1 b o2 (hideAll_get _ e2 (nc b o e))⟩
 ·exact hideAll_get _ (F.old b o (ub.keep b o e n hb (by simp)) (ub.free b o e n (by simp)) (nl b o e hb)) (nc b o e)
 ·obtain⟨o1,e1⟩:=ub.there b o e (by simp)
  obtain⟨o2,e2⟩:=F.has b o1 e1 (nl b o e hb);exact⟨o2,hideAll_get _ e2 (nc b o e)⟩
 ·cases z:s.heap.get? a with
  |none=>rfl
  | some o=>
   obtain⟨o1,e1⟩:=ub.there a o z (by simp);rw[F.fresh.2.2] at e1;cases e1
end
theorem q8G{prog:Program}{R:Result->Shared->Prop}{elt target iter:Expr}{ifs:List Expr}{scope:Scope}{pos:Pos}{it acc:Value}{env:Env}(I:Nat->Shared->Prop)
  (turn:∀n s,I n s->wpAny (model prog w) A (pyNext it) (λr s₁=>match r with
   |none=>R (.ok .next) s₁
   | some v=>wpAny (model prog w) A (letOwnedTupleGo target it v) (λ_ s₀=>wpAny (model prog w) A (assign target env v) (λ_ s₂=>
     wpAny (model prog w) A (forIn ifs true λc r=>if r=true then do let ok <-isTrue c env (eval c env);pure (ForInStep.yield ok) else pure (ForInStep.yield r)) (λok s₃=>
      if ok=true then wpAny (model prog w) A (eval elt env) (λx s₄=>
       wpAny (model prog w) A (call (.builtin "list.append") [acc,x]) (λ_ s₅=>∃m,m < n/\I m s₅) (λ_ _=>False) s₄) (notedBy (model prog w) A env λx s'=>R (.error x) s') s₃
      else ∃m,m < n/\I m s₃) (λ_ _=>False) s₂) (λ_ _=>False) s₀) (λ_ _=>False) s₁) (λ_ _=>False) s)
  (n:Nat)(h:I n s):
  codeAny (model prog w) A (.compLoop (.ListComp elt [⟨target,iter,ifs,0⟩] scope pos) 0 it acc env) R s:=by
 refine codeAny_loop rfl I (λn s hI=>?_) n h;show wpAny _ A ((compTurn (.ListComp elt [⟨target,iter,ifs,0⟩] scope pos) 0 it acc env).onRaise (λx=>do noteFrame x env;theTreesLotGoes x)) _ _ s;refine wpAny_noted ?_;rw[compTurn_list];refine wpAny_bind (wpAny_standAt (wpAny_bind (wpAny_mono (turn n s hI) (λr s₁ h₁=>?_) λ_ _ z=>z.elim)))
 cases r with
 |none=>exact wpAny_pure h₁
 | some v=>
  refine wpAny_bind (wpAny_mono h₁ (λ_ s₀ h₀'=>?_) λ_ _ z=>z.elim);refine wpAny_bind (wpAny_mono h₀' (λ_ s₂ h₂=>wpAny_bind (wpAny_mono h₂ (λok s₃ h₃=>?_) λ_ _ z=>z.elim)) λ_ _ z=>z.elim)
  cases ok with
  |false=>exact wpAny_pure ⟨rfl,h₃⟩
  | true=>
   exact wpAny_bind (wpAny_bind (wpAny_mono h₃ (λx s₄ h₄=>wpAny_bind (wpAny_mono h₄ (λ_ s₅ h₅=>wpAny_pure (wpAny_pure ⟨rfl,h₅⟩)) λ_ _ z=>z.elim)) λ_ _ z=>z))
noncomputable def blkE(E:XK)(X:Cx)(N':List Str)(scope:Scope)(C:Addr)(s:Shared)(H:Hp)(fp:List Addr):Cx:=(blk X N' scope C s H fp).wish λe s'=>∃pins σ H1 s1,Inv (blk X N' scope C s H fp) pins σ H1 s1/\CXE X.prog X.w X.stack H1 s1 E e s'
theorem passB{E:XK}{N':List Str}{fp:List Addr}:q0Y (CXE X.prog X.w) (blkE E X N' scope C s H fp) E:=λpins σ H1 s1 e s' I c=>⟨pins,σ,H1,s1,I.unwish,c⟩
section
variable {X:Cx}{elt tg iter:Expr}{ifs:List Expr}{scope:Scope}{pos:Pos}{wi:TI}{g:TG}{tc:TT}{te:TE}{N':List Str}{ix:List (Option Nat)}
variable {P:Program}{w:World}{K:PySem.W.Frag}{mg:Str->Option Value}{base:Heap}{N:List Str}{qual:Str}{fscope:Scope}{f:Addr}{cd:Value}{A:Around}{outer:List Env}{s₀:Shared}{H₀:Hp}{E:XK}
theorem q8H(hX:X=cxOf (CXE P w) P w K mg base N qual fscope f cd A outer s₀ H₀ E){ipos:Pos}{use:Option (Value->Sem Unit)}{QQ:Value->Shared->Prop}{pins:List (Addr×Obj)}{s:Shared}{σ:St}{H:Hp}{Q:VK}(hc:X.calm=true)(hkind:scope.kind = .function)(hcell:∀y∈scope.names,y.2≠.cell)(hnames:∀y∈scope.names,y.2 = .local->scope.names.lookup y.1=some .local)
  (hfr:∀y∈scope.names,y.2 = .free->X.env.kindOf y.1=some .cell\/X.env.kindOf y.1=some .free)
  (hclos:closureFor scope X.env=pure (clOf X.env scope.names []))
  (hlen:ix.length=N'.length)
  (hix:∀(i j:Nat) (x:Str),ix[i]?=some (some j)->N'[i]?=some x->X.N[j]?=some x/\scope.names.lookup x=some .free)
  (hi:PI X tg iter wi)(hg:∀C s H fp,PG (blk X N' scope C s H fp) tg g)(ht:∀C s H fp,PTs (blk X N' scope C s H fp) ifs tc)(he:∀C s H fp,PE (blkE E X N' scope C s H fp) elt te)
  (hs:∀x,foldedSetIterable iter X.env x=pure x)(I:Inv X pins σ H s)(h:q6F wi g tc te ix σ H Q)
  (post:∀(a C:Addr) (H':Hp) (s6:Shared) (m':Str->Option Value),Inv X pins σ H' s6->FpOk X pins H' C->s6.heap.Ns C m'->Q (.ref a) H'->compPost (model X.prog X.w) X.A X.xe use QQ (.ref a) C (.ok .next) s6):
  wpAny (model X.prog X.w) X.A (comprehension (.ListComp elt [⟨tg,iter,ifs,0⟩] scope pos) scope X.env ipos (newList []) false (eval iter X.env) use) QQ X.xe s:=by
 refine wpAny_comprehension_free (use:=use) rfl hs hclos hkind hnames ?_;refine thn (hi pins s σ H _ I h) λv s1 h1=>thn h1 λitv s2 h2=>?_;obtain⟨it,fp,tn,J,H2,e,I2,T,st2,f2,q2⟩:=h2;subst e;have hfresh:H2 s2.heap.objs.size=none:=I2.hok.fresh (Nat.le_refl _);obtain⟨W,⟨m0,w0⟩,turn⟩:=q2 s2.heap.objs.size hfresh;refine wpAny_newObj_type (wpAny_newFunctionEnv hcell (by intro y hy;simp at hy) (λh₁ hns₁ hsb₁=>?_) hkind);dsimp only at hns₁ hsb₁ ⊢;generalize hP:s2.heap.push {cls:=.type "list",dict:=none,data:=.seq ([]:List Value).toArray}=P3 at hns₁ hsb₁ ⊢;have hPs:P3.objs.size=s2.heap.objs.size+1:=by rw[<-hP,Heap.size_push]
 have up3:∀b o,s2.heap.get? b=some o->P3.get? b=some o:=λb o e=>by rw[<-hP];exact Heap.get?_push_of_some _ e
 have I3:Inv X pins σ (upd H2 s2.heap.objs.size (.lst [])) {s2 with heap:=P3}:=by
  refine I2.laid (t':=s2.toks) up3 (Nat.le_refl _) ?_;refine⟨by show 0<=sizeLine;exact Nat.zero_le _,[],0,.nil,?_⟩;rw[<-hP];exact Heap.get?_push_size _ rfl
 have old:∀b o,P3.get? b=some o->h₁.get? b=some o:=λb o e=>hsb₁.extBut b o (Nat.ne_of_lt (Heap.lt_size e)) (Heap.get?_push_of_some _ e)
 have hob:∀b∈fp,∃o,P3.get? b=some o:=λb hb=>by
  obtain⟨o,ho,_⟩:=T.obj _ _ st2 b hb;exact⟨o,up3 b o ho⟩
 have f3:∀b∈fp,FpOk X pins (upd H2 s2.heap.objs.size (.lst [])) b:=λb hb=>by
  obtain⟨o,ho,_⟩:=T.obj _ _ st2 b hb;refine⟨?_,(f2 b hb).2⟩;rw[qG (Nat.ne_of_lt (Heap.lt_size ho))];exact(f2 b hb).1
 have I4:=q6A (t':=s2.toks+([]:List (Str×Value)).length) (ix:=ix) (N':=N') hkind hcell hfr hlen hix I3 f3 hob hns₁ old;have st4:tn 0 h₁:=T.keep _ _ _ st2 λb hb o e=>old b o (up3 b o e)
 have fpok:∀{H':Hp},(∀b∈fp,H' b=none)->∀b∈fp,FpOk (blk X N' scope P3.objs.size {s2 with heap:=P3} (upd H2 s2.heap.objs.size (.lst [])) fp) [] H' b:=λhn b hb=>by
  obtain⟨o,ho⟩:=hob b hb;obtain⟨_,f1,f2',f3',f4,f5⟩:=f3 b hb;refine⟨hn b hb,Nat.ne_of_lt (Heap.lt_size ho),λhz=>?_,.inl hb,λx c e=>f4 x c (q3Q scope.names [] (λ_ _ z=>by simp at z) e),λp hp=>absurd (show p∈([]:List (Addr×Obj)) from hp) (by simp)⟩;rcases List.mem_cons.mp (I3.stkSub b hz) with z|z
  ·exact f1 z
  ·exact f2' z
 have fin:∀{τ:St} {H':Hp} {s6:Shared},Inv (blk X N' scope P3.objs.size {s2 with heap:=P3} (upd H2 s2.heap.objs.size (.lst [])) fp) [] τ H' s6->Q (.ref s2.heap.objs.size) H' ->
   compPost (model X.prog X.w) X.A X.xe use QQ (.ref s2.heap.objs.size) P3.objs.size (.ok .next) s6:=λ{τ H' s6} J q=>by
  obtain⟨m',hn',_⟩:=id J.loc;have U0:Un (frs X.stack) fp H2 (upd H2 s2.heap.objs.size (.lst [])) s2.heap P3:=Un.laid up3 (Nat.le_refl _) hfresh;have U1:Un (frs X.stack) fp H2 H' s2.heap s6.heap:=U0.trans J.base;exact post _ _ H' s6 m' (I2.call' (s':=s6) (ch:=fp) J.os U1 J.hok J.bare (λb hb=>⟨(f2 b hb).2.2.2.1,(f2 b hb).2.1,(f2 b hb).2.2.2.2.1,(f2 b hb).2.2.2.2.2⟩)) (I2.fpOk (by rw[hPs];exact Nat.le_succ _) J.free) hn' q
 have err:∀e s',(blkE E X N' scope P3.objs.size {s2 with heap:=P3} (upd H2 s2.heap.objs.size (.lst [])) fp).xe e s' ->
   notedBy (model X.prog X.w) X.A (compEnvC scope (clOf X.env scope.names []) P3.objs.size X.env) (λx s''=>compPost (model X.prog X.w) X.A X.xe use QQ (.ref s2.heap.objs.size) P3.objs.size (.error x) s'') e s':=by
  rintro e s' ⟨pins1,σ1,H1,s1,J,C',a,a0,B,Hx,rfl,F,q⟩;have U0:Un (frs X.stack) fp H2 (upd H2 s2.heap.objs.size (.lst [])) s2.heap P3:=Un.laid up3 (Nat.le_refl _) hfresh;have U1:Un (frs X.stack) fp H2 H1 s2.heap s1.heap:=U0.trans J.base;have IX:Inv X pins σ H1 s1:=I2.call' (s':=s1) (ch:=fp) J.os U1 J.hok J.bare (λb hb=>⟨(f2 b hb).2.2.2.1,(f2 b hb).2.1,(f2 b hb).2.2.2.2.1,(f2 b hb).2.2.2.2.2⟩);obtain⟨m,⟨oC,es,ep,hoC,hdC,rC⟩,_⟩:=id J.loc;have jf:=J.free;generalize hPC:P3.objs.size=c at hoC jf ⊢;have hc2:s2.heap.objs.size < c:=by rw[<-hPC,hPs];exact Nat.lt_succ_self _
  subst hX;have F:Aloft P w (envOfC qual fscope s₀.heap.objs.size f cd::outer) H1 s1 C' a a0 B Hx s':=F;have st2:s2.heap.FunFrames base (envOfC qual fscope s₀.heap.objs.size f cd::outer):=I2.stack
  have nC:c∉frs (envOfC qual fscope s₀.heap.objs.size f cd::outer):=λz=>by
   obtain⟨_,o,e1,_⟩:=st2.mem z;exact absurd (Heap.lt_size e1) (Nat.not_lt.mpr (Nat.le_of_lt hc2))
  have bC:B.get? c=some oC:=F.old c oC hoC jf nC
  have aC:a≠c:=λz=>by
   have:=F.fresh.2.2;rw[z,show s1.heap.get? c=some oC from hoC] at this;cases this
  show wpAny _ _ (noteFrame (.ref a) (envOfC qual fscope s₀.heap.objs.size f cd)) _ _ s';refine wpAny_looks_onW (base:=B) (outer:=outer) (L:=s₀.heap.objs.size) IX.ok.frames rfl F.fl λh2 g2 u2=>?_;refine⟨m,⟨oC,es,ep,g2.1 c oC bC,hdC,rC⟩,λh' sb cenv _=>?_⟩;obtain⟨ob,vs,T',oT,ts,z1,z2,z3,z4,nT,Te,hT,dT,e3⟩:=g2.2.2.2;have TC:T'≠c:=λz=>by rw[z,bC] at nT;cases nT
  have less:∀b,B.get? b=none->(hideAll B [c]).get? b=none:=λb hb=>by
   cases z:(hideAll B [c]).get? b with
   |none=>rfl
   | some o=>
    have:=of_hideAll _ z;rw[hb] at this;cases this
  have kb:(hideAll B [c]).StaysIn h':=λb o hb=>by
   have hne:b≠c:=λz=>by rw[z,hideAll_none [c] (List.mem_singleton.mpr rfl)] at hb;cases hb
   exact(sb.2 b hne).trans (g2.1 b o (of_hideAll _ hb))
  have kf:h'.FunFrames (hideAll B [c]) (envOfC qual fscope s₀.heap.objs.size f cd::outer):=q3w less (λb o hm hb _=>⟨o,(sb.2 b λz=>nC (z▸hm)).trans hb,rfl⟩) g2.2.2.1
  have kt:h'.TracedAtW (hideAll B [c]) a C' a0 (rawInt s₀.heap.objs.size):=⟨ob,vs,T',oT,ts,(sb.2 a aC).trans z1,z2,z3,z4,less T' nT,Te,(sb.2 T' TC).trans hT,dT,e3⟩
  show wpAny _ _ (PySem.passOn _ _ _) _ _ _;unfold PySem.passOn;refine wpAny_bind (wpAny_field ((sb.2 a aC).trans z1) z3 z4 ?_);rw[if_neg (by simp)];refine wpAny_bind (q1u (l:=envOfC qual fscope s₀.heap.objs.size f cd::outer) kb kf kt λh8 w1 w2 w3 u8 _=>wpAny_throw ?_);show wpAny _ _ (leaving _ _) _ _ _;refine q4T (outer:=outer) (L:=s₀.heap.objs.size) IX.ok.frames rfl w1 (less a g2.2.1) w2 w3 λh9 g9 u9=>?_;have al:=q8J (c:=c) (h9:=h9) IX F ?_ ?_ g9 ?_
  ·exact⟨C',a,a0,_,Hx,rfl,al,q⟩
  ·cases z:s₀.heap.get? c with
   |none=>rfl
   | some o=>
    obtain⟨o1,e1⟩:=I2.base.there c o z (by simp[cxOf]);exact absurd (Heap.lt_size e1) (Nat.not_lt.mpr (Nat.le_of_lt hc2))
  ·exact F.un.free c oC hoC jf (by simp)
  ·intro b o hm hb nf
   have hne:b≠c:=λz=>nC (z▸q00 hm);obtain⟨l1,y1⟩:=u2 b o hb nf;obtain⟨l2,y2⟩:=u8 b {o with slots:=l1} ((sb.2 b hne).trans y1) nf;obtain⟨l3,y3⟩:=u9 b _ y2 nf;exact⟨l3,y3⟩
 have loop:codeAny (model X.prog X.w) X.A (.compLoop (.ListComp elt [⟨tg,iter,ifs,0⟩] scope pos) 0 (.ref it) (.ref s2.heap.objs.size) (compEnvC scope (clOf X.env scope.names []) P3.objs.size X.env))
   (compPost (model X.prog X.w) X.A X.xe use QQ (.ref s2.heap.objs.size) P3.objs.size) {s2 with heap:=h₁,toks:=s2.toks+([]:List (Str×Value)).length}:=by
  refine q8G (λn s'=>∃i τ ys H',Inv (blk X N' scope P3.objs.size {s2 with heap:=P3} (upd H2 s2.heap.objs.size (.lst [])) fp) [] τ H' s'/\tn i s'.heap/\(∀b∈fp,H' b=none)/\W i n τ ys H') ?_ m0
   ⟨0,_,[],_,I4,st4,λb hb=>(f3 b hb).1,w0⟩
  rintro n s5 ⟨i,τ,ys,H5,I5,st5,fr5,w5⟩;obtain⟨hacc,alt⟩:=turn i n τ ys H5 w5;rcases alt with⟨stop,qn⟩|⟨go,hsz,step⟩
  ·refine thn (T.done (blk X N' scope P3.objs.size {s2 with heap:=P3} (upd H2 s2.heap.objs.size (.lst [])) fp) rfl rfl rfl hc i [] s5 τ H5 (λ_ _=>False) I5 (fpok fr5) st5 stop) λr s6 ⟨hr,I6⟩=>?_
   subst hr;exact fin I6 qn
  ·refine thn (T.item (blk X N' scope P3.objs.size {s2 with heap:=P3} (upd H2 s2.heap.objs.size (.lst [])) fp) rfl rfl rfl hc i [] s5 τ H5 (λ_ _=>False) I5 (fpok fr5) st5 go) λr s6 ⟨u,hr,h6⟩=>?_
   subst hr;refine thn h6 λ_ s7 ⟨x,H7,I7,r7,y7,st7,fr7⟩=>?_;have I7':=I7.pinned (fpok fr7) (T.obj _ _ st7)
   have again:∀{τ9:St} {H9:Hp} {s9:Shared} {ys9:List V} {m9:Nat},Inv (blk X N' scope P3.objs.size {s2 with heap:=P3} (upd H2 s2.heap.objs.size (.lst [])) fp) ([]++q4O fp s7.heap) τ9 H9 s9->m9 < n->W (i+1) m9 τ9 ys9 H9 ->
     ∃m,m < n/\∃i τ ys H',Inv (blk X N' scope P3.objs.size {s2 with heap:=P3} (upd H2 s2.heap.objs.size (.lst [])) fp) [] τ H' s9/\tn i s9.heap/\(∀b∈fp,H' b=none)/\W i m τ ys H':=λ{τ9 H9 s9 ys9 m9} I9 hm w9=>by
    refine⟨m9,hm,i+1,τ9,ys9,H9,I9.unpinned,T.keep _ _ _ st7 λb hb o e=>(I9.pin (b,o) (List.mem_append_right _ (List.mem_append_right _ (q0S hb e)))).1,λb hb=>?_,w9⟩;obtain⟨o,e,d⟩:=T.obj _ _ st7 b hb;exact(I9.pin (b,o) (List.mem_append_right _ (List.mem_append_right _ (q0S hb e)))).2.1
   refine thn (hg P3.objs.size _ _ fp _ s7 τ H7 x u _ I7' r7 (step x H7 y7)) λ_ s8 ⟨τ8,H8,I8,q8⟩=>?_;refine thn (ht P3.objs.size _ _ fp _ s8 τ8 H8 _ I8 q8) λb s9 ⟨H9,I9,q9⟩=>?_
   cases b with
   | false=>
    simp only[Bool.false_eq_true,if_false] at q9 ⊢;obtain⟨m9,hm,w9⟩:=q9;exact again I9 hm w9
   | true=>
    simp only[if_true] at q9 ⊢;refine wpAny_mono (he P3.objs.size _ _ fp _ s9 τ8 H9 _ (I9.wish _) q9) (λy s10 ⟨yv,H10,I10',r10,ha10,m10,hm,w10⟩=>?_) λe s' z=>err e s' z;have I10:=I10'.unwish
    refine thn (qx (X:=blk X N' scope P3.objs.size {s2 with heap:=P3} (upd H2 s2.heap.objs.size (.lst [])) fp) _ s10 τ8 H10 (.ref s2.heap.objs.size) [yv] (.ref s2.heap.objs.size) [y] (λ_ H11=>H11=upd H10 s2.heap.objs.size (.lst (ys++[yv]))) I10 rfl (.cons r10 .nil)
     ⟨s2.heap.objs.size,ys,yv,rfl,rfl,ha10,hsz,rfl⟩) λ_ s11 ⟨_,H11,I11,_,e11⟩=>?_
    subst e11;exact again I11 hm w10
 exact codeAny_compStart_list loop (T.self _ 0 _ _ _ st4 loop)
theorem pe_lcE(hX:X=cxOf (CXE P w) P w K mg base N qual fscope f cd A outer s₀ H₀ E)(hc:X.calm=true)(hkind:scope.kind = .function)(h1:okCell scope.names=true)(h2:okFree X.env.scope.names scope.names=true)
  (hclos:closureFor scope X.env=pure (clOf X.env scope.names []))(hlen:ix.length=N'.length)(h3:okIx N' X.N scope.names ix=true)
  (hi:PI X tg iter wi)(hg:∀C s H fp,PG (blk X N' scope C s H fp) tg g)(ht:∀C s H fp,PTs (blk X N' scope C s H fp) ifs tc)(he:∀C s H fp,PE (blkE E X N' scope C s H fp) elt te)
  (hs:∀x,foldedSetIterable iter X.env x=pure x:=by intro _;rfl):PE X (.ListComp elt [⟨tg,iter,ifs,0⟩] scope pos) (q6F wi g tc te ix):=by
 intro pins s σ H Q I h;rw[eval_ListComp];show wpAny _ X.A (comprehension (.ListComp elt [⟨tg,iter,ifs,0⟩] scope pos) scope X.env (firstIterPos [⟨tg,iter,ifs,0⟩] pos) (newList []) false (eval iter X.env) none) _ _ s
 refine q8H hX (ipos:=firstIterPos [⟨tg,iter,ifs,0⟩] pos) (use:=none) (QQ:=EP X pins σ Q) hc hkind (λy hy=>?_) (λy hy hl=>?_) (λy hy hf=>?_) hclos hlen (q6f h3) hi hg ht he hs I h λa C H' s6 m' I6 f hn q=>⟨m',hn,λh' sb=>⟨.ref a,H',I6.letgo f sb,rfl,q⟩⟩
 ·have q:=List.all_eq_true.mp h1 y hy
  simp only[Bool.and_eq_true,bne_iff_ne,ne_eq] at q;exact q.1
 ·have q:=List.all_eq_true.mp h1 y hy
  rw[hl] at q;simp only[Bool.and_eq_true,Bool.or_eq_true,bne_self_eq_false,Bool.false_eq_true,false_or,beq_iff_eq] at q;exact q.2
 ·have q:=List.all_eq_true.mp h2 y hy
  rw[hf] at q;simp only[Bool.or_eq_true,bne_self_eq_false,Bool.false_eq_true,false_or,beq_iff_eq] at q;exact q
end
noncomputable def repS(z:Str)(n:Nat):Str:=⟨(List.replicate n z.cps).foldl (·++·) #[]⟩
theorem q7M(a:Array Nat):∀(n:Nat) (b:Array Nat),((List.replicate n a).foldl (·++·) b).size=b.size+n*a.size
 |0,b=>by simp
 | n+1,b=>by
  rw[List.replicate_succ,List.foldl_cons,q7M a n (b++a),Array.size_append,Nat.add_mul,Nat.one_mul]
  lia
theorem q0h(z:Str)(n:Nat):(repS z n).length=n*z.length:=by
 show((List.replicate n z.cps).foldl (·++·) #[]).size=_;rw[q7M];show 0+_=_;rw[Nat.zero_add];rfl
theorem q19:OpR X (binaryOp .Mult) (λx y H Q=>∃(z:Str) (k:Nat),x = .str z/\y = .int (k:Int)/\2<=k/\1<=z.length/\z.length*k<=100000/\Q (.str (repS z k)) H):=by
 intro pins s σ H x y v u Q I rx ry h;obtain⟨z,k,rfl,rfl,h2,h1,hz,q⟩:=h;obtain⟨t,rfl⟩:=rx;obtain⟨t',rfl⟩:=ry;have hs:sizeLine=16777216:=sizeLine_eq;have hk:k<=100000:=Nat.le_trans (Nat.le_mul_of_pos_left k h1) hz;have h3:(z.length:Int)*(k:Int)<=100000:=by
  rw[<-Int.natCast_mul];exact Int.ofNat_le.mpr hz
 have hne:¬((k:Int) == 1 ||z.length == 0)=true:=by
  rw[Bool.or_eq_true,beq_iff_eq,beq_iff_eq]
  lia
 refine PySem.P.mul_str (n:=(k:Int)) (by rw[decide_eq_false (by lia),decide_eq_false (by lia)];rfl) (λ_ _ z'=>?_) (λ_ _=>?_) ?_
 ·have h4:=(Int.le_ediv_iff_mul_le (show(0:Int) < (k:Int) by lia)).mpr (Int.le_trans h3 (show(100000:Int)<=2 ^ 63-1 by decide))
  lia
 ·show decide (z.length*(k:Int).toNat > sizeLine)=false
  rw[Int.toNat_natCast];exact decide_eq_false (by lia)
 ·rw[if_neg (by lia),if_neg hne]
  have hl:(repS z k).length<=sizeLine:=by
   rw[q0h,Nat.mul_comm]
   lia
  exact⟨hl,.str _,H,I.tok _,⟨_,rfl⟩,q⟩
noncomputable def rUpper:V->List V->Hp->VK->Prop:=λx xs H Q=>∃z,x = .str z/\xs=[]/\(Txt.upper z).length<=sizeLine/\Q (.str (Txt.upper z)) H
theorem mt_upper:MtR X "str.upper" rUpper:=by
 intro pins s σ H x xs v us Q I rx rv h;obtain⟨z,rfl,rfl,hz,q⟩:=h;obtain⟨t,rfl⟩:=rx;cases rv;exact call_gives F.slot_str_upper (typeIs_str _ _ _) F.entry_str_upper (F.args_str_upper_1 _) (PySem.gives_str_upper z t (decide_eq_false (Nat.not_lt.mpr hz))) ⟨hz,.str _,H,I.tok _,⟨_,rfl⟩,q⟩
structure DefX(CX:CXT)(P:Program)(w:World)(K:PySem.W.Frag)(mg:Str->Option Value)(base:Heap)(k:Nat)(x:Str)(ps:List Str)(sp:Sp):Prop where
 ex:∃(f:Addr) (fd:FuncData),FnOk P w K mg base CX k f fd ps sp/\Binds K fd ps []/\PySem.W.keepIn K (.ref f)=true/\mg x=some (.ref f)
theorem DefX.mono{CX:CXT}{P:Program}{w:World}{K:PySem.W.Frag}{mg:Str->Option Value}{base:Heap}{j k:Nat}{x:Str}{ps:List Str}{sp:Sp}(D:DefX CX P w K mg base j x ps sp)(h:j<=k):DefX CX P w K mg base k x ps sp:=by
 obtain⟨f,fd,F,b,kp,m⟩:=D.ex;exact⟨f,fd,F.mono h,b,kp,m⟩
theorem pe_defX{k:Nat}{E:XK}{p pos:Pos}{e:Expr}(D:DefX CX X.prog X.w X.K X.mg X.base k x ps sp)(hr:Room k X.A)(hg:Gl X x)(hp:q0Y CX X E)(ha:PA X (e::es) t)
  (hdb:(x == ("__debug__" : Str))=false:=by decide)(he:starEach (e::es) X.env=(false,eval e X.env)::starEach es X.env:=by rfl)(hpl:(backTo pos (starEach es X.env)).any (·.1)=false:=by rfl):PE X (.Call (.Name x p) (e::es) [] pos) (q7m sp [] E t):=by
 obtain⟨f,fd,F,b,kp,m⟩:=D.ex;exact q6W F hr hg m kp b .nil hp ha hdb he hpl
theorem q09(h:∀outer H s e s',¬CX outer H s E0 e s'):q0Y CX X E0:=λ_ _ _ _ _ _ _ c=>(h _ _ _ _ _ c).elim
theorem q0W:∀outer H s e s',¬CXE P w outer H s E0 e s':=λouter H s e s' ⟨C,a,a0,B,H',_,_,q⟩=>q
theorem pe_def0{k:Nat}{p pos:Pos}(D:Def X.prog X.w X.K X.mg X.base k x ps sp)(hr:Room k X.A)(hg:Gl X x)(hdb:(x == ("__debug__" : Str))=false:=by decide):PE X (.Call (.Name x p) [] [] pos) (q7m sp [] E0 tNil):=by
 obtain⟨f,fd,F,b,kp,m⟩:=D.ex;exact pe_call0 F hr hg m kp b .nil pass0 hdb
end L2
section
local macro_rules | `(tactic| w_up)=>`(tactic| (apply Exists.intro;apply And.intro))
local macro_rules | `(tactic| k_ne)=>`(tactic| first | exact Or.inl rfl | exact Or.inr rfl)
local macro_rules | `(tactic| kd_p)=>`(tactic| exact ⟨rfl,rfl,rfl,by decide +kernel,rfl,by decide +kernel,by decide +kernel⟩)
local macro_rules | `(tactic| lk)=>`(tactic| repeat (first | refine L2.wk1 _ rfl ?_ | refine L2.wk2 _ _ rfl rfl ?_ | refine ⟨_,rfl,?_⟩ | refine ⟨_,_,rfl,rfl,?_⟩ | refine ⟨rfl,?_⟩ | refine ⟨L2.cPow rfl,?_⟩ | refine ⟨L2.cDiv rfl,?_⟩ | refine ⟨L2.cPos rfl,?_⟩ | refine ⟨L2.cMulL rfl,?_⟩ | refine ⟨L2.cMulR rfl,?_⟩ | refine ⟨L2.cNon rfl,?_⟩))
namespace My
open PySem L2 PySem.W
variable {P:Program}{w:World}{K:Frag}{mg:Str->Option Value}{base:Heap}
variable {k:Nat}{f:Addr}{fd:FuncData}{ns:List Int}{H:Hp}{n:Nat}{C:Addr}{g:Nat}{i:Nat}{c:Nat}{H':Hp}{p:Nat}{m:Nat}{x:Sx}{z:Str}{a:Addr}{b:Nat}{d:Addr}{N:Addr}{cs:List Nat}{lo:Nat}{h:Nat}{e:Addr}{st:Dst}{d0:Nat}{y:Sx}{st':Dst}{S:Nat->Nat->Prop}{xs:List Int}{ys:List Int}{v:V}{L:List (Nat×Nat)}{c1:Addr}{c2:Addr}{c3:Addr}{c4:Addr}{rs:List Rep}{l:List Str}{s:Int}{bf:Nat->Option Int}{r:List Int}{cls:Nat->Addr}{rep:Rep}
noncomputable def top(i:Nat):Stmt:=PySem.Challenge.pw_topstretch_k41_rows_refused_at_a_desk.main.body.getD i (.Pass ⟨0,0,0,0⟩)
noncomputable abbrev q30:Stmt:=top 11
theorem q6O:FnScope ["thing"] ["thing"] (qF q30):=by kd_p
noncomputable abbrev q1h:Stmt:=top 12
theorem sc_is_stretch:FnScope ["stretch","many","first","beyond"] ["stretch","many"] (qF q1h):=by kd_p
noncomputable abbrev q1d:Stmt:=top 13
theorem sc_sums_ahead:FnScope ["row","total","ahead","number"] ["row"] (qF q1d):=by kd_p
noncomputable abbrev q2u:Stmt:=top 24
theorem q6N:FnScope ["stretch"] ["stretch"] (qF q2u):=by kd_p
noncomputable abbrev q2L:Stmt:=top 25
theorem q5Y:FnScope ["one","other"] ["one","other"] (qF q2L):=by kd_p
noncomputable abbrev q6R:Stmt:=top 26
theorem sc_moved:FnScope ["stretch","places"] ["stretch","places"] (qF q6R):=by kd_p
noncomputable abbrev q0z:Stmt:=top 27
theorem q3e:FnScope ["one","other"] ["one","other"] (qF q0z):=by kd_p
noncomputable abbrev q12:Stmt:=top 28
theorem sc_joined_round:FnScope ["one","other","best","inner"] ["one","other"] (qF q12):=by kd_p
noncomputable abbrev q4s:Stmt:=top 29
theorem sc_joined:FnScope ["one","other","many","one_whole","other_whole","other_head","over"] ["one","other"] (qF q4s):=by kd_p
noncomputable abbrev q4q:Stmt:=top 30
theorem sc_single:FnScope ["number","stretch"] ["number"] (qF q4q):=by kd_p
noncomputable abbrev q4r:Stmt:=top 31
theorem sc_paired:FnScope ["left","right"] ["left","right"] (qF q4r):=by kd_p
noncomputable abbrev q3M:Stmt:=top 32
theorem sc_halved:FnScope ["row","first","beyond","middle"] ["row","first","beyond"] (qF q3M):=by kd_p
noncomputable abbrev s_kept:Stmt:=top 33
theorem sc_kept:FnScope ["row"] ["row"] (qF s_kept):=by kd_p
noncomputable abbrev q3g:Stmt:=top 34
theorem q7q:FnScope ["held"] ["held"] (qF q3g):=by kd_p
noncomputable abbrev q3L:Stmt:=top 35
theorem sc_row_of:FnScope ["held"] ["held"] (qF q3L):=by kd_p
noncomputable abbrev q0T:Stmt:=top 36
theorem q1a:FnScope ["held","place"] ["held","place"] (qF q0T):=by kd_p
noncomputable abbrev q20:Stmt:=top 37
theorem sc_with_put:FnScope ["held","place","number","middle"] ["held","place","number"] (qF q20):=by kd_p
noncomputable abbrev q2b:Stmt:=top 38
theorem sc_changed:FnScope ["held","changes","now","change"] ["held","changes"] (qF q2b):=by kd_p
noncomputable abbrev q22:Stmt:=top 39
theorem sc_known_of:FnScope ["held","first","beyond","middle"] ["held","first","beyond"] (qF q22):=by kd_p
noncomputable abbrev q0J:Stmt:=top 40
theorem q1P:FnScope ["held","stretch"] ["held","stretch"] (qF q0J):=by kd_p
noncomputable abbrev q2c:Stmt:=top 41
theorem q4L:FnScope ["held","stretch"] ["held","stretch"] (qF q2c):=by kd_p
noncomputable abbrev q1k:Stmt:=top 42
theorem sc_best_round:FnScope ["held","plain","best","over"] ["held"] (qF q1k):=by kd_p
noncomputable abbrev q0r:Stmt:=top 44
theorem q2Z:FnScope ["many","least","most"] ["many","least","most"] (qF q0r):=by kd_p
noncomputable abbrev q1E:Stmt:=top 45
theorem q4A:FnScope ["firsts","ahead","first"] ["firsts","ahead","first"] (qF q1E):=by kd_p
noncomputable abbrev q0s:Stmt:=top 46
theorem sc_best_sized:FnScope ["row","least","most","longest","ahead","firsts","best","beyond","total"] ["row","least","most"] (qF q0s):=by kd_p
noncomputable abbrev q0I:Stmt:=top 48
theorem q1O:FnScope ["many","least","gap"] ["many","least","gap"] (qF q0I):=by kd_p
noncomputable abbrev q2t:Stmt:=top 49
theorem q6M:FnScope ["numbers","gap"] ["numbers","gap"] (qF q2t):=by kd_p
noncomputable abbrev q1i:Stmt:=top 50
theorem q4p:FnScope ["one","other"] ["one","other"] (qF q1i):=by kd_p
noncomputable abbrev q1l:Stmt:=top 51
theorem sc_begun_line:FnScope ["row","behind","line","place","rest"] ["row","behind"] (qF q1l):=by kd_p
noncomputable abbrev q2M:Stmt:=top 52
theorem sc_best_line:FnScope ["begun","line","place"] ["begun"] (qF q2M):=by kd_p
noncomputable abbrev q1G:Stmt:=top 53
theorem q4B:FnScope ["best","gap"] ["best","gap"] (qF q1G):=by kd_p
noncomputable abbrev q2v:Stmt:=top 54
theorem sc_lines_of:FnScope ["row","many","gap","nothing","lines","count","begun","best"] ["row","many","gap"] (qF q2v):=by kd_p
noncomputable abbrev q1j:Stmt:=top 55
theorem sc_first_from:FnScope ["line","start","first"] ["line","start"] (qF q1j):=by kd_p
noncomputable abbrev q1F:Stmt:=top 56
theorem sc_beyond_from:FnScope ["row","first","total","behind","beyond","left"] ["row","first","total","behind"] (qF q1F):=by kd_p
noncomputable abbrev q0y:Stmt:=top 57
theorem sc_stretches_of:FnScope ["row","lines","many","gap","told","start","count","first","total","beyond"] ["row","lines","many","gap"] (qF q0y):=by kd_p
noncomputable abbrev q0t:Stmt:=top 58
theorem sc_best_apart:FnScope ["row","many","gap","lines"] ["row","many","gap"] (qF q0t):=by kd_p
noncomputable abbrev q0H:Stmt:=top 60
theorem sc_several_paper:FnScope ["row","many","gap","lines"] ["row","many","gap"] (qF q0H):=by kd_p
noncomputable abbrev q2a:Stmt:=top 62
theorem sc_must_be:FnScope ["held","place","many","without","beside","left","right"] ["held","place"] (qF q2a):=by kd_p
noncomputable abbrev q2H:Stmt:=top 66
theorem q5W:FnScope ["row"] ["row"] (qF q2H):=by kd_p
noncomputable abbrev q1H:Stmt:=top 67
theorem q4C:FnScope ["word","most"] ["word","most"] (qF q1H):=by kd_p
noncomputable abbrev q2K:Stmt:=top 68
theorem q5X:FnScope ["word"] ["word"] (qF q2K):=by kd_p
noncomputable abbrev q21:Stmt:=top 69
theorem sc_read_row:FnScope ["text","words"] ["text"] (qF q21):=by kd_p
noncomputable abbrev q1D:Stmt:=top 74
theorem q39:FnScope ["text"] ["text"] (qF q1D):=by kd_p
noncomputable abbrev q0U:Stmt:=top 75
theorem q1b:FnScope ["word"] ["word"] (qF q0U):=by kd_p
noncomputable abbrev q0f:Stmt:=top 76
theorem q2D:FnScope ["word"] ["word"] (qF q0f):=by kd_p
noncomputable abbrev q0V:Stmt:=top 77
theorem q1c:FnScope ["words"] ["words"] (qF q0V):=by kd_p
noncomputable abbrev q0g:Stmt:=top 78
theorem q2E:FnScope ["word","words"] ["word","words"] (qF q0g):=by kd_p
noncomputable abbrev q0a:Stmt:=top 79
theorem sc_with_stretches:FnScope ["told","numbers","stretch"] ["told"] (qF q0a):=by kd_p
noncomputable abbrev q7G:Stmt:=top 80
theorem sc_bars:FnScope ["row","many","gap"] ["row","many","gap"] (qF q7G):=by kd_p
noncomputable abbrev q2N:Stmt:=top 81
theorem sc_answer_of:FnScope ["held","word","numbers","least"] ["held","word","numbers"] (qF q2N):=by kd_p
noncomputable abbrev q10:Stmt:=top 82
theorem q3f:FnScope ["answer"] ["answer"] (qF q10):=by kd_p
noncomputable abbrev q31:Stmt:=top 83
theorem q6P:FnScope ["held"] ["held"] (qF q31):=by kd_p
noncomputable abbrev q1K:Stmt:=(match top 84 with|.ClassDef _ _ _ b ..=>b|_=>[]).getD 0 (.Pass ⟨0,0,0,0⟩)
theorem q5Z:FnScope ["self"] ["self"] (qF q1K):=by kd_p
noncomputable abbrev q23:Stmt:=(match top 84 with|.ClassDef _ _ _ b ..=>b|_=>[]).getD 1 (.Pass ⟨0,0,0,0⟩)
theorem sc_Desk_say:FnScope ["self","row","words","word","behind"] ["self","row"] (qF q23):=by kd_p
noncomputable abbrev q32:Stmt:=(match top 84 with|.ClassDef _ _ _ b ..=>b|_=>[]).getD 2 (.Pass ⟨0,0,0,0⟩)
theorem q6Q:FnScope ["self","row"] ["self","row"] (qF q32):=by kd_p
noncomputable abbrev q24:Stmt:=(match top 84 with|.ClassDef _ _ _ b ..=>b|_=>[]).getD 3 (.Pass ⟨0,0,0,0⟩)
theorem sc_Desk_put:FnScope ["self","changes","now"] ["self","changes"] (qF q24):=by kd_p
noncomputable abbrev q1I:Stmt:=(match top 84 with|.ClassDef _ _ _ b ..=>b|_=>[]).getD 4 (.Pass ⟨0,0,0,0⟩)
theorem q3A:FnScope ["self"] ["self"] (qF q1I):=by kd_p
noncomputable abbrev q1J:Stmt:=(match top 84 with|.ClassDef _ _ _ b ..=>b|_=>[]).getD 5 (.Pass ⟨0,0,0,0⟩)
theorem q3B:FnScope ["self"] ["self"] (qF q1J):=by kd_p
noncomputable abbrev q2J:Stmt:=top 86
theorem sc_law_flags:FnScope ["e","found"] ["e"] (qF q2J):=by kd_p
noncomputable abbrev q2x:Stmt:=top 87
theorem sc_law_said:FnScope ["desk","row","caught","spoken","e"] ["desk","row"] (qF q2x):=by kd_p
noncomputable abbrev q3h:Stmt:=top 88
theorem q7r:FnScope ["at"] ["at"] (qF q3h):=by kd_p
noncomputable abbrev q11:Stmt:=top 89
theorem sc_law_formless:FnScope ["some"] [] (qF q11):=by kd_p
noncomputable abbrev q1f:Stmt:=top 90
theorem sc_law_spoilt:FnScope ["rest","some","row","places","kind","at","figures"] ["rest"] (qF q1f):=by kd_p
noncomputable abbrev q2z:Stmt:=top 91
theorem sc_law_made:FnScope ["first","kind","desk"] ["first","kind"] (qF q2z):=by kd_p
noncomputable abbrev q0b:Stmt:=top 92
theorem q2s:FnScope ["first"] ["first"] (qF q0b):=by kd_p
noncomputable abbrev q2I:Stmt:=top 93
theorem sc_law_later:FnScope ["first","kind","many","rows","some"] ["first","kind"] (qF q2I):=by kd_p
noncomputable abbrev q2w:Stmt:=top 94
theorem sc_law_seen:FnScope ["desk","rows"] ["desk"] (qF q2w):=by kd_p
noncomputable abbrev q2y:Stmt:=top 95
theorem sc_law_most:FnScope ["row","most","here","number"] ["row"] (qF q2y):=by kd_p
noncomputable abbrev q1e:Stmt:=top 96
theorem sc_law_twenty:FnScope ["first","desk","row"] ["first"] (qF q1e):=by kd_p
noncomputable abbrev q1g:Stmt:=top 97
theorem sc_law_rounds:FnScope ["first","desk","row","sums","many","k","back"] ["first"] (qF q1g):=by kd_p
noncomputable abbrev q6S:Stmt:=top 98
theorem sc_law:FnScope ["script","first","cell","kind","rest","some","row","due","desk","other"] ["script"] (qF q6S):=by kd_p
structure Cons(mg:Str->Option Value):Prop where
 BEST:∃t,mg "BEST" = some (.int 2 t)
 FIGURES:∃t,mg "FIGURES" = some (.str "0123456789" t)
 HEAD:∃t,mg "HEAD" = some (.int 3 t)
 KNOWN:∃t,mg "KNOWN" = some (.int 0 t)
 LEFT:∃t,mg "LEFT" = some (.int 1 t)
 MANY:∃t,mg "MANY" = some (.int 0 t)
 MOST_FIGURES_desk:∃t,mg "MOST_FIGURES_desk" = some (.int 6 t)
 MOST_FIGURES_texts:∃t,mg "MOST_FIGURES_texts" = some (.int 30 t)
 MOST_PAIRS:∃t,mg "MOST_PAIRS" = some (.int 20 t)
 RIGHT:∃t,mg "RIGHT" = some (.int 2 t)
 ROUND:∃t,mg "ROUND" = some (.int 5 t)
 TAIL:∃t,mg "TAIL" = some (.int 4 t)
 TOTAL:∃t,mg "TOTAL" = some (.int 1 t)
noncomputable def psum(ns:List Int)(i:Nat):Int:=(ns.take i).sum
noncomputable def pl(ns:List Int)(i:Nat):List Int:=(List.range (i+1)).map (psum ns)
theorem q1m(h:i < ns.length):psum ns (i+1)=psum ns i+ns[i]:=by
 unfold psum;rw[List.take_succ_eq_append_getElem h,List.sum_append,List.sum_singleton]
theorem pl_succ(ns:List Int)(i:Nat):pl ns (i+1)=pl ns i++[psum ns (i+1)]:=by
 unfold pl;rw[List.range_succ,List.map_append];rfl
theorem pl_len(ns:List Int)(i:Nat):(pl ns i).length=i+1:=by unfold pl;rw[List.length_map,List.length_range]
theorem q3v{x:V}(h:(ns.map V.int)[i]?=some x):∃h':i < ns.length,x = .int ns[i]:=by
 rw[List.getElem?_map] at h
 cases e:ns[i]? with
 |none=>rw[e] at h;cases h
 | some n=>
  rw[e] at h;cases h;obtain⟨h',e'⟩:=List.getElem?_eq_some_iff.mp e;exact⟨h',by rw[e']⟩
noncomputable def SqO(k:Bool)(H:Hp)(a:Addr)(xs:List V):Prop:=match k with
 |true=>H a=some (.lst xs)
 |false=>H a=some (.tup xs)
inductive SameD (H:Hp):Nat->V->V->Prop
 |non {n:Nat}:SameD H (n+1) .non .non
 |int {n:Nat} (i:Int):SameD H (n+1) (.int i) (.int i)
 |seq {n:Nat} (k:Bool) {a b:Addr} {xs ys:List V} (ha:SqO k H a xs) (hb:SqO k H b ys) (hl:xs.length=ys.length) (hz:xs.length<=100000) (h:∀(j:Nat) x y,xs[j]?=some x->ys[j]?=some y->SameD H n x y):SameD H (n+1) (.ref a) (.ref b)
theorem q45:cutV (ns.map V.int) none (some (m:Int))=(ns.take m).map V.int:=by
 unfold cutV;rw[HT.sIx_nat,HT.sIx_none,List.length_map,List.drop_zero,Nat.sub_zero,List.map_take];rcases Nat.le_total m ns.length with h|h
 ·rw[Nat.min_eq_left h]
 ·rw[Nat.min_eq_right h,List.take_of_length_le (by rw[List.length_map];exact Nat.le_refl _),List.take_of_length_le (by rw[List.length_map];exact h)]
noncomputable def q74(K:Frag):Sp:=λvs H Q _=>∃(a:Addr) (ns:List Int),vs=[.ref a]/\SqL K H a (ns.map V.int)/\ns.length<=63/\∀H',Q (.bl true) H'
noncomputable def cutI(ns:List Int)(a b:Int):List Int:=(ns.drop a.toNat).take (b.toNat-a.toNat)
noncomputable def txt(n:Int):Str:=Str.ofString (toString n)
noncomputable def q3I:Sp:=λvs H Q _=>∃(r:Addr) (ns:List Int),vs=[.ref r]/\H r=some (.lst (ns.map V.int))/\ns.length<=1000/\(∀n,n∈ns->n.natAbs.log2 < 128)/\JoinOk " " (ns.map txt)=true/\∀H',Same H H'->Q (.str (Txt.join " " (ns.map txt))) H'
theorem ok_shown(F:Fun K "shown_row" "shown_row" q2H f fd)(Z:Blt mg):FnOk P w K mg base CX0 (k+1) f fd ["row"] q3I:=by
 refine F.ok q5W (λvs H Q E h=>?_) (λcdv A outer s H vs Q E hr h=>?_)
 ·obtain⟨r,ns,rfl,_⟩:=h
  rfl
 obtain⟨r,ns,rfl,hR,hz,hb,hj,fin⟩:=h
 w_up
 ·apply qC
  exact(qK (q5i PySem.F.plainAttrs_str PySem.F.slot_str_join PySem.F.type_str_join mt_join qE (pa_cons (q18 (N':=["number"]) (ix:=[none]) rfl rfl (by decide +kernel) rfl rfl rfl rfl (qm (K:=K) rfl (pv 0)) (λ_ _ _ _=>(qZ (i:=0) (show List.Nodup (["number"]:List Str) by decide +kernel) rfl (by k_ne))) (λ_ _ _ _=>qq) (λ_ _ _ _=>(qa qe rfl Z.str_ PyProof.Rows.boot_str (pa_cons (pv 0) qA)))) qA)))
 lk;have hl:(ns.map V.int).length=ns.length:=List.length_map _;refine⟨⟨_,SqL.of hR⟩,?_⟩;intro acc hacc;refine qp (n:=ns.length) (λi τ zs H'=>H' acc=some (.lst zs)/\zs=((ns.take i).map txt).map V.str/\Same H H'/\∃o0,τ=[o0]) ⟨q0,rfl,Same.new hacc _,none,rfl⟩ (by lia) ?_ ?_ ?_ ?_
 ·rintro i τ zs H' ⟨e,rfl,_⟩
  exact⟨e,by rw[List.length_map,List.length_map,List.length_take];lia⟩
 ·rintro i τ zs H' hi ⟨e,_,sm,_⟩
  exact⟨_,V.int ns[i],SqL.of (sm _ _ hR),by rw[List.getElem?_map,List.getElem?_eq_getElem hi];rfl⟩
 ·rintro τ zs H' ⟨e,rfl,sm,_⟩
  refine⟨⟨_,SqL.of (sm _ _ hR),by rw[hl];exact Nat.le_refl _⟩,?_⟩;rw[List.take_length] at e;exact⟨_,acc,_,rfl,rfl,SqL.of e,hj,fin H' sm⟩
 ·rintro i τ zs H' v H2 hi ⟨e,rfl,sm,o0,rfl⟩ ⟨rfl,y⟩
  have ey:=y _ (SqL.of (sm _ _ hR));obtain⟨_,rfl⟩:=q3v ey;lk;refine⟨Nat.lt_trans (hb _ (List.getElem_mem hi)) (by decide),?_⟩;refine⟨e,Nx.mk hi ⟨q0,?_,sm.upd hacc,_,rfl⟩⟩;rw[List.take_succ_eq_append_getElem hi,List.map_append,List.map_append];rfl
theorem q57(h:10<=m):Nat.toDigits 10 m=Nat.toDigits 10 (m/10)++[Nat.digitChar (m%10)]:=by
 have hm:m%10 < 10:=Nat.mod_lt m (by decide);have t:Nat.toDigits 10 (m/10)++Nat.toDigits 10 (m%10)=Nat.toDigits 10 (10*(m/10)+m%10):=Nat.toDigits_append_toDigits (by decide) (by lia) hm;rw[Nat.div_add_mod,Nat.toDigits_of_lt_base hm] at t;exact t.symm
theorem q44:∀(k m:Nat),m < 10 ^ (k+1)->(Nat.toDigits 10 m).length<=k+1
 | 0,m,h=>by
  rw[Nat.toDigits_of_lt_base (by lia)];exact Nat.le_refl _
 | k+1,m,h=>by
  by_cases h1:m < 10
  ·rw[Nat.toDigits_of_lt_base h1]
   show 1<=_
   lia
  ·rw[q57 (by lia),List.length_append]
   have:=q44 k (m/10) (by rw[Nat.pow_succ] at h;lia);show _+1<=_
   lia
theorem dg_ne(m:Nat):Nat.toDigits 10 m≠[]:=by
 by_cases h1:m < 10
 ·rw[Nat.toDigits_of_lt_base h1]
  exact List.cons_ne_nil _ _
 ·rw[q57 (by lia)]
  exact List.append_ne_nil_of_right_ne_nil _ (List.cons_ne_nil _ _)
theorem dg_head(m:Nat)(h:1<=m):∃d r,1<=d/\d < 10/\Nat.toDigits 10 m=Nat.digitChar d::r:=by
 induction m using Nat.strongRecOn with
 | _ m ih=>
  by_cases h1:m < 10
  ·exact⟨m,[],h,h1,Nat.toDigits_of_lt_base h1⟩
  ·obtain⟨d,r,a,b,e⟩:=ih (m/10) (by lia) (by lia)
   exact⟨d,r++[Nat.digitChar (m%10)],a,b,by rw[q57 (by lia),e];rfl⟩
theorem dg_all(m:Nat):∀c∈Nat.toDigits 10 m,∃d,d < 10/\c=Nat.digitChar d:=by
 induction m using Nat.strongRecOn with
 | _ m ih=>
  by_cases h1:m < 10
  ·rw[Nat.toDigits_of_lt_base h1]
   intro c hc;exact⟨m,h1,List.mem_singleton.mp hc⟩
  ·rw[q57 (by lia)]
   intro c hc;rcases List.mem_append.mp hc with g|g
   ·exact ih (m/10) (by lia) c g
   ·exact⟨m%10,Nat.mod_lt m (by decide),List.mem_singleton.mp g⟩
theorem q58:∀d:Nat,d < 10->(Nat.digitChar d).toNat=48+d:=by decide
theorem q3T(m:Nat):(txt (m:Int)).cps.toList=(Nat.toDigits 10 m).map Char.toNat:=KIN.signs_num m
theorem q4b(m:Nat):(txt (Int.negSucc m)).cps.toList=45::(Nat.toDigits 10 (m+1)).map Char.toNat:=by
 have a:=KIN.signs_num (m+1);unfold txt;rw[PyProof.Rows.signs_ofString] at a ⊢;have e:(toString (Int.negSucc m):String) = "-"++toString (((m+1:Nat):Int)):=rfl;rw[e,String.toList_append,List.map_append,a];rfl
theorem q5L{r:List Nat}(h:z.cps.toList=c::r):(decide (0+(Str.ofString "-").length<=z.length) && Builtin.Str.subAt z (Str.ofString "-") 0)=decide (c=45):=by
 cases z with
 | mk cps=>
  have hc:cps=(c::r).toArray:=by
   have h':cps.toList=c::r:=h;rw[<-h']
  subst hc;have e:Str.ofString "-" = ⟨#[45]⟩:=rfl;rw[e];show(decide (0+1<=(c::r).toArray.size) && ((c::r).toArray.extract 0 (0+1) == #[45]))=decide (c=45);simp;rfl
theorem q3i:∀r:List Nat,(List.range r.length).filterMap (λj=>r[j]?)=r
 |[]=>rfl
 | x::r=>by
  rw[List.length_cons,List.range_succ_eq_map,List.filterMap_cons_some (f:=λj=>(x::r)[j]?) (b:=x) rfl,List.filterMap_map];have e:((λj=>(x::r)[j]?) ∘ Nat.succ)=λj=>r[j]?:=by
   funext j;rfl
  rw[e,q3i r]
theorem q7l{r:List Nat}(h:z.cps.toList=c::r):(Txt.slice z (some 1) none).cps.toList=r:=by
 cases z with
 | mk cps=>
  have hc:cps=(c::r).toArray:=by
   have h':cps.toList=c::r:=h;rw[<-h']
  subst hc;have hl:(⟨(c::r).toArray⟩:Str).length=r.length+1:=rfl;have hi:Builtin.Str.strSliceIndices (some 1) none 1 (r.length+1)=(List.range r.length).map (·+1):=by
   have a:(max 0 (min (1:Int) ((r.length+1:Nat):Int)))=1:=by lia
   show sliceRange (max 0 (min (1:Int) ((r.length+1:Nat):Int))) ((r.length+1:Nat):Int) 1=_;rw[a];unfold sliceRange;have b:(if(1:Int) < ((r.length+1:Nat):Int) then(((r.length+1:Nat):Int)-1+1-1)/1 else 0)=(r.length:Int):=by
    split
    ·rw[Int.ediv_one];lia
    ·lia
   simp only[show(1:Int) > 0 by decide,if_true];rw[b,Int.toNat_natCast];exact List.map_congr_left λk _=>by lia
  unfold Txt.slice;rw[hl,hi,if_neg (by simp)];show((List.range r.length).map (·+1)).filterMap (λj=>(c::r).toArray[j]?)=r;rw[List.filterMap_map];have e:((λj=>(c::r).toArray[j]?) ∘ λx=>x+1)=λj=>r[j]?:=by
   funext j;simp
  rw[e];exact q3i r
theorem cat_inj{c:Nat}:∀{a a' b b':List Nat},c∉a->c∉a'->a++c::b=a'++c::b'->a=a'/\b=b'
 |[],[],b,b',_,_,h=>⟨rfl,(List.cons.inj h).2⟩
 |[],x::a',b,b',_,h2,h=>absurd (List.mem_cons.mpr (.inl (List.cons.inj h).1)) h2
 |x::a,[],b,b',h1,_,h=>absurd (List.mem_cons.mpr (.inl (List.cons.inj h).1.symm)) h1
 | x::a,y::a',b,b',h1,h2,h=>by
  obtain⟨e1,e2⟩:=List.cons.inj h;obtain⟨e3,e4⟩:=cat_inj (λz=>h1 (List.mem_cons_of_mem _ z)) (λz=>h2 (List.mem_cons_of_mem _ z)) e2;exact⟨by rw[e1,e3],e4⟩
theorem q0v{x y:Str}:(x++⟨#[c]⟩++y).cps.toList=x.cps.toList++c::y.cps.toList:=by
 simp only[Str.cps_append,Array.toList_append,List.append_assoc];rfl
theorem q4J{x y:Str}(h:x.cps.toList=y.cps.toList):x=y:=by
 cases x;cases y;exact congrArg Str.mk (Array.toList_inj.mp h)
theorem q7T{c:Nat}:∀{l l':List Str},l≠[]->l'≠[]->(∀p,p∈l->c∉p.cps.toList)->(∀p,p∈l'->c∉p.cps.toList)->Str.join ⟨#[c]⟩ l=Str.join ⟨#[c]⟩ l'->l=l'
 |[],_,h,_,_,_,_=>absurd rfl h
 |_::_,[],_,h,_,_,_=>absurd rfl h
 |[x],[y],_,_,_,_,h=>congrArg (λz=>[z]) h
 | [x],y::z::r,_,_,h1,_,h=>by
  have e:x=y++⟨#[c]⟩++Str.join ⟨#[c]⟩ (z::r):=h;refine absurd ?_ (h1 x List.mem_cons_self);rw[e,q0v];exact List.mem_append_right _ List.mem_cons_self
 | x::z::r,[y],_,_,_,h2,h=>by
  have e:x++⟨#[c]⟩++Str.join ⟨#[c]⟩ (z::r)=y:=h;refine absurd ?_ (h2 y List.mem_cons_self);rw[<-e,q0v];exact List.mem_append_right _ List.mem_cons_self
 | x::z::r,y::w::r',_,_,h1,h2,h=>by
  have e:x++⟨#[c]⟩++Str.join ⟨#[c]⟩ (z::r)=y++⟨#[c]⟩++Str.join ⟨#[c]⟩ (w::r'):=h;have e2:=congrArg (λq=>q.cps.toList) e;simp only[q0v] at e2;obtain⟨e3,e4⟩:=cat_inj (h1 x List.mem_cons_self) (h2 y List.mem_cons_self) e2;rw[q4J e3,q7T (List.cons_ne_nil _ _) (List.cons_ne_nil _ _) (λp hp=>h1 p (List.mem_cons_of_mem _ hp)) (λp hp=>h2 p (List.mem_cons_of_mem _ hp)) (q4J e4)]
theorem q4c(y:Str)(l:List Str):Txt.join y l=Str.join y l:=PySem.StrLaws.glued_eq_join y l
theorem split_ne(x y:Str):Txt.split x y≠[]:=by
 unfold Txt.split;split
 ·exact List.cons_ne_nil _ _
 ·split
  ·exact List.cons_ne_nil _ _
  ·rw[PySem.StrLaws.partsBetween_eq]
   obtain⟨p,r,e⟩:=PySem.StrLaws.partsFrom_ne x y.length 0 (Builtin.Str.occurrences x y 0 x.length (x.length+1));rw[e];exact List.cons_ne_nil _ _
theorem q2o(h:l≠[])(hf:∀p,p∈l->32∉p.cps.toList):Txt.split (Txt.join (Str.ofString " ") l) (Str.ofString " ")=l:=by
 have e:Str.ofString " " = ⟨#[32]⟩:=rfl;rw[e,q4c];exact q7T (split_ne _ _) h (λp hp=>PySem.StrLaws.split_free _ _ p hp) hf (PySem.StrLaws.join_split _ _)
theorem q3G(n:Int):32∉(txt n).cps.toList:=λh=>(PyProof.Rows.intText_free_32 n).mp h
theorem q7i(h:1<=ns.length):Txt.split (Txt.join (Str.ofString " ") (ns.map txt)) (Str.ofString " ")=ns.map txt:=by
 refine q2o (λz=>?_) (λp hp=>?_)
 ·rw[List.map_eq_nil_iff.mp z] at h
  exact absurd h (by decide)
 ·obtain⟨n,_,rfl⟩:=List.mem_map.mp hp
  exact q3G n
theorem q0k{n:Int}(h:n.natAbs < 10 ^ 30):(txt n).length<=31:=by
 show(txt n).cps.size<=31;rw[<-Array.length_toList]
 cases n with
 | ofNat m=>
  have e:=q3T m;have b:=q44 29 m h;rw[show(txt (Int.ofNat m)).cps.toList=_ from e,List.length_map]
  lia
 | negSucc m=>
  have b:=q44 29 (m+1) h;rw[q4b,List.length_cons,List.length_map]
  lia
theorem q64(m:Nat):PySem.NumText.AllDigits ((Nat.toDigits 10 m).map Char.toNat):=λc hc=>by
 obtain⟨ch,h1,rfl⟩:=List.mem_map.mp hc;obtain⟨d,hd,rfl⟩:=dg_all m ch h1;rw[q58 d hd]
 lia
theorem dg_some(m:Nat):(Nat.toDigits 10 m).map Char.toNat≠[]:=λz=>dg_ne m (List.map_eq_nil_iff.mp z)
theorem q4a{n:Int}(h:n.natAbs < 10 ^ 30):PySem.intText? (txt n)=some n:=by
 have hl:(txt n).length<=4300:=Nat.le_trans (q0k h) (by decide)
 cases n with
 | ofNat m=>
  have e:(txt (Int.ofNat m)).cps.toList=_:=q3T m;have r:=PySem.intText_digits (x:=txt (Int.ofNat m)) (by rw[e];exact q64 m) (by rw[e];exact dg_some m) hl;rw[e,KIN.val_back] at r;exact r
 | negSucc m=>
  have r:=PySem.intText_neg (q4b m) (q64 (m+1)) (dg_some (m+1)) hl;rw[KIN.val_back] at r;exact r
theorem q4z:∀{l:List Str},(∀p,p∈l->p.length<=31)->(l.map (·.length)).sum<=31*l.length
 |[],_=>Nat.le_refl _
 | x::l,h=>by
  have a:=h x List.mem_cons_self;have b:=q4z (l:=l) λp hp=>h p (List.mem_cons_of_mem _ hp);rw[List.map_cons,List.sum_cons,List.length_cons]
  lia
theorem join_fits(h:ns.length<=2000)(hb:∀n,n∈ns->n.natAbs < 10 ^ 30):JoinOk (Str.ofString " ") (ns.map txt)=true:=by
 have hs:=q4z (l:=ns.map txt) λp hp=>by
  obtain⟨n,hn,rfl⟩:=List.mem_map.mp hp;exact q0k (hb n hn)
 rw[List.length_map] at hs;unfold JoinOk;have e:=PySem.StrLaws.joinTotal (Str.ofString " ") (ns.map txt);rw[List.length_map] at e;have e1:(Str.ofString " ").length=1:=rfl;rw[e1] at e;rw[e1,e];unfold Builtin.Str.tooLong;rw[PySem.sizeLine_eq,Bool.not_eq_true'];exact decide_eq_false (by lia)
theorem q2Q{n:Int}(h:n.natAbs < 10 ^ 30):n.natAbs.log2 < 128:=by
 by_cases h0:n.natAbs=0
 ·rw[h0]
  decide
 ·exact(Nat.log2_lt h0).mpr (Nat.lt_trans h (by decide))
noncomputable def dgB(c:Nat):Bool:=decide (c∈(Str.ofString "0123456789").cps.toList)
theorem dgB_iff(c:Nat):dgB c=true↔48<=c/\c<=57:=by
 have e:(Str.ofString "0123456789").cps.toList=[48,49,50,51,52,53,54,55,56,57]:=by decide +kernel
 unfold dgB;rw[e,decide_eq_true_iff];simp only[List.mem_cons,List.not_mem_nil,or_false]
 lia
noncomputable def figN(n:Nat)(cs:List Nat):Bool:=decide (1<=cs.length) && (decide (cs.length<=n) && (!(decide (cs.head?=some 48) && !decide (cs=[48])) && cs.all dgB))
noncomputable abbrev figB(cs:List Nat):Bool:=figN 30 cs
noncomputable def numB(cs:List Nat):Bool:=if cs.head?=some 45 then !decide (cs.tail=[48]) && figB cs.tail else figB cs
noncomputable def valN(cs:List Nat):Int:=if cs.head?=some 45 then -((PySem.NumText.digitsVal cs.tail:Nat):Int) else((PySem.NumText.digitsVal cs:Nat):Int)
theorem q1M(h:figN n cs=true):PySem.NumText.AllDigits cs/\cs≠[]/\cs.length<=n:=by
 unfold figN at h;simp only[Bool.and_eq_true,decide_eq_true_eq] at h;refine⟨λc hc=>(dgB_iff c).mp (List.all_eq_true.mp h.2.2.2 c hc),λz=>?_,h.2.1⟩;rw[z] at h;exact absurd h.1 (by decide)
theorem numB_read(h:numB z.cps.toList=true):PySem.intText? z=some (valN z.cps.toList)/\z.length<=640:=by
 have hl:z.length=z.cps.toList.length:=(Array.length_toList).symm;unfold numB at h;unfold valN;by_cases h1:z.cps.toList.head?=some 45
 ·rw[if_pos h1] at h ⊢
  rw[Bool.and_eq_true] at h;obtain⟨d1,d2,d3⟩:=q1M h.2
  obtain⟨r,e⟩:∃r,z.cps.toList=45::r:=by
   cases e:z.cps.toList with
   |nil=>rw[e] at h1;cases h1
   |cons a r=>rw[e] at h1;exact⟨r,by rw[Option.some.inj h1]⟩
  rw[e] at d1 d2 d3 ⊢;have hl2:z.length<=31:=by
   rw[hl,e,List.length_cons];exact Nat.succ_le_succ d3
  exact⟨PySem.intText_neg e d1 d2 (by lia),by lia⟩
 ·rw[if_neg h1] at h ⊢
  obtain⟨d1,d2,d3⟩:=q1M h;exact⟨PySem.intText_digits d1 d2 (by lia),by lia⟩
theorem figN_read(hn:n<=30)(h:figN n z.cps.toList=true):PySem.intText? z=some ((PySem.NumText.digitsVal z.cps.toList:Nat):Int)/\z.length<=640:=by
 have hl:z.length=z.cps.toList.length:=(Array.length_toList).symm;obtain⟨d1,d2,d3⟩:=q1M h;exact⟨PySem.intText_digits d1 d2 (by lia),by lia⟩
theorem q3V(z:Str):(decide (0+(Str.ofString "-").length<=z.length) && Builtin.Str.subAt z (Str.ofString "-") 0)=decide (z.cps.toList.head?=some 45):=by
 cases e:z.cps.toList with
 | nil=>
  have hl:z.length=0:=by
   show z.cps.size=0;rw[<-Array.length_toList,e];rfl
  rw[hl];rfl
 | cons c r=>
  rw[q5L e];show decide (c=45)=decide (some c=some 45);by_cases h:c=45
  ·rw[h]
   rfl
  ·rw[decide_eq_false h,decide_eq_false λz=>h (Option.some.inj z)]
theorem tail_list(z:Str):(Txt.slice z (some 1) none).cps.toList=z.cps.toList.tail:=by
 cases e:z.cps.toList with
 | nil=>
  have h:=Txt.slice_le z (some 1) none;have hl:z.length=0:=by
   show z.cps.size=0;rw[<-Array.length_toList,e];rfl
  have h2:(Txt.slice z (some 1) none).cps.toList.length=0:=by
   rw[Array.length_toList];rw[hl] at h;exact Nat.le_zero.mp h
  exact List.eq_nil_of_length_eq_zero h2
 |cons c r=>exact q7l e
theorem q5M(x:Str):(Txt.split x (Str.ofString " ")).length<=x.length+2:=by
 unfold Txt.split;split
 ·show 1<=_
  lia
 ·split
  ·show 1<=_
   lia
  ·have e:(Builtin.Str.partsBetween x (Builtin.Str.occurrences x (Str.ofString " ") 0 x.length (x.length+1)) (Str.ofString " ").length).length=(Builtin.Str.occurrences x (Str.ofString " ") 0 x.length (x.length+1)).length+1:=by simp[Builtin.Str.partsBetween]
   rw[e];have:=PySem.StrLaws.occ_length_le x (Str.ofString " ") 0 x.length (x.length+1)
   lia
theorem if_b{b c:Bool}{A B:Prop}(e:b=c)(h:if c=true then A else B):if b=true then A else B:=e▸h
noncomputable def q3K:Sp:=λvs H Q _=>∃(z:Str) (n:Nat),vs=[.str z,.int (n:Int)]/\n<=30/\z.length<=90000/\∀H',Same H H'->Q (.bl (figN n z.cps.toList)) H'
theorem q8E(h:¬1<=cs.length):figN n cs=false:=by
 unfold figN;rw[decide_eq_false h];rfl
theorem q62(h:¬cs.length<=n):figN n cs=false:=by
 unfold figN;rw[decide_eq_false h,Bool.false_and,Bool.and_false]
theorem figN_zero(h:cs.head?=some 48)(h2:cs≠[48]):figN n cs=false:=by
 unfold figN;rw[decide_eq_true h,decide_eq_false h2];simp
theorem q41(h1:1<=cs.length)(h2:cs.length<=n)(h:¬(cs.head?=some 48/\cs≠[48])):figN n cs=cs.all dgB:=by
 unfold figN;rw[decide_eq_true h1,decide_eq_true h2];by_cases a:cs.head?=some 48
 ·have b:cs=[48]:=Classical.byContradiction λz=>h ⟨a,z⟩
  rw[decide_eq_true a,decide_eq_true b];simp
 ·rw[decide_eq_false a]
  simp
theorem str_zero:z=Str.ofString "0"↔z.cps.toList=[48]:=by
 have e:Str.ofString "0" = ⟨#[48]⟩:=rfl;constructor
 ·rintro rfl
  rfl
 ·intro h
  rw[e];exact q4J h
open Classical in
theorem ok_figsN(F:Fun K "are_figures" "are_figures" q1H f fd)(Z:Blt mg)(CC:Cons mg):FnOk P w K mg base CX0 (k+1) f fd ["word","most"] q3K:=by
 refine F.ok q4C (λvs H Q E h=>?_) (λcdv A outer s H vs Q E hr h=>?_)
 ·obtain⟨z,n,rfl,_⟩:=h
  rfl
 obtain⟨z,n,rfl,hn,hz,fin⟩:=h
 w_up
 ·apply qB
  ·apply qY
   exact(qw (q2e q3p q3p qD (qP q06 rfl Z.len_ PySem.boot_len (pa_cons (pv 0) qA)) (pv 1)))
   ·apply qC
    exact(qK q3n)
   exact qO
  apply qB
  ·apply qY
   exact(PW.pt (q5e (qL q0X (qM q5t (pv 0) qD (λ_ _=>rfl)) qE (qU _)) (q3j (qL q3o (pv 0) qE (qU _)))))
   ·apply qC
    exact(qK q3n)
   exact qO
  apply qC;exact(qK (qP (q5B rfl) rfl Z.all_ PyProof.Rows.boot_all (pa_cons (q18 (N':=["sign"]) (ix:=[none]) rfl rfl (by decide +kernel) rfl rfl rfl rfl (pi_str (pv 0)) (λ_ _ _ _=>(qZ (i:=0) (show List.Nodup (["sign"]:List Str) by decide +kernel) rfl (by k_ne))) (λ_ _ _ _=>qq) (λ_ _ _ _=>(q33 q34 (pv 0) (pe_conS (z:="0123456789") rfl CC.FIGURES) rfl))) qA)))
 have hs:z.length=z.cps.toList.length:=(Array.length_toList).symm;lk;refine⟨Nat.le_of_lt (small (by lia)),?_⟩;lk;refine ifD (λh1=>?_) (λh1=>?_)
 case refine_2=>
  lk;rw[q8E (by lia)] at fin;exact fin _ (Same.refl _)
 lk;by_cases h30:z.length<=n
 case neg=>
  rw[decide_eq_false (show¬(z.length:Int)<=(n:Int) by lia)];lk;rw[q62 (by lia)] at fin;exact fin _ (Same.refl _)
 rw[decide_eq_true (show(z.length:Int)<=(n:Int) by lia)];lk
 obtain⟨c,hc0,hc⟩:∃c,atI z.cps.toList 0=some c/\z.cps.toList.head?=some c:=by
  cases e:z.cps.toList with
  |nil=>rw[hs,e] at h1;exact absurd h1 (by decide)
  |cons a b=>exact⟨a,qi (j:=0) rfl,rfl⟩
 refine⟨z,0,c,rfl,rfl,Nat.le_of_lt (small (by lia)),hc0,?_⟩;lk;have e48:V.str ⟨#[c]⟩=V.str (Str.ofString "0")↔c=48:=by
  constructor
  ·intro q
   have q2:=congrArg (λs=>s.cps.toList) (V.str.inj q);exact(List.cons.inj q2).1
  ·rintro rfl
   rfl
 refine ifD (λhe=>?_) (λhe=>?_)
 ·have h48:=e48.mp he
  lk;refine ifN (λh0=>?_) (λh0=>?_)
  ·lk
   rw[figN_zero (by rw[hc,h48]) (λq=>h0 (congrArg V.str (str_zero.mpr q)))] at fin;exact fin _ (Same.refl _)
  ·lk
   intro acc hacc;rw[q41 (by lia) (by lia) (λq=>q.2 (str_zero.mp (V.str.inj h0)))] at fin;refine qp (n:=z.cps.size) (λi τ zs H'=>H' acc=some (.lst zs)/\zs=((z.cps.toList.take i).map dgB).map V.bl/\Same H H'/\∃o0,τ=[o0]) ⟨q0,rfl,Same.new hacc _,none,rfl⟩ (by show z.length<=_;lia) ?_ ?_ ?_ ?_
   ·rintro i τ zs H' ⟨e,rfl,_⟩
    exact⟨e,by rw[List.length_map,List.length_map,List.length_take];lia⟩
   ·rintro i τ zs H' hi _
    exact hi
   ·rintro τ zs H' ⟨e,rfl,sm,_⟩
    refine⟨Nat.le_refl _,?_⟩;refine⟨acc,(z.cps.toList.take z.cps.size).map dgB,rfl,SqL.of e,?_⟩;have ea:((z.cps.toList.take z.cps.size).map dgB).all id=z.cps.toList.all dgB:=by
     rw[List.take_of_length_le (by rw[Array.length_toList];exact Nat.le_refl _),List.all_map];rfl
    rw[ea];exact fin _ sm
   ·rintro i τ zs H' v H2 hi ⟨e,rfl,sm,o0,rfl⟩ ⟨rfl,c',hc',rfl⟩
    lk;refine⟨e,Nx.mk hi ⟨q0,?_,sm.upd hacc,_,rfl⟩⟩;rw[<-Array.getElem?_toList] at hc';have hi2:i < z.cps.toList.length:=by rw[Array.length_toList];exact hi
    rw[List.getElem?_eq_getElem hi2] at hc';rw[PySem.StrLaws.found_one,List.take_succ_eq_append_getElem hi2,Option.some.inj hc',List.map_append,List.map_append];rfl
 ·lk
  intro acc hacc;rw[q41 (by lia) (by lia) (λq=>he (e48.mpr (Option.some.inj (hc.symm.trans q.1))))] at fin;refine qp (n:=z.cps.size) (λi τ zs H'=>H' acc=some (.lst zs)/\zs=((z.cps.toList.take i).map dgB).map V.bl/\Same H H'/\∃o0,τ=[o0]) ⟨q0,rfl,Same.new hacc _,none,rfl⟩ (by show z.length<=_;lia) ?_ ?_ ?_ ?_
  ·rintro i τ zs H' ⟨e,rfl,_⟩
   exact⟨e,by rw[List.length_map,List.length_map,List.length_take];lia⟩
  ·rintro i τ zs H' hi _
   exact hi
  ·rintro τ zs H' ⟨e,rfl,sm,_⟩
   refine⟨Nat.le_refl _,?_⟩;refine⟨acc,(z.cps.toList.take z.cps.size).map dgB,rfl,SqL.of e,?_⟩;have ea:((z.cps.toList.take z.cps.size).map dgB).all id=z.cps.toList.all dgB:=by
    rw[List.take_of_length_le (by rw[Array.length_toList];exact Nat.le_refl _),List.all_map];rfl
   rw[ea];exact fin _ sm
  ·rintro i τ zs H' v H2 hi ⟨e,rfl,sm,o0,rfl⟩ ⟨rfl,c',hc',rfl⟩
   lk;refine⟨e,Nx.mk hi ⟨q0,?_,sm.upd hacc,_,rfl⟩⟩;rw[<-Array.getElem?_toList] at hc';have hi2:i < z.cps.toList.length:=by rw[Array.length_toList];exact hi
   rw[List.getElem?_eq_getElem hi2] at hc';rw[PySem.StrLaws.found_one,List.take_succ_eq_append_getElem hi2,Option.some.inj hc',List.map_append,List.map_append];rfl
noncomputable def q2W:Sp:=λvs H Q _=>∃z:Str,vs=[.str z]/\z.length<=90000/\∀H',Same H H'->Q (.bl (numB z.cps.toList)) H'
theorem str_mz(h:z.cps.toList.head?=some 45):decide (V.str z=V.str (Str.ofString "-0"))=decide (z.cps.toList.tail=[48]):=by
 have e:Str.ofString "-0" = ⟨#[45,48]⟩:=rfl
 obtain⟨r,er⟩:∃r,z.cps.toList=45::r:=by
  cases e:z.cps.toList with
  |nil=>rw[e] at h;cases h
  |cons a r=>rw[e] at h;exact⟨r,by rw[Option.some.inj h]⟩
 rw[er,List.tail_cons]
 by_cases hr:r=[48]
 ·rw[decide_eq_true hr,decide_eq_true]
  rw[e];exact congrArg V.str (q4J (by rw[er,hr]))
 ·rw[decide_eq_false hr,decide_eq_false]
  intro q;have q2:=congrArg (λs=>s.cps.toList) (V.str.inj q);rw[e] at q2;have q3:z.cps.toList=[45,48]:=q2;rw[er] at q3;exact hr (List.cons.inj q3).2
theorem ok_isnumG(F:Fun K "is_number" "is_number" q2K f fd)(Z:Blt mg)(CC:Cons mg)
  (yQ:Def P w K mg base k "are_figures" ["word","most"] q3K):FnOk P w K mg base CX0 (k+1) f fd ["word"] q2W:=by
 refine F.ok q5X (λvs H Q E h=>?_) (λcdv A outer s H vs Q E hr h=>?_)
 ·obtain⟨z,rfl,_⟩:=h
  rfl
 obtain⟨z,rfl,hz,fin⟩:=h
 w_up
 ·apply qB
  ·apply qY
   exact(q0c (q5i PySem.F.plainAttrs_str PySem.F.slot_str_startswith PySem.F.type_str_startswith mt_starts (pv 0) (pa_cons qE qA)))
   ·apply qC
    exact(qK (pe_and (q33 q3o (pv 0) qE (qU _)) (pe_one (qI yQ hr rfl (pa_cons (qr q38 (pv 0) (q04 qD) q05) (pa_cons (qS (n:=30) rfl CC.MOST_FIGURES_texts) qA))))))
   exact qO
  apply qC;exact(qK (qI yQ hr rfl (pa_cons (pv 0) (pa_cons (qS (n:=30) rfl CC.MOST_FIGURES_texts) qA))))
 lk;unfold numB at fin;by_cases h45:z.cps.toList.head?=some 45
 ·refine if_b (q3V z) ?_
  rw[decide_eq_true h45];refine iteT ?_;rw[if_pos h45] at fin;lk;rw[str_mz h45]
  by_cases h0:z.cps.toList.tail=[48]
  ·rw[decide_eq_true h0] at fin ⊢
   refine iteF ?_;exact fin _ (Same.refl _)
  ·rw[decide_eq_false h0] at fin ⊢
   refine iteT ?_;lk;refine⟨Nat.le_of_lt (small (by lia)),?_⟩;refine⟨_,30,rfl,by decide,Nat.le_trans (Txt.slice_le z _ _) hz,λH' s'=>?_⟩;rw[tail_list];exact fin H' s'
 ·refine if_b (q3V z) ?_
  rw[decide_eq_false h45];refine iteF ?_;rw[if_neg h45] at fin;lk;exact⟨z,30,rfl,by decide,hz,fin⟩
noncomputable def q78:Sp:=λvs H Q _=>∃(z:Str) (m q:Nat),vs=[.str z,.int ((q+1:Nat):Int)]/\q<=29/\z.cps.toList=(Nat.toDigits 10 m).map Char.toNat/\m < 10 ^ (q+1)/\∀H',Same H H'->Q (.bl true) H'
noncomputable def q4i:Sp:=λvs H Q _=>∃n:Int,vs=[.str (txt n)]/\n.natAbs < 10 ^ 30/\∀H',Same H H'->Q (.bl true) H'
theorem q6p{q:Nat}(h:m < 10 ^ (q+1)):figN (q+1) ((Nat.toDigits 10 m).map Char.toNat)=true:=by
 have h1:1<=((Nat.toDigits 10 m).map Char.toNat).length:=by
  rw[List.length_map]
  cases e:Nat.toDigits 10 m with
  |nil=>exact absurd e (dg_ne m)
  |cons a b=>rw[List.length_cons];lia
 have h2:((Nat.toDigits 10 m).map Char.toNat).length<=q+1:=by rw[List.length_map];exact q44 q m h
 rw[q41 h1 h2 ?_]
 ·refine List.all_eq_true.mpr λc hc=>?_
  obtain⟨d,hd,rfl⟩:=List.mem_map.mp hc;obtain⟨k,hk,rfl⟩:=dg_all m d hd;rw[q58 k hk];exact(dgB_iff _).mpr (by lia)
 ·rintro⟨h3,h4⟩
  by_cases h0:m=0
  ·exact h4 (by rw[h0];rfl)
  ·obtain⟨d,r,d1,d2,e⟩:=dg_head m (by lia)
   rw[e,List.map_cons,q58 d d2] at h3;have:=Option.some.inj h3
   lia
theorem numB_txt{n:Int}(h:n.natAbs < 10 ^ 30):numB (txt n).cps.toList=true:=by
 cases n with
 | ofNat m=>
  have e:=q3T m;have f:=q6p (m:=m) (q:=29) h;rw[show txt (Int.ofNat m)=txt (m:Int) from rfl,e];unfold numB;rw[if_neg ?_]
  ·exact f
  ·intro z
   have h2:=(q1M f).1
   cases e2:(Nat.toDigits 10 m).map Char.toNat with
   |nil=>rw[e2] at z;cases z
   | cons a b=>
    rw[e2] at z h2;have:=h2 a List.mem_cons_self;have:=Option.some.inj z
    lia
 | negSucc m=>
  rw[q4b m];unfold numB;rw[if_pos (show(45::(Nat.toDigits 10 (m+1)).map Char.toNat).head?=some 45 from rfl),List.tail_cons];have f:=q6p (m:=m+1) (q:=29) h;rw[Bool.and_eq_true];refine⟨?_,f⟩;rw[decide_eq_false]
  ·rfl
  ·intro z
   obtain⟨d,r,d1,d2,e⟩:=dg_head (m+1) (by lia);rw[e,List.map_cons,q58 d d2] at z;have:=(List.cons.inj z).1
   lia
theorem figsQ_of:∀vs H Q E,q78 vs H Q E->q3K vs H Q E:=λvs H Q E ⟨z,m,q,e,hq,hz,hm,fin⟩=>⟨z,q+1,e,by lia,by
  have:=congrArg List.length hz;rw[List.length_map,Array.length_toList] at this;have h2:=q44 q m hm;show z.cps.size<=_
  lia,λH' s=>by rw[hz,q6p hm];exact fin H' s⟩
theorem q7U:∀vs H Q E,q4i vs H Q E->q2W vs H Q E:=λvs H Q E ⟨n,e,hn,fin⟩=>⟨txt n,e,Nat.le_trans (q0k hn) (by decide),λH' s=>by rw[numB_txt hn];exact fin H' s⟩
noncomputable def q0Z(z:Str):List Str:=Txt.split z (Str.ofString " ")
noncomputable def isB(p:Str):Bool:=numB p.cps.toList
noncomputable def valB(p:Str):Int:=valN p.cps.toList
noncomputable def q6y(C:Addr):Sp:=λvs H Q E=>∃z:Str,vs=[.str z]/\z.length<=80000/\(q0Z z).all isB=false/\∀H',Same H H'->E (.ref C) none H'
theorem ok_readN(F:Fun K "read_row" "read_row" q21 f fd)(Z:Blt mg)
  (yL:Def P w K mg base k "is_number" ["word"] q2W)(O:PyProof.Rows.OwnCls "NoText" C bmV "ValueError.__new__" mg base):FnOk P w K mg base (CXC P w) (k+1) f fd ["text"] (q6y C):=by
 refine F.okC sc_read_row (λvs H Q E h=>?_) (λcdv A outer s H vs Q E hr h=>?_)
 ·obtain⟨z,rfl,_⟩:=h
  rfl
 obtain⟨z,rfl,hz,hall,fin⟩:=h
 refine⟨_,qB (ps_set (i:=1) sc_read_row.nd rfl (by k_ne) (q5i PySem.F.plainAttrs_str PySem.F.slot_str_split PySem.F.type_str_split q3P (pv 0) (pa_cons qE qA)))
  (qB (qY (qw (q0c (qP (q5B rfl) rfl Z.all_ PyProof.Rows.boot_all (pa_cons (q18 (N':=["word"]) (ix:=[none]) rfl rfl (by decide +kernel) rfl rfl rfl rfl (pi_list (pv 1)) (λ_ _ _ _=>(qZ (i:=0) (show List.Nodup (["word"]:List Str) by decide +kernel) rfl (by k_ne))) (λ_ _ _ _=>qq) (λ_ _ _ _=>(qI yL hr rfl (pa_cons (pv 0) qA)))) qA))))
  (qC (q07 thrC rfl O PySem.F.excBase_ValueError rfl (pa_cons qE qA))) qO) q03),?_⟩
 lk;have hsl:=q5M z;refine⟨Nat.le_of_lt (small (by lia)),Nat.le_of_lt (small (by lia)),?_⟩;intro l hl
 obtain⟨ws,ew⟩:∃ws,ws=Txt.split z (Str.ofString " "):=⟨_,rfl⟩
 have hws:∀p,p∈ws->p.length<=z.length:=λp hp=>PyProof.Rows.part_short (by rw[ew] at hp;exact hp);have ew2:q0Z z=ws:=ew.symm;rw[ew2] at hall;rw[<-ew] at hsl ⊢;lk;have hlen:(ws.map V.str).length=ws.length:=List.length_map _;have S1:Same H (upd H l (.lst (ws.map V.str))):=Same.new hl _;refine⟨⟨_,SqL.of q0⟩,?_⟩;intro acc hacc;refine qp (n:=ws.length) (λi τ zs H'=>H' acc=some (.lst zs)/\zs=((ws.take i).map isB).map V.bl/\Same (upd H l (.lst (ws.map V.str))) H'/\∃o0,τ=[o0]) ⟨q0,rfl,Same.new hacc _,none,rfl⟩ (by lia) ?_ ?_ ?_ ?_
 ·rintro i τ zs H' ⟨e,rfl,_⟩
  exact⟨e,by rw[List.length_map,List.length_map,List.length_take];lia⟩
 ·rintro i τ zs H' hi ⟨e,_,sm,_⟩
  exact⟨_,V.str ws[i],SqL.of (sm _ _ q0),by rw[List.getElem?_map,List.getElem?_eq_getElem hi];rfl⟩
 ·rintro τ zs H' ⟨e,rfl,sm,_⟩
  refine⟨⟨_,SqL.of (sm _ _ q0),by rw[hlen];exact Nat.le_refl _⟩,?_⟩;rw[List.take_length] at e;refine⟨acc,ws.map isB,rfl,SqL.of e,?_⟩;have ea:(ws.map isB).all id=ws.all isB:=by
   rw[List.all_map];rfl
  rw[ea,hall];lk;exact⟨by decide,fin _ (S1.trans sm)⟩
 ·rintro i τ zs H' v H2 hi ⟨e,rfl,sm,o0,rfl⟩ ⟨rfl,y⟩
  have ey:=y _ (SqL.of (sm _ _ q0));rw[List.getElem?_map,List.getElem?_eq_getElem hi] at ey;obtain rfl:V.str ws[i]=v:=Option.some.inj ey;lk;refine⟨Nat.le_trans (hws _ (List.getElem_mem hi)) (by lia),λH3 s3=>?_⟩;refine⟨s3 _ _ e,Nx.mk hi ⟨q0,?_,(sm.trans s3).upd hacc,_,rfl⟩⟩;rw[List.take_succ_eq_append_getElem hi,List.map_append,List.map_append];rfl
noncomputable def q5P(C:Addr):Sp:=λvs H Q E=>∃z:Str,vs=[.str z]/\z.length<=80000/\(q0Z z).all isB=false/\∀H',Same H H'->E (.ref C) none H'
theorem ok_rtextN{C5 C6:Addr}(F:Fun K "read_text" "read_text" q1D f fd)(h5:mg "NoText" = some (.ref C5))(hx:exmOne K (.ref C5) (.ref C5)=some true)
  (O:PyProof.Rows.OwnCls "NoShape" C6 bmV "ValueError.__new__" mg base)(yw:DefX (CXC P w) P w K mg base k "read_row" ["text"] (q6y C5)):FnOk P w K mg base (CXE P w) (k+1) f fd ["text"] (q5P C6):=by
 refine F.okE q39 (λvs H Q E h=>?_) (λcdv A outer s H vs Q E hr h=>?_)
 ·obtain⟨z,rfl,_⟩:=h
  rfl
 obtain⟨z,rfl,hz,hall,fin⟩:=h;refine⟨_,qC (ps_tryR rfl rfl h5 rfl O PySem.F.excBase_ValueError (λpins xe E' hp=>qC (qK (pe_defX yw hr rfl hp (pa_cons (pv 0) qA))))),?_⟩;unfold tTryR;lk;exact⟨hz,hall,λH' s'=>⟨hx,fin H' s'⟩⟩
noncomputable def dval(z:Str):Int:=((PySem.NumText.digitsVal z.cps.toList:Nat):Int)
noncomputable def q4f(C:Addr):Sp:=λvs H Q E=>∃z:Str,vs=[.str z]/\z.length<=90000/\(figN 6 z.cps.toList=true->∀H',Same H H'->Q (.int (dval z)) H')/\(figN 6 z.cps.toList=false->∀H',Same H H'->E (.ref C) none H')
theorem ok_rfigE(F:Fun K "read_figures" "read_figures" q0U f fd)(Z:Blt mg)(CC:Cons mg)(O:PyProof.Rows.OwnCls "NoShape" C bmV "ValueError.__new__" mg base)
  (y0W:DefE P w K mg base k "are_figures" ["word","most"] q3K):FnOk P w K mg base (CXE P w) (k+1) f fd ["word"] (q4f C):=by
 refine F.okE q1b (λvs H Q E h=>?_) (λcdv A outer s H vs Q E hr h=>?_)
 ·obtain⟨z,rfl,_⟩:=h
  rfl
 obtain⟨z,rfl,hz,fin,bad⟩:=h
 w_up
 ·apply qB
  ·apply qY
   exact(qw (q0c (qd y0W hr rfl qz (pa_cons (pv 0) (pa_cons (qS (n:=6) rfl CC.MOST_FIGURES_desk) qA)))))
   ·apply qC
    exact(q07 thrE rfl O PySem.F.excBase_ValueError rfl (pa_cons qE qA))
   exact qO
  apply qC;exact(qK (qa q0O rfl Z.int_ PyProof.Rows.boot_int (pa_cons (pv 0) qA)))
 lk;refine⟨z,6,rfl,by decide,hz,λH1 s1=>?_⟩
 cases hb:figN 6 z.cps.toList with
 | false=>
  lk;exact⟨by decide,bad hb H1 s1⟩
 | true=>
  obtain⟨r1,r2⟩:=figN_read (by decide) hb;lk;exact⟨_,_,rfl,r1,r2,fin hb H1 s1⟩
noncomputable def q6x(C:Addr):Sp:=λvs H Q E=>∃z:Str,vs=[.str z]/\z.length<=90000/\(numB z.cps.toList=true->∀H',Same H H'->Q (.int (valB z)) H')/\(numB z.cps.toList=false->∀H',Same H H'->E (.ref C) none H')
theorem ok_rnumE(F:Fun K "read_number" "read_number" q0f f fd)(Z:Blt mg)(O:PyProof.Rows.OwnCls "NoShape" C bmV "ValueError.__new__" mg base)
  (y0X:DefE P w K mg base k "is_number" ["word"] q2W):FnOk P w K mg base (CXE P w) (k+1) f fd ["word"] (q6x C):=by
 refine F.okE q2D (λvs H Q E h=>?_) (λcdv A outer s H vs Q E hr h=>?_)
 ·obtain⟨z,rfl,_⟩:=h
  rfl
 obtain⟨z,rfl,hz,fin,bad⟩:=h
 w_up
 ·apply qB
  ·apply qY
   exact(qw (q0c (qd y0X hr rfl qz (pa_cons (pv 0) qA))))
   ·apply qC
    exact(q07 thrE rfl O PySem.F.excBase_ValueError rfl (pa_cons qE qA))
   exact qO
  apply qC;exact(qK (qa q0O rfl Z.int_ PyProof.Rows.boot_int (pa_cons (pv 0) qA)))
 lk;refine⟨hz,λH1 s1=>?_⟩
 cases hb:numB z.cps.toList with
 | false=>
  lk;exact⟨by decide,bad hb H1 s1⟩
 | true=>
  obtain⟨r1,r2⟩:=numB_read hb;lk;exact⟨_,_,rfl,r1,r2,fin hb H1 s1⟩
noncomputable def badC1(ws:List Str)(j:Nat):Prop:=∃a b,ws[2*j]?=some a/\ws[2*j+1]?=some b/\(figN 6 a.cps.toList=false\/numB b.cps.toList=false)
noncomputable def BadChg(ws:List Str):Prop:=¬(2<=ws.length/\ws.length<=40)\/ws.length%2=1\/∃j,badC1 ws j
noncomputable def q6z(C:Addr):Sp:=λvs H Q E=>∃(l:Addr) (ws:List Str),vs=[.ref l]/\H l=some (.lst (ws.map V.str))/\ws.length<=90000/\(∀p,p∈ws->p.length<=80000)/\BadChg ws/\∀H',Same H H'->E (.ref C) none H'
theorem ok_rchgN(F:Fun K "read_changes" "read_changes" q0V f fd)(Z:Blt mg)(CC:Cons mg)(O:PyProof.Rows.OwnCls "NoShape" C bmV "ValueError.__new__" mg base)
  (yx:DefE P w K mg base k "read_figures" ["word"] (q4f C))(y0Y:DefE P w K mg base k "read_number" ["word"] (q6x C)):FnOk P w K mg base (CXE P w) (k+1) f fd ["words"] (q6z C):=by
 refine F.okE q1c (λvs H Q E h=>?_) (λcdv A outer s H vs Q E hr h=>?_)
 ·obtain⟨l,ws,rfl,_⟩:=h
  rfl
 obtain⟨l,ws,rfl,hl,hn,hb,bad,fin⟩:=h;have hw:(ws.map V.str).length=ws.length:=List.length_map _
 w_up
 ·apply qB
  ·apply qY
   exact(PW.pt (q2B (qw (q2e q3p q3p qD (qP (qQ (K:=K) rfl) rfl Z.len_ PySem.boot_len (pa_cons (pv 0) qA)) (qT op_mul qD (qS (n:=20) rfl CC.MOST_PAIRS)))) (q0u (qL q3o (qT q0n (qP (qQ (K:=K) rfl) rfl Z.len_ PySem.boot_len (pa_cons (pv 0) qA)) qD) qD (qU _)))))
   ·apply qC
    exact(q07 thrE rfl O PySem.F.excBase_ValueError rfl (pa_cons qE qA))
   exact qO
  apply qC;exact(qK (pe_lcE rfl (N':=["turn","words"]) (ix:=[none,some 0]) rfl rfl (by decide +kernel) rfl rfl rfl rfl (q5g rfl Z.range_ (pa_cons qD (pa_cons (qP (qQ (K:=K) rfl) rfl Z.len_ PySem.boot_len (pa_cons (pv 0) qA)) (pa_cons qD qA)))) (λ_ _ _ _=>(qZ (i:=0) (show List.Nodup (["turn","words"]:List Str) by decide +kernel) rfl (by k_ne))) (λ_ _ _ _=>qq) (λ_ _ _ _=>(qf (pa_cons (qd yx hr rfl passB (pa_cons (qM (qR (K:=K) rfl) (pv 1) (pv 0) (λ_ _=>rfl)) qA)) (pa_cons (qd y0Y hr rfl passB (pa_cons (qM (qR (K:=K) rfl) (pv 1) (qT qo (pv 0) qD) (λ_ _=>rfl)) qA)) qA))))))
 lk;refine⟨l,_,rfl,.inl (SqL.of hl),?_⟩;rw[hw];lk
 by_cases h1:(2:Int)<=(ws.length:Int)
 case neg=>
  rw[decide_eq_false h1];lk;exact⟨by decide,fin _ (Same.refl _)⟩
 rw[decide_eq_true h1];lk;by_cases h2:(ws.length:Int)<=2*20
 case neg=>
  rw[decide_eq_false h2];lk;exact⟨by decide,fin _ (Same.refl _)⟩
 rw[decide_eq_true h2];lk;refine⟨l,_,rfl,.inl (SqL.of hl),?_⟩;rw[hw];lk;by_cases h3:ws.length%2=1
 ·refine if_b (c:=true) (show(!decide (V.int ((ws.length:Int)%2)=V.int 0))=true by rw[show((ws.length:Int)%2)=1 by lia];rfl) ?_
  refine iteT ?_;lk;exact⟨by decide,fin _ (Same.refl _)⟩
 obtain⟨n,hn2⟩:∃n,ws.length=2*n:=⟨ws.length/2,by lia⟩
 refine if_b (c:=false) (show(!decide (V.int ((ws.length:Int)%2)=V.int 0))=false by rw[show((ws.length:Int)%2)=0 by lia];rfl) ?_;refine iteF ?_;lk;refine⟨l,_,rfl,.inl (SqL.of hl),?_⟩;rw[hw];refine⟨0,(ws.length:Int),rfl,⟨by decide,by decide,by lia,by lia⟩,?_⟩;rw[show(((ws.length:Int)-0+1)/2).toNat=n by lia]
 obtain⟨j,hj⟩:∃j,badC1 ws j:=by
  rcases bad with bad|bad|bad
  ·exact absurd ⟨by lia,by lia⟩ bad
  ·exact absurd bad h3
  ·exact bad
 have hjn:j < n:=by
  obtain⟨a,b,e1,e2,_⟩:=hj;have:=(List.getElem?_eq_some_iff.mp e2).1
  lia
 intro acc hacc;refine qp (n:=n) (λi τ zs H'=>H' acc=some (.lst zs)/\zs.length=i/\(∀j',j' < i->¬badC1 ws j')/\Same H H'/\∃o0,τ=[o0,some (.ref l)]) ⟨q0,rfl,(λj' h=>absurd h (Nat.not_lt_zero _)),Same.new hacc _,none,rfl⟩ (by lia) ?_ ?_ ?_ ?_
 ·rintro i τ zs H' ⟨e,hz,_⟩
  exact⟨e,by lia⟩
 ·rintro i τ zs H' hi _
  exact hi
 ·rintro τ zs H' ⟨e,hz,hg,_⟩
  exact absurd hj (hg j hjn)
 ·rintro i τ zs H' v H2 hi ⟨e,hz,hg,sm,o0,rfl⟩ ⟨rfl,rfl⟩
  have i1:2*i < ws.length:=by lia
  have i2:2*i+1 < ws.length:=by lia
  have a1:atI (ws.map V.str) (0+(i:Int)*2)=some (.str ws[2*i]):=by
   rw[show 0+(i:Int)*2=((2*i:Nat):Int) by lia];exact qi (by rw[List.getElem?_map,List.getElem?_eq_getElem i1];rfl)
  have a2:atI (ws.map V.str) (0+(i:Int)*2+1)=some (.str ws[2*i+1]):=by
   rw[show 0+(i:Int)*2+1=((2*i+1:Nat):Int) by lia];exact qi (by rw[List.getElem?_map,List.getElem?_eq_getElem i2];rfl)
  lk;refine⟨l,_,_,_,rfl,rfl,SqL.of (sm _ _ hl),a1,?_⟩;refine⟨ws[2*i],rfl,Nat.le_trans (hb _ (List.getElem_mem i1)) (by decide),λg1 H3 s3=>?_,λ_ H3 s3=>fin _ (sm.trans s3)⟩;lk;refine⟨l,_,_,_,rfl,rfl,SqL.of (s3 _ _ (sm _ _ hl)),a2,?_⟩;refine⟨ws[2*i+1],rfl,Nat.le_trans (hb _ (List.getElem_mem i2)) (by decide),λg2 H4 s4=>?_,λ_ H4 s4=>fin _ (sm.trans (s3.trans s4))⟩;lk;refine⟨by show 2<=sizeLine;decide,λt ht=>?_⟩;have s5:=Same.new ht (.tup [.int (dval ws[2*i]),.int (valB ws[2*i+1])]);have s35:=s3.trans (s4.trans s5);refine⟨s35 _ _ e,Nx.mk hi ⟨q0,by rw[List.length_append,hz];rfl,λj' h=>?_,(sm.trans s35).upd hacc,_,rfl⟩⟩;rcases Nat.lt_succ_iff_lt_or_eq.mp h with h|rfl
  ·exact hg j' h
  ·rintro⟨a,b,e1,e2,e3⟩
   rw[List.getElem?_eq_getElem i1] at e1;rw[List.getElem?_eq_getElem i2] at e2;cases e1;cases e2;rcases e3 with e3|e3
   ·rw[g1] at e3;cases e3
   ·rw[g2] at e3;cases e3
noncomputable def q4g:Sp:=λvs H Q _=>∃ns:List Int,vs=[.str (Txt.join (Str.ofString " ") (ns.map txt))]/\1<=ns.length/\ns.length<=1000/\(∀n,n∈ns->n.natAbs < 10 ^ 30)/\∀l H',H l=none->Same H H'->H' l=some (.lst (ns.map V.int))->Q (.ref l) H'
theorem ok_read(F:Fun K "read_row" "read_row" q21 f fd)(Z:Blt mg)
  (yL:Def P w K mg base k "is_number" ["word"] q4i):FnOk P w K mg base CX0 (k+1) f fd ["text"] q4g:=by
 refine F.ok sc_read_row (λvs H Q E h=>?_) (λcdv A outer s H vs Q E hr h=>?_)
 ·obtain⟨ns,rfl,_⟩:=h
  rfl
 obtain⟨ns,rfl,h1,h2,hb,fin⟩:=h
 w_up
 ·apply qB
  exact(ps_set (i:=1) sc_read_row.nd rfl (by k_ne) (q5i PySem.F.plainAttrs_str PySem.F.slot_str_split PySem.F.type_str_split q3P (pv 0) (pa_cons qE qA)));apply qB
  ·apply qY
   exact(qw (q0c (qP (q5B rfl) rfl Z.all_ PyProof.Rows.boot_all (pa_cons (q18 (N':=["word"]) (ix:=[none]) rfl rfl (by decide +kernel) rfl rfl rfl rfl (qm (K:=K) rfl (pv 1)) (λ_ _ _ _=>(qZ (i:=0) (show List.Nodup (["word"]:List Str) by decide +kernel) rfl (by k_ne))) (λ_ _ _ _=>qq) (λ_ _ _ _=>(qI yL hr rfl (pa_cons (pv 0) qA)))) qA))))
   ·apply qC
    exact q0A
   exact qO
  apply qC;exact(qK (q18 (N':=["word"]) (ix:=[none]) rfl rfl (by decide +kernel) rfl rfl rfl rfl (qm (K:=K) rfl (pv 1)) (λ_ _ _ _=>(qZ (i:=0) (show List.Nodup (["word"]:List Str) by decide +kernel) rfl (by k_ne))) (λ_ _ _ _=>qq) (λ_ _ _ _=>(qa q0O rfl Z.int_ PyProof.Rows.boot_int (pa_cons (pv 0) qA)))))
 lk;have hj:=PySem.joinOk_length (join_fits (by lia) hb);have hsp:=q7i h1;refine⟨hj,by rw[hsp,List.length_map];exact Nat.le_of_lt (small (by lia)),?_⟩;intro l hl;rw[hsp];lk;have hlen:((ns.map txt).map V.str).length=ns.length:=by rw[List.length_map,List.length_map]
 have S1:Same H (upd H l (.lst ((ns.map txt).map V.str))):=Same.new hl _;refine⟨⟨_,SqL.of q0⟩,?_⟩;intro acc hacc;have hla:upd (upd H l (.lst ((ns.map txt).map V.str))) acc (.lst []) l=some (.lst ((ns.map txt).map V.str)):=(Same.new hacc _) _ _ q0;refine qp (n:=ns.length) (λi τ zs H'=>H' acc=some (.lst zs)/\zs=(List.replicate i true).map V.bl/\Same (upd H l (.lst ((ns.map txt).map V.str))) H'/\∃o0,τ=[o0]) ⟨q0,rfl,Same.new hacc _,none,rfl⟩ (by lia) ?_ ?_ ?_ ?_
 ·rintro i τ zs H' ⟨e,rfl,_⟩
  exact⟨e,by rw[List.length_map,List.length_replicate];exact Nat.le_refl _⟩
 ·rintro i τ zs H' hi ⟨e,_,sm,_⟩
  exact⟨_,V.str (txt ns[i]),SqL.of (sm _ _ q0),by rw[List.getElem?_map,List.getElem?_map,List.getElem?_eq_getElem hi];rfl⟩
 ·rintro τ zs H' ⟨e,rfl,sm,_⟩
  refine⟨⟨_,SqL.of (sm _ _ q0),by rw[hlen];exact Nat.le_refl _⟩,?_⟩;refine⟨acc,List.replicate ns.length true,rfl,SqL.of e,?_⟩;have ea:(List.replicate ns.length true).all id=true:=by simp
  rw[ea];lk;refine⟨⟨_,SqL.of (sm _ _ q0)⟩,?_⟩;intro acc2 hacc2;refine qp (n:=ns.length) (λi τ zs H2=>H2 acc2=some (.lst zs)/\zs=(ns.take i).map V.int/\Same H' H2/\∃o0,τ=[o0]) ⟨q0,rfl,Same.new hacc2 _,none,rfl⟩ (by lia) ?_ ?_ ?_ ?_
  ·rintro i τ zs H2 ⟨e,rfl,_⟩
   exact⟨e,by rw[List.length_map,List.length_take];lia⟩
  ·rintro i τ zs H2 hi ⟨e,_,sm2,_⟩
   exact⟨_,V.str (txt ns[i]),SqL.of (sm2 _ _ (sm _ _ q0)),by rw[List.getElem?_map,List.getElem?_map,List.getElem?_eq_getElem hi];rfl⟩
  ·rintro τ zs H2 ⟨e,rfl,sm2,_⟩
   refine⟨⟨_,SqL.of (sm2 _ _ (sm _ _ q0)),by rw[hlen];exact Nat.le_refl _⟩,?_⟩;rw[List.take_length] at e;exact fin _ _ ((S1.trans sm).free hacc2) ((S1.trans sm).trans sm2) e
  ·rintro i τ zs H2 v H3 hi ⟨e,rfl,sm2,o0,rfl⟩ ⟨rfl,y⟩
   have ey:=y _ (SqL.of (sm2 _ _ (sm _ _ q0)));rw[List.getElem?_map,List.getElem?_map,List.getElem?_eq_getElem hi] at ey;obtain rfl:V.str (txt ns[i])=v:=Option.some.inj ey;lk;refine⟨_,_,rfl,q4a (hb _ (List.getElem_mem hi)),Nat.le_trans (q0k (hb _ (List.getElem_mem hi))) (by decide),?_⟩;refine⟨e,Nx.mk hi ⟨q0,?_,sm2.upd hacc2,_,rfl⟩⟩;rw[List.take_succ_eq_append_getElem hi,List.map_append];rfl
 ·rintro i τ zs H' v H2 hi ⟨e,rfl,sm,o0,rfl⟩ ⟨rfl,y⟩
  have ey:=y _ (SqL.of (sm _ _ q0));rw[List.getElem?_map,List.getElem?_map,List.getElem?_eq_getElem hi] at ey;obtain rfl:V.str (txt ns[i])=v:=Option.some.inj ey;lk;refine⟨hb _ (List.getElem_mem hi),λH3 s3=>?_⟩;refine⟨s3 _ _ e,Nx.mk hi ⟨q0,?_,(sm.trans s3).upd hacc,_,rfl⟩⟩;rw[List.replicate_succ',List.map_append];rfl
structure BestIn(P:Nat->Int)(S:Nat->Nat->Prop)(s:Int)(f b:Nat):Prop where
 mem:S f b
 val:s=P b-P f
 top:∀f' b',S f' b'->P b'-P f' < s\/(P b'-P f'=s/\(f < f'\/(f=f'/\b<=b')))
theorem BestIn.uniq{P:Nat->Int}{s':Int}{f f' b':Nat}(h:BestIn P S s f b)(h':BestIn P S s' f' b'):s=s'/\f=f'/\b=b':=by
 have a:=h.top f' b' h'.mem;have c:=h'.top f b h.mem;have v:=h.val;have v':=h'.val
 lia
theorem BestIn.congr{P:Nat->Int}{S':Nat->Nat->Prop}{f:Nat}(h:BestIn P S s f b)(e:∀f b,S f b↔S' f b):BestIn P S' s f b:=
 ⟨(e f b).mp h.mem,h.val,λf' b' q=>h.top f' b' ((e f' b').mpr q)⟩
noncomputable def Val(n L:Nat)(M:Int)(f b:Nat):Prop:=f+L<=b/\(b:Int)<=f+M/\b<=n
noncomputable abbrev IsBest(ns:List Int)(L:Nat)(M:Int)(s:Int)(f b:Nat):Prop:=BestIn (psum ns) (Val ns.length L M) s f b
theorem q0m(h:i < ns.length):psum ns (i+1)=psum ns i+ns.getD i 0:=by
 rw[q1m h,List.getD_eq_getElem?_getD,List.getElem?_eq_getElem h];rfl
noncomputable def q4n:Sp:=λvs H Q _=>∃(r:Addr) (ns:List Int),vs=[.ref r]/\H r=some (.lst (ns.map V.int))/\ns.length<=90000/\
 ∀(l:Addr) (H':Hp),Same H H'->H l=none->H' l=some (.lst ((pl ns ns.length).map V.int))->Q (.ref l) H'
theorem ok_ahead(F:Fun K "sums_ahead" "sums_ahead" q1d f fd)(Z:Blt mg):FnOk P w K mg base CX0 (k+1) f fd ["row"] q4n:=by
 refine F.ok sc_sums_ahead (λvs H Q E h=>?_) (λcdv A outer s H vs Q E hr h=>?_)
 ·obtain⟨r,ns,rfl,_⟩:=h
  rfl
 obtain⟨r,ns,rfl,hR,hz,q⟩:=h
 w_up
 ·apply qB
  exact(ps_set (i:=1) sc_sums_ahead.nd rfl (by k_ne) qD);apply qB;exact(ps_set (i:=2) sc_sums_ahead.nd rfl (by k_ne) (pe_lst (pa_cons (pv 1) qA)));apply qB
  ·apply q1Q PassesOwn.never rfl
   exact(qm (K:=K) rfl (pv 0));exact(qZ (i:=3) sc_sums_ahead.nd rfl (by k_ne))
   ·apply qB
    exact(q4N (i:=1) sc_sums_ahead.nd rfl (by k_ne) (pv 3) q5v);apply qC;exact(qj (q1R (K:=K) rfl PySem.F.plainAttrs_list PySem.F.slot_list_append PySem.F.type_list_append qx (pv 2) (pa_cons (pv 1) qA)))
  apply qC;exact(qK (pv 2))
 lk;refine⟨by show 1<=sizeLine;decide,λl hl=>?_⟩;lk;have s1:Same H (upd H l (.lst [.int 0])):=Same.new hl _;refine⟨⟨_,SqL.of (s1 _ _ hR)⟩,?_⟩;refine q2A (xs:=ns.map V.int) (λi σ H'=>∃o3,Same H H'/\H' l=some (.lst ((pl ns i).map V.int))/\σ=[some (.ref r),some (.int (psum ns i)),some (.ref l),o3]) ⟨none,s1,q0,rfl⟩ ?_ ?_ ?_
 ·rintro i σ H' _ ⟨o3,sm,_,_⟩
  exact SqL.of (sm _ _ hR)
 ·rintro i x σ H' hx ⟨o3,sm,hl',rfl⟩
  obtain⟨hi,rfl⟩:=q3v hx;lk;refine⟨.inl ⟨rfl,_,SqL.of hl'⟩,?_⟩;lk;refine⟨l,_,_,rfl,rfl,hl',small (by rw[List.length_map,pl_len];lia),?_⟩;refine⟨_,sm.upd hl,?_,by rw[q1m hi];rfl⟩;rw[q0,pl_succ,List.map_append,q1m hi];rfl
 ·rintro σ H' ⟨o3,sm,hl',rfl⟩
  lk;rw[List.length_map] at hl';exact q l H' sm hl hl'
noncomputable def q1y:Sp:=λvs H Q _=>∃n L M:Int,vs=[.int n,.int L,.int M]/\1<=L/\L<=M/\L<=n/\Q (.int (if n < M then n else M)) H
theorem q4P(F:Fun K "longest_of" "longest_of" q0r f fd)(Z:Blt mg):FnOk P w K mg base CX0 (k+1) f fd ["many","least","most"] q1y:=by
 refine F.ok q2Z (λvs H Q E h=>?_) (λcdv A outer s H vs Q E hr h=>?_)
 ·obtain⟨n,L,M,rfl,_⟩:=h
  rfl
 obtain⟨n,L,M,rfl,h1,h2,h3,q⟩:=h
 w_up
 ·apply qB
  ·apply qY
   exact(PW.pt (q2B (qL q2P (pv 1) qD (qU _)) (q2B (qL q2P (pv 2) (pv 1) (qU _)) (q0u (qL q35 (pv 1) (pv 0) (qU _))))))
   ·apply qC
    exact q0A
   exact qO
  apply qC;exact(qK (qP (q68 rfl) rfl Z.min_ PyProof.Rows.boot_min (pa_cons (pv 2) (pa_cons (pv 0) qA))))
 lk;refine ifD (λz=>absurd z (by lia)) (λ_=>?_);lk;refine ifD (λz=>absurd z (by lia)) (λ_=>?_);lk;refine ifD (λz=>absurd z (by lia)) (λ_=>?_);lk;exact⟨_,_,rfl,q⟩
theorem pl_getD{d:Nat}(h:d<=m):(pl ns m).getD d 0=psum ns d:=by
 unfold pl;rw[List.getD_eq_getElem?_getD,List.getElem?_map,List.getElem?_range (by lia)];rfl
noncomputable abbrev nv(d:Nat):V:=.int (d:Int)
structure Dq(P:Nat->Int)(lo h:Nat)(ds:List Nat):Prop where
 pw:ds.Pairwise λa b=>a < b/\P a<=P b
 mem:∀d,d∈ds->lo<=d/\d < h
 dom:∀f,lo<=f->f < h->f∉ds->∃d,d∈ds/\f < d/\P d < P f
theorem pw_last{P:Nat->Int}{l:Nat}(h:cs.Pairwise λa b=>a < b/\P a<=P b)(hl:cs.getLast?=some l):∀a,a∈cs->P a<=P l:=by
 intro a ha;obtain⟨c',rfl⟩:=List.getLast?_eq_some_iff.mp hl;rcases List.mem_append.mp ha with ha|ha
 ·exact((List.pairwise_append.mp h).2.2 a ha l (by simp)).2
 ·have:a=l:=by simpa using ha
  rw[this];exact Int.le_refl _
theorem Dq.enter{P:Nat->Int}{rs:List Nat}(q:Dq P lo h (cs++rs))(hr:∀d,d∈rs->P d > P h)(hc:∀d,cs.getLast?=some d->P d<=P h)(hlo:lo<=h):Dq P lo (h+1) (cs++[h]):=by
 have pc:=(List.pairwise_append.mp q.pw).1;refine⟨List.pairwise_append.mpr ⟨pc,List.pairwise_singleton _ _,λa ha b hb=>?_⟩,λd hd=>?_,λf h1 h2 h3=>?_⟩
 ·have e:b=h:=by simpa using hb
  subst e;refine⟨(q.mem a (List.mem_append_left _ ha)).2,?_⟩
  cases e2:cs.getLast? with
  | none=>
   have:cs=[]:=by simpa using e2
   subst this;cases ha
  |some l=>exact Int.le_trans (pw_last pc e2 a ha) (hc l e2)
 ·rcases List.mem_append.mp hd with hd|hd
  ·have:=q.mem d (List.mem_append_left _ hd)
   lia
  ·have:d=h:=by simpa using hd
   lia
 ·have n1:f∉cs:=λz=>h3 (List.mem_append_left _ z)
  have n2:f≠h:=λz=>h3 (List.mem_append_right _ (by simp[z]));by_cases hf:f∈rs
  ·exact⟨h,by simp,by lia,hr f hf⟩
  ·obtain⟨d,hd,d1,d2⟩:=q.dom f h1 (by lia) (λz=>(List.mem_append.mp z).elim n1 hf)
   rcases List.mem_append.mp hd with hd|hd
   ·exact⟨d,List.mem_append_left _ hd,d1,d2⟩
   ·have:=hr d hd
    exact⟨h,by simp,by lia,by lia⟩
theorem Dq.pop{P:Nat->Int}{lo':Nat}{tl:List Nat}(q:Dq P lo h (d0::tl))(h0:d0 < lo')(hle:lo'<=lo+1):Dq P lo' h tl:=by
 obtain⟨p1,p2⟩:=List.pairwise_cons.mp q.pw;have m0:=q.mem d0 List.mem_cons_self;refine⟨p2,λd hd=>?_,λf h1 h2 h3=>?_⟩
 ·have a:=(p1 d hd).1
  have b:=q.mem d (List.mem_cons_of_mem _ hd)
  lia
 ·obtain⟨d,hd,d1,d2⟩:=q.dom f (by lia) h2 (λz=>by
   rcases List.mem_cons.mp z with z|z
   ·lia
   ·exact h3 z)
  rcases List.mem_cons.mp hd with hd|hd
  ·lia
  ·exact⟨d,hd,d1,d2⟩
theorem Dq.stay{P:Nat->Int}{lo':Nat}{tl:List Nat}(q:Dq P lo h (d0::tl))(h0:¬d0 < lo')(hle:lo<=lo'):Dq P lo' h (d0::tl):=by
 obtain⟨p1,_⟩:=List.pairwise_cons.mp q.pw;refine⟨q.pw,λd hd=>?_,λf h1 h2 h3=>q.dom f (by lia) h2 h3⟩;have b:=q.mem d hd;rcases List.mem_cons.mp hd with hd|hd
 ·lia
 ·have a:=(p1 d hd).1
  lia
theorem Dq.head{P:Nat->Int}{tl:List Nat}(q:Dq P lo h (d0::tl)):∀f,lo<=f->f < h->P d0 < P f\/(P d0=P f/\d0<=f):=by
 obtain⟨p1,_⟩:=List.pairwise_cons.mp q.pw
 have all:∀d,d∈d0::tl->P d0<=P d/\d0<=d:=λd hd=>by
  rcases List.mem_cons.mp hd with hd|hd
  ·subst hd;exact⟨Int.le_refl _,Nat.le_refl _⟩
  ·have:=p1 d hd
   exact⟨this.2,by lia⟩
 intro f h1 h2;by_cases hf:f∈d0::tl
 ·have:=all f hf
  lia
 ·obtain⟨d,hd,d1,d2⟩:=q.dom f h1 h2 hf
  have:=all d hd;exact .inl (by lia)
theorem win_first{P:Nat->Int}{b0:Nat}(e:∀f b,S f b↔(b=b0/\lo<=f/\f < h))(hd:lo<=d0/\d0 < h)(top:∀f,lo<=f->f < h->P d0 < P f\/(P d0=P f/\d0<=f)):BestIn P S (P b0-P d0) d0 b0:=
 ⟨(e d0 b0).mpr ⟨rfl,hd⟩,rfl,λf' b' q=>by
  obtain⟨rfl,h1,h2⟩:=(e f' b').mp q;have:=top f' h1 h2
  lia⟩
theorem win_more{P:Nat->Int}{S':Nat->Nat->Prop}{f b0:Nat}(hB:BestIn P S s f b)(e:∀f b,S' f b↔(S f b\/(b=b0/\lo<=f/\f < h)))(hd:lo<=d0/\d0 < h)
  (top:∀f,lo<=f->f < h->P d0 < P f\/(P d0=P f/\d0<=f))(hs:P b0-P d0 > s):BestIn P S' (P b0-P d0) d0 b0:=
 ⟨(e d0 b0).mpr (.inr ⟨rfl,hd⟩),rfl,λf' b' q=>by
  rcases(e f' b').mp q with q|⟨rfl,h1,h2⟩
  ·have:=hB.top f' b' q
   exact .inl (by lia)
  ·have:=top f' h1 h2
   lia⟩
theorem win_less{P:Nat->Int}{S':Nat->Nat->Prop}{f b0:Nat}(hB:BestIn P S s f b)(e:∀f b,S' f b↔(S f b\/(b=b0/\lo<=f/\f < h)))
  (top:∀f,lo<=f->f < h->P d0 < P f\/(P d0=P f/\d0<=f))(hs:¬P b0-P d0 > s)(hle:f<=d0)(hb:b<=b0):BestIn P S' s f b:=
 ⟨(e f b).mpr (.inl hB.mem),hB.val,λf' b' q=>by
  rcases(e f' b').mp q with q|⟨rfl,h1,h2⟩
  ·exact hB.top f' b' q
  ·have:=top f' h1 h2
   lia⟩
theorem upd_id{o:HO}(h:H a=some o):upd H a o=H:=by
 funext b;by_cases e:b=a
 ·subst e;rw[q0,h]
 ·rw[qG e]
noncomputable def q4k:Sp:=λvs H Q _=>∃(q a:Addr) (ds:List Nat) (ns:List Int) (i:Nat),vs=[.ref q,.ref a,.int i]/\q≠a/\H q=some (.lst (ds.map nv))/\H a=some (.lst ((pl ns ns.length).map V.int))/\(∀d,d∈ds->d<=ns.length)/\i<=ns.length/\ds.length<=90000/\
 ∀cs rs,ds=cs++rs->(∀d,d∈rs->psum ns d > psum ns i)->(∀d,cs.getLast?=some d->psum ns d<=psum ns i)->Q .non (upd H q (.lst ((cs++[i]).map nv)))
theorem ok_enter(F:Fun K "enter_first" "enter_first" q1E f fd)(Z:Blt mg):FnOk P w K mg base CX0 (k+1) f fd ["firsts","ahead","first"] q4k:=by
 refine F.ok q4A (λvs H Q E h=>?_) (λcdv A outer s H vs Q E hr h=>?_)
 ·obtain⟨q,a,ds,ns,i,rfl,_⟩:=h
  rfl
 obtain⟨q,a,ds,ns,i,rfl,hqa,hq,ha,hds,hi,hz,fin⟩:=h
 w_up
 ·apply qB
  ·apply q4t PassesOwn.never
   exact(PW.pt (q5e (q26 (pv 0) (λ_=>rfl)) (q3j (qL q35 (qM (qR (K:=K) rfl) (pv 1) (qM (qR (K:=K) rfl) (pv 0) (q3m q1U qD) (λ_ _=>rfl)) (λ_ _=>rfl)) (qM (qR (K:=K) rfl) (pv 1) (pv 2) (λ_ _=>rfl)) (qU _)))))
   ·apply qC
    exact(qj (q6X (K:=K) rfl PySem.F.plainAttrs_list PySem.F.slot_list_pop PySem.F.type_list_pop mt_pop (pv 0)))
  apply qC;exact(qj (q1R (K:=K) rfl PySem.F.plainAttrs_list PySem.F.slot_list_append PySem.F.type_list_append qx (pv 0) (pa_cons (pv 2) qA)))
 have atA:∀d:Nat,d<=ns.length->atI ((pl ns ns.length).map V.int) (d:Int)=some (.int (psum ns d)):=λd hd=>by
  have:=q4Y (ns:=pl ns ns.length) (k:=(d:Int)) (by lia) (by rw[pl_len];lia);rw[this,Int.toNat_natCast,pl_getD hd]
 refine⟨λm σ H'=>∃cs rs,ds=cs++rs/\m=cs.length/\(∀d,d∈rs->psum ns d > psum ns i)/\H'=upd H q (.lst (cs.map nv))/\σ=[some (.ref q),some (.ref a),some (.int i)],⟨ds.length,ds,[],by simp,rfl,(λd z=>by cases z),(upd_id hq).symm,rfl⟩,?_⟩;rintro m _ _ ⟨cs,rs,rfl,rfl,hrs,rfl,rfl⟩;have ha':upd H q (.lst (cs.map nv)) a=some (.lst ((pl ns ns.length).map V.int)):=by rw[qG (Ne.symm hqa)];exact ha
 have app:∀(D:V->Hp->Prop),D .non (upd H q (.lst ((cs++[i]).map nv)))->rAppend (.ref q) [.int i] (upd H q (.lst (cs.map nv))) D:=λD z=>by
  refine⟨q,_,_,rfl,rfl,q0,small ?_,?_⟩
  ·rw[List.length_map]
   rw[List.length_append] at hz
   lia
  ·rw[q4Z]
   rw[List.map_append] at z;exact z
 refine⟨_,rfl,_,.inl ⟨_,SqL.of q0,rfl⟩,?_⟩
 cases e:cs.getLast? with
 | none=>
  have:cs=[]:=by simpa using e
  subst this;refine iteF ?_;lk;refine⟨.inl ⟨rfl,_,SqL.of q0⟩,?_⟩;lk;exact app _ (fin [] rs rfl hrs (λd z=>by cases z))
 | some l=>
  obtain⟨c',rfl⟩:=List.getLast?_eq_some_iff.mp e;have hb:(!((c'++[l]).map nv).isEmpty)=true:=by simp
  rw[hb];refine iteT ?_;have hl:l<=ns.length:=hds l (by simp);lk;refine⟨q,_,-1,_,rfl,rfl,SqL.of q0,by rw[List.map_append];exact q7f _ _,?_⟩;refine⟨a,_,_,_,rfl,rfl,SqL.of ha',atA l hl,?_⟩;lk;refine⟨a,_,_,_,rfl,rfl,SqL.of ha',atA i hi,?_⟩;lk;refine ifD (λhgt=>?_) (λhgt=>?_)
  ·refine⟨λσ' H'=>σ'=[some (.ref q),some (.ref a),some (.int i)]/\H'=upd H q (.lst (c'.map nv)),?_,?_⟩
   ·rintro σ' H' ⟨rfl,rfl⟩
    refine⟨c'.length,by simp,c',l::rs,by simp,rfl,λd hd=>?_,rfl,rfl⟩;rcases List.mem_cons.mp hd with hd|hd
    ·subst hd;exact hgt
    ·exact hrs d hd
   ·lk
    refine⟨.inl ⟨rfl,_,SqL.of q0⟩,?_⟩;refine⟨q,_,nv l,rfl,rfl,q0,?_,rfl,?_⟩
    ·rw[List.map_append,List.length_append,List.length_map]
     simp
    ·rw[q4Z,List.map_append]
     simp
  ·lk
   refine⟨.inl ⟨rfl,_,SqL.of q0⟩,?_⟩;lk;refine app _ (fin (c'++[l]) rs rfl hrs λd z=>?_);rw[e] at z;cases z
   lia
theorem q3R{x:V}{xs:List V}:atI (x::xs) 0=some x:=qi (j:=0) rfl
noncomputable def q6w:Sp:=λvs H Q _=>∃(r:Addr) (ns:List Int) (L:Nat) (M:Int),vs=[.ref r,.int L,.int M]/\H r=some (.lst (ns.map V.int))/\ns.length<=80000/\1<=L/\L<=ns.length/\(L:Int)<=M/\
 ∀(t:Addr) (s:Int) (f b:Nat) (H':Hp),Same H H'->H' t=some (.tup [.int s,.int f,.int b])->IsBest ns L M s f b->Q (.ref t) H'
noncomputable def BstF(P:Nat->Int)(H:Hp)(S:Nat->Nat->Prop)(v:V)(ds:List Nat)(h:Nat)(bb:Nat):Prop:=(v = .non/\∀f b,¬S f b)\/∃(t:Addr) (s:Int) (f b:Nat),v = .ref t/\H t=some (.tup [.int s,.int f,.int b])/\BestIn P S s f b/\(∀d,d∈ds->f<=d)/\f < h/\b<=bb
theorem ok_sized(F:Fun K "best_sized" "best_sized" q0s f fd)(Z:Blt mg)
  (yf:Def P w K mg base k "longest_of" ["many","least","most"] q1y)(yg:Def P w K mg base k "sums_ahead" ["row"] q4n)(yh:Def P w K mg base k "enter_first" ["firsts","ahead","first"] q4k):
  FnOk P w K mg base CX0 (k+1) f fd ["row","least","most"] q6w:=by
 refine F.ok sc_best_sized (λvs H Q E h=>?_) (λcdv A outer s H vs Q E hr h=>?_)
 ·obtain⟨r,ns,L,M,rfl,_⟩:=h
  rfl
 obtain⟨r,ns,L,M,rfl,hR,hz,hL1,hL2,hLM,fin⟩:=h
 w_up
 ·apply qB
  exact(ps_set (i:=3) sc_best_sized.nd rfl (by k_ne) (qI yf hr rfl (pa_cons (qP (qQ (K:=K) rfl) rfl Z.len_ PySem.boot_len (pa_cons (pv 0) qA)) (pa_cons (pv 1) (pa_cons (pv 2) qA)))));apply qB;exact(ps_set (i:=4) sc_best_sized.nd rfl (by k_ne) (qI yg hr rfl (pa_cons (pv 0) qA)));apply qB;exact(ps_set (i:=5) sc_best_sized.nd rfl (by k_ne) (pe_lst qA));apply qB;exact(ps_set (i:=6) sc_best_sized.nd rfl (by k_ne) qu);apply qB
  ·apply q1Q PassesOwn.never rfl
   exact(q5h rfl Z.range_ (pa_cons (pv 1) (pa_cons (qT qo (qP (qQ (K:=K) rfl) rfl Z.len_ PySem.boot_len (pa_cons (pv 0) qA)) qD) qA)));exact(qZ (i:=7) sc_best_sized.nd rfl (by k_ne))
   ·apply qB
    exact(qj (qI yh hr rfl (pa_cons (pv 5) (pa_cons (pv 4) (pa_cons (qT q0Q (pv 7) (pv 1)) qA)))));apply qB
    ·apply qY
     exact(qL q2P (qM (qR (K:=K) rfl) (pv 5) qD (λ_ _=>rfl)) (qT q0Q (pv 7) (pv 3)) (qU _))
     ·apply qC
      exact(qj (q1R (K:=K) rfl PySem.F.plainAttrs_list PySem.F.slot_list_pop PySem.F.type_list_pop mt_popAt (pv 5) (pa_cons qD qA)))
     exact qO
    apply qB;exact(ps_set (i:=8) sc_best_sized.nd rfl (by k_ne) (qT q0Q (qM (qR (K:=K) rfl) (pv 4) (pv 7) (λ_ _=>rfl)) (qM (qR (K:=K) rfl) (pv 4) (qM (qR (K:=K) rfl) (pv 5) qD (λ_ _=>rfl)) (λ_ _=>rfl))));apply qC;apply qY;exact(PW.pt (q2B (qL q1o (pv 6) qu (qU _)) (q0u (qL q35 (pv 8) (qM (qH (K:=K) rfl) (pv 6) qD (λ_ _=>rfl)) (qU _)))))
    ·apply qC
     exact(ps_set (i:=6) sc_best_sized.nd rfl (by k_ne) (qf (pa_cons (pv 8) (pa_cons (qM (qR (K:=K) rfl) (pv 5) qD (λ_ _=>rfl)) (pa_cons (pv 7) qA)))))
    exact qO
  apply qC;exact(qK (pv 6))
 have hl:(ns.map V.int).length=ns.length:=List.length_map _;lk;refine⟨r,_,rfl,.inl (SqL.of hR),?_⟩;lk;refine⟨_,_,_,rfl,by lia,hLM,by rw[hl];lia,?_⟩
 obtain⟨lg,elg⟩:∃lg:Nat,(if(((ns.map V.int).length:Nat):Int) < M then(((ns.map V.int).length:Nat):Int) else M)=(lg:Int):=by
  rw[hl];split
  ·exact⟨_,rfl⟩
  ·exact⟨M.toNat,by lia⟩
 have hlg:L<=lg/\lg<=ns.length/\(lg:Int)<=M/\((lg:Int)=M\/lg=ns.length):=by
  rw[hl] at elg;split at elg<;>lia
 rw[elg];lk;refine⟨r,ns,rfl,hR,by lia,λa H1 s1 ha0 ha=>?_⟩;lk;refine⟨Nat.zero_le _,λq hq=>?_⟩;lk;have hqa:q≠a:=λz=>by subst z;rw[ha] at hq;cases hq
 have hR1:=s1 _ _ hR;have hrq:r≠q:=λz=>by subst z;rw[hR1] at hq;cases hq
 refine⟨r,_,rfl,.inl (SqL.of (by rw[qG hrq];exact hR1)),?_⟩;lk;refine⟨_,_,rfl,⟨by lia,by lia,by lia,by lia⟩,?_⟩
 have atA:∀d:Nat,d<=ns.length->atI ((pl ns ns.length).map V.int) (d:Int)=some (.int (psum ns d)):=λd hd=>by
  have:=q4Y (ns:=pl ns ns.length) (k:=(d:Int)) (by lia) (by rw[pl_len];lia);rw[this,Int.toNat_natCast,pl_getD hd]
 refine q3y (λj σ H'=>∃(v:V) (ds:List Nat) (o7 o8:Option V),(∀b o,b≠q->H1 b=some o->H' b=some o)/\H' q=some (.lst (ds.map nv))/\Dq (psum ns) (L+j-1-lg) j ds/\ds.length<=j/\BstF (psum ns) H' (λf b=>Val ns.length L M f b/\b < L+j) v ds j (L+j)/\
  σ=[some (.ref r),some (.int L),some (.int M),some (.int lg),some (.ref a),some (.ref q),some v,o7,o8]) ?_ ?_ ?_
 ·refine⟨.non,[],none,none,λb o hb e=>by rw[qG hb];exact e,q0,⟨List.Pairwise.nil,(λd z=>by cases z),(λf _ h2=>by lia)⟩,Nat.le_refl _,.inl ⟨rfl,λf b z=>?_⟩,rfl⟩
  unfold Val at z
  lia
 ·rintro j σ H2 hj ⟨v,ds,o7,o8,keep,hq2,hD,hlen,hv,rfl⟩
  have hj':L+j<=ns.length:=by lia
  have ha2:=keep a _ (Ne.symm hqa) ha;lk;have ei:(L:Int)+j-L=(j:Int):=by lia
  refine⟨q,a,ds,ns,j,by show[V.ref q,V.ref a,V.int ((L:Int)+j-L)]=_;rw[ei],hqa,hq2,ha2,λd hd=>?_,by lia,by lia,λcs rs ecs hrs hcs=>?_⟩
  ·have:=(hD.mem d hd).2
   lia
  subst ecs;have hE:=hD.enter hrs hcs (by lia);have hcl:(cs++[j]).length<=j+1:=by
   rw[List.length_append] at hlen ⊢;rw[List.length_singleton]
   lia
  obtain⟨d0,tl,ed⟩:∃d0 tl,cs++[j]=d0::tl:=by
   cases cs with
   |nil=>exact⟨j,[],rfl⟩
   |cons x xs=>exact⟨x,xs++[j],rfl⟩
  have hjm:j∈d0::tl:=by rw[<-ed];simp
  have hsub:∀x,x∈d0::tl->x=j\/x∈cs++rs:=λx hx=>by
   rw[<-ed] at hx;rcases List.mem_append.mp hx with hx|hx
   ·exact .inr (List.mem_append_left _ hx)
   ·exact .inl (by simpa using hx)
  rw[ed] at hE hcl;have hq3:upd H2 q (.lst ((cs++[j]).map nv)) q=some (.lst ((d0::tl).map nv)):=by rw[q0,ed]
  lk;refine⟨q,_,0,_,rfl,rfl,SqL.of hq3,q3R,?_⟩;lk
  refine ifJ (λσ' H'=>∃(d1:Nat) (t1:List Nat),H'=upd H2 q (.lst ((d1::t1).map nv))/\Dq (psum ns) (L+j-lg) (j+1) (d1::t1)/\(d1::t1).length<=j+1/\(∀x,x∈d1::t1->x=j\/x∈cs++rs)/\
   σ'=[some (.ref r),some (.int L),some (.int M),some (.int lg),some (.ref a),some (.ref q),some v,some (.int (L+j)),o8]) ?_ (λhno=>⟨d0,tl,by rw[ed],hE.stay (by lia) (by lia),hcl,hsub,rfl⟩) (λR hR' hlt=>?_)
  case refine_2=>
   have hlt':(d0:Int) < (L:Int)+j-lg:=hlt
   obtain⟨d1,t1,rfl⟩:∃d1 t1,tl=d1::t1:=by
    cases tl with
    | nil=>
     have:j=d0:=by simpa using hjm
     lia
    |cons x xs=>exact⟨x,xs,rfl⟩
   lk;refine⟨.inl ⟨rfl,_,SqL.of hq3⟩,?_⟩;lk;refine⟨q,_,0,0,_,rfl,rfl,hq3,by decide,by decide,?_,rfl,?_⟩
   ·unfold seqIndex?
    simp
    lia
   ·refine hR' _ _ ⟨d1,t1,by rw[q4Z];rfl,hE.pop (by lia) (by lia),?_,λx hx=>hsub x (List.mem_cons_of_mem _ hx),rfl⟩
    rw[List.length_cons] at hcl
    lia
  rintro _ _ ⟨d1,t1,rfl,hD1,hl1,hs1,rfl⟩;have hd1:=hD1.mem d1 List.mem_cons_self;have top:=hD1.head;have ha3:upd H2 q (.lst ((d1::t1).map nv)) a=some (.lst ((pl ns ns.length).map V.int)):=by rw[qG (Ne.symm hqa)];exact ha2
  have eb:(L:Int)+j=((L+j:Nat):Int):=by lia
  lk;refine⟨a,_,_,_,rfl,rfl,SqL.of ha3,by rw[eb];exact atA (L+j) hj',?_⟩;lk;refine⟨q,_,0,_,rfl,rfl,SqL.of q0,q3R,?_⟩;refine⟨a,_,_,_,rfl,rfl,SqL.of ha3,atA d1 (by lia),?_⟩;lk
  have eS:∀f b,(Val ns.length L M f b/\b < L+(j+1))↔((Val ns.length L M f b/\b < L+j)\/(b=L+j/\L+j-lg<=f/\f < j+1)):=λf b=>by
   unfold Val
   lia
  have en:L+(j+1)-1-lg=L+j-lg:=by lia
  have keep3:∀b o,b≠q->H1 b=some o->upd H2 q (.lst ((d1::t1).map nv)) b=some o:=λb o hb e=>by rw[qG hb];exact keep b o hb e
  have sorted:∀d,d∈d1::t1->d1<=d:=λd hd=>by
   rcases List.mem_cons.mp hd with hd|hd
   ·lia
   ·have:=((List.pairwise_cons.mp hD1.pw).1 d hd).1
    lia
  have more:∀(p:Addr) (H':Hp),upd H2 q (.lst ((d1::t1).map nv)) p=none->H'=upd (upd H2 q (.lst ((d1::t1).map nv))) p (.tup [.int (psum ns (L+j)-psum ns d1),.int d1,.int (L+j)])->BestIn (psum ns) (λf b=>Val ns.length L M f b/\b < L+(j+1)) (psum ns (L+j)-psum ns d1) d1 (L+j)->
    ∃(v:V) (ds:List Nat) (o7 o8':Option V),(∀b o,b≠q->H1 b=some o->H' b=some o)/\H' q=some (.lst (ds.map nv))/\Dq (psum ns) (L+(j+1)-1-lg) (j+1) ds/\ds.length<=j+1/\BstF (psum ns) H' (λf b=>Val ns.length L M f b/\b < L+(j+1)) v ds (j+1) (L+(j+1))/\
    ([some (.ref r),some (.int L),some (.int M),some (.int lg),some (.ref a),some (.ref q),some (.ref p),some (.int (L+j)),some (.int (psum ns (L+j)-psum ns d1))]:St)=[some (.ref r),some (.int L),some (.int M),some (.int lg),some (.ref a),some (.ref q),some v,o7,o8']:=λp H' hp eH hB=>by
   subst eH;have hpq:q≠p:=λz=>by subst z;rw[q0] at hp;cases hp
   refine⟨.ref p,d1::t1,_,_,λb o hb e=>?_,by rw[qG hpq,q0],by rw[en];exact hD1,hl1,.inr ⟨p,_,d1,L+j,rfl,?_,hB,sorted,hd1.2,by lia⟩,rfl⟩
   ·have e3:=keep3 b o hb e
    rw[qG (qJ e3 hp)];exact e3
   ·rw[q0,eb]
  rcases hv with⟨rfl,hno⟩|⟨t,s,f,b,rfl,ht,hB,hfd,hfh,hbb⟩
  ·refine ifD (λ_=>?_) (λz=>absurd rfl z)
   lk;refine⟨q,_,0,_,rfl,rfl,SqL.of q0,q3R,?_⟩;lk;refine⟨by show 3<=sizeLine;decide,λp hp=>?_⟩;refine more p _ hp rfl (win_first (λf b=>?_) hd1 top);constructor
   ·intro z
    rcases(eS f b).mp z with z|z
    ·exact absurd z (hno f b)
    ·exact z
   ·intro z
    exact(eS f b).mpr (.inr z)
  ·have htq:t≠q:=λz=>by subst z;rw[hq2] at ht;cases ht
   have ht3:upd H2 q (.lst ((d1::t1).map nv)) t=some (.tup [.int s,.int f,.int b]):=by rw[qG htq];exact ht
   refine ifD (λz=>nomatch z) (λ_=>?_);lk;refine⟨t,_,0,_,rfl,rfl,SqT.of ht3,rfl,?_⟩;lk;refine ifD (λhgt=>?_) (λhgt=>?_)
   ·lk
    refine⟨q,_,0,_,rfl,rfl,SqL.of q0,q3R,?_⟩;lk;refine⟨by show 3<=sizeLine;decide,λp hp=>?_⟩;exact more p _ hp rfl (win_more hB eS hd1 top hgt)
   ·have hfd1:∀d,d∈d1::t1->f<=d:=λd hd=>by
     rcases hs1 d hd with e|e
     ·lia
     ·exact hfd d e
    exact⟨.ref t,d1::t1,_,_,keep3,q0,by rw[en];exact hD1,hl1,.inr ⟨t,s,f,b,rfl,ht3,win_less hB eS top hgt (hfd1 d1 List.mem_cons_self) (by lia),hfd1,by lia,by lia⟩,rfl⟩
 ·rintro σ H2 ⟨v,ds,o7,o8,keep,hq2,hD,hlen,hv,rfl⟩
  lk;rw[hl] at hv
  have eS:∀f b,(Val ns.length L M f b/\b < L+((ns.length:Int)+1-L).toNat)↔Val ns.length L M f b:=λf b=>by
   unfold Val
   lia
  rcases hv with⟨rfl,hno⟩|⟨t,s,f,b,rfl,ht,hB,_⟩
  ·exact absurd ((eS 0 L).mpr (by unfold Val;lia)) (hno 0 L)
  ·refine fin t s f b H2 (λb o e=>?_) ht (hB.congr eS)
   have e1:=s1 _ _ e;exact keep b o (λz=>by subst z;rw[e1] at hq;cases hq) e1
structure Sx where
 s:Int
 f:Int
 b:Int
noncomputable def Sx.le(x y:Sx):Prop:=y.s < x.s\/(x.s=y.s/\(x.f < y.f\/(x.f=y.f/\x.b<=y.b)))
noncomputable def q0P(x y:Sx):Sx:=if HT.lexLt [-y.s,y.f,y.b] [-x.s,x.f,x.b]=true then y else x
theorem lex3{a b c a' b' c':Int}:HT.lexLt [a,b,c] [a',b',c']=true↔a < a'\/(a=a'/\(b < b'\/(b=b'/\c < c'))):=by
 rw[HT.lexLt_cons,HT.lexLt_cons,HT.lexLt_cons,HT.lexLt_nil_nil];by_cases h1:a=a'
 ·rw[if_pos h1]
  by_cases h2:b=b'
  ·rw[if_pos h2]
   by_cases h3:c=c'
   ·rw[if_pos h3];constructor
    ·intro z;cases z
    ·intro z;lia
   ·rw[if_neg h3,decide_eq_true_iff];lia
  ·rw[if_neg h2,decide_eq_true_iff];lia
 ·rw[if_neg h1,decide_eq_true_iff];lia
structure Top(P:Sx->Prop)(x:Sx):Prop where
 has:P x
 le:∀y,P y->x.le y
theorem Sx.ext'(h1:x.s=y.s)(h2:x.f=y.f)(h3:x.b=y.b):x=y:=by
 cases x;cases y;simp only at h1 h2 h3;subst h1 h2 h3;rfl
theorem Top.uniq{P:Sx->Prop}(h:Top P x)(g:Top P y):x=y:=by
 have h1:=h.le y g.has;have h2:=g.le x h.has;unfold Sx.le at h1 h2;exact Sx.ext' (by lia) (by lia) (by lia)
theorem better_or(x y:Sx):(q0P x y=x/\x.le y)\/(q0P x y=y/\y.le x):=by
 unfold q0P;by_cases h:HT.lexLt [-y.s,y.f,y.b] [-x.s,x.f,x.b]=true
 ·rw[if_pos h]
  rw[lex3] at h;exact .inr ⟨rfl,by unfold Sx.le;lia⟩
 ·rw[if_neg h]
  rw[lex3] at h;exact .inl ⟨rfl,by unfold Sx.le;lia⟩
theorem Sx.le_trans{z:Sx}(h:x.le y)(g:y.le z):x.le z:=by
 unfold Sx.le at h g ⊢
 lia
theorem Top.or{P Q R:Sx->Prop}(hx:Top P x)(hy:Top Q y)(h:∀z,R z↔P z\/Q z):Top R (q0P x y):=by
 rcases better_or x y with⟨e,l⟩|⟨e,l⟩
 ·rw[e]
  refine⟨(h x).mpr (.inl hx.has),λz hz=>?_⟩;rcases(h z).mp hz with q|q
  ·exact hx.le z q
  ·exact Sx.le_trans l (hy.le z q)
 ·rw[e]
  refine⟨(h y).mpr (.inr hy.has),λz hz=>?_⟩;rcases(h z).mp hz with q|q
  ·exact Sx.le_trans l (hx.le z q)
  ·exact hy.le z q
noncomputable def qV(x:Sx)(m:Int):Sx:=⟨x.s,x.f+m,x.b+m⟩
noncomputable def q02(x y:Sx):Sx:=⟨x.s+y.s,x.f,y.b⟩
noncomputable def q0p(x:Sx)(t:Int):Sx:=⟨x.s+t,x.f,x.b⟩
theorem Top.iff{P Q:Sx->Prop}(h:Top P x)(e:∀z,Q z↔P z):Top Q x:=⟨(e x).mpr h.has,λy q=>h.le y ((e y).mp q)⟩
theorem Top.moved{P:Sx->Prop}(h:Top P x)(m:Int):Top (λz=>∃y,P y/\z=qV y m) (qV x m):=by
 refine⟨⟨x,h.has,rfl⟩,?_⟩;rintro _ ⟨y,hy,rfl⟩;have q:=h.le y hy;unfold Sx.le at q ⊢;simp only[qV]
 lia
theorem Top.more{P:Sx->Prop}(h:Top P x)(t:Int):Top (λz=>∃y,P y/\z=q0p y t) (q0p x t):=by
 refine⟨⟨x,h.has,rfl⟩,?_⟩;rintro _ ⟨y,hy,rfl⟩;have q:=h.le y hy;unfold Sx.le at q ⊢;simp only[q0p]
 lia
theorem Top.side{P Q:Sx->Prop}(h:Top P x)(g:Top Q y)(hq:∀z,Q z->z.f=y.f):Top (λz=>∃p q,P p/\Q q/\z=q02 p q) (q02 x y):=by
 refine⟨⟨x,y,h.has,g.has,rfl⟩,?_⟩;rintro _ ⟨p,q,hp,hq',rfl⟩;have a:=h.le p hp;have b:=g.le q hq';have c:=hq q hq';unfold Sx.le at a b ⊢;simp only[q02]
 lia
theorem Top.one(x:Sx):Top (λz=>z=x) x:=⟨rfl,λy e=>by rw[e];unfold Sx.le;lia⟩
theorem qk(h:i<=xs.length):psum (xs++ys) i=psum xs i:=by
 unfold psum;rw[List.take_append_of_le_length h]
theorem qg{j:Nat}:psum (xs++ys) (xs.length+j)=psum xs xs.length+psum ys j:=by
 unfold psum;rw[List.take_append,List.sum_append,List.take_of_length_le (by lia),Nat.add_sub_cancel_left,List.take_length]
noncomputable def PB(xs:List Int)(z:Sx):Prop:=∃f b:Nat,f < b/\b<=xs.length/\z=⟨psum xs b-psum xs f,f,b⟩
noncomputable def PH(xs:List Int)(z:Sx):Prop:=∃b:Nat,0 < b/\b<=xs.length/\z=⟨psum xs b,0,b⟩
noncomputable def PT(xs:List Int)(z:Sx):Prop:=∃f:Nat,f < xs.length/\z=⟨psum xs xs.length-psum xs f,f,xs.length⟩
noncomputable def PR(xs:List Int)(z:Sx):Prop:=∃f b:Nat,1<=b/\b<=f/\f < xs.length/\z=⟨psum xs xs.length-psum xs f+psum xs b,f,b⟩
structure Kn where
 many:Int
 total:Int
 best:Sx
 head:Sx
 tail:Sx
 round:Option Sx
structure KnOk(k:Kn)(xs:List Int):Prop where
 many:k.many=xs.length
 total:k.total=psum xs xs.length
 best:Top (PB xs) k.best
 head:Top (PH xs) k.head
 tail:Top (PT xs) k.tail
 round:match k.round with|none=>xs.length=1|some r=>Top (PR xs) r
noncomputable def q5s(a b:Kn):Sx:=
 let x:=q02 (qV b.tail a.many) a.head
 let y:=match a.round with|none=>x|some r=>q0P x (q0p r b.total)
 match b.round with|none=>y|some r=>q0P y (q0p (qV r a.many) a.total)
noncomputable def joinK(a b:Kn):Kn where
 many:=a.many+b.many
 total:=a.total+b.total
 best:=q0P (q0P a.best (q02 a.tail (qV b.head a.many))) (qV b.best a.many)
 head:=q0P a.head (q02 ⟨a.total,0,a.many⟩ (qV b.head a.many))
 tail:=q0P (q02 a.tail ⟨b.total,a.many,a.many+b.many⟩) (qV b.tail a.many)
 round:=some (q5s a b)
noncomputable def oneK(n:Int):Kn:=⟨1,n,⟨n,0,1⟩,⟨n,0,1⟩,⟨n,0,1⟩,none⟩
theorem one_ok(n:Int):KnOk (oneK n) [n]:=by
 have p1:psum [n] 1=n:=by simp[psum]
 have p0:psum [n] 0=0:=rfl;have le:∀z:Sx,z=⟨n,0,1⟩->Sx.le ⟨n,0,1⟩ z:=λz e=>by rw[e];unfold Sx.le;lia
 refine⟨rfl,p1.symm,⟨⟨0,1,by lia,by simp,?_⟩,?_⟩,⟨⟨1,by lia,by simp,?_⟩,?_⟩,⟨⟨0,by simp,?_⟩,?_⟩,rfl⟩
 ·rw[p1,p0];exact Sx.ext' (by show n=n-0;lia) rfl rfl
 ·rintro z ⟨f,b,h1,h2,e⟩
  simp only[List.length_singleton] at h2;obtain rfl:f=0:=by lia
  obtain rfl:b=1:=by lia
  rw[p1,p0] at e;exact le z (by rw[e];exact Sx.ext' (by show n-0=n;lia) rfl rfl)
 ·rw[p1];rfl
 ·rintro z ⟨b,h1,h2,e⟩
  simp only[List.length_singleton] at h2;obtain rfl:b=1:=by lia
  rw[p1] at e;exact le z e
 ·show _=(⟨psum [n] 1-psum [n] 0,0,1⟩:Sx)
  rw[p1,p0];exact Sx.ext' (by show n=n-0;lia) rfl rfl
 ·rintro z ⟨f,h1,e⟩
  simp only[List.length_singleton] at h1;obtain rfl:f=0:=by lia
  have e':z=⟨psum [n] 1-psum [n] 0,0,1⟩:=e;rw[p1,p0] at e';exact le z (by rw[e'];exact Sx.ext' (by show n-0=n;lia) rfl rfl)
theorem q50{a b:Kn}(ha:KnOk a xs)(hb:KnOk b ys):KnOk (joinK a b) (xs++ys):=by
 have hl:(xs++ys).length=xs.length+ys.length:=List.length_append;have pT:psum (xs++ys) (xs++ys).length=psum xs xs.length+psum ys ys.length:=by rw[hl,qg]
 have am:=ha.many;have bm:=hb.many;have at':=ha.total;have bt:=hb.total;have oh:Top (λz=>∃y,PH ys y/\z=qV y a.many) (qV b.head a.many):=hb.head.moved _;have ohf:∀z,(∃y,PH ys y/\z=qV y a.many)->z.f=(qV b.head a.many).f:=by
  rintro _ ⟨y,⟨c,_,_,rfl⟩,rfl⟩;obtain⟨c',_,_,e⟩:=hb.head.has;rw[e];rfl
 refine⟨?_,?_,?_,?_,?_,?_⟩
 ·show a.many+b.many=_;rw[am,bm,hl];lia
 ·show a.total+b.total=_;rw[at',bt,pT]
 ·show Top _ (q0P (q0P a.best (q02 a.tail (qV b.head a.many))) (qV b.best a.many))
  refine Top.or (Top.or ha.best (Top.side ha.tail oh ohf) (λz=>Iff.rfl)) (hb.best.moved a.many) λz=>?_;constructor
  ·rintro⟨f,c,h1,h2,rfl⟩
   rw[hl] at h2;by_cases hc:c<=xs.length
   ·refine .inl (.inl ⟨f,c,h1,hc,?_⟩)
    rw[qk hc,qk (by lia)]
   ·obtain⟨j,rfl⟩:∃j,c=xs.length+j:=⟨c-xs.length,by lia⟩
    by_cases hf:f < xs.length
    ·refine .inl (.inr ⟨_,_,⟨f,hf,rfl⟩,⟨_,⟨j,by lia,by lia,rfl⟩,rfl⟩,?_⟩)
     rw[qg,qk (by lia)];exact Sx.ext' (by simp only[q02,qV];lia) rfl (by simp only[q02,qV];lia)
    ·obtain⟨i,rfl⟩:∃i,f=xs.length+i:=⟨f-xs.length,by lia⟩
     refine .inr ⟨_,⟨i,j,by lia,by lia,rfl⟩,?_⟩;rw[qg,qg];exact Sx.ext' (by simp only[qV];lia) (by simp only[qV];lia) (by simp only[qV];lia)
  ·rintro((⟨f,c,h1,h2,rfl⟩|⟨_,_,⟨f,hf,rfl⟩,⟨_,⟨j,h1,h2,rfl⟩,rfl⟩,rfl⟩)|⟨_,⟨f,c,h1,h2,rfl⟩,rfl⟩)
   ·exact⟨f,c,h1,by lia,by rw[qk h2,qk (by lia)]⟩
   ·refine⟨f,xs.length+j,by lia,by lia,?_⟩
    rw[qg,qk (by lia)];exact Sx.ext' (by simp only[q02,qV];lia) rfl (by simp only[q02,qV];lia)
   ·refine⟨xs.length+f,xs.length+c,by lia,by lia,?_⟩
    rw[qg,qg];exact Sx.ext' (by simp only[qV];lia) (by simp only[qV];lia) (by simp only[qV];lia)
 ·show Top _ (q0P a.head (q02 ⟨a.total,0,a.many⟩ (qV b.head a.many)))
  refine Top.or ha.head (Top.side (Top.one _) oh ohf) λz=>?_;constructor
  ·rintro⟨c,h1,h2,rfl⟩
   by_cases hc:c<=xs.length
   ·exact .inl ⟨c,h1,hc,by rw[qk hc]⟩
   ·obtain⟨j,rfl⟩:∃j,c=xs.length+j:=⟨c-xs.length,by lia⟩
    refine .inr ⟨_,_,rfl,⟨_,⟨j,by lia,by lia,rfl⟩,rfl⟩,?_⟩;rw[qg];exact Sx.ext' (by simp only[q02,qV];lia) rfl (by simp only[q02,qV];lia)
  ·rintro(⟨c,h1,h2,rfl⟩|⟨_,_,rfl,⟨_,⟨j,h1,h2,rfl⟩,rfl⟩,rfl⟩)
   ·exact⟨c,h1,by lia,by rw[qk h2]⟩
   ·refine⟨xs.length+j,by lia,by lia,?_⟩
    rw[qg];exact Sx.ext' (by simp only[q02,qV];lia) rfl (by simp only[q02,qV];lia)
 ·show Top _ (q0P (q02 a.tail ⟨b.total,a.many,a.many+b.many⟩) (qV b.tail a.many))
  refine Top.or (Top.side ha.tail (Top.one _) (λz e=>by rw[e])) (hb.tail.moved a.many) λz=>?_;constructor
  ·rintro⟨f,h1,rfl⟩
   rw[hl] at h1;by_cases hf:f < xs.length
   ·refine .inl ⟨_,_,⟨f,hf,rfl⟩,rfl,?_⟩
    rw[pT,qk (by lia)];exact Sx.ext' (by simp only[q02];lia) rfl (by simp only[q02];lia)
   ·obtain⟨i,rfl⟩:∃i,f=xs.length+i:=⟨f-xs.length,by lia⟩
    refine .inr ⟨_,⟨i,by lia,rfl⟩,?_⟩;rw[pT,qg];exact Sx.ext' (by simp only[qV];lia) (by simp only[qV];lia) (by simp only[qV];lia)
  ·rintro(⟨_,_,⟨f,h1,rfl⟩,rfl,rfl⟩|⟨_,⟨f,h1,rfl⟩,rfl⟩)
   ·refine⟨f,by lia,?_⟩
    rw[pT,qk (by lia)];exact Sx.ext' (by simp only[q02];lia) rfl (by simp only[q02];lia)
   ·refine⟨xs.length+f,by lia,?_⟩
    rw[pT,qg];exact Sx.ext' (by simp only[qV];lia) (by simp only[qV];lia) (by simp only[qV];lia)
 ·show Top _ (q5s a b)
  have cross:Top (λz=>∃p q,(∃y,PT ys y/\p=qV y a.many)/\PH xs q/\z=q02 p q) (q02 (qV b.tail a.many) a.head):=Top.side (hb.tail.moved a.many) ha.head (by
   rintro _ ⟨c,_,_,rfl⟩;obtain⟨c',_,_,e⟩:=ha.head.has
   rw[e])
  have y1:Top (λz=>(∃p q,(∃y,PT ys y/\p=qV y a.many)/\PH xs q/\z=q02 p q)\/(∃y,PR xs y/\z=q0p y b.total)) (match a.round with|none=>q02 (qV b.tail a.many) a.head|some r=>q0P (q02 (qV b.tail a.many) a.head) (q0p r b.total)):=by
   have q:=ha.round
   cases e:a.round with
   | none=>
    rw[e] at q;simp only at q
    refine cross.iff λz=>⟨λh=>h.elim id ?_,.inl⟩
    rintro⟨_,⟨f,c,h1,h2,h3,_⟩,_⟩
    lia
   | some r=>
    rw[e] at q;exact Top.or cross (q.more b.total) λz=>Iff.rfl
  have y2:Top (λz=>((∃p q,(∃y,PT ys y/\p=qV y a.many)/\PH xs q/\z=q02 p q)\/(∃y,PR xs y/\z=q0p y b.total))\/(∃y,(∃x,PR ys x/\y=qV x a.many)/\z=q0p y a.total)) (q5s a b):=by
   have q:=hb.round;unfold q5s
   cases e:b.round with
   | none=>
    rw[e] at q;simp only at q
    refine y1.iff λz=>⟨λh=>h.elim id ?_,.inl⟩
    rintro⟨_,⟨_,⟨f,c,h1,h2,h3,_⟩,_⟩,_⟩
    lia
   | some r=>
    rw[e] at q;exact Top.or y1 ((q.moved a.many).more a.total) λz=>Iff.rfl
  refine y2.iff λz=>?_;constructor
  ·rintro⟨f,c,h1,h2,h3,rfl⟩
   rw[hl] at h3;by_cases hf:f < xs.length
   ·refine .inl (.inr ⟨_,⟨f,c,h1,h2,hf,rfl⟩,?_⟩)
    rw[pT,qk (by lia),qk (by lia)];exact Sx.ext' (by simp only[q0p];lia) rfl rfl
   ·obtain⟨i,rfl⟩:∃i,f=xs.length+i:=⟨f-xs.length,by lia⟩
    by_cases hc:c<=xs.length
    ·refine .inl (.inl ⟨_,_,⟨_,⟨i,by lia,rfl⟩,rfl⟩,⟨c,h1,hc,rfl⟩,?_⟩)
     rw[pT,qg,qk hc];exact Sx.ext' (by simp only[q02,qV];lia) (by simp only[q02,qV];lia) rfl
    ·obtain⟨j,rfl⟩:∃j,c=xs.length+j:=⟨c-xs.length,by lia⟩
     refine .inr ⟨_,⟨_,⟨i,j,by lia,by lia,by lia,rfl⟩,rfl⟩,?_⟩;rw[pT,qg,qg];exact Sx.ext' (by simp only[q0p,qV];lia) (by simp only[q0p,qV];lia) (by simp only[q0p,qV];lia)
  ·rintro((⟨_,_,⟨_,⟨i,h1,rfl⟩,rfl⟩,⟨c,h2,h3,rfl⟩,rfl⟩|⟨_,⟨f,c,h1,h2,h3,rfl⟩,rfl⟩)|⟨_,⟨_,⟨f,c,h1,h2,h3,rfl⟩,rfl⟩,rfl⟩)
   ·refine⟨xs.length+i,c,h2,by lia,by lia,?_⟩
    rw[pT,qg,qk h3];exact Sx.ext' (by simp only[q02,qV];lia) (by simp only[q02,qV];lia) rfl
   ·refine⟨f,c,h1,h2,by lia,?_⟩
    rw[pT,qk (by lia),qk (by lia)];exact Sx.ext' (by simp only[q0p];lia) rfl rfl
   ·refine⟨xs.length+f,xs.length+c,by lia,by lia,by lia,?_⟩
    rw[pT,qg,qg];exact Sx.ext' (by simp only[q0p,qV];lia) (by simp only[q0p,qV];lia) (by simp only[q0p,qV];lia)
noncomputable abbrev Tx(x:Sx):HO:=.tup [.int x.s,.int x.f,.int x.b]
noncomputable def IsRd(H:Hp)(v:V):Option Sx->Prop
 |none=>v = .non
 |some x=>∃p,v = .ref p/\H p=some (Tx x)
structure IsKn(H:Hp)(p:Addr)(a:Kn):Prop where
 ex:∃(pb ph pt:Addr) (vr:V),H p=some (.tup [.int a.many,.int a.total,.ref pb,.ref ph,.ref pt,vr])/\H pb=some (Tx a.best)/\H ph=some (Tx a.head)/\H pt=some (Tx a.tail)/\IsRd H vr a.round
theorem IsRd.keep{o:Option Sx}(h:IsRd H v o)(s:Same H H'):IsRd H' v o:=by
 cases o with
 |none=>exact h
 |some x=>obtain⟨p,e,hp⟩:=h;exact⟨p,e,s _ _ hp⟩
theorem IsKn.keep{H H':Hp}{p:Addr}{a:Kn}(h:IsKn H p a)(s:Same H H'):IsKn H' p a:=by
 obtain⟨pb,ph,pt,vr,h1,h2,h3,h4,h5⟩:=h.ex;exact⟨pb,ph,pt,vr,s _ _ h1,s _ _ h2,s _ _ h3,s _ _ h4,h5.keep s⟩
noncomputable def q71:Sp:=λvs H Q _=>∃(p:Addr) (x:Sx),vs=[.ref p]/\H p=some (Tx x)/\∀t,H t=none->Q (.ref t) (upd H t (.tup [.int (-x.s),.int x.f,.int x.b]))
theorem ok_order(F:Fun K "order_of" "order_of" q2u f fd)(Z:Blt mg):FnOk P w K mg base CX0 (k+1) f fd ["stretch"] q71:=by
 refine F.ok q6N (λvs H Q E h=>?_) (λcdv A outer s H vs Q E hr h=>?_)
 ·obtain⟨p,x,rfl,_⟩:=h
  rfl
 obtain⟨p,x,rfl,hp,fin⟩:=h
 w_up
 ·apply qC
  exact(qK (qf (pa_cons (q3m q1U (qM (qH (K:=K) rfl) (pv 0) qD (λ_ _=>rfl))) (pa_cons (qM (qH (K:=K) rfl) (pv 0) qD (λ_ _=>rfl)) (pa_cons (qM (qH (K:=K) rfl) (pv 0) qD (λ_ _=>rfl)) qA)))))
 lk;refine⟨_,_,_,_,rfl,rfl,SqT.of hp,rfl,?_⟩;lk;refine⟨_,_,_,_,rfl,rfl,SqT.of hp,rfl,?_⟩;lk;refine⟨_,_,_,_,rfl,rfl,SqT.of hp,rfl,?_⟩;exact⟨by show 3<=sizeLine;decide,λt ht=>fin t ht⟩
noncomputable def q2X:Sp:=λvs H Q _=>∃(p q:Addr) (x y:Sx),vs=[.ref p,.ref q]/\H p=some (Tx x)/\H q=some (Tx y)/\∀t H',Same H H'->H' t=some (Tx (q0P x y))->Q (.ref t) H'
theorem ok_better(F:Fun K "better_of" "better_of" q2L f fd)(Z:Blt mg)
  (yy:Def P w K mg base k "order_of" ["stretch"] q71):FnOk P w K mg base CX0 (k+2) f fd ["one","other"] q2X:=by
 refine F.ok q5Y (λvs H Q E h=>?_) (λcdv A outer s H vs Q E hr h=>?_)
 ·obtain⟨p,q,x,y,rfl,_⟩:=h
  rfl
 obtain⟨p,q,x,y,rfl,hp,hq,fin⟩:=h
 w_up
 ·apply qC
  exact(qK (pe_minK yy hr rfl Z.min_ rfl (pa_cons (pv 0) (pa_cons (pv 1) qA))))
 refine⟨_,rfl,_,rfl,_,_,rfl,⟨p,x,rfl,hp,λt1 h1=>⟨q,y,rfl,Same.new h1 _ _ _ hq,λt2 h2=>⟨t1,t2,[-x.s,x.f,x.b],[-y.s,y.f,y.b],rfl,rfl,SqT.of (Same.new h2 _ _ _ q0),SqT.of q0,?_⟩⟩⟩⟩;have sm:=(Same.new h1 (.tup [.int (-x.s),.int x.f,.int x.b])).trans (Same.new h2 (.tup [.int (-y.s),.int y.f,.int y.b]));have e:(if HT.lexLt [-y.s,y.f,y.b] [-x.s,x.f,x.b]=true then V.ref q else V.ref p)=V.ref (if HT.lexLt [-y.s,y.f,y.b] [-x.s,x.f,x.b]=true then q else p):=by split<;>rfl
 show Q (if HT.lexLt [-y.s,y.f,y.b] [-x.s,x.f,x.b]=true then V.ref q else V.ref p) _;rw[e];refine fin _ _ sm ?_;unfold q0P;split
 ·exact sm _ _ hq
 ·exact sm _ _ hp
noncomputable def q2S:Sp:=λvs H Q _=>∃(p:Addr) (m:Int) (x:Sx),vs=[.ref p,.int m]/\H p=some (Tx x)/\∀t H',Same H H'->H' t=some (Tx (qV x m))->Q (.ref t) H'
theorem ok_moved(F:Fun K "moved" "moved" q6R f fd)(Z:Blt mg):FnOk P w K mg base CX0 (k+1) f fd ["stretch","places"] q2S:=by
 refine F.ok sc_moved (λvs H Q E h=>?_) (λcdv A outer s H vs Q E hr h=>?_)
 ·obtain⟨p,m,x,rfl,_⟩:=h
  rfl
 obtain⟨p,m,x,rfl,hp,fin⟩:=h
 w_up
 ·apply qC
  exact(qK (qf (pa_cons (qM (qH (K:=K) rfl) (pv 0) qD (λ_ _=>rfl)) (pa_cons (qT qo (qM (qH (K:=K) rfl) (pv 0) qD (λ_ _=>rfl)) (pv 1)) (pa_cons (qT qo (qM (qH (K:=K) rfl) (pv 0) qD (λ_ _=>rfl)) (pv 1)) qA)))))
 lk;refine⟨_,_,_,_,rfl,rfl,SqT.of hp,rfl,?_⟩;lk;refine⟨_,_,_,_,rfl,rfl,SqT.of hp,rfl,?_⟩;lk;refine⟨_,_,_,_,rfl,rfl,SqT.of hp,rfl,?_⟩;lk;exact⟨by show 3<=sizeLine;decide,λt ht=>fin t _ (Same.new ht _) q0⟩
noncomputable def q6H:Sp:=λvs H Q _=>∃(p q:Addr) (x y:Sx),vs=[.ref p,.ref q]/\H p=some (Tx x)/\H q=some (Tx y)/\∀t H',Same H H'->H' t=some (Tx (q02 x y))->Q (.ref t) H'
theorem ok_side(F:Fun K "side_by_side" "side_by_side" q0z f fd)(Z:Blt mg):FnOk P w K mg base CX0 (k+1) f fd ["one","other"] q6H:=by
 refine F.ok q3e (λvs H Q E h=>?_) (λcdv A outer s H vs Q E hr h=>?_)
 ·obtain⟨p,q,x,y,rfl,_⟩:=h
  rfl
 obtain⟨p,q,x,y,rfl,hp,hq,fin⟩:=h
 w_up
 ·apply qC
  exact(qK (qf (pa_cons (qT qo (qM (qH (K:=K) rfl) (pv 0) qD (λ_ _=>rfl)) (qM (qH (K:=K) rfl) (pv 1) qD (λ_ _=>rfl))) (pa_cons (qM (qH (K:=K) rfl) (pv 0) qD (λ_ _=>rfl)) (pa_cons (qM (qH (K:=K) rfl) (pv 1) qD (λ_ _=>rfl)) qA)))))
 lk;refine⟨_,_,_,_,rfl,rfl,SqT.of hp,rfl,?_⟩;lk;refine⟨_,_,_,_,rfl,rfl,SqT.of hq,rfl,?_⟩;lk;refine⟨_,_,_,_,rfl,rfl,SqT.of hp,rfl,?_⟩;lk;refine⟨_,_,_,_,rfl,rfl,SqT.of hq,rfl,?_⟩;exact⟨by show 3<=sizeLine;decide,λt ht=>fin t _ (Same.new ht _) q0⟩
noncomputable def q5R:Sp:=λvs H Q _=>∃(p q:Addr) (a b:Kn),vs=[.ref p,.ref q]/\IsKn H p a/\IsKn H q b/\∀t H',Same H H'->H' t=some (Tx (q5s a b))->Q (.ref t) H'
theorem ok_jround(F:Fun K "joined_round" "joined_round" q12 f fd)(Z:Blt mg)(CC:Cons mg)
  (yA:Def P w K mg base k "better_of" ["one","other"] q2X)(y8:Def P w K mg base k "moved" ["stretch","places"] q2S)(yR:Def P w K mg base k "side_by_side" ["one","other"] q6H):FnOk P w K mg base CX0 (k+1) f fd ["one","other"] q5R:=by
 refine F.ok sc_joined_round (λvs H Q E h=>?_) (λcdv A outer s H vs Q E hr h=>?_)
 ·obtain⟨p,q,x,y,rfl,_⟩:=h
  rfl
 obtain⟨p,q,a,b,rfl,⟨pb,ph,pt,vr,ap,apb,aph,apt,ard⟩,⟨qb,qh,qt,wr,bp,bpb,bph,bpt,brd⟩,fin⟩:=h
 w_up
 ·apply qB
  exact(ps_set (i:=2) sc_joined_round.nd rfl (by k_ne) (qI yR hr rfl (pa_cons (qI y8 hr rfl (pa_cons (qM (qH (K:=K) rfl) (pv 1) (qS (n:=4) rfl CC.TAIL) (λ_ _=>rfl)) (pa_cons (qM (qH (K:=K) rfl) (pv 0) (qS (n:=0) rfl CC.MANY) (λ_ _=>rfl)) qA))) (pa_cons (qM (qH (K:=K) rfl) (pv 0) (qS (n:=3) rfl CC.HEAD) (λ_ _=>rfl)) qA))));apply qB
  ·apply qY
   exact(qL q6Z (qM (qH (K:=K) rfl) (pv 0) (qS (n:=5) rfl CC.ROUND) (λ_ _=>rfl)) qu (qU _))
   ·apply qB
    exact(ps_set (i:=3) sc_joined_round.nd rfl (by k_ne) (qM (qH (K:=K) rfl) (pv 0) (qS (n:=5) rfl CC.ROUND) (λ_ _=>rfl)));apply qC;exact(ps_set (i:=2) sc_joined_round.nd rfl (by k_ne) (qI yA hr rfl (pa_cons (pv 2) (pa_cons (qf (pa_cons (qT qo (qM (qH (K:=K) rfl) (pv 3) qD (λ_ _=>rfl)) (qM (qH (K:=K) rfl) (pv 1) (qS (n:=1) rfl CC.TOTAL) (λ_ _=>rfl))) (pa_cons (qM (qH (K:=K) rfl) (pv 3) qD (λ_ _=>rfl)) (pa_cons (qM (qH (K:=K) rfl) (pv 3) qD (λ_ _=>rfl)) qA)))) qA))))
   exact qO
  apply qB
  ·apply qY
   exact(qL q6Z (qM (qH (K:=K) rfl) (pv 1) (qS (n:=5) rfl CC.ROUND) (λ_ _=>rfl)) qu (qU _))
   ·apply qB
    exact(ps_set (i:=3) sc_joined_round.nd rfl (by k_ne) (qI y8 hr rfl (pa_cons (qM (qH (K:=K) rfl) (pv 1) (qS (n:=5) rfl CC.ROUND) (λ_ _=>rfl)) (pa_cons (qM (qH (K:=K) rfl) (pv 0) (qS (n:=0) rfl CC.MANY) (λ_ _=>rfl)) qA))));apply qC;exact(ps_set (i:=2) sc_joined_round.nd rfl (by k_ne) (qI yA hr rfl (pa_cons (pv 2) (pa_cons (qf (pa_cons (qT qo (qM (qH (K:=K) rfl) (pv 3) qD (λ_ _=>rfl)) (qM (qH (K:=K) rfl) (pv 0) (qS (n:=1) rfl CC.TOTAL) (λ_ _=>rfl))) (pa_cons (qM (qH (K:=K) rfl) (pv 3) qD (λ_ _=>rfl)) (pa_cons (qM (qH (K:=K) rfl) (pv 3) qD (λ_ _=>rfl)) qA)))) qA))))
   exact qO
  apply qC;exact(qK (pv 2))
 lk;refine⟨_,_,_,_,rfl,rfl,SqT.of bp,rfl,?_⟩;lk;refine⟨_,_,_,_,rfl,rfl,SqT.of ap,rfl,?_⟩;refine⟨qt,_,b.tail,rfl,bpt,λt1 H1 s1 ht1=>?_⟩;lk;refine⟨_,_,_,_,rfl,rfl,SqT.of (s1 _ _ ap),rfl,?_⟩;refine⟨t1,ph,_,a.head,rfl,ht1,s1 _ _ aph,λt2 H2 s2 ht2=>?_⟩;have s12:=s1.trans s2;dsimp only[gName];refine seqU (λσ' H'=>∃t o,Same H H'/\H' t=some (Tx (match a.round with|none=>q02 (qV b.tail a.many) a.head|some r=>q0P (q02 (qV b.tail a.many) a.head) (q0p r b.total)))/\σ'=[some (.ref p),some (.ref q),some (.ref t),o]) ?_ (λR hR=>?_)
 case refine_2=>
  lk;refine⟨_,_,_,_,rfl,rfl,SqT.of (s12 _ _ ap),rfl,?_⟩;lk
  cases e:a.round with
  | none=>
   rw[e] at ard hR;obtain rfl:vr = .non:=ard;refine iteF ?_;exact hR _ _ ⟨t2,none,s12,ht2,rfl⟩
  | some r=>
   rw[e] at ard hR;obtain⟨rp,rfl,hrp⟩:=ard;refine iteT ?_;lk;refine⟨_,_,_,_,rfl,rfl,SqT.of (s12 _ _ ap),rfl,?_⟩;lk;refine⟨_,_,_,_,rfl,rfl,SqT.of (s12 _ _ hrp),rfl,?_⟩;lk;refine⟨_,_,_,_,rfl,rfl,SqT.of (s12 _ _ bp),rfl,?_⟩;lk;refine⟨_,_,_,_,rfl,rfl,SqT.of (s12 _ _ hrp),rfl,?_⟩;lk;refine⟨_,_,_,_,rfl,rfl,SqT.of (s12 _ _ hrp),rfl,?_⟩;refine⟨by show 3<=sizeLine;decide,λt3 h3=>?_⟩;have s3:=Same.new h3 (Tx (q0p r b.total));refine⟨t2,t3,_,q0p r b.total,rfl,s3 _ _ ht2,q0,λt4 H4 s4 ht4=>?_⟩;exact hR _ _ ⟨t4,_,s12.trans (s3.trans s4),ht4,rfl⟩
 rintro _ H3 ⟨t,o,s3,ht,rfl⟩;refine seqU (λσ' H'=>∃t o,Same H H'/\H' t=some (Tx (q5s a b))/\σ'=[some (.ref p),some (.ref q),some (.ref t),o]) ?_ (λR hR=>?_)
 case refine_2=>
  lk;refine⟨_,_,_,_,rfl,rfl,SqT.of (s3 _ _ bp),rfl,?_⟩;lk
  cases e:b.round with
  | none=>
   rw[e] at brd;obtain rfl:wr = .non:=brd;refine iteF ?_;refine hR _ _ ⟨t,o,s3,?_,rfl⟩;unfold q5s;rw[e];exact ht
  | some r=>
   rw[e] at brd;obtain⟨rp,rfl,hrp⟩:=brd;refine iteT ?_;lk;refine⟨_,_,_,_,rfl,rfl,SqT.of (s3 _ _ bp),rfl,?_⟩;lk;refine⟨_,_,_,_,rfl,rfl,SqT.of (s3 _ _ ap),rfl,?_⟩;refine⟨rp,_,r,rfl,s3 _ _ hrp,λt4 H4 s4 ht4=>?_⟩;have s34:=s3.trans s4;lk;refine⟨_,_,_,_,rfl,rfl,SqT.of ht4,rfl,?_⟩;lk;refine⟨_,_,_,_,rfl,rfl,SqT.of (s34 _ _ ap),rfl,?_⟩;lk;refine⟨_,_,_,_,rfl,rfl,SqT.of ht4,rfl,?_⟩;lk;refine⟨_,_,_,_,rfl,rfl,SqT.of ht4,rfl,?_⟩;refine⟨by show 3<=sizeLine;decide,λt5 h5=>?_⟩;have s5:=Same.new h5 (Tx (q0p (qV r a.many) a.total));refine⟨t,t5,_,q0p (qV r a.many) a.total,rfl,s5 _ _ (s4 _ _ ht),q0,λt6 H6 s6 ht6=>?_⟩;refine hR _ _ ⟨t6,_,s34.trans (s5.trans s6),?_,rfl⟩;unfold q5s;rw[e];exact ht6
 rintro _ H4 ⟨t',o',s4,ht',rfl⟩;lk;exact fin _ _ s4 ht'
noncomputable def q2V:Sp:=λvs H Q _=>∃(p q:Addr) (a b:Kn),vs=[.ref p,.ref q]/\IsKn H p a/\IsKn H q b/\∀t H',Same H H'->IsKn H' t (joinK a b)->Q (.ref t) H'
theorem ok_joined(F:Fun K "joined" "joined" q4s f fd)(Z:Blt mg)(CC:Cons mg)
  (yA:Def P w K mg base k "better_of" ["one","other"] q2X)(y8:Def P w K mg base k "moved" ["stretch","places"] q2S)(yR:Def P w K mg base k "side_by_side" ["one","other"] q6H)
  (yz:Def P w K mg base k "joined_round" ["one","other"] q5R):FnOk P w K mg base CX0 (k+1) f fd ["one","other"] q2V:=by
 refine F.ok sc_joined (λvs H Q E h=>?_) (λcdv A outer s H vs Q E hr h=>?_)
 ·obtain⟨p,q,x,y,rfl,_⟩:=h
  rfl
 obtain⟨p,q,a,b,rfl,⟨pb,ph,pt,vr,ap,apb,aph,apt,ard⟩,⟨qb,qh,qt,wr,bp,bpb,bph,bpt,brd⟩,fin⟩:=h
 w_up
 ·apply qB
  exact(ps_set (i:=2) sc_joined.nd rfl (by k_ne) (qT qo (qM (qH (K:=K) rfl) (pv 0) (qS (n:=0) rfl CC.MANY) (λ_ _=>rfl)) (qM (qH (K:=K) rfl) (pv 1) (qS (n:=0) rfl CC.MANY) (λ_ _=>rfl))));apply qB;exact(ps_set (i:=3) sc_joined.nd rfl (by k_ne) (qf (pa_cons (qM (qH (K:=K) rfl) (pv 0) (qS (n:=1) rfl CC.TOTAL) (λ_ _=>rfl)) (pa_cons qD (pa_cons (qM (qH (K:=K) rfl) (pv 0) (qS (n:=0) rfl CC.MANY) (λ_ _=>rfl)) qA)))));apply qB;exact(ps_set (i:=4) sc_joined.nd rfl (by k_ne) (qf (pa_cons (qM (qH (K:=K) rfl) (pv 1) (qS (n:=1) rfl CC.TOTAL) (λ_ _=>rfl)) (pa_cons (qM (qH (K:=K) rfl) (pv 0) (qS (n:=0) rfl CC.MANY) (λ_ _=>rfl)) (pa_cons (pv 2) qA)))));apply qB;exact(ps_set (i:=5) sc_joined.nd rfl (by k_ne) (qI y8 hr rfl (pa_cons (qM (qH (K:=K) rfl) (pv 1) (qS (n:=3) rfl CC.HEAD) (λ_ _=>rfl)) (pa_cons (qM (qH (K:=K) rfl) (pv 0) (qS (n:=0) rfl CC.MANY) (λ_ _=>rfl)) qA))));apply qB;exact(ps_set (i:=6) sc_joined.nd rfl (by k_ne) (qI yR hr rfl (pa_cons (qM (qH (K:=K) rfl) (pv 0) (qS (n:=4) rfl CC.TAIL) (λ_ _=>rfl)) (pa_cons (pv 5) qA))));apply qC;exact(qK (qf (pa_cons (pv 2) (pa_cons (qT qo (qM (qH (K:=K) rfl) (pv 0) (qS (n:=1) rfl CC.TOTAL) (λ_ _=>rfl)) (qM (qH (K:=K) rfl) (pv 1) (qS (n:=1) rfl CC.TOTAL) (λ_ _=>rfl))) (pa_cons (qI yA hr rfl (pa_cons (qI yA hr rfl (pa_cons (qM (qH (K:=K) rfl) (pv 0) (qS (n:=2) rfl CC.BEST) (λ_ _=>rfl)) (pa_cons (pv 6) qA))) (pa_cons (qI y8 hr rfl (pa_cons (qM (qH (K:=K) rfl) (pv 1) (qS (n:=2) rfl CC.BEST) (λ_ _=>rfl)) (pa_cons (qM (qH (K:=K) rfl) (pv 0) (qS (n:=0) rfl CC.MANY) (λ_ _=>rfl)) qA))) qA))) (pa_cons (qI yA hr rfl (pa_cons (qM (qH (K:=K) rfl) (pv 0) (qS (n:=3) rfl CC.HEAD) (λ_ _=>rfl)) (pa_cons (qI yR hr rfl (pa_cons (pv 3) (pa_cons (pv 5) qA))) qA))) (pa_cons (qI yA hr rfl (pa_cons (qI yR hr rfl (pa_cons (qM (qH (K:=K) rfl) (pv 0) (qS (n:=4) rfl CC.TAIL) (λ_ _=>rfl)) (pa_cons (pv 4) qA))) (pa_cons (qI y8 hr rfl (pa_cons (qM (qH (K:=K) rfl) (pv 1) (qS (n:=4) rfl CC.TAIL) (λ_ _=>rfl)) (pa_cons (qM (qH (K:=K) rfl) (pv 0) (qS (n:=0) rfl CC.MANY) (λ_ _=>rfl)) qA))) qA))) (pa_cons (qI yz hr rfl (pa_cons (pv 0) (pa_cons (pv 1) qA))) qA))))))))
 lk;refine⟨_,_,_,_,rfl,rfl,SqT.of ap,rfl,?_⟩;lk;refine⟨_,_,_,_,rfl,rfl,SqT.of bp,rfl,?_⟩;lk;refine⟨_,_,_,_,rfl,rfl,SqT.of ap,rfl,?_⟩;lk;refine⟨_,_,_,_,rfl,rfl,SqT.of ap,rfl,?_⟩;refine⟨by show 3<=sizeLine;decide,λt1 h1=>?_⟩;have s1:=Same.new h1 (Tx ⟨a.total,0,a.many⟩);have ht1:upd H t1 (Tx ⟨a.total,0,a.many⟩) t1=some (Tx ⟨a.total,0,a.many⟩):=q0
 obtain⟨H1,eH1⟩:∃z,z=upd H t1 (Tx ⟨a.total,0,a.many⟩):=⟨_,rfl⟩
 rw[<-eH1] at s1 ht1;lk;rw[<-eH1];refine⟨_,_,_,_,rfl,rfl,SqT.of (s1 _ _ bp),rfl,?_⟩;lk;refine⟨_,_,_,_,rfl,rfl,SqT.of (s1 _ _ ap),rfl,?_⟩;lk;refine⟨by show 3<=sizeLine;decide,λt2 h2=>?_⟩;have s2:=s1.trans (Same.new h2 (Tx ⟨b.total,a.many,a.many+b.many⟩));have ht1':=Same.new h2 (Tx ⟨b.total,a.many,a.many+b.many⟩) _ _ ht1;have ht2:upd H1 t2 (Tx ⟨b.total,a.many,a.many+b.many⟩) t2=some (Tx ⟨b.total,a.many,a.many+b.many⟩):=q0
 obtain⟨H2,eH2⟩:∃z,z=upd H1 t2 (Tx ⟨b.total,a.many,a.many+b.many⟩):=⟨_,rfl⟩
 rw[<-eH2] at s2 ht2 ht1';lk;rw[<-eH2];refine⟨_,_,_,_,rfl,rfl,SqT.of (s2 _ _ bp),rfl,?_⟩;lk;refine⟨_,_,_,_,rfl,rfl,SqT.of (s2 _ _ ap),rfl,?_⟩;refine⟨qh,_,b.head,rfl,s2 _ _ bph,λt3 H3 s3 ht3=>?_⟩;lk;refine⟨_,_,_,_,rfl,rfl,SqT.of ((s2.trans s3) _ _ ap),rfl,?_⟩;lk;refine⟨pt,t3,a.tail,_,rfl,(s2.trans s3) _ _ apt,ht3,λt4 H4 s4 ht4=>?_⟩;have s04:=s2.trans (s3.trans s4);lk;refine⟨_,_,_,_,rfl,rfl,SqT.of (s04 _ _ ap),rfl,?_⟩;lk;refine⟨_,_,_,_,rfl,rfl,SqT.of (s04 _ _ bp),rfl,?_⟩;lk;refine⟨_,_,_,_,rfl,rfl,SqT.of (s04 _ _ ap),rfl,?_⟩;lk;refine⟨pb,t4,a.best,_,rfl,s04 _ _ apb,ht4,λt5 H5 s5 ht5=>?_⟩;have s05:=s04.trans s5;lk;refine⟨_,_,_,_,rfl,rfl,SqT.of (s05 _ _ bp),rfl,?_⟩;lk;refine⟨_,_,_,_,rfl,rfl,SqT.of (s05 _ _ ap),rfl,?_⟩;refine⟨qb,_,b.best,rfl,s05 _ _ bpb,λt6 H6 s6 ht6=>?_⟩;refine⟨t5,t6,_,_,rfl,s6 _ _ ht5,ht6,λt7 H7 s7 ht7=>?_⟩;have s07:=s05.trans (s6.trans s7);lk;refine⟨_,_,_,_,rfl,rfl,SqT.of (s07 _ _ ap),rfl,?_⟩;lk;have s27:=s3.trans (s4.trans (s5.trans (s6.trans s7)));refine⟨t1,t3,_,_,rfl,s27 _ _ ht1',(s4.trans (s5.trans (s6.trans s7))) _ _ ht3,λt8 H8 s8 ht8=>?_⟩;refine⟨ph,t8,a.head,_,rfl,s8 _ _ (s07 _ _ aph),ht8,λt9 H9 s9 ht9=>?_⟩;have s09:=s07.trans (s8.trans s9);lk;refine⟨_,_,_,_,rfl,rfl,SqT.of (s09 _ _ ap),rfl,?_⟩;lk;refine⟨pt,t2,a.tail,_,rfl,s09 _ _ apt,(s27.trans (s8.trans s9)) _ _ ht2,λt10 H10 s10 ht10=>?_⟩;have s010:=s09.trans s10;lk;refine⟨_,_,_,_,rfl,rfl,SqT.of (s010 _ _ bp),rfl,?_⟩;lk;refine⟨_,_,_,_,rfl,rfl,SqT.of (s010 _ _ ap),rfl,?_⟩;refine⟨qt,_,b.tail,rfl,s010 _ _ bpt,λt11 H11 s11 ht11=>?_⟩;refine⟨t10,t11,_,_,rfl,s11 _ _ ht10,ht11,λt12 H12 s12 ht12=>?_⟩;have s012:=s010.trans (s11.trans s12);lk;refine⟨p,q,a,b,rfl,(IsKn.mk ⟨pb,ph,pt,vr,ap,apb,aph,apt,ard⟩).keep s012,(IsKn.mk ⟨qb,qh,qt,wr,bp,bpb,bph,bpt,brd⟩).keep s012,λt13 H13 s13 ht13=>?_⟩;refine⟨by show 6<=sizeLine;decide,λt14 h14=>?_⟩;have s14:=Same.new h14 (.tup [.int (a.many+b.many),.int (a.total+b.total),.ref t7,.ref t9,.ref t12,.ref t13]);have sA:=s8.trans (s9.trans (s10.trans (s11.trans (s12.trans (s13.trans s14)))));have sB:=s10.trans (s11.trans (s12.trans (s13.trans s14)));refine fin t14 _ (s012.trans (s13.trans s14)) ⟨t7,t9,t12,.ref t13,q0,sA _ _ ht7,sB _ _ ht9,(s13.trans s14) _ _ ht12,t13,rfl,s14 _ _ ht13⟩
inductive IsKept (H:Hp):Nat->Addr->List Int->Prop
 |leaf {d:Nat} {p kp:Addr} {n:Int} (h:H p=some (.tup [.ref kp,.non,.non])) (hk:IsKn H kp (oneK n)):IsKept H (d+1) p [n]
 |node {d:Nat} {p kp l r:Addr} {xs ys:List Int} {a:Kn} (h:H p=some (.tup [.ref kp,.ref l,.ref r])) (hk:IsKn H kp a) (ok:KnOk a (xs++ys)) (hl:IsKept H d l xs) (hr:IsKept H d r ys) (hm:xs.length=(xs.length+ys.length)/2):IsKept H (d+1) p (xs++ys)
theorem IsKept.keep{H H':Hp}{d:Nat}{p:Addr}{ns:List Int}(h:IsKept H d p ns)(s:Same H H'):IsKept H' d p ns:=by
 induction h with
 |leaf h hk=>exact .leaf (s _ _ h) (hk.keep s)
 |node h hk ok _ _ hm ihl ihr=>exact .node (s _ _ h) (hk.keep s) ok ihl ihr hm
theorem IsKept.known{d:Nat}{p:Addr}(h:IsKept H d p ns):∃(kp:Addr) (a:Kn) (x y:V),H p=some (.tup [.ref kp,x,y])/\IsKn H kp a/\KnOk a ns:=by
 cases h with
 |leaf h hk=>exact⟨_,_,_,_,h,hk,one_ok _⟩
 |node h hk ok _ _ _=>exact⟨_,_,_,_,h,hk,ok⟩
noncomputable def q1W:Sp:=λvs H Q _=>∃n:Int,vs=[.int n]/\∀t H' ,Same H H'->(∀d,IsKept H' (d+1) t [n])->Q (.ref t) H'
theorem ok_single(F:Fun K "single" "single" q4q f fd)(Z:Blt mg):FnOk P w K mg base CX0 (k+1) f fd ["number"] q1W:=by
 refine F.ok sc_single (λvs H Q E h=>?_) (λcdv A outer s H vs Q E hr h=>?_)
 ·obtain⟨n,rfl,_⟩:=h
  rfl
 obtain⟨n,rfl,fin⟩:=h
 w_up
 ·apply qB
  exact(ps_set (i:=1) sc_single.nd rfl (by k_ne) (qf (pa_cons (pv 0) (pa_cons qD (pa_cons qD qA)))));apply qC;exact(qK (qf (pa_cons (qf (pa_cons qD (pa_cons (pv 0) (pa_cons (pv 1) (pa_cons (pv 1) (pa_cons (pv 1) (pa_cons qu qA))))))) (pa_cons qu (pa_cons qu qA)))))
 lk;refine⟨by show 3<=sizeLine;decide,λt1 h1=>?_⟩;have s1:=Same.new h1 (Tx ⟨n,0,1⟩);lk;refine⟨by show 6<=sizeLine;decide,λt2 h2=>?_⟩;have s2:=Same.new h2 (.tup [.int 1,.int n,.ref t1,.ref t1,.ref t1,.non]);lk;refine⟨by show 3<=sizeLine;decide,λt3 h3=>?_⟩;have s3:=Same.new h3 (.tup [.ref t2,.non,.non]);have e1:=(s2.trans s3) _ _ (q0 (H:=H) (a:=t1) (o:=Tx ⟨n,0,1⟩));exact fin t3 _ (s1.trans (s2.trans s3)) λd=>.leaf q0 ⟨t1,t1,t1,.non,s3 _ _ q0,e1,e1,e1,rfl⟩
noncomputable def q1X:Sp:=λvs H Q _=>∃(p q:Addr) (kp kq:Addr) (a b:Kn) (x y x' y':V),vs=[.ref p,.ref q]/\H p=some (.tup [.ref kp,x,y])/\H q=some (.tup [.ref kq,x',y'])/\IsKn H kp a/\IsKn H kq b/\
 ∀t kt H',Same H H'->H' t=some (.tup [.ref kt,.ref p,.ref q])->IsKn H' kt (joinK a b)->Q (.ref t) H'
theorem ok_paired(F:Fun K "paired" "paired" q4r f fd)(Z:Blt mg)(CC:Cons mg)
  (yN:Def P w K mg base k "joined" ["one","other"] q2V):FnOk P w K mg base CX0 (k+1) f fd ["left","right"] q1X:=by
 refine F.ok sc_paired (λvs H Q E h=>?_) (λcdv A outer s H vs Q E hr h=>?_)
 ·obtain⟨p,q,_,_,_,_,_,_,_,_,rfl,_⟩:=h
  rfl
 obtain⟨p,q,kp,kq,a,b,x,y,x',y',rfl,hp,hq,ha,hb,fin⟩:=h
 w_up
 ·apply qC
  exact(qK (qf (pa_cons (qI yN hr rfl (pa_cons (qM (qH (K:=K) rfl) (pv 0) (qS (n:=0) rfl CC.KNOWN) (λ_ _=>rfl)) (pa_cons (qM (qH (K:=K) rfl) (pv 1) (qS (n:=0) rfl CC.KNOWN) (λ_ _=>rfl)) qA))) (pa_cons (pv 0) (pa_cons (pv 1) qA)))))
 lk;refine⟨_,_,_,_,rfl,rfl,SqT.of hp,rfl,?_⟩;lk;refine⟨_,_,_,_,rfl,rfl,SqT.of hq,rfl,?_⟩;refine⟨kp,kq,a,b,rfl,ha,hb,λkt H1 s1 hk1=>?_⟩;lk;refine⟨by show 3<=sizeLine;decide,λt h1=>?_⟩;have s2:=Same.new h1 (.tup [.ref kt,.ref p,.ref q]);exact fin t kt _ (s1.trans s2) q0 (hk1.keep s2)
theorem q7a{f m b:Int}(h0:0<=f)(h1:f<=m)(h2:m<=b):cutI ns f m++cutI ns m b=cutI ns f b:=by
 unfold cutI;have e1:b.toNat-f.toNat=(m.toNat-f.toNat)+(b.toNat-m.toNat):=by lia
 have e2:m.toNat=f.toNat+(m.toNat-f.toNat):=by lia
 rw[e1,List.take_add,List.drop_drop];rw[<-e2]
theorem q59{f b:Int}(h0:0<=f)(h1:f<=b)(h2:b<=(ns.length:Int)):((cutI ns f b).length:Int)=b-f:=by
 unfold cutI;rw[List.length_take,List.length_drop]
 lia
theorem cut_one{f b:Int}(h0:0<=f)(h1:b=f+1)(h2:b<=(ns.length:Int)):cutI ns f b=[ns.getD f.toNat 0]:=by
 unfold cutI;have e:b.toNat-f.toNat=1:=by lia
 have hl:f.toNat < ns.length:=by lia
 rw[e,List.drop_eq_getElem_cons hl,List.take_succ_cons,List.take_zero,List.getD_eq_getElem?_getD,List.getElem?_eq_getElem hl];rfl
theorem q2m:cutI ns 0 (ns.length:Int)=ns:=by
 unfold cutI;simp
noncomputable def q16(d:Nat):Sp:=λvs H Q _=>∃(r:Addr) (f b:Int) (ns:List Int),vs=[.ref r,.int f,.int b]/\H r=some (.lst (ns.map V.int))/\0<=f/\f < b/\b<=(ns.length:Int)/\ns.length<=100000/\2*(b-f)<=(2:Int) ^ d/\
 ∀t H',Same H H'->IsKept H' d t (cutI ns f b)->Q (.ref t) H'
theorem q6g{ps:List Str}:FnOk P w K mg base CX0 k f fd ps (q16 0):=by
 have no:∀vs H Q E,¬q16 0 vs H Q E:=λvs H Q E h=>by
  obtain⟨r,f,b,ns,_,_,h0,h1,h2,_,h3,_⟩:=h;have:(2:Int) ^ 0=1:=rfl
  lia
 exact⟨λvs H Q E h=>absurd h (no vs H Q E),λA outer s H args us vs Q E _ _ _ _ h=>absurd h (no vs H Q E)⟩
theorem ok_halved{d:Nat}(F:Fun K "halved" "halved" q3M f fd)(Z:Blt mg)
  (yC:Def P w K mg base k "single" ["number"] q1W)(yB:Def P w K mg base k "paired" ["left","right"] q1X)(yV:Def P w K mg base k "halved" ["row","first","beyond"] (q16 d)):FnOk P w K mg base CX0 (k+1) f fd ["row","first","beyond"] (q16 (d+1)):=by
 refine F.ok sc_halved (λvs H Q E h=>?_) (λcdv A outer s H vs Q E hr h=>?_)
 ·obtain⟨r,f,b,ns,rfl,_⟩:=h
  rfl
 obtain⟨r,f,b,ns,rfl,hR,h0,h1,h2,hz,hd,fin⟩:=h
 w_up
 ·apply qB
  ·apply qY
   exact(qL q0X (qT q0Q (pv 2) (pv 1)) qD (qU _))
   ·apply qC
    exact(qK (qI yC hr rfl (pa_cons (qM (qR (K:=K) rfl) (pv 0) (pv 1) (λ_ _=>rfl)) qA)))
   exact qO
  apply qB;exact(ps_set (i:=3) sc_halved.nd rfl (by k_ne) (qT q1L (qT qo (pv 1) (pv 2)) qD));apply qC;exact(qK (qI yB hr rfl (pa_cons (qI yV hr rfl (pa_cons (pv 0) (pa_cons (pv 1) (pa_cons (pv 3) qA)))) (pa_cons (qI yV hr rfl (pa_cons (pv 0) (pa_cons (pv 3) (pa_cons (pv 2) qA)))) qA))))
 lk;refine ifI (λhe=>?_) (λhne=>?_)
 ·lk
  refine⟨_,_,_,_,rfl,rfl,SqL.of hR,q4Y h0 (by lia),?_⟩;refine⟨_,rfl,λt H1 s1 hk=>?_⟩;refine fin t H1 s1 ?_;rw[cut_one h0 (by lia) h2];exact hk d
 ·have e2:(2:Int) ^ (d+1)=2*2 ^ d:=by rw[Int.pow_succ];lia
  rw[e2] at hd;have hd2:2*((b-f)/2)<=(2:Int) ^ d/\2*((b-f+1)/2)<=(2:Int) ^ d:=by
   cases d with
   | zero=>
    have:(2:Int) ^ 0=1:=rfl
    lia
   | succ d=>
    have e3:(2:Int) ^ (d+1)=2*2 ^ d:=by rw[Int.pow_succ];lia
    rw[e3] at hd ⊢
    lia
  lk;refine⟨r,f,_,ns,rfl,hR,h0,by lia,by lia,hz,by lia,λt1 H1 s1 hk1=>?_⟩;lk;refine⟨r,_,b,ns,rfl,s1 _ _ hR,by lia,by lia,by lia,hz,by lia,λt2 H2 s2 hk2=>?_⟩;obtain⟨kp,a,x,y,e1,ka,oka⟩:=(hk1.keep s2).known;obtain⟨kq,a',x',y',e2,kb,okb⟩:=hk2.known;refine⟨t1,t2,kp,kq,a,a',x,y,x',y',rfl,e1,e2,ka,kb,λt kt H3 s3 h3 hk3=>?_⟩;refine fin t H3 (s1.trans (s2.trans s3)) ?_;have hm:(f+b)/2=f+(b-f)/2:=by lia
  rw[<-q7a (m:=(f+b)/2) h0 (by lia) (by lia)];have l1:=q59 (ns:=ns) (f:=f) (b:=(f+b)/2) h0 (by lia) (by lia);have l2:=q59 (ns:=ns) (f:=(f+b)/2) (b:=b) (by lia) (by lia) h2;exact .node h3 hk3 (q50 oka okb) ((hk1.keep s2).keep s3) (hk2.keep s3) (by lia)
theorem q4M{k:Nat}{f:Addr}{fd:FuncData}(F:Fun K "halved" "halved" q3M f fd)(Z:Blt mg)(b:Binds K fd ["row","first","beyond"] [])(kp:keepIn K (.ref f)=true)(m:mg "halved" = some (.ref f))
  (yC:Def P w K mg base k "single" ["number"] q1W)(yB:Def P w K mg base k "paired" ["left","right"] q1X):∀d,FnOk P w K mg base CX0 (k+d) f fd ["row","first","beyond"] (q16 d)
 |0=>q6g
 |d+1=>ok_halved F Z (yC.mono (Nat.le_add_right _ _)) (yB.mono (Nat.le_add_right _ _)) ⟨f,fd,q4M F Z b kp m yC yB d,b,kp,m⟩
noncomputable def sp_kept:Sp:=λvs H Q _=>∃(r:Addr) (ns:List Int),vs=[.ref r]/\H r=some (.lst (ns.map V.int))/\1<=ns.length/\ns.length<=4000/\∀t H',Same H H'->IsKept H' 13 t ns->Q (.ref t) H'
theorem ok_kept(F:Fun K "kept" "kept" s_kept f fd)(Z:Blt mg)
  (yV:Def P w K mg base k "halved" ["row","first","beyond"] (q16 13)):FnOk P w K mg base CX0 (k+1) f fd ["row"] sp_kept:=by
 refine F.ok sc_kept (λvs H Q E h=>?_) (λcdv A outer s H vs Q E hr h=>?_)
 ·obtain⟨r,ns,rfl,_⟩:=h
  rfl
 obtain⟨r,ns,rfl,hR,h1,h2,fin⟩:=h
 w_up
 ·apply qC
  exact(qK (qI yV hr rfl (pa_cons (pv 0) (pa_cons qD (pa_cons (qP (qQ (K:=K) rfl) rfl Z.len_ PySem.boot_len (pa_cons (pv 0) qA)) qA)))))
 have hl:(ns.map V.int).length=ns.length:=List.length_map _;lk;refine⟨r,_,rfl,.inl (SqL.of hR),?_⟩;refine⟨r,0,_,ns,rfl,hR,by decide,by lia,by lia,by lia,?_,λt H1 s1 hk=>?_⟩
 ·have:(2:Int) ^ 13=8192:=rfl
  lia
 ·rw[hl,q2m] at hk
  exact fin t H1 s1 hk
noncomputable def q0G:Sp:=λvs H Q _=>∃(d:Nat) (p:Addr) (ns:List Int),vs=[.ref p]/\IsKept H d p ns/\Q (.int ns.length) H
theorem ok_many(F:Fun K "many_of" "many_of" q3g f fd)(Z:Blt mg)(CC:Cons mg):FnOk P w K mg base CX0 (k+1) f fd ["held"] q0G:=by
 refine F.ok q7q (λvs H Q E h=>?_) (λcdv A outer s H vs Q E hr h=>?_)
 ·obtain⟨d,p,ns,rfl,_⟩:=h
  rfl
 obtain⟨d,p,ns,rfl,hk,fin⟩:=h
 w_up
 ·apply qC
  exact(qK (qM (qH (K:=K) rfl) (qM (qH (K:=K) rfl) (pv 0) (qS (n:=0) rfl CC.KNOWN) (λ_ _=>rfl)) (qS (n:=0) rfl CC.MANY) (λ_ _=>rfl)))
 obtain⟨kp,a,x,y,e,⟨pb,ph,pt,vr,e2,_⟩,ok⟩:=hk.known;lk;refine⟨_,_,_,_,rfl,rfl,SqT.of e,rfl,?_⟩;lk;refine⟨_,_,_,_,rfl,rfl,SqT.of e2,rfl,?_⟩;rw[ok.many];exact fin
noncomputable def q1x(d:Nat):Sp:=λvs H Q _=>∃(p:Addr) (ns:List Int),vs=[.ref p]/\IsKept H d p ns/\ns.length<=100000/\∀l H',Same H H'->H l=none->H' l=some (.lst (ns.map V.int))->Q (.ref l) H'
theorem q7y{ps:List Str}:FnOk P w K mg base CX0 k f fd ps (q1x 0):=by
 have no:∀vs H Q E,¬q1x 0 vs H Q E:=λvs H Q E h=>by
  obtain⟨p,ns,_,hk,_⟩:=h;cases hk
 exact⟨λvs H Q E h=>absurd h (no vs H Q E),λA outer s H args us vs Q E _ _ _ _ h=>absurd h (no vs H Q E)⟩
theorem ok_rowof{d:Nat}(F:Fun K "row_of" "row_of" q3L f fd)(Z:Blt mg)(CC:Cons mg)
  (yn:Def P w K mg base k "row_of" ["held"] (q1x d)):FnOk P w K mg base CX0 (k+1) f fd ["held"] (q1x (d+1)):=by
 refine F.ok sc_row_of (λvs H Q E h=>?_) (λcdv A outer s H vs Q E hr h=>?_)
 ·obtain⟨p,ns,rfl,_⟩:=h
  rfl
 obtain⟨p,ns,rfl,hk,hz,fin⟩:=h
 w_up
 ·apply qB
  ·apply qY
   exact(qL q1o (qM (qH (K:=K) rfl) (pv 0) (qS (n:=1) rfl CC.LEFT) (λ_ _=>rfl)) qu (qU _))
   ·apply qC
    exact(qK (pe_lst (pa_cons (qM (qH (K:=K) rfl) (qM (qH (K:=K) rfl) (pv 0) (qS (n:=0) rfl CC.KNOWN) (λ_ _=>rfl)) (qS (n:=1) rfl CC.TOTAL) (λ_ _=>rfl)) qA)))
   exact qO
  apply qC;exact(qK (qT q0E (qI yn hr rfl (pa_cons (qM (qH (K:=K) rfl) (pv 0) (qS (n:=1) rfl CC.LEFT) (λ_ _=>rfl)) qA)) (qI yn hr rfl (pa_cons (qM (qH (K:=K) rfl) (pv 0) (qS (n:=2) rfl CC.RIGHT) (λ_ _=>rfl)) qA))))
 cases hk with
 | @leaf _ _ kp n h hk=>
  obtain⟨pb,ph,pt,vr,e2,_⟩:=hk;lk;refine⟨_,_,_,_,rfl,rfl,SqT.of h,rfl,?_⟩;lk;refine⟨_,_,_,_,rfl,rfl,SqT.of h,rfl,?_⟩;lk;refine⟨_,_,_,_,rfl,rfl,SqT.of e2,rfl,?_⟩;exact⟨by show 1<=sizeLine;decide,λl hl=>fin l _ (Same.new hl _) hl q0⟩
 | @node _ _ kp l r xs ys a h hk ok h1 h2 hm=>
  rw[List.length_append] at hz;lk;refine⟨_,_,_,_,rfl,rfl,SqT.of h,rfl,?_⟩;lk;refine⟨_,_,_,_,rfl,rfl,SqT.of h,rfl,?_⟩;refine⟨l,xs,rfl,h1,by lia,λl1 H1 s1 hn1 hl1=>?_⟩;lk;refine⟨_,_,_,_,rfl,rfl,SqT.of (s1 _ _ h),rfl,?_⟩;refine⟨r,ys,rfl,h2.keep s1,by lia,λl2 H2 s2 hn2 hl2=>?_⟩;refine⟨l1,l2,_,_,rfl,rfl,s2 _ _ hl1,hl2,by rw[List.length_map,List.length_map];exact Nat.le_of_lt (small (by lia)),λl3 hl3=>?_⟩;refine fin l3 _ (s1.trans (s2.trans (Same.new hl3 _))) ((s1.trans s2).free hl3) ?_;rw[q0,List.map_append]
theorem q5c{k:Nat}{f:Addr}{fd:FuncData}(F:Fun K "row_of" "row_of" q3L f fd)(Z:Blt mg)(CC:Cons mg)(b:Binds K fd ["held"] [])(kp:keepIn K (.ref f)=true)(m:mg "row_of" = some (.ref f)):∀d,FnOk P w K mg base CX0 (k+d) f fd ["held"] (q1x d)
 |0=>q7y
 |d+1=>ok_rowof F Z CC ⟨f,fd,q5c F Z CC b kp m d,b,kp,m⟩
noncomputable def q3H:Sp:=λvs H Q _=>∃i:Int,vs=[.int i]/\Q (.bl true) H
theorem ok_whole(F:Fun K "is_whole" "is_whole" q30 f fd)(Z:Blt mg):FnOk P w K mg base CX0 (k+1) f fd ["thing"] q3H:=by
 refine F.ok q6O (λvs H Q E h=>?_) (λcdv A outer s H vs Q E hr h=>?_)
 ·obtain⟨i,rfl,_⟩:=h
  rfl
 obtain⟨i,rfl,q⟩:=h
 w_up
 ·apply qC
  exact(qK (pe_and (qP q5A rfl Z.isinstance_ PyProof.Rows.boot_isinstance (pa_cons (pv 0) (pa_cons (q4u (v:=.ty "int") rfl Z.int_ PyProof.Rows.boot_int rfl) qA))) (pe_one (pe_not (qP q5A rfl Z.isinstance_ PyProof.Rows.boot_isinstance (pa_cons (pv 0) (pa_cons (q4u (v:=.ty "bool") rfl Z.bool_ PyProof.Rows.boot_bool rfl) qA)))))))
 lk;refine⟨_,_,_,_,rfl,.int _,kit_ii,_,rfl,iteT ?_⟩;lk;refine⟨_,_,_,_,rfl,.int _,kit_ib,_,rfl,?_⟩;exact q
noncomputable def q1Y:Sp:=λvs H Q _=>∃(p:Addr) (a b m:Int),vs=[.ref p,.int m]/\H p=some (.tup [.int a,.int b])/\Q (.bl (decide (0<=a/\a < b/\b<=m))) H
theorem q5k(F:Fun K "is_stretch" "is_stretch" q1h f fd)(Z:Blt mg)
  (yE:Def P w K mg base k "is_whole" ["thing"] q3H):FnOk P w K mg base CX0 (k+1) f fd ["stretch","many"] q1Y:=by
 refine F.ok sc_is_stretch (λvs H Q E h=>?_) (λcdv A outer s H vs Q E hr h=>?_)
 ·obtain⟨p,a,b,m,rfl,_⟩:=h
  rfl
 obtain⟨p,a,b,m,rfl,hp,q⟩:=h
 w_up
 ·apply qB
  ·apply qY
   exact(PW.pt (q2B (qw (q0c (qP q5A rfl Z.isinstance_ PyProof.Rows.boot_isinstance (pa_cons (pv 0) (pa_cons (q4u (v:=.ty "tuple") rfl Z.tuple_ PyProof.Rows.boot_tuple rfl) qA))))) (q0u (qL q3o (qP (qQ (K:=K) rfl) rfl Z.len_ PySem.boot_len (pa_cons (pv 0) qA)) qD (qU _)))))
   ·apply qC
    exact(qK q3n)
   exact qO
  apply qB;exact(ps_set (i:=2) sc_is_stretch.nd rfl (by k_ne) (qM (qH (K:=K) rfl) (pv 0) qD (λ_ _=>rfl)));apply qB;exact(ps_set (i:=3) sc_is_stretch.nd rfl (by k_ne) (qM (qH (K:=K) rfl) (pv 0) qD (λ_ _=>rfl)));apply qB
  ·apply qY
   exact(PW.pt (q2B (qw (q0c (qI yE hr rfl (pa_cons (pv 2) qA)))) (q0u (qw (q0c (qI yE hr rfl (pa_cons (pv 3) qA)))))))
   ·apply qC
    exact(qK q3n)
   exact qO
  apply qC;exact(qK (pe_chain3 q3p q2P q3p qD (pv 2) (pv 3) (pv 1)))
 lk;refine⟨_,_,_,_,rfl,.tup hp,kit_tt,_,rfl,iteF ?_⟩;lk;refine⟨p,_,rfl,.inr (SqT.of hp),?_⟩;refine⟨rfl,_,rfl,?_⟩;refine ifIN (λz=>absurd rfl z) (λ_=>?_);lk;refine⟨p,_,0,_,rfl,rfl,SqT.of hp,rfl,?_⟩;lk;refine⟨p,_,1,_,rfl,rfl,SqT.of hp,rfl,?_⟩;lk;refine ifD (λh1=>?_) (λh1=>?_)
 ·lk
  refine ifD (λh2=>?_) (λh2=>?_)
  ·lk
   have e:decide (0<=a/\a < b/\b<=m)=decide (b<=m):=by simp only[h1,h2,true_and]
   rw[e] at q;exact q
  ·rw[decide_eq_false (by lia)] at q
   exact q
 ·rw[decide_eq_false (by lia)] at q
  exact q
noncomputable def q3Y(d:Nat):Sp:=λvs H Q _=>∃(p:Addr) (i n:Int) (ns:List Int),vs=[.ref p,.int i,.int n]/\IsKept H d p ns/\0<=i/\i < (ns.length:Int)/\∀t H',Same H H'->IsKept H' d t (ns.set i.toNat n)->Q (.ref t) H'
theorem none_put{ps:List Str}:FnOk P w K mg base CX0 k f fd ps (q3Y 0):=by
 have no:∀vs H Q E,¬q3Y 0 vs H Q E:=λvs H Q E h=>by
  obtain⟨p,i,n,ns,_,hk,_⟩:=h;cases hk
 exact⟨λvs H Q E h=>absurd h (no vs H Q E),λA outer s H args us vs Q E _ _ _ _ h=>absurd h (no vs H Q E)⟩
theorem ok_put{d:Nat}(F:Fun K "with_put" "with_put" q20 f fd)(Z:Blt mg)(CC:Cons mg)
  (yC:Def P w K mg base k "single" ["number"] q1W)(yB:Def P w K mg base k "paired" ["left","right"] q1X)(y0:Def P w K mg base k "many_of" ["held"] q0G)
  (yM:Def P w K mg base k "with_put" ["held","place","number"] (q3Y d)):FnOk P w K mg base CX0 (k+1) f fd ["held","place","number"] (q3Y (d+1)):=by
 refine F.ok sc_with_put (λvs H Q E h=>?_) (λcdv A outer s H vs Q E hr h=>?_)
 ·obtain⟨p,i,n,ns,rfl,_⟩:=h
  rfl
 obtain⟨p,i,n,ns,rfl,hk,h0,h1,fin⟩:=h
 w_up
 ·apply qB
  ·apply qY
   exact(qL q1o (qM (qH (K:=K) rfl) (pv 0) (qS (n:=1) rfl CC.LEFT) (λ_ _=>rfl)) qu (qU _))
   ·apply qC
    exact(qK (qI yC hr rfl (pa_cons (pv 2) qA)))
   exact qO
  apply qB;exact(ps_set (i:=3) sc_with_put.nd rfl (by k_ne) (qI y0 hr rfl (pa_cons (qM (qH (K:=K) rfl) (pv 0) (qS (n:=1) rfl CC.LEFT) (λ_ _=>rfl)) qA)));apply qB
  ·apply qY
   exact(qL q2P (pv 1) (pv 3) (qU _))
   ·apply qC
    exact(qK (qI yB hr rfl (pa_cons (qI yM hr rfl (pa_cons (qM (qH (K:=K) rfl) (pv 0) (qS (n:=1) rfl CC.LEFT) (λ_ _=>rfl)) (pa_cons (pv 1) (pa_cons (pv 2) qA)))) (pa_cons (qM (qH (K:=K) rfl) (pv 0) (qS (n:=2) rfl CC.RIGHT) (λ_ _=>rfl)) qA))))
   exact qO
  apply qC;exact(qK (qI yB hr rfl (pa_cons (qM (qH (K:=K) rfl) (pv 0) (qS (n:=1) rfl CC.LEFT) (λ_ _=>rfl)) (pa_cons (qI yM hr rfl (pa_cons (qM (qH (K:=K) rfl) (pv 0) (qS (n:=2) rfl CC.RIGHT) (λ_ _=>rfl)) (pa_cons (qT q0Q (pv 1) (pv 3)) (pa_cons (pv 2) qA)))) qA))))
 cases hk with
 | @leaf _ _ kp n0 h hk=>
  lk;refine⟨_,_,_,_,rfl,rfl,SqT.of h,rfl,?_⟩;lk;refine λt H1 s1 hk1=>fin t H1 s1 ?_;simp only[List.length_singleton] at h1;have e:i.toNat=0:=by lia
  rw[e];exact hk1 d
 | @node _ _ kp l r xs ys a h hk ok hl hr' hm=>
  rw[List.length_append] at h1;obtain⟨kl,al,x1,y1,el,knl,okl⟩:=hl.known;obtain⟨kr,ar,x2,y2,er,knr,okr⟩:=hr'.known;lk;refine⟨_,_,_,_,rfl,rfl,SqT.of h,rfl,?_⟩;lk;refine⟨_,_,_,_,rfl,rfl,SqT.of h,rfl,?_⟩;refine⟨d,l,xs,rfl,hl,?_⟩;lk;refine ifD (λhlt=>?_) (λhge=>?_)
  ·lk
   refine⟨_,_,_,_,rfl,rfl,SqT.of h,rfl,?_⟩;lk;refine⟨l,i,n,xs,rfl,hl,h0,hlt,λt1 H1 s1 hk1=>?_⟩;lk;refine⟨_,_,_,_,rfl,rfl,SqT.of (s1 _ _ h),rfl,?_⟩;obtain⟨kp1,a1,x,y,e1,ka,oka⟩:=hk1.known;refine⟨t1,r,kp1,kr,a1,ar,x,y,x2,y2,rfl,e1,s1 _ _ er,ka,knr.keep s1,λt kt H3 s3 h3 hk3=>?_⟩;refine fin t H3 (s1.trans s3) ?_;rw[List.set_append_left _ _ (by lia)];exact .node h3 hk3 (q50 oka okr) (hk1.keep s3) ((hr'.keep s1).keep s3) (by rw[List.length_set];exact hm)
  ·lk
   refine⟨_,_,_,_,rfl,rfl,SqT.of h,rfl,?_⟩;lk;refine⟨_,_,_,_,rfl,rfl,SqT.of h,rfl,?_⟩;lk;refine⟨r,_,n,ys,rfl,hr',by lia,by lia,λt1 H1 s1 hk1=>?_⟩;obtain⟨kp1,a1,x,y,e1,ka,oka⟩:=hk1.known;refine⟨l,t1,kl,kp1,al,a1,x1,y1,x,y,rfl,s1 _ _ el,e1,knl.keep s1,ka,λt kt H3 s3 h3 hk3=>?_⟩;refine fin t H3 (s1.trans s3) ?_;have ei:i.toNat-xs.length=(i-(xs.length:Int)).toNat:=by lia
   rw[List.set_append_right _ _ (by lia),ei];exact .node h3 hk3 (q50 okl oka) ((hl.keep s1).keep s3) (hk1.keep s3) (by rw[List.length_set];exact hm)
theorem rec_put{k:Nat}{f:Addr}{fd:FuncData}(F:Fun K "with_put" "with_put" q20 f fd)(Z:Blt mg)(CC:Cons mg)(b:Binds K fd ["held","place","number"] [])(kp:keepIn K (.ref f)=true)(m:mg "with_put" = some (.ref f))
  (yC:Def P w K mg base k "single" ["number"] q1W)(yB:Def P w K mg base k "paired" ["left","right"] q1X)(y0:Def P w K mg base k "many_of" ["held"] q0G):∀d,FnOk P w K mg base CX0 (k+d) f fd ["held","place","number"] (q3Y d)
 |0=>none_put
 |d+1=>ok_put F Z CC (yC.mono (Nat.le_add_right _ _)) (yB.mono (Nat.le_add_right _ _)) (y0.mono (Nat.le_add_right _ _)) ⟨f,fd,rec_put F Z CC b kp m yC yB y0 d,b,kp,m⟩
noncomputable def q4K:Sp:=λvs H Q _=>∃(d:Nat) (p:Addr) (i:Int) (ns:List Int),vs=[.ref p,.int i]/\IsKept H d p ns/\0<=i/\i < (ns.length:Int)/\Q .non H
theorem ok_rpl(F:Fun K "refuse_place" "refuse_place" q0T f fd)(Z:Blt mg)
  (yE:Def P w K mg base k "is_whole" ["thing"] q3H)(y0:Def P w K mg base k "many_of" ["held"] q0G):FnOk P w K mg base CX0 (k+1) f fd ["held","place"] q4K:=by
 refine F.ok q1a (λvs H Q E h=>?_) (λcdv A outer s H vs Q E hr h=>?_)
 ·obtain⟨d,p,i,ns,rfl,_⟩:=h
  rfl
 obtain⟨d,p,i,ns,rfl,hk,h0,h1,fin⟩:=h
 w_up
 ·apply qC
  apply qY;exact(PW.pt (q2B (qw (q0c (qI yE hr rfl (pa_cons (pv 1) qA)))) (q0u (qw (q2e q3p q2P qD (pv 1) (qI y0 hr rfl (pa_cons (pv 0) qA)))))))
  ·apply qC
   exact q0A
  exact qO
 lk;refine ifD (λ_=>?_) (λz=>absurd h0 z);lk;refine⟨d,p,ns,rfl,hk,?_⟩;lk;rw[decide_eq_true h1];exact fin
noncomputable def Chg(H:Hp):List V->List (Int×Int)->Prop
 |[],[]=>True
 |x::xs,c::cs=>(∃p,x = .ref p/\H p=some (.tup [.int c.1,.int c.2]))/\Chg H xs cs
 |_,_=>False
theorem Chg.keep{H H':Hp}(s:Same H H'):∀{xs:List V} {cs:List (Int×Int)},Chg H xs cs->Chg H' xs cs
 |[],[],_=>trivial
 |x::xs,c::cs,⟨⟨p,e,h⟩,t⟩=>⟨⟨p,e,s _ _ h⟩,Chg.keep s t⟩
 |[],_::_,h=>h.elim
 |_::_,[],h=>h.elim
theorem Chg.len{H:Hp}:∀{xs:List V} {cs:List (Int×Int)},Chg H xs cs->xs.length=cs.length
 |[],[],_=>rfl
 |x::xs,c::cs,⟨_,t⟩=>by rw[List.length_cons,List.length_cons,Chg.len t]
 |[],_::_,h=>h.elim
 |_::_,[],h=>h.elim
theorem Chg.at{H:Hp}:∀{xs:List V} {cs:List (Int×Int)} {i:Nat} {x:V},Chg H xs cs->xs[i]?=some x->∃p c,x = .ref p/\cs[i]?=some c/\H p=some (.tup [.int c.1,.int c.2])
 |x::xs,c::cs,0,y,⟨⟨p,e,h⟩,_⟩,ey=>by simp at ey;subst ey;exact⟨p,c,e,rfl,h⟩
 | x::xs,c::cs,i+1,y,⟨_,t⟩,ey=>by
  obtain⟨p,c',e,e',h⟩:=Chg.at (i:=i) (x:=y) t (by simpa using ey);exact⟨p,c',e,by simpa using e',h⟩
 |[],[],_,_,_,e=>by simp at e
 |[],_::_,_,_,h,_=>h.elim
 |_::_,[],_,_,h,_=>h.elim
noncomputable def q08(ns:List Int):List (Int×Int)->List Int
 |[]=>ns
 |c::cs=>q08 (ns.set c.1.toNat c.2) cs
theorem q25:∀{cs:List (Int×Int)} {ns:List Int},(q08 ns cs).length=ns.length
 |[],_=>rfl
 |c::cs,ns=>by rw[q08,q25,List.length_set]
theorem q2d:∀{cs ds:List (Int×Int)} {ns:List Int},q08 ns (cs++ds)=q08 (q08 ns cs) ds
 |[],_,_=>rfl
 |c::cs,ds,ns=>by rw[List.cons_append,q08,q2d,q08]
theorem q3k{cs:List (Int×Int)}{c:Int×Int}(h:cs[i]?=some c):q08 ns (cs.take (i+1))=(q08 ns (cs.take i)).set c.1.toNat c.2:=by
 obtain⟨hi,rfl⟩:=List.getElem?_eq_some_iff.mp h;rw[List.take_succ_eq_append_getElem hi,q2d];rfl
noncomputable def q3F(m:Int)(cs:List (Int×Int)):Prop:=∀c,c∈cs->0<=c.1/\c.1 < m
noncomputable def q1z:Sp:=λvs H Q _=>∃(p l:Addr) (ns:List Int) (xs:List V) (cs:List (Int×Int)),vs=[.ref p,.ref l]/\IsKept H 13 p ns/\H l=some (.lst xs)/\Chg H xs cs/\q3F ns.length cs/\
 ∀t H',Same H H'->IsKept H' 13 t (q08 ns cs)->(cs=[]->t=p)->Q (.ref t) H'
theorem q4Q(F:Fun K "changed" "changed" q2b f fd)(Z:Blt mg)
  (yG:Def P w K mg base k "refuse_place" ["held","place"] q4K)(yM:Def P w K mg base k "with_put" ["held","place","number"] (q3Y 13)):FnOk P w K mg base CX0 (k+1) f fd ["held","changes"] q1z:=by
 refine F.ok sc_changed (λvs H Q E h=>?_) (λcdv A outer s H vs Q E hr h=>?_)
 ·obtain⟨p,l,ns,xs,cs,rfl,_⟩:=h
  rfl
 obtain⟨p,l,ns,xs,cs,rfl,hk,hl,hc,hin,fin⟩:=h
 w_up
 ·apply qB
  exact(ps_set (i:=2) sc_changed.nd rfl (by k_ne) (pv 0));apply qB
  ·apply q1Q PassesOwn.never rfl
   exact(qm (K:=K) rfl (pv 1));exact(qZ (i:=3) sc_changed.nd rfl (by k_ne))
   ·apply qB
    exact(qj (qI yG hr rfl (pa_cons (pv 0) (pa_cons (qM (qH (K:=K) rfl) (pv 3) qD (λ_ _=>rfl)) qA))));apply qC;exact(ps_set (i:=2) sc_changed.nd rfl (by k_ne) (qI yM hr rfl (pa_cons (pv 2) (pa_cons (qM (qH (K:=K) rfl) (pv 3) qD (λ_ _=>rfl)) (pa_cons (qM (qH (K:=K) rfl) (pv 3) qD (λ_ _=>rfl)) qA)))))
  apply qC;exact(qK (pv 2))
 lk;refine⟨⟨_,SqL.of hl⟩,?_⟩;refine q2A (xs:=xs) (λi σ H'=>∃t o,Same H H'/\IsKept H' 13 t (q08 ns (cs.take i))/\(cs.take i=[]->t=p)/\σ=[some (.ref p),some (.ref l),some (.ref t),o]) ⟨p,none,Same.refl _,hk,λ_=>rfl,rfl⟩ ?_ ?_ ?_
 ·rintro i σ H' _ ⟨t,o,sm,_⟩
  exact SqL.of (sm _ _ hl)
 ·rintro i x σ H1 hx ⟨t,o,sm,hk1,_,rfl⟩
  obtain⟨q,c,rfl,hc1,hq⟩:=(hc.keep sm).at hx;have hcm:=hin c (List.mem_of_getElem? hc1);lk;refine⟨_,_,_,_,rfl,rfl,SqT.of hq,rfl,?_⟩;refine⟨13,p,_,ns,rfl,hk.keep sm,hcm.1,hcm.2,?_⟩;lk;refine⟨_,_,_,_,rfl,rfl,SqT.of hq,rfl,?_⟩;lk;refine⟨_,_,_,_,rfl,rfl,SqT.of hq,rfl,?_⟩;refine⟨t,_,_,_,rfl,hk1,hcm.1,by rw[q25];exact hcm.2,λt2 H2 s2 hk2=>?_⟩;refine⟨t2,_,sm.trans s2,by rw[q3k hc1];exact hk2,λz=>?_,rfl⟩;have hi:=(List.getElem?_eq_some_iff.mp hc1).1;have e:=congrArg List.length z;rw[List.length_take,List.length_nil] at e
  lia
 ·rintro σ H1 ⟨t,o,sm,hk1,ht,rfl⟩
  lk;rw[hc.len,List.take_of_length_le (Nat.le_refl _)] at hk1 ht;exact fin t H1 sm hk1 ht
noncomputable def q37(H H':Hp):Prop:=∀b xs,H b=some (.tup xs)->H' b=some (.tup xs)
theorem IsRd.keepT{o:Option Sx}(h:IsRd H v o)(s:q37 H H'):IsRd H' v o:=by
 cases o with
 |none=>exact h
 |some x=>obtain⟨p,e,hp⟩:=h;exact⟨p,e,s _ _ hp⟩
theorem IsKn.keepT{H H':Hp}{p:Addr}{a:Kn}(h:IsKn H p a)(s:q37 H H'):IsKn H' p a:=by
 obtain⟨pb,ph,pt,vr,h1,h2,h3,h4,h5⟩:=h.ex;exact⟨pb,ph,pt,vr,s _ _ h1,s _ _ h2,s _ _ h3,s _ _ h4,h5.keepT s⟩
theorem IsKept.keepT{H H':Hp}{d:Nat}{p:Addr}{ns:List Int}(h:IsKept H d p ns)(s:q37 H H'):IsKept H' d p ns:=by
 induction h with
 |leaf h hk=>exact .leaf (s _ _ h) (hk.keepT s)
 |node h hk ok _ _ hm ihl ihr=>exact .node (s _ _ h) (hk.keepT s) ok ihl ihr hm
theorem q7Z{f b:Int}(h0:0<=f)(h1:f<=b)(h2:b<=(xs.length:Int)):cutI (xs++ys) f b=cutI xs f b:=by
 unfold cutI;rw[List.drop_append_of_le_length (by lia),List.take_append_of_le_length (by rw[List.length_drop];lia)]
theorem q65{f b:Int}(h0:(xs.length:Int)<=f)(h1:f<=b):cutI (xs++ys) f b=cutI ys (f-(xs.length:Int)) (b-(xs.length:Int)):=by
 unfold cutI;have e1:f.toNat=xs.length+(f-(xs.length:Int)).toNat:=by lia
 have e2:b.toNat-f.toNat=(b-(xs.length:Int)).toNat-(f-(xs.length:Int)).toNat:=by lia
 rw[e2,e1,<-List.drop_drop,List.drop_left' rfl]
noncomputable def q0d(d:Nat):Sp:=λvs H Q _=>∃(p:Addr) (f b:Int) (ns:List Int),vs=[.ref p,.int f,.int b]/\IsKept H d p ns/\0<=f/\f < b/\b<=(ns.length:Int)/\∀kp a H',Same H H'->IsKn H' kp a->KnOk a (cutI ns f b)->Q (.ref kp) H'
theorem q7z{ps:List Str}:FnOk P w K mg base CX0 k f fd ps (q0d 0):=by
 have no:∀vs H Q E,¬q0d 0 vs H Q E:=λvs H Q E h=>by
  obtain⟨p,f,b,ns,_,hk,_⟩:=h;cases hk
 exact⟨λvs H Q E h=>absurd h (no vs H Q E),λA outer s H args us vs Q E _ _ _ _ h=>absurd h (no vs H Q E)⟩
theorem ok_known{d:Nat}(F:Fun K "known_of" "known_of" q22 f fd)(Z:Blt mg)(CC:Cons mg)
  (yN:Def P w K mg base k "joined" ["one","other"] q2V)(y0:Def P w K mg base k "many_of" ["held"] q0G)(y6:Def P w K mg base k "known_of" ["held","first","beyond"] (q0d d)):FnOk P w K mg base CX0 (k+1) f fd ["held","first","beyond"] (q0d (d+1)):=by
 refine F.ok sc_known_of (λvs H Q E h=>?_) (λcdv A outer s H vs Q E hr h=>?_)
 ·obtain⟨p,f,b,ns,rfl,_⟩:=h
  rfl
 obtain⟨p,f,b,ns,rfl,hk,h0,h1,h2,fin⟩:=h
 w_up
 ·apply qB
  ·apply qY
   exact(PW.pt (q5e (qL q0X (pv 1) qD (qU _)) (q3j (qL q0X (pv 2) (qI y0 hr rfl (pa_cons (pv 0) qA)) (qU _)))))
   ·apply qC
    exact(qK (qM (qH (K:=K) rfl) (pv 0) (qS (n:=0) rfl CC.KNOWN) (λ_ _=>rfl)))
   exact qO
  apply qB;exact(ps_set (i:=3) sc_known_of.nd rfl (by k_ne) (qI y0 hr rfl (pa_cons (qM (qH (K:=K) rfl) (pv 0) (qS (n:=1) rfl CC.LEFT) (λ_ _=>rfl)) qA)));apply qB
  ·apply qY
   exact(qL q3p (pv 2) (pv 3) (qU _))
   ·apply qC
    exact(qK (qI y6 hr rfl (pa_cons (qM (qH (K:=K) rfl) (pv 0) (qS (n:=1) rfl CC.LEFT) (λ_ _=>rfl)) (pa_cons (pv 1) (pa_cons (pv 2) qA)))))
   exact qO
  apply qB
  ·apply qY
   exact(qL op_ge (pv 1) (pv 3) (qU _))
   ·apply qC
    exact(qK (qI y6 hr rfl (pa_cons (qM (qH (K:=K) rfl) (pv 0) (qS (n:=2) rfl CC.RIGHT) (λ_ _=>rfl)) (pa_cons (qT q0Q (pv 1) (pv 3)) (pa_cons (qT q0Q (pv 2) (pv 3)) qA)))))
   exact qO
  apply qC;exact(qK (qI yN hr rfl (pa_cons (qI y6 hr rfl (pa_cons (qM (qH (K:=K) rfl) (pv 0) (qS (n:=1) rfl CC.LEFT) (λ_ _=>rfl)) (pa_cons (pv 1) (pa_cons (pv 3) qA)))) (pa_cons (qI y6 hr rfl (pa_cons (qM (qH (K:=K) rfl) (pv 0) (qS (n:=2) rfl CC.RIGHT) (λ_ _=>rfl)) (pa_cons qD (pa_cons (qT q0Q (pv 2) (pv 3)) qA)))) qA))))
 obtain⟨kp,a,x,y,e,kn,ok⟩:=hk.known;have whole:f=0->b=(ns.length:Int)->cutI ns f b=ns:=λz1 z2=>by rw[z1,z2];exact q2m
 have one:(f=0/\b=(ns.length:Int))->Q (.ref kp) H:=λz=>fin kp a H (Same.refl _) kn (by rw[whole z.1 z.2];exact ok)
 have two:¬(f=0/\b=(ns.length:Int))->∃l r xs ys,H p=some (.tup [.ref kp,.ref l,.ref r])/\ns=xs++ys/\IsKept H d l xs/\IsKept H d r ys:=λz=>by
  cases hk with
  |@leaf _ _ kp n h hk=>exact absurd ⟨by simp only[List.length_singleton] at h2;lia,by simp only[List.length_singleton] at h2 ⊢;lia⟩ z
  | @node _ _ kp' l r xs ys a h hk ok hl hr' hm=>
   rw[h] at e;injection e with e1;injection e1 with e1;injection e1 with e1 e2;injection e1 with e1;subst e1;exact⟨l,r,xs,ys,h,rfl,hl,hr'⟩
 refine seqU (λσ' H'=>H=H'/\¬(f=0/\b=(ns.length:Int))/\σ'=[some (.ref p),some (.int f),some (.int b),none]) ?_ (λR hR=>?_)
 case refine_2=>
  lk;refine ifI (λhe=>?_) (λhne=>?_)
  ·lk
   refine⟨_,p,ns,rfl,hk,?_⟩;lk;refine ifI (λhe2=>?_) (λhne2=>?_)
   ·lk
    refine⟨_,_,_,_,rfl,rfl,SqT.of e,rfl,?_⟩;exact one ⟨he,he2⟩
   ·exact hR _ _ ⟨rfl,λz=>hne2 z.2,rfl⟩
  ·exact hR _ _ ⟨rfl,λz=>hne z.1,rfl⟩
 rintro _ _ ⟨rfl,hno,rfl⟩;obtain⟨l,r,xs,ys,hp,rfl,hl,hr'⟩:=two hno;rw[List.length_append] at h2;lk;refine⟨_,_,_,_,rfl,rfl,SqT.of hp,rfl,?_⟩;refine⟨d,l,xs,rfl,hl,?_⟩;lk;refine ifD (λhb=>?_) (λhb=>?_)
 ·lk
  refine⟨_,_,_,_,rfl,rfl,SqT.of hp,rfl,?_⟩;lk;refine⟨l,f,b,xs,rfl,hl,h0,h1,hb,λkp a H' s1 hk1 ok1=>?_⟩;exact fin kp a H' s1 hk1 (by rw[q7Z h0 (by lia) hb];exact ok1)
 ·lk
  refine ifD (λhf=>?_) (λhf=>?_)
  ·lk
   refine⟨_,_,_,_,rfl,rfl,SqT.of hp,rfl,?_⟩;lk;refine⟨r,_,_,ys,rfl,hr',by lia,by lia,by lia,λkp a H' s1 hk1 ok1=>?_⟩;exact fin kp a H' s1 hk1 (by rw[q65 hf (by lia)];exact ok1)
  ·lk
   refine⟨_,_,_,_,rfl,rfl,SqT.of hp,rfl,?_⟩;lk;refine⟨l,f,_,xs,rfl,hl,h0,by lia,by lia,λk1 a1 H1 s1 hk1 ok1=>?_⟩;lk;refine⟨_,_,_,_,rfl,rfl,SqT.of (s1 _ _ hp),rfl,?_⟩;lk;refine⟨r,0,_,ys,rfl,hr'.keep s1,by decide,by lia,by lia,λk2 a2 H2 s2 hk2 ok2=>?_⟩;refine⟨k1,k2,a1,a2,rfl,hk1.keep s2,hk2,λt H3 s3 hk3=>?_⟩;refine fin t _ H3 (s1.trans (s2.trans s3)) hk3 ?_;have e1:cutI (xs++ys) f b=cutI xs f (xs.length:Int)++cutI ys 0 (b-(xs.length:Int)):=by
    rw[<-q7a (m:=(xs.length:Int)) h0 (by lia) (by lia),q7Z h0 (by lia) (Int.le_refl _),q65 (Int.le_refl _) (by lia),Int.sub_self]
   rw[e1];exact q50 ok1 ok2
theorem q5d{k:Nat}{f:Addr}{fd:FuncData}(F:Fun K "known_of" "known_of" q22 f fd)(Z:Blt mg)(CC:Cons mg)(b:Binds K fd ["held","first","beyond"] [])(kp:keepIn K (.ref f)=true)(m:mg "known_of" = some (.ref f))
  (yN:Def P w K mg base k "joined" ["one","other"] q2V)(y0:Def P w K mg base k "many_of" ["held"] q0G):∀d,FnOk P w K mg base CX0 (k+d) f fd ["held","first","beyond"] (q0d d)
 |0=>q7z
 |d+1=>ok_known F Z CC (yN.mono (Nat.le_add_right _ _)) (y0.mono (Nat.le_add_right _ _)) ⟨f,fd,q5d F Z CC b kp m yN y0 d,b,kp,m⟩
noncomputable def q2U:Sp:=λvs H Q _=>∃(p t:Addr) (f b:Int) (ns:List Int),vs=[.ref p,.ref t]/\IsKept H 13 p ns/\H t=some (.tup [.int f,.int b])/\0<=f/\f < b/\b<=(ns.length:Int)/\∀kp a H',Same H H'->IsKn H' kp a->KnOk a (cutI ns f b)->Q (.ref kp) H'
theorem q7R(F:Fun K "known_of_part" "known_of_part" q0J f fd)(Z:Blt mg)
  (yU:Def P w K mg base k "is_stretch" ["stretch","many"] q1Y)(y0:Def P w K mg base k "many_of" ["held"] q0G)(y6:Def P w K mg base k "known_of" ["held","first","beyond"] (q0d 13)):FnOk P w K mg base CX0 (k+1) f fd ["held","stretch"] q2U:=by
 refine F.ok q1P (λvs H Q E h=>?_) (λcdv A outer s H vs Q E hr h=>?_)
 ·obtain⟨p,t,f,b,ns,rfl,_⟩:=h
  rfl
 obtain⟨p,t,f,b,ns,rfl,hk,ht,h0,h1,h2,fin⟩:=h
 w_up
 ·apply qB
  ·apply qY
   exact(qw (q0c (qI yU hr rfl (pa_cons (pv 1) (pa_cons (qI y0 hr rfl (pa_cons (pv 0) qA)) qA)))))
   ·apply qC
    exact q0A
   exact qO
  apply qC;exact(qK (qI y6 hr rfl (pa_cons (pv 0) (pa_cons (qM (qH (K:=K) rfl) (pv 1) qD (λ_ _=>rfl)) (pa_cons (qM (qH (K:=K) rfl) (pv 1) qD (λ_ _=>rfl)) qA)))))
 lk;refine⟨_,p,ns,rfl,hk,?_⟩;refine⟨t,f,b,_,rfl,ht,_,rfl,?_⟩;rw[decide_eq_true (show 0<=f/\f < b/\b<=((ns.length:Nat):Int) from⟨h0,h1,h2⟩)];refine iteF ?_;lk;refine⟨_,_,_,_,rfl,rfl,SqT.of ht,rfl,?_⟩;lk;refine⟨_,_,_,_,rfl,rfl,SqT.of ht,rfl,?_⟩;exact⟨p,f,b,ns,rfl,hk,h0,h1,h2,fin⟩
noncomputable def q2Y:Sp:=λvs H Q _=>∃(p t:Addr) (f b:Int) (ns:List Int),vs=[.ref p,.ref t]/\IsKept H 13 p ns/\H t=some (.tup [.int f,.int b])/\0<=f/\f < b/\b<=(ns.length:Int)/\∀u x H',Same H H'->H' u=some (Tx (qV x f))->Top (PB (cutI ns f b)) x->Q (.ref u) H'
theorem q5m(F:Fun K "best_in" "best_in" q2c f fd)(Z:Blt mg)(CC:Cons mg)
  (y8:Def P w K mg base k "moved" ["stretch","places"] q2S)(yW:Def P w K mg base k "known_of_part" ["held","stretch"] q2U):FnOk P w K mg base CX0 (k+1) f fd ["held","stretch"] q2Y:=by
 refine F.ok q4L (λvs H Q E h=>?_) (λcdv A outer s H vs Q E hr h=>?_)
 ·obtain⟨p,t,f,b,ns,rfl,_⟩:=h
  rfl
 obtain⟨p,t,f,b,ns,rfl,hk,ht,h0,h1,h2,fin⟩:=h
 w_up
 ·apply qC
  exact(qK (qI y8 hr rfl (pa_cons (qM (qH (K:=K) rfl) (qI yW hr rfl (pa_cons (pv 0) (pa_cons (pv 1) qA))) (qS (n:=2) rfl CC.BEST) (λ_ _=>rfl)) (pa_cons (qM (qH (K:=K) rfl) (pv 1) qD (λ_ _=>rfl)) qA))))
 lk;refine⟨p,t,f,b,ns,rfl,hk,ht,h0,h1,h2,λkp a H1 s1 hk1 ok1=>?_⟩;obtain⟨pb,ph,pt,vr,e,eb,_⟩:=hk1.ex;lk;refine⟨_,_,_,_,rfl,rfl,SqT.of e,rfl,?_⟩;lk;refine⟨_,_,_,_,rfl,rfl,SqT.of (s1 _ _ ht),rfl,?_⟩;exact⟨pb,f,a.best,rfl,eb,λu H2 s2 hu=>fin u a.best H2 (s1.trans s2) hu ok1.best⟩
noncomputable def rg(ns:List Int)(f m:Nat):Int:=if f+m<=ns.length then psum ns (f+m)-psum ns f else psum ns ns.length-psum ns f+psum ns (f+m-ns.length)
noncomputable def PG(ns:List Int)(z:Sx):Prop:=∃f m:Nat,f < ns.length/\1<=m/\m<=ns.length/\z=⟨rg ns f m,f,m⟩
noncomputable def q60(x:Sx):Sx:=⟨x.s,x.f,x.b-x.f⟩
noncomputable def q6Y(n:Int)(x:Sx):Sx:=⟨x.s,x.f,n-x.f+x.b⟩
theorem q7X(h:Top (PB ns) x):Top (λz=>∃y,PB ns y/\z=q60 y) (q60 x):=by
 refine⟨⟨x,h.has,rfl⟩,?_⟩;rintro _ ⟨y,hy,rfl⟩;have q:=h.le y hy;unfold Sx.le at q ⊢;simp only[q60]
 lia
theorem over_top{n:Int}(h:Top (PR ns) x):Top (λz=>∃y,PR ns y/\z=q6Y n y) (q6Y n x):=by
 refine⟨⟨x,h.has,rfl⟩,?_⟩;rintro _ ⟨y,hy,rfl⟩;have q:=h.le y hy;unfold Sx.le at q ⊢;simp only[q6Y]
 lia
theorem q7L{z:Sx}:PG ns z↔(∃y,PB ns y/\z=q60 y)\/(∃y,PR ns y/\z=q6Y ns.length y):=by
 constructor
 ·rintro⟨f,m,hf,h1,h2,rfl⟩
  by_cases h:f+m<=ns.length
  ·refine .inl ⟨_,⟨f,f+m,by lia,h,rfl⟩,?_⟩
   unfold rg;rw[if_pos h];exact Sx.ext' rfl rfl (by show(m:Int)=((f+m:Nat):Int)-f;lia)
  ·refine .inr ⟨_,⟨f,f+m-ns.length,by lia,by lia,hf,rfl⟩,?_⟩
   unfold rg;rw[if_neg h];exact Sx.ext' rfl rfl (by show(m:Int)=(ns.length:Int)-f+((f+m-ns.length:Nat):Int);lia)
 ·rintro(⟨_,⟨f,b,h1,h2,rfl⟩,rfl⟩|⟨_,⟨f,b,h1,h2,h3,rfl⟩,rfl⟩)
  ·refine⟨f,b-f,by lia,by lia,by lia,?_⟩
   unfold rg;rw[if_pos (by lia)];have e:f+(b-f)=b:=by lia
   rw[e];exact Sx.ext' rfl rfl (by show(b:Int)-f=((b-f:Nat):Int);lia)
  ·refine⟨f,ns.length-f+b,h3,by lia,by lia,?_⟩
   unfold rg;rw[if_neg (by lia)];have e:f+(ns.length-f+b)-ns.length=b:=by lia
   rw[e];exact Sx.ext' rfl rfl (by show(ns.length:Int)-f+b=((ns.length-f+b:Nat):Int);lia)
theorem ring_one(h:Top (PB ns) x)(hn:ns.length=1):Top (PG ns) (q60 x):=(q7X h).iff λz=>by
 rw[q7L];refine⟨λq=>q.elim id ?_,.inl⟩;rintro⟨_,⟨f,b,h1,h2,h3,_⟩,_⟩
 lia
theorem ring_two(h:Top (PB ns) x)(g:Top (PR ns) y):Top (PG ns) (q0P (q60 x) (q6Y ns.length y)):=Top.or (q7X h) (over_top g) λz=>q7L
noncomputable def q5S:Sp:=λvs H Q _=>∃(p:Addr) (ns:List Int),vs=[.ref p]/\IsKept H 13 p ns/\∀u x H',Same H H'->H' u=some (Tx x)->Top (PG ns) x->Q (.ref u) H'
theorem ok_bround(F:Fun K "best_round" "best_round" q1k f fd)(Z:Blt mg)(CC:Cons mg)
  (yA:Def P w K mg base k "better_of" ["one","other"] q2X)(y0:Def P w K mg base k "many_of" ["held"] q0G):FnOk P w K mg base CX0 (k+1) f fd ["held"] q5S:=by
 refine F.ok sc_best_round (λvs H Q E h=>?_) (λcdv A outer s H vs Q E hr h=>?_)
 ·obtain⟨p,ns,rfl,_⟩:=h
  rfl
 obtain⟨p,ns,rfl,hk,fin⟩:=h
 w_up
 ·apply qB
  exact(ps_set (i:=1) sc_best_round.nd rfl (by k_ne) (qM (qH (K:=K) rfl) (qM (qH (K:=K) rfl) (pv 0) (qS (n:=0) rfl CC.KNOWN) (λ_ _=>rfl)) (qS (n:=2) rfl CC.BEST) (λ_ _=>rfl)));apply qB;exact(ps_set (i:=2) sc_best_round.nd rfl (by k_ne) (qf (pa_cons (qM (qH (K:=K) rfl) (pv 1) qD (λ_ _=>rfl)) (pa_cons (qM (qH (K:=K) rfl) (pv 1) qD (λ_ _=>rfl)) (pa_cons (qT q0Q (qM (qH (K:=K) rfl) (pv 1) qD (λ_ _=>rfl)) (qM (qH (K:=K) rfl) (pv 1) qD (λ_ _=>rfl))) qA)))));apply qB;exact(ps_set (i:=3) sc_best_round.nd rfl (by k_ne) (qM (qH (K:=K) rfl) (qM (qH (K:=K) rfl) (pv 0) (qS (n:=0) rfl CC.KNOWN) (λ_ _=>rfl)) (qS (n:=5) rfl CC.ROUND) (λ_ _=>rfl)));apply qB
  ·apply qY
   exact(qL q1o (pv 3) qu (qU _))
   ·apply qC
    exact(qK (pv 2))
   exact qO
  apply qC;exact(qK (qI yA hr rfl (pa_cons (pv 2) (pa_cons (qf (pa_cons (qM (qH (K:=K) rfl) (pv 3) qD (λ_ _=>rfl)) (pa_cons (qM (qH (K:=K) rfl) (pv 3) qD (λ_ _=>rfl)) (pa_cons (qT qo (qT q0Q (qI y0 hr rfl (pa_cons (pv 0) qA)) (qM (qH (K:=K) rfl) (pv 3) qD (λ_ _=>rfl))) (qM (qH (K:=K) rfl) (pv 3) qD (λ_ _=>rfl))) qA)))) qA))))
 obtain⟨kp,a,x,y,e,⟨pb,ph,pt,vr,e2,eb,_,_,er⟩,ok⟩:=hk.known;lk;refine⟨_,_,_,_,rfl,rfl,SqT.of e,rfl,?_⟩;lk;refine⟨_,_,_,_,rfl,rfl,SqT.of e2,rfl,?_⟩;lk;refine⟨_,_,_,_,rfl,rfl,SqT.of eb,rfl,?_⟩;lk;refine⟨_,_,_,_,rfl,rfl,SqT.of eb,rfl,?_⟩;lk;refine⟨_,_,_,_,rfl,rfl,SqT.of eb,rfl,?_⟩;lk;refine⟨_,_,_,_,rfl,rfl,SqT.of eb,rfl,?_⟩;lk;refine⟨by show 3<=sizeLine;decide,λt1 h1=>?_⟩;have s1:=Same.new h1 (.tup [.int a.best.s,.int a.best.f,.int (a.best.b-a.best.f)]);have ht1:upd H t1 (.tup [.int a.best.s,.int a.best.f,.int (a.best.b-a.best.f)]) t1=some (Tx (q60 a.best)):=q0
 obtain⟨H1,eH1⟩:∃z,z=upd H t1 (.tup [.int a.best.s,.int a.best.f,.int (a.best.b-a.best.f)]):=⟨_,rfl⟩
 rw[<-eH1] at s1 ht1;lk;rw[<-eH1];refine⟨_,_,_,_,rfl,rfl,SqT.of (s1 _ _ e),rfl,?_⟩;lk;refine⟨_,_,_,_,rfl,rfl,SqT.of (s1 _ _ e2),rfl,?_⟩;lk;have rd:=ok.round
 cases ec:a.round with
 | none=>
  rw[ec] at er rd;obtain rfl:vr = .non:=er;refine iteT ?_;lk;exact fin t1 _ H1 s1 ht1 (ring_one ok.best rd)
 | some r=>
  rw[ec] at er rd;obtain⟨rp,rfl,hrp⟩:=er;refine iteF ?_;lk;refine⟨_,_,_,_,rfl,rfl,SqT.of (s1 _ _ hrp),rfl,?_⟩;lk;refine⟨_,_,_,_,rfl,rfl,SqT.of (s1 _ _ hrp),rfl,?_⟩;lk;refine⟨_,p,ns,rfl,hk.keep s1,?_⟩;lk;refine⟨_,_,_,_,rfl,rfl,SqT.of (s1 _ _ hrp),rfl,?_⟩;lk;refine⟨_,_,_,_,rfl,rfl,SqT.of (s1 _ _ hrp),rfl,?_⟩;lk;refine⟨by show 3<=sizeLine;decide,λt2 h2=>?_⟩;have s2:=Same.new h2 (Tx (q6Y ns.length r));refine⟨t1,t2,q60 a.best,q6Y ns.length r,rfl,s2 _ _ ht1,q0,λt3 H3 s3 ht3=>?_⟩;exact fin t3 _ H3 (s1.trans (s2.trans s3)) ht3 (ring_two ok.best rd)
noncomputable def MaxOf(P:Int->Prop)(m:Int):Prop:=P m/\∀x,P x->x<=m
theorem MaxOf.uniq{P:Int->Prop}{m n:Int}(h:MaxOf P m)(g:MaxOf P n):m=n:=Int.le_antisymm (g.2 m h.1) (h.2 n g.1)
theorem MaxOf.iff{P Q:Int->Prop}{m:Int}(h:MaxOf P m)(e:∀x,Q x↔P x):MaxOf Q m:=⟨(e m).mpr h.1,λx q=>h.2 x ((e x).mp q)⟩
noncomputable def OutP(ns:List Int)(i:Nat)(w:Int):Prop:=∃f b:Nat,f < b/\b<=ns.length/\(b<=i\/i < f)/\w=psum ns b-psum ns f
noncomputable def InP(ns:List Int)(i:Nat)(w:Int):Prop:=∃f b:Nat,f<=i/\i < b/\b<=ns.length/\w=psum ns i-psum ns f+(psum ns b-psum ns (i+1))
noncomputable def MustIs(ns:List Int)(i:Nat)(v:Int):Prop:=∃W B,MaxOf (OutP ns i) W/\MaxOf (InP ns i) B/\v=W-B
theorem MustIs.uniq{ns:List Int}{i:Nat}{v u:Int}(h:MustIs ns i v)(g:MustIs ns i u):v=u:=by
 obtain⟨W,B,h1,h2,rfl⟩:=h;obtain⟨W',B',g1,g2,rfl⟩:=g;rw[h1.uniq g1,h2.uniq g2]
noncomputable def LeftP(ns:List Int)(i:Nat)(w:Int):Prop:=∃f:Nat,f<=i/\w=psum ns i-psum ns f
noncomputable def RightP(ns:List Int)(i:Nat)(w:Int):Prop:=∃b:Nat,i < b/\b<=ns.length/\w=psum ns b-psum ns (i+1)
theorem in_max{L R:Int}(h:MaxOf (LeftP ns i) L)(g:MaxOf (RightP ns i) R):MaxOf (InP ns i) (L+R):=by
 obtain⟨f,h1,h2⟩:=h.1;obtain⟨b,g1,g2,g3⟩:=g.1;refine⟨⟨f,b,h1,g1,g2,by lia⟩,?_⟩;rintro x ⟨f',b',a1,a2,a3,rfl⟩;have:=h.2 _ ⟨f',a1,rfl⟩;have:=g.2 _ ⟨b',a2,a3,rfl⟩
 lia
noncomputable def OutL(ns:List Int)(i:Nat)(w:Int):Prop:=∃f b:Nat,f < b/\b<=i/\b<=ns.length/\w=psum ns b-psum ns f
noncomputable def OutR(ns:List Int)(i:Nat)(w:Int):Prop:=∃f b:Nat,f < b/\b<=ns.length/\i < f/\w=psum ns b-psum ns f
theorem out_iff{w:Int}:OutP ns i w↔OutL ns i w\/OutR ns i w:=by
 constructor
 ·rintro⟨f,b,h1,h2,h3|h3,e⟩
  ·exact .inl ⟨f,b,h1,h3,h2,e⟩
  ·exact .inr ⟨f,b,h1,h2,h3,e⟩
 ·rintro(⟨f,b,h1,h3,h2,e⟩|⟨f,b,h1,h2,h3,e⟩)
  ·exact⟨f,b,h1,h2,.inl h3,e⟩
  ·exact⟨f,b,h1,h2,.inr h3,e⟩
noncomputable def Withs(ns:List Int)(i:Nat)(ws:List Int):Prop:=∀M,M∈ws->(∀x,x∈ws->x<=M)->MaxOf (OutP ns i) M
noncomputable def WsL(ns:List Int)(i:Nat)(ws:List Int):Prop:=(i=0/\ws=[])\/∃W,0 < i/\ws=[W]/\MaxOf (OutL ns i) W
noncomputable def WsR(ns:List Int)(i:Nat)(us ws:List Int):Prop:=(¬i+1 < ns.length/\ws=us)\/∃W,i+1 < ns.length/\ws=us++[W]/\MaxOf (OutR ns i) W
theorem withs_of{us ws:List Int}(hi:i < ns.length)(h:WsL ns i us)(g:WsR ns i us ws):Withs ns i ws/\ws.length<=2/\(ws=[]↔ns.length=1):=by
 have nl:i=0->∀x,¬OutL ns i x:=by
  rintro z x ⟨f,b,h1,h2,_⟩
  lia
 have nr:¬i+1 < ns.length->∀x,¬OutR ns i x:=by
  rintro z x ⟨f,b,h1,h2,h3,_⟩
  lia
 rcases h with⟨h0,rfl⟩|⟨W,h0,rfl,h⟩
 ·rcases g with⟨g0,rfl⟩|⟨V,g0,rfl,g⟩
  ·exact⟨λM hM _=>absurd hM List.not_mem_nil,Nat.zero_le _,by simp;lia⟩
  ·refine⟨λM hM _=>?_,by simp,by simp;lia⟩
   have e:M=V:=by simpa using hM
   subst e;exact g.iff λx=>by rw[out_iff];exact⟨λz=>z.elim (λq=>absurd q (nl h0 x)) id,.inr⟩
 ·rcases g with⟨g0,rfl⟩|⟨V,g0,rfl,g⟩
  ·refine⟨λM hM _=>?_,by simp,by simp;lia⟩
   have e:M=W:=by simpa using hM
   subst e;exact h.iff λx=>by rw[out_iff];exact⟨λz=>z.elim id (λq=>absurd q (nr g0 x)),.inl⟩
  ·refine⟨λM hM hx=>?_,by simp,by simp;lia⟩
   have l1:=hx W (by simp);have l2:=hx V (by simp);have hM':M=W\/M=V:=by simpa using hM
   refine⟨out_iff.mpr ?_,λx hx'=>?_⟩
   ·rcases hM' with rfl|rfl
    ·exact .inl h.1
    ·exact .inr g.1
   ·rcases out_iff.mp hx' with z|z
    ·exact Int.le_trans (h.2 x z) l1
    ·exact Int.le_trans (g.2 x z) l2
theorem q5f{f b:Int}{j:Nat}(h0:0<=f)(h1:f<=b)(h2:b<=(ns.length:Int))(hj:(j:Int)<=b-f):psum (cutI ns f b) j=psum ns (f.toNat+j)-psum ns f.toNat:=by
 unfold cutI;have e:psum ((ns.drop f.toNat).take (b.toNat-f.toNat)) j=psum (ns.drop f.toNat) j:=by
  unfold psum;rw[List.take_take,Nat.min_eq_left (by lia)]
 rw[e];unfold psum;rw[List.take_add,List.sum_append]
 lia
theorem q85{a:Kn}(hi:i<=ns.length)(h0:0 < i)(ok:KnOk a (cutI ns 0 (i:Int))):MaxOf (OutL ns i) a.best.s/\MaxOf (LeftP ns i) (if 0 < a.tail.s then a.tail.s else 0):=by
 have l:=q59 (ns:=ns) (f:=0) (b:=(i:Int)) (by lia) (by lia) (by lia);have l':(cutI ns 0 (i:Int)).length=i:=by lia
 have ps:∀j:Nat,j<=i->psum (cutI ns 0 (i:Int)) j=psum ns j:=λj hj=>by
  rw[q5f (by lia) (by lia) (by lia) (by lia)];have e:(0:Int).toNat+j=j:=by simp
  have z:psum ns (0:Int).toNat=0:=rfl;rw[e,z]
  lia
 refine⟨?_,?_⟩
 ·obtain⟨f,b,h1,h2,e⟩:=ok.best.has
  have es:a.best.s=psum ns b-psum ns f:=by rw[e];show psum _ b-psum _ f=_;rw[ps b (by lia),ps f (by lia)]
  refine⟨⟨f,b,h1,by lia,by lia,es⟩,?_⟩;rintro x ⟨f',b',a1,a2,a3,rfl⟩;have q:=ok.best.le _ ⟨f',b',a1,by lia,rfl⟩;rw[ps b' (by lia),ps f' (by lia)] at q;unfold Sx.le at q;dsimp only at q
  lia
 ·obtain⟨f,h1,e⟩:=ok.tail.has
  have es:a.tail.s=psum ns i-psum ns f:=by rw[e];show psum _ _-psum _ f=_;rw[l',ps i (Nat.le_refl _),ps f (by lia)]
  have up:∀f':Nat,f' < i->psum ns i-psum ns f'<=a.tail.s:=λf' hf'=>by
   have q:=ok.tail.le _ ⟨f',by lia,rfl⟩;rw[l',ps i (Nat.le_refl _),ps f' (by lia)] at q;unfold Sx.le at q;dsimp only at q
   lia
  refine⟨?_,?_⟩
  ·split
   ·exact⟨f,by lia,es⟩
   ·exact⟨i,Nat.le_refl _,by lia⟩
  ·rintro x ⟨f',a1,rfl⟩
   by_cases hf:f'=i
   ·subst hf
    split<;>lia
   ·have:=up f' (by lia)
    split<;>lia
theorem q6U{a:Kn}(hi:i+1 < ns.length)(ok:KnOk a (cutI ns ((i:Int)+1) (ns.length:Int))):MaxOf (OutR ns i) a.best.s/\MaxOf (RightP ns i) (if 0 < a.head.s then a.head.s else 0):=by
 have l:=q59 (ns:=ns) (f:=(i:Int)+1) (b:=(ns.length:Int)) (by lia) (by lia) (by lia)
 have ps:∀j:Nat,j<=ns.length-(i+1)->psum (cutI ns ((i:Int)+1) (ns.length:Int)) j=psum ns (i+1+j)-psum ns (i+1):=λj hj=>by
  rw[q5f (by lia) (by lia) (by lia) (by lia)];have e:((i:Int)+1).toNat=i+1:=by lia
  rw[e]
 refine⟨?_,?_⟩
 ·obtain⟨f,b,h1,h2,e⟩:=ok.best.has
  have es:a.best.s=psum ns (i+1+b)-psum ns (i+1+f):=by rw[e];show psum _ b-psum _ f=_;rw[ps b (by lia),ps f (by lia)];lia
  refine⟨⟨i+1+f,i+1+b,by lia,by lia,by lia,es⟩,?_⟩;rintro x ⟨f',b',a1,a2,a3,rfl⟩;have q:=ok.best.le _ ⟨f'-(i+1),b'-(i+1),by lia,by lia,rfl⟩;rw[ps _ (by lia),ps _ (by lia)] at q;have e1:i+1+(b'-(i+1))=b':=by lia
  have e2:i+1+(f'-(i+1))=f':=by lia
  rw[e1,e2] at q;unfold Sx.le at q;dsimp only at q
  lia
 ·obtain⟨b,h1,h2,e⟩:=ok.head.has
  have es:a.head.s=psum ns (i+1+b)-psum ns (i+1):=by rw[e];show psum _ b=_;rw[ps b (by lia)]
  have up:∀b':Nat,i+1 < b'->b'<=ns.length->psum ns b'-psum ns (i+1)<=a.head.s:=λb' h1 h2=>by
   have q:=ok.head.le _ ⟨b'-(i+1),by lia,by lia,rfl⟩;rw[ps _ (by lia)] at q;have e1:i+1+(b'-(i+1))=b':=by lia
   rw[e1] at q;unfold Sx.le at q;dsimp only at q
   lia
  refine⟨?_,?_⟩
  ·split
   ·exact⟨i+1+b,by lia,by lia,es⟩
   ·exact⟨i+1,by lia,by lia,by lia⟩
  ·rintro x ⟨b',a1,a2,rfl⟩
   by_cases hb:b'=i+1
   ·subst hb
    split<;>lia
   ·have:=up b' (by lia) a2
    split<;>lia
noncomputable def sp_must:Sp:=λvs H Q _=>∃(p:Addr) (i:Int) (ns:List Int),vs=[.ref p,.int i]/\IsKept H 13 p ns/\0<=i/\i < (ns.length:Int)/\(ns.length=1->∀H',Same H H'->Q .non H')/\(1 < ns.length->∀v H',Same H H'->MustIs ns i.toNat v->Q (.int v) H')
theorem ok_must(F:Fun K "must_be" "must_be" q2a f fd)(Z:Blt mg)(CC:Cons mg)
  (yG:Def P w K mg base k "refuse_place" ["held","place"] q4K)(y0:Def P w K mg base k "many_of" ["held"] q0G)(y6:Def P w K mg base k "known_of" ["held","first","beyond"] (q0d 13)):FnOk P w K mg base CX0 (k+1) f fd ["held","place"] sp_must:=by
 refine F.ok sc_must_be (λvs H Q E h=>?_) (λcdv A outer s H vs Q E hr h=>?_)
 ·obtain⟨p,i,ns,rfl,_⟩:=h
  rfl
 obtain⟨p,i',ns,rfl,hk,h0,h1,f1,f2⟩:=h
 obtain⟨i,ei⟩:∃i:Nat,i'=i:=⟨i'.toNat,by lia⟩
 subst ei;rw[Int.toNat_natCast] at f2
 w_up
 ·apply qB
  exact(qj (qI yG hr rfl (pa_cons (pv 0) (pa_cons (pv 1) qA))));apply qB;exact(ps_set (i:=2) sc_must_be.nd rfl (by k_ne) (qI y0 hr rfl (pa_cons (pv 0) qA)));apply qB;exact(ps_set (i:=3) sc_must_be.nd rfl (by k_ne) (pe_lst qA));apply qB;exact(ps_set (i:=4) sc_must_be.nd rfl (by k_ne) qD);apply qB
  ·apply qY
   exact(qL q35 (pv 1) qD (qU _))
   ·apply qB
    exact(ps_set (i:=5) sc_must_be.nd rfl (by k_ne) (qI y6 hr rfl (pa_cons (pv 0) (pa_cons qD (pa_cons (pv 1) qA)))));apply qB;exact(qj (q1R (K:=K) rfl PySem.F.plainAttrs_list PySem.F.slot_list_append PySem.F.type_list_append qx (pv 3) (pa_cons (qM (qH (K:=K) rfl) (qM (qH (K:=K) rfl) (pv 5) (qS (n:=2) rfl CC.BEST) (λ_ _=>rfl)) qD (λ_ _=>rfl)) qA)));apply qC;exact(q4N (i:=4) sc_must_be.nd rfl (by k_ne) (qP (q1v rfl) rfl Z.max_ PyProof.Rows.boot_max (pa_cons qD (pa_cons (qM (qH (K:=K) rfl) (qM (qH (K:=K) rfl) (pv 5) (qS (n:=4) rfl CC.TAIL) (λ_ _=>rfl)) qD (λ_ _=>rfl)) qA))) q5v)
   exact qO
  apply qB
  ·apply qY
   exact(qL q2P (qT qo (pv 1) qD) (pv 2) (qU _))
   ·apply qB
    exact(ps_set (i:=6) sc_must_be.nd rfl (by k_ne) (qI y6 hr rfl (pa_cons (pv 0) (pa_cons (qT qo (pv 1) qD) (pa_cons (pv 2) qA)))));apply qB;exact(qj (q1R (K:=K) rfl PySem.F.plainAttrs_list PySem.F.slot_list_append PySem.F.type_list_append qx (pv 3) (pa_cons (qM (qH (K:=K) rfl) (qM (qH (K:=K) rfl) (pv 6) (qS (n:=2) rfl CC.BEST) (λ_ _=>rfl)) qD (λ_ _=>rfl)) qA)));apply qC;exact(q4N (i:=4) sc_must_be.nd rfl (by k_ne) (qP (q1v rfl) rfl Z.max_ PyProof.Rows.boot_max (pa_cons qD (pa_cons (qM (qH (K:=K) rfl) (qM (qH (K:=K) rfl) (pv 6) (qS (n:=3) rfl CC.HEAD) (λ_ _=>rfl)) qD (λ_ _=>rfl)) qA))) q5v)
   exact qO
  apply qB
  ·apply qY
   exact(qw (q26 (pv 3) (λ_=>rfl)))
   ·apply qC
    exact(qK qu)
   exact qO
  apply qC;exact(qK (qT q0Q (qP (q5n (K:=K) rfl rfl) rfl Z.max_ PyProof.Rows.boot_max (pa_cons (pv 3) qA)) (pv 4)))
 lk;refine⟨13,p,_,ns,rfl,hk,h0,h1,?_⟩;lk;refine⟨13,p,ns,rfl,hk,?_⟩;lk;refine⟨Nat.zero_le _,λwl hwl=>?_⟩;have s1:=Same.new hwl (.lst []);lk;refine ifJ (λσ' H'=>∃(us:List Int) (L:Int) (o5:Option V),Same H H'/\H' wl=some (.lst (us.map V.int))/\us.length<=1/\WsL ns i us/\MaxOf (LeftP ns i) L/\σ'=[some (.ref p),some (.int i),some (.int ns.length),some (.ref wl),some (.int L),o5,none]) ?_ (λhpos=>?_) (λR hR hpos=>?_)
 case refine_2=>
  obtain rfl:i=0:=by lia
  refine⟨[],0,_,s1,q0,Nat.zero_le _,.inl ⟨rfl,rfl⟩,⟨⟨0,Nat.le_refl _,by lia⟩,?_⟩,rfl⟩;rintro x ⟨f,hf,rfl⟩;obtain rfl:f=0:=by lia
  lia
 case refine_3=>
  lk;refine⟨p,0,_,ns,rfl,hk.keep s1,by decide,by lia,by lia,λkp a H2 s2 hk2 ok2=>?_⟩;obtain⟨m1,m2⟩:=q85 (by lia) (by lia) ok2;obtain⟨pb,ph,pt,vr,ep,eb,_,et,_⟩:=hk2.ex;have hwl2:=s2 _ _ (q0 (H:=H) (a:=wl) (o:=.lst []));lk;refine⟨.inl ⟨rfl,_,SqL.of hwl2⟩,?_⟩;lk;refine⟨_,_,_,_,rfl,rfl,SqT.of ep,rfl,?_⟩;lk;refine⟨_,_,_,_,rfl,rfl,SqT.of eb,rfl,?_⟩;refine⟨wl,_,_,rfl,rfl,hwl2,by decide,?_⟩
  have nwl:∀{x:Addr} {xs:List V},H2 x=some (.tup xs)->upd H2 wl (.lst ([]++[.int a.best.s])) x=some (.tup xs):=λ{x xs} e=>by
   rw[qG (λz=>by rw[z,hwl2] at e;cases e)];exact e
  lk;refine⟨_,_,_,_,rfl,rfl,SqT.of (nwl ep),rfl,?_⟩;lk;refine⟨_,_,_,_,rfl,rfl,SqT.of (nwl et),rfl,?_⟩;refine⟨_,_,rfl,?_⟩;lk;refine hR _ _ ⟨[a.best.s],0+(if a.tail.s > 0 then a.tail.s else 0),_,(s1.trans s2).upd hwl,q0,Nat.le_refl _,.inr ⟨_,by lia,rfl,m1⟩,?_,rfl⟩;rw[Int.zero_add];exact m2
 rintro _ H2 ⟨us,L,o5,s2,hwl2,hul,hws,hL,rfl⟩;lk;refine ifJ (λσ' H'=>∃(ws:List Int) (B:Int) (o6:Option V),Same H H'/\H' wl=some (.lst (ws.map V.int))/\WsR ns i us ws/\MaxOf (InP ns i) B/\σ'=[some (.ref p),some (.int i),some (.int ns.length),some (.ref wl),some (.int B),o5,o6]) ?_ (λhlt=>?_) (λR hR hlt=>?_)
 case refine_2=>
  refine⟨us,L,_,s2,hwl2,.inl ⟨by lia,rfl⟩,?_,rfl⟩;have hr0:MaxOf (RightP ns i) 0:=by
   refine⟨⟨i+1,by lia,by lia,by lia⟩,?_⟩;rintro x ⟨b,a1,a2,rfl⟩;obtain rfl:b=i+1:=by lia
   lia
  have:=in_max hL hr0;rw[Int.add_zero] at this;exact this
 case refine_3=>
  lk;refine⟨p,_,_,ns,rfl,hk.keep s2,by lia,by lia,by lia,λkp a H3 s3 hk3 ok3=>?_⟩;obtain⟨m1,m2⟩:=q6U (by lia) ok3;obtain⟨pb,ph,pt,vr,ep,eb,eh,_,_⟩:=hk3.ex;have hwl3:=s3 _ _ hwl2;lk;refine⟨.inl ⟨rfl,_,SqL.of hwl3⟩,?_⟩;lk;refine⟨_,_,_,_,rfl,rfl,SqT.of ep,rfl,?_⟩;lk;refine⟨_,_,_,_,rfl,rfl,SqT.of eb,rfl,?_⟩;refine⟨wl,_,_,rfl,rfl,hwl3,small (by rw[List.length_map];lia),?_⟩
  have nwl:∀{x:Addr} {xs:List V},H3 x=some (.tup xs)->upd H3 wl (.lst (us.map V.int++[.int a.best.s])) x=some (.tup xs):=λ{x xs} e=>by
   rw[qG (λz=>by rw[z,hwl3] at e;cases e)];exact e
  lk;refine⟨_,_,_,_,rfl,rfl,SqT.of (nwl ep),rfl,?_⟩;lk;refine⟨_,_,_,_,rfl,rfl,SqT.of (nwl eh),rfl,?_⟩;refine⟨_,_,rfl,?_⟩;lk;refine hR _ _ ⟨us++[a.best.s],L+(if a.head.s > 0 then a.head.s else 0),_,(s2.trans s3).upd hwl,by rw[q0,List.map_append];rfl,.inr ⟨_,by lia,rfl,m1⟩,in_max hL m2,rfl⟩
 rintro _ H3 ⟨ws,B,o6,s3,hwl3,hwr,hB,rfl⟩;obtain⟨hw,hwz,hwe⟩:=withs_of (by lia) hws hwr;lk;refine⟨_,.inl ⟨_,SqL.of hwl3,rfl⟩,?_⟩;by_cases hn:ns.length=1
 ·obtain rfl:=hwe.mpr hn
  exact f1 hn H3 s3
 ·have hne:ws≠[]:=λz=>hn (hwe.mp z)
  have e:(!(!(ws.map V.int).isEmpty))=false:=by
   cases ws with
   |nil=>exact absurd rfl hne
   |cons _ _=>rfl
  show if(!(!(ws.map V.int).isEmpty))=true then _ else _;rw[e];refine iteF ?_;lk;refine⟨wl,ws,rfl,SqL.of hwl3,List.length_pos_iff.mpr hne,λM hM1 hM2=>?_⟩;lk;exact f2 (by lia) _ H3 s3 ⟨M,B,hw M hM1 hM2,hB,rfl⟩
noncomputable def oV:Option Int->V
 |none=>.non
 |some i=>.int i
noncomputable def gm:Option Int->Option Int->Option Int
 |none,b=>b
 |some x,none=>some x
 |some x,some y=>some (if y > x then y else x)
theorem q0x{p:Addr}(s:Same H H')(h:H' p=none):H p=none:=by
 cases e:H p with
 |none=>rfl
 |some o=>rw[s p o e] at h;cases h
noncomputable def q4j:Sp:=λvs H Q _=>∃a b:Option Int,vs=[oV a,oV b]/\Q (oV (gm a b)) H
theorem ok_great(F:Fun K "greater_of" "greater_of" q1i f fd)(Z:Blt mg):FnOk P w K mg base CX0 (k+1) f fd ["one","other"] q4j:=by
 refine F.ok q4p (λvs H Q E h=>?_) (λcdv A outer s H vs Q E hr h=>?_)
 ·obtain⟨a,b,rfl,_⟩:=h
  rfl
 obtain⟨a,b,rfl,q⟩:=h
 w_up
 ·apply qB
  ·apply qY
   exact(qL q1o (pv 0) qu (qU _))
   ·apply qC
    exact(qK (pv 1))
   exact qO
  apply qB
  ·apply qY
   exact(qL q1o (pv 1) qu (qU _))
   ·apply qC
    exact(qK (pv 0))
   exact qO
  apply qC;exact(qK (qP (q1v rfl) rfl Z.max_ PyProof.Rows.boot_max (pa_cons (pv 0) (pa_cons (pv 1) qA))))
 cases a with
 | none=>
  cases b with
  | none=>
   lk;exact q
  | some y=>
   lk;exact q
 | some x=>
  cases b with
  | none=>
   lk;exact q
  | some y=>
   lk;refine⟨_,_,rfl,?_⟩;exact q
noncomputable def sfx{α:Type}(op:α->α->α)(e:α)(n p:Nat)(f:Nat->α):α:=((List.range' p (n-p)).map f).foldr op e
theorem q1Z{α:Type}{op:α->α->α}{e:α}{f:Nat->α}(h:n<=p):sfx op e n p f=e:=by
 unfold sfx;rw[show n-p=0 by lia];rfl
theorem q0q{α:Type}{op:α->α->α}{e:α}{f:Nat->α}(h:p < n):sfx op e n p f=op (f p) (sfx op e n (p+1) f):=by
 unfold sfx;rw[show n-p=(n-(p+1))+1 by lia,List.range'_succ,List.map_cons,List.foldr_cons]
theorem q2r{C:Nat->Prop}(h0:∀p,n<=p->C p)(hs:∀p,p < n->C (p+1)->C p):∀p,C p:=by
 intro p
 obtain⟨d,hd⟩:∃d,d=n-p:=⟨_,rfl⟩
 induction d generalizing p with
 |zero=>exact h0 p (by lia)
 |succ d ih=>exact hs p (by lia) (ih (p+1) (by lia))
noncomputable abbrev SL:=Int×List (Nat×Nat)
noncomputable def cb:Option SL->Option SL->Option SL
 |none,b=>b
 |some x,none=>some x
 |some x,some y=>some (if y.1 > x.1 then y else x)
noncomputable abbrev val(a:Option SL):Option Int:=a.map Prod.fst
theorem q3S(a b:Option SL):val (cb a b)=gm (val a) (val b):=by
 cases a with
 |none=>rfl
 | some x=>
  cases b with
  |none=>rfl
  | some y=>
   show some (if y.1 > x.1 then y else x).1=some (if y.1 > x.1 then y.1 else x.1);split<;>rfl
theorem cb_or(a b:Option SL):cb a b=a\/cb a b=b:=by
 cases a with
 |none=>exact .inr rfl
 | some x=>
  cases b with
  |none=>exact .inl rfl
  | some y=>
   show some (if y.1 > x.1 then y else x)=_\/some (if y.1 > x.1 then y else x)=_;split
   ·exact .inr rfl
   ·exact .inl rfl
theorem cb_left{a b:Option SL}{x:SL}(e:cb a b=some x)(h:val a=val (cb a b)):a=some x:=by
 cases a with
 | none=>
  rw[e] at h;cases h
 | some y=>
  cases b with
  |none=>exact e
  | some z=>
   rw[<-e];have h':some y.1=some (if z.1 > y.1 then z else y).1:=h;show some y=some (if z.1 > y.1 then z else y);split at h'<;>rename_i hz
   ·have:=Option.some.inj h'
    lia
   ·rw[if_neg hz]
theorem q7d{a b:Option SL}(h:val a≠val (cb a b)):cb a b=b:=by
 rcases cb_or a b with e|e
 ·exact absurd (by rw[e]) h
 ·exact e
theorem cb_none{a b:Option SL}:cb a b=none↔a=none/\b=none:=by
 cases a with
 |none=>exact⟨λe=>⟨rfl,e⟩,λe=>e.2⟩
 |some x=>cases b<;>exact⟨λe=>(by cases e),λe=>(by cases e.1)⟩
theorem gm_map{a b:Option Int}{k:Int}:(gm a b).map (k+·)=gm (a.map (k+·)) (b.map (k+·)):=by
 cases a with
 |none=>rfl
 | some x=>
  cases b with
  |none=>rfl
  | some y=>
   show some (k+(if y > x then y else x))=some (if k+y > k+x then k+y else k+x);by_cases h:y > x
   ·rw[if_pos h,if_pos (by lia)]
   ·rw[if_neg h,if_neg (by lia)]
noncomputable def put1(ns:List Int)(f b:Nat)(s:SL):SL:=(psum ns b-psum ns f+s.1,(f,b)::s.2)
noncomputable def fgt(ns:List Int)(S:Nat->Option SL)(f b:Nat):Option SL:=sfx cb none (ns.length+1) b λb'=>(S b').map (put1 ns f b')
noncomputable def fb(ns:List Int)(g:Nat):Nat->Nat->Option SL
 |0,_=>some (0,[])
 |c+1,p=>sfx cb none ns.length p λf=>fgt ns (λb=>fb ns g c (b+g)) f (f+1)
noncomputable def fg(ns:List Int)(g c f:Nat):Option SL:=fgt ns (λb=>fb ns g c (b+g)) f (f+1)
theorem q42:fb ns g 0 p=some (0,[]):=by rw[fb]
theorem q4W(h:ns.length<=p):fb ns g (c+1) p=none:=by rw[fb];exact q1Z h
theorem q43(h:p < ns.length):fb ns g (c+1) p=cb (fg ns g c p) (fb ns g (c+1) (p+1)):=by
 rw[fb,q0q h,<-fb];rfl
theorem q1N{S:Nat->Option SL}{f:Nat}(h:ns.length+1<=b):fgt ns S f b=none:=q1Z h
theorem q0i{S:Nat->Option SL}{f:Nat}(h:b < ns.length+1):fgt ns S f b=cb ((S b).map (put1 ns f b)) (fgt ns S f (b+1)):=q0q h
theorem q1T{f:Nat}{s:Option SL}:val (s.map (put1 ns f b))=(val s).map ((psum ns b-psum ns f)+·):=by
 cases s<;>rfl
theorem q63{S:Nat->Option SL}{f f':Nat}:∀b,val (fgt ns S f b)=(val (fgt ns S f' b)).map ((psum ns f'-psum ns f)+·):=by
 refine q2r (n:=ns.length+1) (λp h=>?_) (λp h ih=>?_)
 ·rw[q1N h,q1N h]
  rfl
 ·have e:∀o:Option Int,o.map ((psum ns p-psum ns f)+·)=(o.map ((psum ns p-psum ns f')+·)).map ((psum ns f'-psum ns f)+·):=λo=>by
   cases o with
   |none=>rfl
   | some x=>
    show some (psum ns p-psum ns f+x)=some (psum ns f'-psum ns f+(psum ns p-psum ns f'+x));rw[show psum ns p-psum ns f+x=psum ns f'-psum ns f+(psum ns p-psum ns f'+x) by lia]
  rw[q0i h,q0i h,q3S,q3S,gm_map,ih,q1T,q1T,e]
theorem fg_end{f:Nat}(h:ns.length<=f):fg ns g c f=none:=q1N (by lia)
theorem fg_val{f:Nat}(h:f < ns.length):val (fg ns g c f)=(gm (val (fb ns g c (f+1+g))) (val (fg ns g c (f+1)))).map (ns.getD f 0+·):=by
 have e1:=q0m (ns:=ns) (i:=f) h;unfold fg;rw[q0i (by lia),q3S,q1T,q63 (f':=f+1),gm_map];rw[show psum ns (f+1)-psum ns f=ns.getD f 0 by lia]
theorem fb_val(h:p < ns.length):val (fb ns g (c+1) p)=gm (val (fg ns g c p)) (val (fb ns g (c+1) (p+1))):=by rw[q43 h,q3S]
theorem q6q{ns:List Int}{g:Nat}:∀{c p:Nat},c=0\/(p<=ns.length/\c*(1+g)<=ns.length-p+g)->fb ns g c p≠none
 |0,p,_=>by rw[q42];exact λz=>by cases z
 | c+1,p,h=>by
  rcases h with h|⟨hp,h⟩
  ·lia
  have hm:(c+1)*(1+g)=c*(1+g)+(1+g):=by rw[Nat.add_mul,Nat.one_mul]
  rw[q43 (by lia)];intro z;have z1:=(cb_none.mp z).1;unfold fg at z1;rw[q0i (by lia)] at z1;have z2:=(cb_none.mp z1).1;refine q6q (ns:=ns) (g:=g) (c:=c) (p:=p+1+g) ?_ (Option.map_eq_none_iff.mp z2);by_cases hc:c=0
  ·exact .inl hc
  ·refine .inr ⟨?_,?_⟩
   ·have:1*(1+g)<=c*(1+g):=Nat.mul_le_mul_right _ (by lia)
    lia
   ·have:1*(1+g)<=c*(1+g):=Nat.mul_le_mul_right _ (by lia)
    lia
theorem q1B{ns:List Int}{g:Nat}:∀{c p:Nat},c≠0->ns.length+g < c*(1+g)+p->fb ns g c p=none
 |0,p,h,_=>absurd rfl h
 | c+1,p,_,h=>by
  have hm:(c+1)*(1+g)=c*(1+g)+(1+g):=by rw[Nat.add_mul,Nat.one_mul]
  have key:∀b f,p<=f->f < b->fgt ns (λb=>fb ns g c (b+g)) f b=none:=by
   intro b f hf hb
   revert hb
   refine q2r (n:=ns.length+1) (C:=λb=>f < b->fgt ns (λb=>fb ns g c (b+g)) f b=none) (λb hb _=>q1N hb) (λb hb ih hfb=>?_) b;rw[q0i hb,ih (by lia)];by_cases hc:c=0
   ·subst hc
    lia
   ·rw[q1B hc (by lia)]
    rfl
  refine q2r (n:=ns.length) (C:=λq=>p<=q->fb ns g (c+1) q=none) (λq hq _=>q4W hq) (λq hq ih hpq=>?_) p (Nat.le_refl _);rw[q43 hq,ih (by lia)];unfold fg;rw[key _ _ hpq (by lia)];rfl
theorem ixN_ok{k:Int}(h0:0<=k)(h:k < (n:Int)):ixN n k=some k.toNat:=by
 unfold ixN;rw[if_pos h0,if_pos h]
noncomputable def qW(n:Nat)(g:Nat->Option Int):List (Option Int):=(List.range n).map g
theorem q0L{g:Nat->Option Int}:(qW n g).length=n:=by
 unfold qW;rw[List.length_map,List.length_range]
theorem q1q{g:Nat->Option Int}(h:i < n):(qW n g)[i]?=some (g i):=by
 unfold qW;rw[List.getElem?_map,List.getElem?_range h];rfl
theorem q0B{g h:Nat->Option Int}(e:∀i,i < n->g i=h i):qW n g=qW n h:=List.map_congr_left λi hi=>e i (List.mem_range.mp hi)
theorem line_set{q:Nat}{g:Nat->Option Int}{x:Option Int}:(qW n g).set q x=qW n (λk=>if k=q then x else g k):=by
 refine List.ext_getElem? λi=>?_;by_cases hi:i < n
 ·rw[q1q hi,List.getElem?_set]
  by_cases hq:q=i
  ·rw[if_pos hq,if_pos (by rw[q0L];lia),if_pos hq.symm]
  ·rw[if_neg hq,q1q hi,if_neg (λz=>hq z.symm)]
 ·rw[List.getElem?_eq_none (by rw[List.length_set,q0L];lia),List.getElem?_eq_none (by rw[q0L];lia)]
theorem atO{g:Nat->Option Int}(h:i < n):atI ((qW n g).map oV) (i:Int)=some (oV (g i)):=qi (by rw[List.getElem?_map,q1q h];rfl)
theorem q54{α:Type}{x:α}:∀n:Nat,(List.replicate n [x]).flatten=List.replicate n x
 |0=>rfl
 |n+1=>by rw[List.replicate_succ,List.flatten_cons,List.replicate_succ,q54 n];rfl
theorem q4y{x:Option Int}:(List.replicate n [oV x]).flatten=(qW n (λ_=>x)).map oV:=by
 rw[q54];unfold qW;rw[List.map_map];have e:(oV ∘ λ(_:Nat)=>x)=λ_=>oV x:=rfl;rw[e,List.map_const',List.length_range]
theorem q5o{g e:Nat->Option Int}(hp:p+(i+1)=n):qW m (λk=>if k=p then g p else if n<=k+i then g k else e k)=qW m (λk=>if n<=k+(i+1) then g k else e k):=by
 refine q0B λk _=>?_;by_cases h:k=p
 ·subst h
  rw[if_pos rfl,if_pos (by lia)]
 ·rw[if_neg h]
  by_cases h2:n<=k+i
  ·rw[if_pos h2,if_pos (by lia)]
  ·rw[if_neg h2,if_neg (by lia)]
theorem q5p{q:Nat}{g:Nat->Option Int}{x:Option Int}:((qW n g).map oV).set q (oV x)=(qW n (λk=>if k=q then x else g k)).map oV:=by rw[<-List.map_set,line_set]
theorem gm_none{a:Option Int}:gm a none=a:=by cases a<;>rfl
theorem q6k{l:Addr}{xs:List V}{f:Nat->Option Int}(hl:H l=some (.lst xs))(h0:xs[0]?=some (.ref d))(ha:H a=some (.lst ((qW (n+1) f).map oV))):a≠l:=λz=>by
 rw[z,hl] at ha;have ha':xs=(qW (n+1) f).map oV:=by injection ha with q;injection q
 rw[ha',List.getElem?_map,q1q (by lia)] at h0
 cases e:f 0 with
 |none=>rw[e] at h0;cases h0
 |some x=>rw[e] at h0;cases h0
noncomputable def bgF(ns:List Int)(bf:Nat->Option Int)(p:Nat):Option Int:=val (fgt ns (λb=>(bf b).map λx=>(x,[])) p (p+1))
theorem bg_end(h:ns.length<=p):bgF ns bf p=none:=by
 unfold bgF;rw[q1N (by lia)];rfl
theorem bg_step(h:p < ns.length):bgF ns bf p=(gm (bf (p+1)) (bgF ns bf (p+1))).map (ns.getD p 0+·):=by
 have e1:=q0m (ns:=ns) (i:=p) h;have e2:∀o:Option Int,val (o.map λx=>((x,[]):SL))=o:=λo=>by cases o<;>rfl
 unfold bgF;rw[q0i (by lia),q3S,q1T,q63 (f':=p+1),gm_map,e2];rw[show psum ns (p+1)-psum ns p=ns.getD p 0 by lia]
theorem fgt_val{S S':Nat->Option SL}{f:Nat}(h:∀b,b<=ns.length->val (S b)=val (S' b)):∀b,val (fgt ns S f b)=val (fgt ns S' f b):=by
 refine q2r (n:=ns.length+1) (λp hp=>?_) (λp hp ih=>?_)
 ·rw[q1N hp,q1N hp]
 ·rw[q0i hp,q0i hp,q3S,q3S,ih,q1T,q1T,h p (by lia)]
theorem bg_fg(h:∀b,b<=ns.length->bf b=val (fb ns g c (b+g)))(p:Nat):bgF ns bf p=val (fg ns g c p):=by
 have e2:∀o:Option Int,val (o.map λx=>((x,[]):SL))=o:=λo=>by cases o<;>rfl
 exact fgt_val (λb hb=>by rw[e2,h b hb]) _
noncomputable def q7C:Sp:=λvs H Q _=>∃(r b:Addr) (ns:List Int) (bf:Nat->Option Int),vs=[.ref r,.ref b]/\H r=some (.lst (ns.map V.int))/\H b=some (.lst ((qW (ns.length+1) bf).map oV))/\ns.length<=90000/\
 ∀(l:Addr) (H':Hp),Same H H'->H l=none->H' l=some (.lst ((qW (ns.length+1) (bgF ns bf)).map oV))->Q (.ref l) H'
theorem ok_begun(F:Fun K "begun_line" "begun_line" q1l f fd)(Z:Blt mg)
  (yX:Def P w K mg base k "greater_of" ["one","other"] q4j):FnOk P w K mg base CX0 (k+1) f fd ["row","behind"] q7C:=by
 refine F.ok sc_begun_line (λvs H Q E h=>?_) (λcdv A outer s H vs Q E hr h=>?_)
 ·obtain⟨r,b,ns,bf,rfl,_⟩:=h
  rfl
 obtain⟨r,b,ns,bf,rfl,hR,hb,hn,q⟩:=h
 w_up
 ·apply qB
  exact(ps_set (i:=2) sc_begun_line.nd rfl (by k_ne) (qT op_rep (pe_lst (pa_cons qu qA)) (qT qo (qP (qQ (K:=K) rfl) rfl Z.len_ PySem.boot_len (pa_cons (pv 0) qA)) qD)));apply qB
  ·apply q1Q PassesOwn.never rfl
   exact(q3l rfl Z.range_ (pa_cons (qT q0Q (qP (qQ (K:=K) rfl) rfl Z.len_ PySem.boot_len (pa_cons (pv 0) qA)) qD) (pa_cons (q3m q1U qD) (pa_cons (q3m q1U qD) qA))));exact(qZ (i:=3) sc_begun_line.nd rfl (by k_ne))
   ·apply qB
    exact(ps_set (i:=4) sc_begun_line.nd rfl (by k_ne) (qI yX hr rfl (pa_cons (qM (qR (K:=K) rfl) (pv 1) (qT qo (pv 3) qD) (λ_ _=>rfl)) (pa_cons (qM (qR (K:=K) rfl) (pv 2) (qT qo (pv 3) qD) (λ_ _=>rfl)) qA))));apply qC;apply qY;exact(qL q6Z (pv 4) qu (qU _))
    ·apply qC
     exact(ps_asg (qT qo (qM (qR (K:=K) rfl) (pv 0) (pv 3) (λ_ _=>rfl)) (pv 4)) (pg_sub (pv 2) (pv 3) q7F (λ_=>rfl)))
    exact qO
  apply qC;exact(qK (pv 2))
 have hl:(ns.map V.int).length=ns.length:=List.length_map _;lk;refine⟨by show 1<=sizeLine;decide,λl1 h1=>?_⟩;lk;refine⟨r,_,rfl,.inl (SqL.of (Same.new h1 _ _ _ hR)),?_⟩;lk;rw[hl];refine⟨l1,(ns.length:Int)+1,_,rfl,rfl,q0,by lia,by lia,?_,λst hst=>?_⟩
 ·show 1*((ns.length:Int)+1).toNat<=sizeLine
  exact Nat.le_of_lt (small (by lia))
 have en:((ns.length:Int)+1).toNat=ns.length+1:=by lia
 have hsh:H st=none:=q0x (Same.new h1 _) hst;have s1:Same H (upd (upd H l1 (.lst [.non])) st (.lst (List.replicate ((ns.length:Int)+1).toNat [V.non]).flatten)):=(Same.new h1 _).upd hsh;lk;refine⟨r,_,rfl,.inl (SqL.of (s1 _ _ hR)),?_⟩;lk;refine⟨_,_,rfl,⟨by lia,by lia,by lia,by lia⟩,?_⟩;have eN:(((ns.map V.int).length:Int)-1 - -1).toNat=ns.length:=by lia
 rw[eN];refine q53 (λi σ H'=>∃o3 o4,Same H H'/\H' st=some (.lst ((qW (ns.length+1) (λp=>if ns.length<=p+i then bgF ns bf p else none)).map oV))/\σ=[some (.ref r),some (.ref b),some (.ref st),o3,o4]) ⟨none,none,s1,?_,rfl⟩ ?_ ?_
 ·rw[q0,en,show V.non=oV none from rfl,q4y (x:=none)]
  refine congrArg (λz=>some (HO.lst (List.map oV z))) (q0B λi hi=>?_);split
  ·rw[bg_end (by lia)]
  ·rfl
 ·rintro i σ H1 hi ⟨o3,o4,sm,hl1,rfl⟩
  have ei:(((ns.map V.int).length:Int)-1-i)=((ns.length-1-i:Nat):Int):=by lia
  have hp1:ns.length-1-i+1 < ns.length+1:=by lia
  have hb1:=sm _ _ hb;rw[ei]
  obtain⟨p,hp⟩:∃p,p=ns.length-1-i:=⟨_,rfl⟩
  rw[<-hp];lk;refine⟨b,_,((p+1:Nat):Int),_,rfl,by push_cast;rfl,SqL.of hb1,atO (by lia),?_⟩;lk;refine⟨st,_,((p+1:Nat):Int),_,rfl,by push_cast;rfl,SqL.of hl1,atO (by lia),?_⟩;refine⟨_,_,rfl,?_⟩;rw[if_pos (by lia)];have e3:=bg_step (ns:=ns) (bf:=bf) (p:=p) (by lia);have hR1:=sm _ _ hR;generalize gm (bf (p+1)) (bgF ns bf (p+1))=o at e3 ⊢;have hld:=q5o (m:=ns.length+1) (n:=ns.length) (i:=i) (p:=p) (g:=bgF ns bf) (e:=λ_=>none) (by lia)
  cases o with
  | none=>
   lk;refine⟨_,_,sm,?_,rfl⟩;rw[hl1,<-hld];refine congrArg (λz=>some (HO.lst (List.map oV z))) (q0B λk hk=>?_);by_cases z:k=p
   ·subst z
    rw[if_pos rfl,e3,if_neg (by lia)];rfl
   ·rw[if_neg z]
  | some x=>
   lk;refine⟨r,_,_,_,rfl,rfl,SqL.of hR1,q4Y (by lia) (by lia),?_⟩;rw[show((p:Nat):Int).toNat=p by lia];lk;refine⟨st,_,_,_,rfl,rfl,hl1,ixN_ok (by lia) (by rw[List.length_map,q0L];lia),?_⟩;lk;refine⟨_,_,sm.upd hsh,?_,rfl⟩;dsimp only;rw[q0,show((p:Nat):Int).toNat=p by lia,show V.int (ns.getD p 0+x)=oV (bgF ns bf p) by rw[e3];rfl,q5p,hld]
 ·rintro σ H1 ⟨o3,o4,sm,hl1,rfl⟩
  lk;refine q st H1 sm hsh ?_;rw[hl1];refine congrArg (λz=>some (HO.lst (List.map oV z))) (q0B λi hi=>?_);rw[if_pos (by lia)]
noncomputable def q7B:Sp:=λvs H Q _=>∃(a:Addr) (m:Nat) (bf:Nat->Option Int),vs=[.ref a]/\H a=some (.lst ((qW (m+1) bf).map oV))/\m<=90000/\
 ∀(l:Addr) (H':Hp),Same H H'->H l=none->H' l=some (.lst ((qW (m+1) (λp=>sfx gm none (m+1) p bf)).map oV))->Q (.ref l) H'
theorem ok_bestl(F:Fun K "best_line" "best_line" q2M f fd)(Z:Blt mg)
  (yX:Def P w K mg base k "greater_of" ["one","other"] q4j):FnOk P w K mg base CX0 (k+1) f fd ["begun"] q7B:=by
 refine F.ok sc_best_line (λvs H Q E h=>?_) (λcdv A outer s H vs Q E hr h=>?_)
 ·obtain⟨a,m,bf,rfl,_⟩:=h
  rfl
 obtain⟨a,m,bf,rfl,hA,hm,q⟩:=h
 w_up
 ·apply qB
  exact(ps_set (i:=1) sc_best_line.nd rfl (by k_ne) (qa (q0N (K:=K) rfl) rfl Z.list_ PyProof.Rows.boot_list (pa_cons (pv 0) qA)));apply qB
  ·apply q1Q PassesOwn.never rfl
   exact(q3l rfl Z.range_ (pa_cons (qT q0Q (qP (qQ (K:=K) rfl) rfl Z.len_ PySem.boot_len (pa_cons (pv 0) qA)) qD) (pa_cons (q3m q1U qD) (pa_cons (q3m q1U qD) qA))));exact(qZ (i:=2) sc_best_line.nd rfl (by k_ne))
   ·apply qC
    exact(ps_asg (qI yX hr rfl (pa_cons (qM (qR (K:=K) rfl) (pv 0) (pv 2) (λ_ _=>rfl)) (pa_cons (qM (qR (K:=K) rfl) (pv 1) (qT qo (pv 2) qD) (λ_ _=>rfl)) qA))) (pg_sub (pv 1) (pv 2) q7F (λ_=>rfl)))
  apply qC;exact(qK (pv 1))
 have hl:((qW (m+1) bf).map oV).length=m+1:=by rw[List.length_map,q0L]
 lk;refine⟨a,_,rfl,.inl (SqL.of hA),λst hst=>?_⟩;have s1:Same H (upd H st (.lst ((qW (m+1) bf).map oV))):=Same.new hst _;lk;refine⟨a,_,rfl,.inl (SqL.of (s1 _ _ hA)),?_⟩;lk;refine⟨_,_,rfl,⟨by lia,by lia,by lia,by lia⟩,?_⟩;have eN:((((qW (m+1) bf).map oV).length:Int)-2 - -1).toNat=m:=by lia
 rw[eN];refine q53 (λi σ H'=>∃o2,Same H H'/\H' st=some (.lst ((qW (m+1) (λp=>if m<=p+i then sfx gm none (m+1) p bf else bf p)).map oV))/\σ=[some (.ref a),some (.ref st),o2]) ⟨none,s1,?_,rfl⟩ ?_ ?_
 ·rw[q0]
  refine congrArg (λz=>some (HO.lst (List.map oV z))) (q0B λi hi=>?_);split
  ·rw[q0q (by lia),q1Z (by lia),gm_none]
  ·rfl
 ·rintro i σ H1 hi ⟨o2,sm,hl1,rfl⟩
  have ei:((((qW (m+1) bf).map oV).length:Int)-2-i)=((m-1-i:Nat):Int):=by lia
  have hA1:=sm _ _ hA;rw[ei]
  obtain⟨p,hp⟩:∃p,p=m-1-i:=⟨_,rfl⟩
  rw[<-hp];have hld:=q5o (m:=m+1) (n:=m) (i:=i) (p:=p) (g:=λp=>sfx gm none (m+1) p bf) (e:=bf) (by lia);lk;refine⟨a,_,_,_,rfl,rfl,SqL.of hA1,atO (by lia),?_⟩;lk;refine⟨st,_,((p+1:Nat):Int),_,rfl,by push_cast;rfl,SqL.of hl1,atO (by lia),?_⟩;refine⟨_,_,rfl,?_⟩;rw[if_pos (by lia),<-q0q (op:=gm) (e:=none) (n:=m+1) (p:=p) (f:=bf) (by lia)];lk;refine⟨st,_,_,_,rfl,rfl,hl1,ixN_ok (by lia) (by rw[List.length_map,q0L];lia),?_⟩;lk;refine⟨_,sm.upd hst,?_,rfl⟩;rw[q0,show((p:Nat):Int).toNat=p by lia,q5p,hld]
 ·rintro σ H1 ⟨o2,sm,hl1,rfl⟩
  lk;refine q st H1 sm hst ?_;rw[hl1];refine congrArg (λz=>some (HO.lst (List.map oV z))) (q0B λi hi=>?_);rw[if_pos (by lia)]
noncomputable def sp_behl:Sp:=λvs H Q _=>∃(a:Addr) (m g:Nat) (bf:Nat->Option Int),vs=[.ref a,.int g]/\H a=some (.lst ((qW (m+1) bf).map oV))/\m<=40000/\
 ∀(l:Addr) (H':Hp),Same H H'->H l=none->H' l=some (.lst ((qW (m+1) (λp=>if p+g < m+1 then bf (p+g) else none)).map oV))->Q (.ref l) H'
theorem line_drop:(qW n bf).drop (min g n)++List.replicate (min g n) none=qW n (λp=>if p+g < n then bf (p+g) else none):=by
 have ll:=q0L (n:=n) (g:=bf);refine List.ext_getElem? λi=>?_;by_cases hi:i < n
 ·rw[q1q hi]
  by_cases h:i+g < n
  ·rw[if_pos h,List.getElem?_append_left (by rw[List.length_drop];lia),List.getElem?_drop,show min g n+i=i+g by lia,q1q h]
  ·rw[if_neg h,List.getElem?_append_right (by rw[List.length_drop];lia),List.length_drop,ll,List.getElem?_replicate,if_pos (by lia)]
 ·rw[List.getElem?_eq_none (by rw[List.length_append,List.length_drop,List.length_replicate];lia),List.getElem?_eq_none (by rw[q0L];lia)]
theorem ok_behl(F:Fun K "behind_line" "behind_line" q1G f fd)(Z:Blt mg):FnOk P w K mg base CX0 (k+1) f fd ["best","gap"] sp_behl:=by
 refine F.ok q4B (λvs H Q E h=>?_) (λcdv A outer s H vs Q E hr h=>?_)
 ·obtain⟨a,m,g,bf,rfl,_⟩:=h
  rfl
 obtain⟨a,m,g,bf,rfl,hA,hm,q⟩:=h
 w_up
 ·apply qC
  exact(qK (qT q0E (qr (q0e (K:=K) rfl) (pv 0) (q04 (pv 1)) q05) (qT op_rep (pe_lst (pa_cons qu qA)) (qP (q68 rfl) rfl Z.min_ PyProof.Rows.boot_min (pa_cons (pv 1) (pa_cons (qP (qQ (K:=K) rfl) rfl Z.len_ PySem.boot_len (pa_cons (pv 0) qA)) qA))))))
 have hl:((qW (m+1) bf).map oV).length=m+1:=by rw[List.length_map,q0L]
 lk;refine⟨a,_,rfl,SqL.of hA,λp1 hp1=>?_⟩;have s1:=Same.new hp1 (.lst (cutV ((qW (m+1) bf).map oV) (some (g:Int)) none));lk;refine⟨by show 1<=sizeLine;decide,λp2 hp2=>?_⟩;have hp2':=q0x s1 hp2;have s2:=s1.upd (o:=.lst [.non]) hp2';lk;refine⟨a,_,rfl,.inl (SqL.of (s2 _ _ hA)),?_⟩;refine⟨_,_,rfl,?_⟩;have ek:(if((((qW (m+1) bf).map oV).length:Nat):Int) < (g:Int) then((((qW (m+1) bf).map oV).length:Nat):Int) else(g:Int))=((min g (m+1):Nat):Int):=by
  rw[hl];split<;>lia
 rw[ek];refine⟨p2,_,_,rfl,rfl,q0,by lia,by lia,?_,λp3 hp3=>?_⟩
 ·show 1*((min g (m+1):Nat):Int).toNat<=sizeLine
  exact Nat.le_of_lt (small (by lia))
 have hp3':=q0x s2 hp3;have s3:=s2.upd (o:=.lst (List.replicate ((min g (m+1):Nat):Int).toNat [V.non]).flatten) hp3';have e1:p1≠p2:=λz=>by rw[z,q0] at hp2;cases hp2
 have e2:p1≠p3:=λz=>by rw[<-z,qG e1,q0] at hp3;cases hp3
 have ec:cutV ((qW (m+1) bf).map oV) (some (g:Int)) none=((qW (m+1) bf).drop (min g (m+1))).map oV:=by
  unfold cutV;rw[HT.sIx_nat,HT.sIx_none,hl,List.map_drop,List.take_of_length_le (by rw[List.length_drop,hl];lia)]
 refine⟨p1,p3,_,_,rfl,rfl,by rw[qG e2,qG e1,q0],q0,?_,λp4 hp4=>?_⟩
 ·refine Nat.le_of_lt (small ?_)
  have:=q46 ((qW (m+1) bf).map oV) (some (g:Int)) none;rw[q54,List.length_replicate]
  lia
 have hp4':=q0x s3 hp4;refine q p4 _ (s3.upd hp4') hp4' ?_;rw[q0,ec,show((min g (m+1):Nat):Int).toNat=min g (m+1) from rfl,show V.non=oV none from rfl,q4y,<-List.map_append];have er:qW (min g (m+1)) (λ_=>none)=List.replicate (min g (m+1)) none:=by
  unfold qW;rw[List.map_const',List.length_range]
 rw[er,line_drop]
noncomputable def bgV(ns:List Int)(g:Nat):Nat->Nat->Option Int
 |0,_=>some 0
 |c+1,p=>val (fg ns g c p)
noncomputable def LnAt(H:Hp)(ns:List Int)(g c:Nat)(d:Addr):Prop:=∃a b e:Addr,H d=some (.dK [(.inr "begun",.ref a),(.inr "best",.ref b),(.inr "behind",.ref e)])/\H a=some (.lst ((qW (ns.length+1) (bgV ns g c)).map oV))/\H b=some (.lst ((qW (ns.length+1) (λp=>val (fb ns g c p))).map oV))/\H e=some (.lst ((qW (ns.length+1) (λp=>val (fb ns g c (p+g)))).map oV))
theorem LnAt.keep(h:LnAt H ns g c d)(s:Same H H'):LnAt H' ns g c d:=by
 obtain⟨a,b,e,h1,h2,h3,h4⟩:=h;exact⟨a,b,e,s _ _ h1,s _ _ h2,s _ _ h3,s _ _ h4⟩
theorem LnAt.upd{H:Hp}{ns:List Int}{g c:Nat}{l d d0:Addr}{xs ys:List V}(h:LnAt H ns g c d)(hl:H l=some (.lst xs))(h0:xs[0]?=some (.ref d0)):LnAt (upd H l (.lst ys)) ns g c d:=by
 obtain⟨a,b,e,h1,h2,h3,h4⟩:=h;exact⟨a,b,e,by rw[qG (λz=>by rw[z,hl] at h1;cases h1)];exact h1,by rw[qG (q6k hl h0 h2)];exact h2,by rw[qG (q6k hl h0 h3)];exact h3,by rw[qG (q6k hl h0 h4)];exact h4⟩
noncomputable def Lns(H:Hp)(ns:List Int)(g m:Nat)(xs:List V):Prop:=xs.length=m/\∀c,c < m->∃d,xs[c]?=some (.ref d)/\LnAt H ns g c d
noncomputable def q2T:Sp:=λvs H Q _=>∃(r:Addr) (ns:List Int) (m g:Nat),vs=[.ref r,.int m,.int g]/\H r=some (.lst (ns.map V.int))/\ns.length<=20000/\m<=40000/\
 ∀(l:Addr) (xs:List V) (H':Hp),Same H H'->H l=none->H' l=some (.lst xs)->Lns H' ns g (m+1) xs->Q (.ref l) H'
theorem ok_lines(F:Fun K "lines_of" "lines_of" q2v f fd)(Z:Blt mg)
  (y00:Def P w K mg base k "begun_line" ["row","behind"] q7C)(y01:Def P w K mg base k "best_line" ["begun"] q7B)(y02:Def P w K mg base k "behind_line" ["best","gap"] sp_behl):FnOk P w K mg base CX0 (k+1) f fd ["row","many","gap"] q2T:=by
 refine F.ok sc_lines_of (λvs H Q E h=>?_) (λcdv A outer s H vs Q E hr h=>?_)
 ·obtain⟨r,ns,m,g,rfl,_⟩:=h
  rfl
 obtain⟨r,ns,m,g,rfl,hR,hn,hm,q⟩:=h
 w_up
 ·apply qB
  exact(ps_set (i:=3) sc_lines_of.nd rfl (by k_ne) (qT op_rep (pe_lst (pa_cons qD qA)) (qT qo (qP (qQ (K:=K) rfl) rfl Z.len_ PySem.boot_len (pa_cons (pv 0) qA)) qD)));apply qB;exact(ps_set (i:=4) sc_lines_of.nd rfl (by k_ne) (pe_lst (pa_cons (pe_disp (q27 qE (pv 3) (q27 qE (pv 3) (q27 qE (pv 3) pps_nil))) rfl rfl (List.cons_ne_nil _ _) (by decide)) qA)));apply qB
  ·apply q1Q PassesOwn.never rfl
   exact(q5h rfl Z.range_ (pa_cons qD (pa_cons (qT qo (pv 1) qD) qA)));exact(qZ (i:=5) sc_lines_of.nd rfl (by k_ne))
   ·apply qB
    exact(ps_set (i:=6) sc_lines_of.nd rfl (by k_ne) (qI y00 hr rfl (pa_cons (pv 0) (pa_cons (q2O (q6m hr) (qM (qR (K:=K) rfl) (pv 4) (qT q0Q (pv 5) qD) (λ_ _=>rfl)) qE (λ_ _=>rfl)) qA))));apply qB;exact(ps_set (i:=7) sc_lines_of.nd rfl (by k_ne) (qI y01 hr rfl (pa_cons (pv 6) qA)));apply qC;exact(qj (q1R (K:=K) rfl PySem.F.plainAttrs_list PySem.F.slot_list_append PySem.F.type_list_append qx (pv 4) (pa_cons (pe_disp (q27 qE (pv 6) (q27 qE (pv 7) (q27 qE (qI y02 hr rfl (pa_cons (pv 7) (pa_cons (pv 2) qA))) pps_nil))) rfl rfl (List.cons_ne_nil _ _) (by decide)) qA)))
  apply qC;exact(qK (pv 4))
 have hl:(ns.map V.int).length=ns.length:=List.length_map _;lk;refine⟨by show 1<=sizeLine;decide,λp1 hp1=>?_⟩;have s1:=Same.new hp1 (.lst [.int 0]);lk;refine⟨r,_,rfl,.inl (SqL.of (s1 _ _ hR)),?_⟩;lk;rw[hl];refine⟨p1,_,_,rfl,rfl,q0,by lia,by lia,?_,λp2 hp2=>?_⟩
 ·show 1*((ns.length:Int)+1).toNat<=sizeLine
  exact Nat.le_of_lt (small (by lia))
 have hp2':=q0x s1 hp2;have s2:=s1.upd (o:=.lst (List.replicate ((ns.length:Int)+1).toNat [V.int 0]).flatten) hp2';have h2:upd (upd H p1 (.lst [.int 0])) p2 (.lst (List.replicate ((ns.length:Int)+1).toNat [V.int 0]).flatten) p2=some (.lst ((qW (ns.length+1) (λ_=>some 0)).map oV)):=by
  rw[q0,show((ns.length:Int)+1).toNat=ns.length+1 by lia,show V.int 0=oV (some 0) from rfl,q4y]
 generalize upd (upd H p1 (.lst [.int 0])) p2 (.lst (List.replicate ((ns.length:Int)+1).toNat [V.int 0]).flatten)=H2 at s2 h2 ⊢;lk;intro p3 hp3;lk;refine⟨q0,[(.inr "begun",.ref p2),(.inr "best",.ref p2),(.inr "behind",.ref p2)],rfl,(by show 3<=15;decide),?_⟩;have hp3':=q0x s2 hp3;have L0:LnAt (upd (upd H2 p3 (.dK [])) p3 (.dK (q1S [] [(.inr "begun",.ref p2),(.inr "best",.ref p2),(.inr "behind",.ref p2)]))) ns g 0 p3:=by
  have h2':upd (upd H2 p3 (.dK [])) p3 (.dK (q1S [] [(.inr "begun",.ref p2),(.inr "best",.ref p2),(.inr "behind",.ref p2)])) p2=some (.lst ((qW (ns.length+1) (λ_=>some 0)).map oV)):=by
   have e:p2≠p3:=λz=>by rw[<-z,h2] at hp3;cases hp3
   rw[qG e,qG e,h2]
  refine⟨p2,p2,p2,by rw[q0];rfl,h2',?_,?_⟩
  ·rw[h2']
   exact congrArg (λz=>some (HO.lst (List.map oV z))) (q0B λi hi=>by rw[q42];rfl)
  ·rw[h2']
   exact congrArg (λz=>some (HO.lst (List.map oV z))) (q0B λi hi=>by rw[q42];rfl)
 have s3:=(s2.upd (o:=.dK []) hp3').upd (o:=.dK (q1S [] [(.inr "begun",.ref p2),(.inr "best",.ref p2),(.inr "behind",.ref p2)])) hp3';generalize upd (upd H2 p3 (.dK [])) p3 (.dK (q1S [] [(.inr "begun",.ref p2),(.inr "best",.ref p2),(.inr "behind",.ref p2)]))=H3 at s3 L0 ⊢;lk;refine⟨by show 1<=sizeLine;decide,λl hl0=>?_⟩;have hl0':=q0x s3 hl0;have s4:=s3.upd (o:=.lst [.ref p3]) hl0';lk;refine⟨_,_,rfl,⟨by lia,by lia,by lia,by lia⟩,?_⟩;rw[show((m:Int)+1-1).toNat=m by lia];refine q3y (λi σ H'=>∃xs o5 o6 o7,Same H H'/\H' l=some (.lst xs)/\Lns H' ns g (i+1) xs/\σ=[some (.ref r),some (.int m),some (.int g),some (.ref p2),some (.ref l),o5,o6,o7]) ⟨_,none,none,none,s4,q0,⟨rfl,λc hc=>?_⟩,rfl⟩ ?_ ?_
 ·have:c=0:=by lia
  subst this;exact⟨p3,rfl,L0.keep (Same.new hl0 _)⟩
 ·rintro i σ H4 hi ⟨xs,o5,o6,o7,sm,hl4,⟨hx,hc⟩,rfl⟩
  have hR4:=sm _ _ hR;obtain⟨d,hd,a,b,e,hd1,ha,hb,he⟩:=hc i (by lia);obtain⟨d0,hd0,_⟩:=hc 0 (by lia);lk;refine⟨l,_,((i:Nat):Int),_,rfl,(by show V.int ((1:Int)+i-1)=_;rw[show(1:Int)+i-1=i by lia]),SqL.of hl4,qi hd,?_⟩;lk;refine⟨d,_,rfl,(show DGet _ _ (.str "behind") (some (.ref e)) from DGet.k (k:=.inr "behind") hd1),?_⟩;refine⟨r,e,ns,_,rfl,hR4,he,by lia,λlb H5 s5 hlb0 hlb=>?_⟩;lk;refine⟨lb,ns.length,_,rfl,hlb,by lia,λlt H6 s6 hlt0 hlt=>?_⟩;have s46:Same H4 H6:=λb o z=>s6 _ _ (s5 _ _ z);have hl6:=s46 _ _ hl4;lk;refine⟨.inl ⟨rfl,_,SqL.of hl6⟩,?_⟩;lk;intro pd hpd;have s7:=Same.new hpd (.dK []);lk;refine⟨lt,ns.length,g,_,rfl,s7 _ _ hlt,by lia,λle H7 s8 hle0 hle=>?_⟩;have s67:Same H6 H7:=λb o z=>s8 _ _ (s7 _ _ z);have s47:Same H4 H7:=λb o z=>s67 _ _ (s46 _ _ z);have hpd4:H4 pd=none:=q0x s46 hpd;refine⟨s8 _ _ q0,[(.inr "begun",.ref lb),(.inr "best",.ref lt),(.inr "behind",.ref le)],rfl,(by show 3<=15;decide),?_⟩;have s48:=s47.upd (o:=.dK (q1S [] [(.inr "begun",.ref lb),(.inr "best",.ref lt),(.inr "behind",.ref le)])) hpd4;have nle:le≠pd:=λz=>by rw[z,s8 _ _ q0] at hle;cases hle
  have nlt:lt≠pd:=λz=>by rw[<-z,hlt] at hpd;cases hpd
  have nlb:lb≠pd:=λz=>by rw[<-z,s6 _ _ hlb] at hpd;cases hpd
  have fgE:∀p,bgF ns (λp=>val (fb ns g i (p+g))) p=val (fg ns g i p):=bg_fg λb _=>rfl;have fbE:∀p,sfx gm none (ns.length+1) p (bgF ns (λp=>val (fb ns g i (p+g))))=val (fb ns g (i+1) p):=by
   refine q2r (n:=ns.length) (λp hp=>?_) (λp hp ih=>?_)
   ·rw[q4W hp]
    by_cases z:p < ns.length+1
    ·rw[q0q z,q1Z (by lia),gm_none,bg_end hp]
     rfl
    ·rw[q1Z (by lia)]
     rfl
   ·rw[q0q (by lia),ih,fgE,fb_val hp]
  have L1:LnAt (upd H7 pd (.dK (q1S [] [(.inr "begun",.ref lb),(.inr "best",.ref lt),(.inr "behind",.ref le)]))) ns g (i+1) pd:=by
   refine⟨lb,lt,le,by rw[q0];rfl,?_,?_,?_⟩
   ·rw[qG nlb,s67 _ _ (s6 _ _ hlb)]
    exact congrArg (λz=>some (HO.lst (List.map oV z))) (q0B λj _=>fgE j)
   ·rw[qG nlt,s67 _ _ hlt]
    exact congrArg (λz=>some (HO.lst (List.map oV z))) (q0B λj _=>fbE j)
   ·rw[qG nle,hle]
    refine congrArg (λz=>some (HO.lst (List.map oV z))) (q0B λj _=>?_);rw[fbE];split
    ·rfl
    ·rw[q4W (by lia)]
     rfl
  generalize upd H7 pd (.dK (q1S [] [(.inr "begun",.ref lb),(.inr "best",.ref lt),(.inr "behind",.ref le)]))=H8 at s48 L1 ⊢;have hl8:=s48 _ _ hl4;lk;refine⟨l,_,_,rfl,rfl,hl8,small (by lia),?_⟩;refine⟨_,_,_,_,(show Same H H8 from λb o z=>s48 _ _ (sm _ _ z)).upd hl0',q0,⟨by rw[List.length_append,hx];rfl,λc hc'=>?_⟩,rfl⟩;by_cases z:c=i+1
  ·subst z
   exact⟨pd,by rw[List.getElem?_append_right (by lia),hx,Nat.sub_self];rfl,L1.upd hl8 hd0⟩
  ·obtain⟨dc,hdc,Lc⟩:=hc c (by lia)
   exact⟨dc,by rw[List.getElem?_append_left (by lia)];exact hdc,(Lc.keep s48).upd hl8 hd0⟩
 ·rintro σ H4 ⟨xs,o5,o6,o7,sm,hl4,hL,rfl⟩
  lk;exact q l xs H4 sm hl0' hl4 hL
noncomputable def Pairs(H:Hp)(xs:List V)(ps:List (Int×Int)):Prop:=xs.length=ps.length/\∀(j:Nat) x,xs[j]?=some x->∃(t:Addr) (p:Int×Int),ps[j]?=some p/\x = .ref t/\H t=some (.tup [.int p.1,.int p.2])
theorem Pairs.keep{xs:List V}{ps:List (Int×Int)}(h:Pairs H xs ps)(s:Same H H'):Pairs H' xs ps:=⟨h.1,λj x e=>by
 obtain⟨t,p,h1,h2,h3⟩:=h.2 j x e
 exact⟨t,p,h1,h2,s _ _ h3⟩⟩
theorem Pairs.keepL{xs:List V}{ps:List (Int×Int)}{l:Addr}{o:List V}(h:Pairs H xs ps)(hl:H l=some (.lst o))(s:∀b u,b≠l->H b=some u->H' b=some u):Pairs H' xs ps:=⟨h.1,λj x e=>by
 obtain⟨t,p,h1,h2,h3⟩:=h.2 j x e
 exact⟨t,p,h1,h2,s _ _ (λz=>by subst z;rw[hl] at h3;cases h3) h3⟩⟩
theorem Pairs.nil:Pairs H [] []:=⟨rfl,λj x e=>by cases e⟩
theorem Pairs.snoc{xs:List V}{ps:List (Int×Int)}{t:Addr}{a b:Int}(h:Pairs H xs ps)(ht:H t=some (.tup [.int a,.int b])):Pairs H (xs++[.ref t]) (ps++[(a,b)]):=⟨by rw[List.length_append,List.length_append,h.1];rfl,λj x e=>by
 by_cases hj:j < xs.length
 ·rw[List.getElem?_append_left hj] at e
  obtain⟨t',p,h1,h2,h3⟩:=h.2 j x e;refine⟨t',p,?_,h2,h3⟩;rw[List.getElem?_append_left (by rw[<-h.1];exact hj)];exact h1
 ·rw[List.getElem?_append_right (by lia)] at e
  have hj0:j-xs.length=0:=by
   cases z:j-xs.length with
   |zero=>rfl
   |succ n=>rw[z] at e;cases e
  rw[hj0] at e;cases e;refine⟨t,(a,b),?_,rfl,ht⟩;rw[List.getElem?_append_right (by rw[<-h.1];lia),<-h.1,hj0]
  rfl⟩
theorem oV_inj{u v:Option Int}:oV u=oV v↔u=v:=by cases u<;>cases v<;>simp[oV]
theorem scal_oV{u v:Option Int}:scal (oV u) (oV v)=true:=by cases u<;>cases v<;>rfl
theorem ifNe{u v:Option Int}{A B:Prop}(h1:u≠v->A)(h2:u=v->B):if(!decide (oV u=oV v))=true then A else B:=by
 by_cases h:u=v
 ·rw[if_neg (by rw[decide_eq_true (oV_inj.mpr h)];decide)]
  exact h2 h
 ·rw[if_pos (by rw[decide_eq_false (λz=>h (oV_inj.mp z))];rfl)]
  exact h1 h
noncomputable def prI(p:Nat×Nat):Int×Int:=((p.1:Int),(p.2:Int))
theorem dBegun{b:Addr}(h:H d=some (.dK [(.inr "begun",.ref a),(.inr "best",.ref b),(.inr "behind",.ref e)])):DGet H d (.str "begun") (some (.ref a)):=DGet.k (k:=.inr "begun") h
theorem dBest{b:Addr}(h:H d=some (.dK [(.inr "begun",.ref a),(.inr "best",.ref b),(.inr "behind",.ref e)])):DGet H d (.str "best") (some (.ref b)):=DGet.k (k:=.inr "best") h
theorem dBehind{b:Addr}(h:H d=some (.dK [(.inr "begun",.ref a),(.inr "best",.ref b),(.inr "behind",.ref e)])):DGet H d (.str "behind") (some (.ref e)):=DGet.k (k:=.inr "behind") h
theorem fb_lt{x:SL}(h:fb ns g (c+1) p=some x):p < ns.length:=by
 refine Nat.lt_of_not_le λz=>?_;rw[q4W z] at h;cases h
noncomputable def sumL(ns:List Int)(L:List (Nat×Nat)):Int:=(L.map λp=>psum ns p.2-psum ns p.1).sum
noncomputable def fm(ns:List Int)(ls:List (List (Nat×Nat))):Option SL:=(ls.map λL=>some (sumL ns L,L)).foldr cb none
theorem cb_assoc(a b c:Option SL):cb (cb a b) c=cb a (cb b c):=by
 cases a with
 |none=>rfl
 | some x=>
  cases b with
  |none=>rfl
  | some y=>
   cases c with
   |none=>rfl
   | some z=>
    show some (if z.1 > (if y.1 > x.1 then y else x).1 then z else(if y.1 > x.1 then y else x))=some (if(if z.1 > y.1 then z else y).1 > x.1 then(if z.1 > y.1 then z else y) else x);by_cases h1:y.1 > x.1
    ·rw[if_pos h1]
     by_cases h2:z.1 > y.1
     ·rw[if_pos h2,if_pos (by lia)]
     ·rw[if_neg h2,if_pos h1]
    ·rw[if_neg h1]
     by_cases h2:z.1 > y.1
     ·rw[if_pos h2]
     ·rw[if_neg h2,if_neg h1,if_neg (by lia)]
theorem cb_foldr{xs:List (Option SL)}{z:Option SL}:xs.foldr cb z=cb (xs.foldr cb none) z:=by
 induction xs with
 |nil=>rfl
 |cons x xs ih=>rw[List.foldr_cons,List.foldr_cons,ih,cb_assoc]
theorem fm_app{A B:List (List (Nat×Nat))}:fm ns (A++B)=cb (fm ns A) (fm ns B):=by
 unfold fm;rw[List.map_append,List.foldr_append,cb_foldr]
theorem cb_map{f:Nat}{x y:Option SL}:(cb x y).map (put1 ns f b)=cb (x.map (put1 ns f b)) (y.map (put1 ns f b)):=by
 cases x with
 |none=>rfl
 | some x=>
  cases y with
  |none=>rfl
  | some y=>
   show some (put1 ns f b (if y.1 > x.1 then y else x))=some (if(put1 ns f b y).1 > (put1 ns f b x).1 then put1 ns f b y else put1 ns f b x);have e1:(put1 ns f b y).1=psum ns b-psum ns f+y.1:=rfl;have e2:(put1 ns f b x).1=psum ns b-psum ns f+x.1:=rfl;by_cases h:y.1 > x.1
   ·rw[if_pos h,if_pos (by lia)]
   ·rw[if_neg h,if_neg (by lia)]
theorem fm_cons{ns:List Int}{f b:Nat}:∀{ls:List (List (Nat×Nat))},fm ns (ls.map ((f,b)::·))=(fm ns ls).map (put1 ns f b)
 |[]=>rfl
 | L::ls=>by
  have ih:=fm_cons (ns:=ns) (f:=f) (b:=b) (ls:=ls);have e:fm ns (L::ls)=cb (some (sumL ns L,L)) (fm ns ls):=rfl;have e':fm ns ((L::ls).map ((f,b)::·))=cb (some (sumL ns ((f,b)::L),(f,b)::L)) (fm ns (ls.map ((f,b)::·))):=rfl;rw[e,e',ih,cb_map];rfl
theorem q6n{ns:List Int}{F:Nat->List (List (Nat×Nat))}:∀{m p:Nat},fm ns ((List.range' p m).flatMap F)=sfx cb none (p+m) p (λf=>fm ns (F f))
 |0,p=>by rw[q1Z (by lia)];rfl
 | m+1,p=>by
  rw[List.range'_succ,List.flatMap_cons,fm_app,q6n (m:=m) (p:=p+1),show p+1+m=p+(m+1) by lia,q0q (n:=p+(m+1)) (p:=p) (by lia)]
noncomputable def evB(S:Nat->List (List (Nat×Nat)))(f j:Nat):List (List (Nat×Nat)):=(List.range' (f+1) j).flatMap λb=>(S b).map ((f,b)::·)
noncomputable def evA(n:Nat)(S:Nat->List (List (Nat×Nat)))(p i:Nat):List (List (Nat×Nat)):=(List.range' p i).flatMap λf=>evB S f (n-f)
noncomputable def ev(n g:Nat):Nat->Nat->List (List (Nat×Nat))
 |0,_=>[[]]
 |c+1,p=>evA n (λb=>ev n g c (b+g)) p (n-p)
theorem fm_ev{ns:List Int}{g:Nat}:∀{c p:Nat},fm ns (ev ns.length g c p)=fb ns g c p
 |0,p=>by rw[q42];rfl
 | c+1,p=>by
  have key:∀f,f < ns.length->fm ns (evB (λb=>ev ns.length g c (b+g)) f (ns.length-f))=fg ns g c f:=λf hf=>by
   unfold evB;rw[q6n,show f+1+(ns.length-f)=ns.length+1 by lia];unfold fg fgt
   congr 1
   funext b;rw[fm_cons,fm_ev]
  rw[ev];unfold evA;rw[q6n];by_cases hp:p<=ns.length
  ·rw[show p+(ns.length-p)=ns.length by lia]
   refine q2r (n:=ns.length) (C:=λq=>sfx cb none ns.length q (λf=>fm ns (evB (λb=>ev ns.length g c (b+g)) f (ns.length-f)))=fb ns g (c+1) q) (λq hq=>?_) (λq hq ih=>?_) p
   ·rw[q1Z hq,q4W hq]
   ·rw[q0q hq,ih,key q hq,<-q43 hq]
  ·rw[q1Z (by lia),q4W (by lia)]
noncomputable def WfL(n:Nat)(L:List (Nat×Nat)):Prop:=∀q,q∈L->q.1 < q.2/\q.2<=n
theorem ev_wf{n g:Nat}:∀{c p:Nat} {L:List (Nat×Nat)},L∈ev n g c p->WfL n L/\L.length=c
 | 0,p,L,h=>by
  cases List.mem_singleton.mp h;exact⟨λq hq=>absurd hq List.not_mem_nil,rfl⟩
 | c+1,p,L,h=>by
  obtain⟨f,hf,h1⟩:=List.mem_flatMap.mp (show L∈(List.range' p (n-p)).flatMap λf=>evB (λb=>ev n g c (b+g)) f (n-f) from h);obtain⟨b,hb,h2⟩:=List.mem_flatMap.mp h1;obtain⟨M,hM,rfl⟩:=List.mem_map.mp h2;obtain⟨w1,w2⟩:=ev_wf hM;have hf':=List.mem_range'_1.mp hf;have hb':=List.mem_range'_1.mp hb;refine⟨λq hq=>?_,by rw[List.length_cons,w2]⟩;rcases List.mem_cons.mp hq with rfl|hq
  ·exact⟨by show f < b;lia,by show b<=n;lia⟩
  ·exact w1 q hq
theorem fm_mem{ns:List Int}:∀{ls:List (List (Nat×Nat))} {x:SL},fm ns ls=some x->x.2∈ls/\x.1=sumL ns x.2
 |[],x,h=>by cases h
 | L::ls,x,h=>by
  have e:fm ns (L::ls)=cb (some (sumL ns L,L)) (fm ns ls):=rfl;rw[e] at h;rcases cb_or (some (sumL ns L,L)) (fm ns ls) with z|z
  ·rw[z] at h
   cases h;exact⟨List.mem_cons_self,rfl⟩
  ·rw[z] at h
   obtain⟨h1,h2⟩:=fm_mem h;exact⟨List.mem_cons_of_mem _ h1,h2⟩
theorem fb_wf{x:SL}(h:fb ns g c p=some x):WfL ns.length x.2/\x.2.length=c/\x.1=sumL ns x.2:=by
 rw[<-fm_ev] at h;obtain⟨h1,h2⟩:=fm_mem h;obtain⟨h3,h4⟩:=ev_wf h1;exact⟨h3,h4,h2⟩
noncomputable def Okl(n g p:Nat)(L:List (Nat×Nat)):Prop:=(∀q,q∈L->p<=q.1/\q.1 < q.2/\q.2<=n)/\L.Pairwise (λq r=>q.2+g<=r.1)
theorem Okl.cons{f:Nat}:Okl n g p ((f,b)::L)↔(p<=f/\f < b/\b<=n)/\Okl n g (b+g) L:=by
 unfold Okl;rw[List.pairwise_cons];constructor
 ·rintro⟨h1,h2,h3⟩
  have h0:=h1 (f,b) List.mem_cons_self;refine⟨h0,λq hq=>?_,h3⟩;have:=h1 q (List.mem_cons_of_mem _ hq);exact⟨h2 q hq,this.2⟩
 ·rintro⟨h0,h1,h2⟩
  refine⟨λq hq=>?_,λq hq=>(h1 q hq).1,h2⟩;rcases List.mem_cons.mp hq with rfl|hq
  ·exact h0
  ·have:=h1 q hq
   exact⟨by lia,this.2⟩
theorem ev_iff{n g:Nat}:∀{c p:Nat} {L:List (Nat×Nat)},L∈ev n g c p↔Okl n g p L/\L.length=c
 | 0,p,L=>by
  rw[show ev n g 0 p=[[]] from rfl,List.mem_singleton];constructor
  ·rintro rfl
   exact⟨⟨λq hq=>absurd hq List.not_mem_nil,List.Pairwise.nil⟩,rfl⟩
  ·rintro⟨_,h⟩
   exact List.eq_nil_of_length_eq_zero h
 | c+1,p,L=>by
  have e:(L∈ev n g (c+1) p)↔∃f,f∈List.range' p (n-p)/\∃b,b∈List.range' (f+1) (n-f)/\∃M,M∈ev n g c (b+g)/\(f,b)::M=L:=by
   show(L∈(List.range' p (n-p)).flatMap λf=>evB (λb=>ev n g c (b+g)) f (n-f))↔_;rw[List.mem_flatMap];constructor
   ·rintro⟨f,hf,h⟩
    obtain⟨b,hb,h⟩:=List.mem_flatMap.mp h;obtain⟨M,hM,h⟩:=List.mem_map.mp h;exact⟨f,hf,b,hb,M,hM,h⟩
   ·rintro⟨f,hf,b,hb,M,hM,h⟩
    exact⟨f,hf,List.mem_flatMap.mpr ⟨b,hb,List.mem_map.mpr ⟨M,hM,h⟩⟩⟩
  rw[e];constructor
  ·rintro⟨f,hf,b,hb,M,hM,rfl⟩
   have hf':=List.mem_range'_1.mp hf;have hb':=List.mem_range'_1.mp hb;obtain⟨h1,h2⟩:=ev_iff.mp hM;exact⟨Okl.cons.mpr ⟨⟨by lia,by lia,by lia⟩,h1⟩,by rw[List.length_cons,h2]⟩
  ·rintro⟨h1,h2⟩
   match L,h1,h2 with
   | (f,b)::M,h1,h2=>
    obtain⟨h0,h3⟩:=Okl.cons.mp h1;exact⟨f,List.mem_range'_1.mpr (by lia),b,List.mem_range'_1.mpr (by lia),M,ev_iff.mpr ⟨h3,by rw[List.length_cons] at h2;lia⟩,rfl⟩
theorem fm_max{ns:List Int}:∀{ls:List (List (Nat×Nat))} {L:List (Nat×Nat)},L∈ls->∃x,fm ns ls=some x/\sumL ns L<=x.1
 | M::ls,L,h=>by
  have e:fm ns (M::ls)=cb (some (sumL ns M,M)) (fm ns ls):=rfl;rw[e];rcases List.mem_cons.mp h with rfl|h
  ·cases fm ns ls with
   |none=>exact⟨_,rfl,Int.le_refl _⟩
   |some y=>exact⟨_,rfl,by show sumL ns L<=(if y.1 > sumL ns L then y else(sumL ns L,L)).1;split;lia;exact Int.le_refl _⟩
  ·obtain⟨x,hx,hle⟩:=fm_max h
   rw[hx];exact⟨_,rfl,by show sumL ns L<=(if x.1 > sumL ns M then x else(sumL ns M,M)).1;split;exact hle;show sumL ns L<=sumL ns M;lia⟩
theorem fb_le(hL:Okl ns.length g p L)(hc:L.length=c):∃x,fb ns g c p=some x/\sumL ns L<=x.1:=by
 rw[<-fm_ev];exact fm_max (ev_iff.mpr ⟨hL,hc⟩)
theorem fb_ok{x:SL}(h:fb ns g c p=some x):Okl ns.length g p x.2/\x.2.length=c/\x.1=sumL ns x.2:=by
 rw[<-fm_ev] at h;obtain⟨h1,h2⟩:=fm_mem h;obtain⟨h3,h4⟩:=ev_iff.mp h1;exact⟨h3,h4,h2⟩
theorem val_le{ns':List Int}{g' c' p':Nat}(T:List (Nat×Nat)->List (Nat×Nat))(hT:∀L,Okl ns.length g p L->L.length=c->Okl ns'.length g' p' (T L)/\(T L).length=c'/\sumL ns L<=sumL ns' (T L)){x:SL}(hx:fb ns g c p=some x):∃y,fb ns' g' c' p'=some y/\x.1<=y.1:=by
 obtain⟨h1,h2,h3⟩:=fb_ok hx;obtain⟨h4,h5,h6⟩:=hT x.2 h1 h2;obtain⟨y,hy,hle⟩:=fb_le h4 h5;exact⟨y,hy,by lia⟩
theorem val_eq{ns':List Int}{g' c' p':Nat}(T U:List (Nat×Nat)->List (Nat×Nat))(hT:∀L,Okl ns.length g p L->L.length=c->Okl ns'.length g' p' (T L)/\(T L).length=c'/\sumL ns L<=sumL ns' (T L))(hU:∀L,Okl ns'.length g' p' L->L.length=c'->Okl ns.length g p (U L)/\(U L).length=c/\sumL ns' L<=sumL ns (U L)):val (fb ns g c p)=val (fb ns' g' c' p'):=by
 cases h:fb ns g c p with
 | none=>
  cases h':fb ns' g' c' p' with
  |none=>rfl
  | some y=>
   obtain⟨x,hx,_⟩:=val_le U hU h';rw[h] at hx;cases hx
 | some x=>
  obtain⟨y,hy,h1⟩:=val_le T hT h;obtain⟨x',hx',h2⟩:=val_le U hU hy;rw[h] at hx';cases hx';rw[hy];show some x.1=some y.1;rw[show x.1=y.1 by lia]
theorem sum_rev(xs:List Int):xs.reverse.sum=xs.sum:=by
 induction xs with
 |nil=>rfl
 |cons x xs ih=>rw[List.reverse_cons,List.sum_append,List.sum_singleton,List.sum_cons,ih];lia
noncomputable def rvL(n:Nat)(L:List (Nat×Nat)):List (Nat×Nat):=(L.map λq=>(n-q.2,n-q.1)).reverse
theorem rvL_len:(rvL n L).length=L.length:=by unfold rvL;rw[List.length_reverse,List.length_map]
theorem rvL_ok{p':Nat}(h:Okl m g p L)(hm:m<=n)(h1:p'+m<=n):Okl (n-p) g p' (rvL n L):=by
 obtain⟨a,b⟩:=h;refine⟨λq hq=>?_,?_⟩
 ·obtain⟨r,hr,rfl⟩:=List.mem_map.mp (List.mem_reverse.mp hq)
  have:=a r hr;exact⟨by show p'<=n-r.2;lia,by show n-r.2 < n-r.1;lia,by show n-r.1<=n-p;lia⟩
 ·unfold rvL
  rw[List.pairwise_reverse,List.pairwise_map];refine List.Pairwise.imp_of_mem (λ{q r} hq hr h=>?_) b;have h1:=a q hq;have h2:=a r hr;show n-r.1+g<=n-q.2
  lia
theorem q2f{ns:List Int}:∀i,i<=ns.length->psum ns.reverse i=psum ns ns.length-psum ns (ns.length-i)
 | 0,_=>by
  show psum ns.reverse 0=psum ns ns.length-psum ns ns.length;have:psum ns.reverse 0=0:=rfl
  lia
 | i+1,h=>by
  have ih:=q2f (ns:=ns) i (by lia);have a:=q0m (ns:=ns.reverse) (i:=i) (by rw[List.length_reverse];lia);have b:=q0m (ns:=ns) (i:=ns.length-1-i) (by lia);have e:ns.reverse.getD i 0=ns.getD (ns.length-1-i) 0:=by
   rw[List.getD_eq_getElem?_getD,List.getD_eq_getElem?_getD,List.getElem?_reverse (by lia)]
  have e1:ns.length-1-i+1=ns.length-i:=by lia
  have e2:ns.length-(i+1)=ns.length-1-i:=by lia
  rw[e1] at b;rw[a,ih,e,e2]
  lia
theorem q3O(h:i<=m):psum (ns.take m) i=psum ns i:=by
 unfold psum;rw[List.take_take,Nat.min_eq_left h]
theorem sumL_rv{ms rs:List Int}(h:∀q,q∈L->psum ms (n-q.1)-psum ms (n-q.2)=psum rs q.2-psum rs q.1):sumL ms (rvL n L)=sumL rs L:=by
 unfold sumL rvL;rw[List.map_reverse,sum_rev,List.map_map];exact congrArg List.sum (List.map_congr_left λq hq=>h q hq)
theorem fb_rev(hp:p<=ns.length):val (fb ns.reverse g c p)=val (fb (ns.take (ns.length-p)) g c 0):=by
 have hl:ns.reverse.length=ns.length:=List.length_reverse;have ht:(ns.take (ns.length-p)).length=ns.length-p:=by rw[List.length_take];lia
 refine val_eq (rvL ns.length) (rvL ns.length) (λL hL hc=>?_) (λL hL hc=>?_)
 ·rw[hl] at hL
  refine⟨by rw[ht];exact rvL_ok hL (Nat.le_refl _) (by lia),by rw[rvL_len,hc],?_⟩;rw[sumL_rv λq hq=>?_]
  ·exact Int.le_refl _
  ·have:=hL.1 q hq
   rw[q3O (by lia),q3O (by lia),q2f _ (by lia),q2f _ (by lia)]
   lia
 ·rw[ht] at hL
  refine⟨by rw[hl];exact rvL_ok (p:=0) hL (by lia) (by lia),by rw[rvL_len,hc],?_⟩;rw[sumL_rv λq hq=>?_]
  ·exact Int.le_refl _
  ·have:=hL.1 q hq
   rw[q3O (by lia),q3O (by lia),q2f _ (by lia),q2f _ (by lia),show ns.length-(ns.length-q.1)=q.1 by lia,show ns.length-(ns.length-q.2)=q.2 by lia]
   lia
noncomputable def q17:Sp:=λvs H Q _=>∃m l g:Int,vs=[.int m,.int l,.int g]/\l<=m/\0<=g/\Q .non H
theorem q5l(F:Fun K "refuse_counts" "refuse_counts" q0I f fd)(Z:Blt mg):FnOk P w K mg base CX0 (k+1) f fd ["many","least","gap"] q17:=by
 refine F.ok q1O (λvs H Q E h=>?_) (λcdv A outer s H vs Q E hr h=>?_)
 ·obtain⟨m,l,g,rfl,_⟩:=h
  rfl
 obtain⟨m,l,g,rfl,hm,hg,q⟩:=h
 w_up
 ·apply qC
  apply qY;exact(PW.pt (q2B (qL q2P (pv 0) (pv 1) (qU _)) (q0u (qL q2P (pv 2) qD (qU _)))))
  ·apply qC
   exact q0A
  exact qO
 lk;refine ifD (λz=>absurd z (by lia)) (λ_=>?_);lk;exact ifD (λz=>absurd z (by lia)) (λ_=>q)
noncomputable def q3X:Sp:=λvs H Q _=>∃n g:Nat,vs=[.int n,.int g]/\g < 2 ^ 150/\Q (.int ((n+g)/(1+g):Nat)) H
theorem ok_room(F:Fun K "room_for" "room_for" q2t f fd)(Z:Blt mg):FnOk P w K mg base CX0 (k+1) f fd ["numbers","gap"] q3X:=by
 refine F.ok q6M (λvs H Q E h=>?_) (λcdv A outer s H vs Q E hr h=>?_)
 ·obtain⟨n,g,rfl,_⟩:=h
  rfl
 obtain⟨n,g,rfl,hg,q⟩:=h
 w_up
 ·apply qC
  exact(qK (qT op_fdivL (qT qo (pv 0) (pv 1)) (qT qo qD (pv 1))))
 lk;refine⟨⟨by lia,by lia⟩,?_⟩;show Q (.int (((n:Int)+g)/(1+g))) H;have e:((n:Int)+g)/(1+g)=(((n+g)/(1+g):Nat):Int):=by push_cast;rfl
 rw[e];exact q
theorem q6T(h:m<=(n+g)/(1+g)):m*(1+g)<=n+g:=(Nat.le_div_iff_mul_le (by lia)).mp h
theorem room_gt(h:(n+g)/(1+g) < m):n+g < m*(1+g):=(Nat.div_lt_iff_lt_mul (by lia)).mp h
theorem room_n(h:m<=(n+g)/(1+g)):m<=n:=by
 have h1:=q6T h;refine Nat.le_of_not_lt λz=>?_;have h2:(n+1)*(1+g)<=m*(1+g):=Nat.mul_le_mul_right _ (by lia);have h3:(n+1)*(1+g)=n*(1+g)+(1+g):=by rw[Nat.add_mul,Nat.one_mul]
 have h4:n*1<=n*(1+g):=Nat.mul_le_mul_left _ (by lia)
 lia
noncomputable def q77:Sp:=λvs H Q _=>∃(d:Addr) (ns:List Int) (g c p:Nat) (x:SL),vs=[.ref d,.int p]/\LnAt H ns g (c+1) d/\fb ns g (c+1) p=some x/\ns.length<=90000/\∀f:Nat,p<=f->f < ns.length->fg ns g c f=some x->Q (.int f) H
theorem ok_first(F:Fun K "first_from" "first_from" q1j f fd)(Z:Blt mg):FnOk P w K mg base CX0 (k+1) f fd ["line","start"] q77:=by
 refine F.ok sc_first_from (λvs H Q E h=>?_) (λcdv A outer s H vs Q E hr h=>?_)
 ·obtain⟨d,ns,g,c,p,x,rfl,_⟩:=h
  rfl
 obtain⟨d,ns,g,c,p,x,rfl,⟨a,b,e,hd,ha,hb,he⟩,hx,hn,q⟩:=h
 w_up
 ·apply qB
  exact(ps_set (i:=2) sc_first_from.nd rfl (by k_ne) (pv 1));apply qB
  ·apply q4t PassesOwn.never
   exact(qL q3o (qM (qR (K:=K) rfl) (q2O (q6m hr) (pv 0) qE (λ_ _=>rfl)) (pv 2) (λ_ _=>rfl)) (qM (qR (K:=K) rfl) (q2O (q6m hr) (pv 0) qE (λ_ _=>rfl)) (pv 2) (λ_ _=>rfl)) (qU _))
   ·apply qC
    exact(q4N (i:=2) sc_first_from.nd rfl (by k_ne) qD q5v)
  apply qC;exact(qK (pv 2))
 lk;refine⟨λm σ H'=>∃f:Nat,m=ns.length-f/\H=H'/\p<=f/\fb ns g (c+1) f=some x/\σ=[some (.ref d),some (.int p),some (.int f)],⟨_,p,rfl,rfl,Nat.le_refl _,hx,rfl⟩,?_⟩;rintro _ _ _ ⟨f,rfl,rfl,hpf,hf,rfl⟩;have hfn:=fb_lt hf;lk;refine⟨d,_,rfl,dBegun hd,?_⟩;lk;refine⟨a,_,_,_,rfl,rfl,SqL.of ha,atO (by lia),?_⟩;lk;refine⟨d,_,rfl,dBest hd,?_⟩;lk;refine⟨b,_,_,_,rfl,rfl,SqL.of hb,atO (by lia),?_⟩;refine⟨scal_oV,?_⟩;lk;have est:=q43 (ns:=ns) (g:=g) (c:=c) hfn;refine ifNe (λhne=>?_) (λheq=>?_)
 ·have e1:cb (fg ns g c f) (fb ns g (c+1) (f+1))=fb ns g (c+1) (f+1):=q7d λz=>hne (by rw[est];exact z)
  refine⟨λσ H'=>H=H'/\σ=[some (.ref d),some (.int p),some (.int ((f+1:Nat):Int))],?_,?_⟩
  ·rintro _ _ ⟨rfl,rfl⟩
   exact⟨ns.length-(f+1),by lia,f+1,rfl,rfl,by lia,by rw[<-e1,<-est];exact hf,rfl⟩
  ·lk
   push_cast
   rfl
 ·lk
  refine q f hpf hfn ?_;rw[est] at hf;refine cb_left hf ?_;rw[<-est];exact heq
noncomputable def q5T:Sp:=λvs H Q _=>∃(r e:Addr) (ns:List Int) (g c f:Nat) (x:SL),vs=[.ref r,.int f,.int x.1,.ref e]/\H r=some (.lst (ns.map V.int))/\H e=some (.lst ((qW (ns.length+1) (λp=>val (fb ns g c (p+g)))).map oV))/\fg ns g c f=some x/\f < ns.length/\ns.length<=90000/\
 ∀(b:Nat) (y:SL),f < b->b<=ns.length->fb ns g c (b+g)=some y->x=put1 ns f b y->Q (.int b) H
theorem ok_beyond(F:Fun K "beyond_from" "beyond_from" q1F f fd)(Z:Blt mg):FnOk P w K mg base CX0 (k+1) f fd ["row","first","total","behind"] q5T:=by
 refine F.ok sc_beyond_from (λvs H Q E h=>?_) (λcdv A outer s H vs Q E hr h=>?_)
 ·obtain⟨r,e,ns,g,c,f,x,rfl,_⟩:=h
  rfl
 obtain⟨r,e,ns,g,c,f,x,rfl,hR,he,hx,hfn,hn,q⟩:=h
 w_up
 ·apply qB
  exact(ps_set (i:=4) sc_beyond_from.nd rfl (by k_ne) (qT qo (pv 1) qD));apply qB;exact(ps_set (i:=5) sc_beyond_from.nd rfl (by k_ne) (qT q0Q (pv 2) (qM (qR (K:=K) rfl) (pv 0) (pv 1) (λ_ _=>rfl))));apply qB
  ·apply q4t PassesOwn.never
   exact(qL q3o (qM (qR (K:=K) rfl) (pv 3) (pv 4) (λ_ _=>rfl)) (pv 5) (qU _))
   ·apply qB
    exact(q4N (i:=5) sc_beyond_from.nd rfl (by k_ne) (qM (qR (K:=K) rfl) (pv 0) (pv 4) (λ_ _=>rfl)) ip_sub);apply qC;exact(q4N (i:=4) sc_beyond_from.nd rfl (by k_ne) qD q5v)
  apply qC;exact(qK (pv 4))
 have hl:(ns.map V.int).length=ns.length:=List.length_map _;lk;refine⟨r,_,_,_,rfl,rfl,SqL.of hR,q4Y (by lia) (by lia),?_⟩;rw[show((f:Nat):Int).toNat=f from rfl];lk;have e0:=q0m (ns:=ns) (i:=f) hfn;refine⟨λm σ H'=>∃b:Nat,m=ns.length+1-b/\H=H'/\f < b/\fgt ns (λb=>fb ns g c (b+g)) f b=some x/\σ=[some (.ref r),some (.int f),some (.int x.1),some (.ref e),some (.int b),some (.int (x.1-(psum ns b-psum ns f)))],⟨_,f+1,rfl,rfl,by lia,hx,?_⟩,?_⟩
 ·rw[show psum ns (f+1)-psum ns f=ns.getD f 0 by lia]
  rfl
 rintro _ _ _ ⟨b,rfl,rfl,hfb,hb,rfl⟩;have hbn:b < ns.length+1:=Nat.lt_of_not_le λz=>by rw[q1N z] at hb;cases hb
 have est:=q0i (ns:=ns) (S:=λb=>fb ns g c (b+g)) (f:=f) hbn;lk;refine⟨e,_,_,_,rfl,rfl,SqL.of he,atO (by lia),?_⟩;lk;refine⟨scal_oV (v:=some _),?_⟩;lk;refine ifNe (v:=some (x.1-(psum ns b-psum ns f))) (λhne=>?_) (λheq=>?_)
 ·have hb':=hb
  rw[est,q7d] at hb'
  ·have hb1:b+1 < ns.length+1:=Nat.lt_of_not_le λz=>by rw[q1N z] at hb';cases hb'
   have e1:=q0m (ns:=ns) (i:=b) (by lia);refine⟨λσ H'=>H=H'/\σ=[some (.ref r),some (.int f),some (.int x.1),some (.ref e),some (.int ((b+1:Nat):Int)),some (.int (x.1-(psum ns (b+1)-psum ns f)))],?_,?_⟩
   ·rintro _ _ ⟨rfl,rfl⟩
    exact⟨ns.length+1-(b+1),by lia,b+1,rfl,rfl,by lia,hb',rfl⟩
   ·lk
    refine⟨r,_,_,_,rfl,rfl,SqL.of hR,q4Y (by lia) (by lia),?_⟩;lk;rw[show x.1-(psum ns (b+1)-psum ns f)=x.1-(psum ns b-psum ns f)-ns.getD b 0 by lia]
    push_cast
    rfl
  ·rw[<-est,hb,q1T]
   intro z;refine hne ?_
   cases ev:val (fb ns g c (b+g)) with
   |none=>rw[ev] at z;cases z
   | some v=>
    rw[ev] at z;have z':psum ns b-psum ns f+v=x.1:=Option.some.inj z;rw[show x.1-(psum ns b-psum ns f)=v by lia]
 ·lk
  have hb':=hb;rw[est] at hb'
  have hc:=cb_left hb' (by
   rw[hb',q1T,heq];show some (psum ns b-psum ns f+(x.1-(psum ns b-psum ns f)))=some x.1
   rw[show psum ns b-psum ns f+(x.1-(psum ns b-psum ns f))=x.1 by lia])
  obtain⟨y,hy,ey⟩:=Option.map_eq_some_iff.mp hc;exact q b y hfb (by lia) hy ey.symm
noncomputable def q6G:Sp:=λvs H Q _=>∃(r l:Addr) (ns:List Int) (xs:List V) (m M g:Nat) (x:SL),vs=[.ref r,.ref l,.int m,.int g]/\H r=some (.lst (ns.map V.int))/\H l=some (.lst xs)/\Lns H ns g M xs/\m < M/\m<=40000/\ns.length<=20000/\fb ns g m 0=some x/\
 ∀(st:Addr) (ys:List V) (H':Hp),Same H H'->H st=none->H' st=some (.lst ys)->Pairs H' ys (x.2.map prI)->Q (.ref st) H'
theorem ok_strs(F:Fun K "stretches_of" "stretches_of" q0y f fd)(Z:Blt mg)
  (y03:Def P w K mg base k "first_from" ["line","start"] q77)(y04:Def P w K mg base k "beyond_from" ["row","first","total","behind"] q5T):FnOk P w K mg base CX0 (k+1) f fd ["row","lines","many","gap"] q6G:=by
 refine F.ok sc_stretches_of (λvs H Q E h=>?_) (λcdv A outer s H vs Q E hr h=>?_)
 ·obtain⟨r,l,ns,xs,m,M,g,x,rfl,_⟩:=h
  rfl
 obtain⟨r,l,ns,xs,m,M,g,x,rfl,hR,hL,hLn,hmM,hm,hn,hx,q⟩:=h
 w_up
 ·apply qB
  exact(ps_set (i:=4) sc_stretches_of.nd rfl (by k_ne) (pe_lst qA));apply qB;exact(ps_set (i:=5) sc_stretches_of.nd rfl (by k_ne) qD);apply qB
  ·apply q1Q PassesOwn.never rfl
   exact(q3l rfl Z.range_ (pa_cons (pv 2) (pa_cons qD (pa_cons (q3m q1U qD) qA))));exact(qZ (i:=6) sc_stretches_of.nd rfl (by k_ne))
   ·apply qB
    exact(ps_set (i:=7) sc_stretches_of.nd rfl (by k_ne) (qI y03 hr rfl (pa_cons (qM (qR (K:=K) rfl) (pv 1) (pv 6) (λ_ _=>rfl)) (pa_cons (pv 5) qA))));apply qB;exact(ps_set (i:=8) sc_stretches_of.nd rfl (by k_ne) (qM (qR (K:=K) rfl) (q2O (q6m hr) (qM (qR (K:=K) rfl) (pv 1) (pv 6) (λ_ _=>rfl)) qE (λ_ _=>rfl)) (pv 7) (λ_ _=>rfl)));apply qB;exact(ps_set (i:=9) sc_stretches_of.nd rfl (by k_ne) (qI y04 hr rfl (pa_cons (pv 0) (pa_cons (pv 7) (pa_cons (pv 8) (pa_cons (q2O (q6m hr) (qM (qR (K:=K) rfl) (pv 1) (qT q0Q (pv 6) qD) (λ_ _=>rfl)) qE (λ_ _=>rfl)) qA))))));apply qB;exact(qj (q1R (K:=K) rfl PySem.F.plainAttrs_list PySem.F.slot_list_append PySem.F.type_list_append qx (pv 4) (pa_cons (qf (pa_cons (pv 7) (pa_cons (pv 9) qA))) qA)));apply qC;exact(ps_set (i:=5) sc_stretches_of.nd rfl (by k_ne) (qT qo (pv 9) (pv 3)))
  apply qC;exact(qK (pv 4))
 lk;refine⟨Nat.zero_le _,λst hst=>?_⟩;lk;refine⟨_,_,rfl,⟨by lia,by lia,by lia,by lia⟩,?_⟩;rw[show((m:Int)-0).toNat=m by lia];refine q53 (λi σ H'=>∃(ys:List V) (T:List (Nat×Nat)) (p:Nat) (y:SL) (o6 o7 o8 o9:Option V),Same H H'/\H' st=some (.lst ys)/\Pairs H' ys (T.map prI)/\T.length=i/\fb ns g (m-i) p=some y/\x.2=T++y.2/\σ=[some (.ref r),some (.ref l),some (.int m),some (.int g),some (.ref st),some (.int p),o6,o7,o8,o9]) ⟨[],[],0,x,none,none,none,none,Same.new hst _,q0,Pairs.nil,rfl,hx,rfl,rfl⟩ ?_ ?_
 ·rintro i σ H1 hi ⟨ys,T,p,y,o6,o7,o8,o9,sm,hys,hP,hT,hy,hxy,rfl⟩
  obtain⟨c,hc⟩:∃c,m-i=c+1:=⟨m-i-1,by lia⟩
  have ec:(m:Int)-i=((c+1:Nat):Int):=by lia
  rw[hc] at hy;rw[ec];have hR1:=sm _ _ hR;have hL1:=sm _ _ hL;obtain⟨d,hd,hA⟩:=hLn.2 (c+1) (by lia);have hA1:=hA.keep sm;obtain⟨d',hd',hB⟩:=hLn.2 c (by lia);have hB1:=hB.keep sm;obtain⟨a2,b2,e2,hd2,ha2,hb2,he2⟩:=hB1;lk;refine⟨l,_,_,_,rfl,rfl,SqL.of hL1,qi hd,?_⟩;lk;refine⟨d,ns,g,c,p,y,rfl,hA1,hy,by lia,λf hpf hfn hf=>?_⟩;obtain⟨a,b,e,hd1,ha,hb,he⟩:=hA1;lk;refine⟨l,_,_,_,rfl,rfl,SqL.of hL1,qi hd,?_⟩;lk;refine⟨d,_,rfl,dBegun hd1,?_⟩;lk;refine⟨a,_,_,_,rfl,rfl,SqL.of ha,atO (by lia),?_⟩;rw[show bgV ns g (c+1) f=some y.1 by show val (fg ns g c f)=_;rw[hf];rfl];lk;refine⟨l,_,((c:Nat):Int),_,rfl,(by show V.int (((c+1:Nat):Int)-1)=_;rw[show((c+1:Nat):Int)-1=(c:Int) by lia]),SqL.of hL1,qi hd',?_⟩;lk;refine⟨d',_,rfl,dBehind hd2,?_⟩;refine⟨r,e2,ns,g,c,f,y,rfl,hR1,he2,hf,hfn,by lia,λbb z hfb hbn hz ez=>?_⟩;lk;refine⟨.inl ⟨rfl,_,SqL.of hys⟩,?_⟩;lk;refine⟨by show 2<=sizeLine;decide,λt ht=>?_⟩;have s1:=Same.new ht (.tup [.int f,.int bb]);lk;refine⟨st,_,_,rfl,rfl,s1 _ _ hys,small (by rw[hP.1,List.length_map];lia),?_⟩;lk;have hst1:H1 st≠none:=by rw[hys];exact λz=>by cases z
  have hnt:t≠st:=λz=>hst1 (by rw[<-z];exact ht);refine⟨_,T++[(f,bb)],bb+g,z,some (.int ((c+1:Nat):Int)),some (.int f),some (.int y.1),some (.int bb),(show Same H (upd H1 t (.tup [.int f,.int bb])) from λb o w=>s1 _ _ (sm _ _ w)).upd hst,q0,?_,by rw[List.length_append,hT];rfl,by rw[show m-(i+1)=c by lia];exact hz,?_,?_⟩
  ·rw[List.map_append]
   refine Pairs.snoc ((hP.keep s1).keepL (s1 _ _ hys) (λb u hb w=>by rw[qG hb];exact w)) ?_;rw[qG hnt,q0]
  ·rw[hxy,ez,List.append_assoc]
   rfl
  ·rfl
 ·rintro σ H1 ⟨ys,T,p,y,o6,o7,o8,o9,sm,hys,hP,hT,hy,hxy,rfl⟩
  lk;refine q st ys H1 sm hst hys ?_;rw[Nat.sub_self,q42] at hy;cases hy;rw[hxy,List.append_nil];exact hP
noncomputable def q4m:Sp:=λvs H Q _=>∃(r:Addr) (ns:List Int) (m g:Nat),vs=[.ref r,.int m,.int g]/\H r=some (.lst (ns.map V.int))/\ns.length<=20000/\1<=m/\g < 2 ^ 150/\
 (fb ns g m 0=none->Q .non H)/\∀(t st:Addr) (ys:List V) (x:SL) (H':Hp),fb ns g m 0=some x->m<=ns.length->Same H H'->H t=none->H st=none->H' t=some (.tup [.int x.1,.ref st])->H' st=some (.lst ys)->Pairs H' ys (x.2.map prI)->Q (.ref t) H'
theorem ok_apart(F:Fun K "best_apart" "best_apart" q0t f fd)(Z:Blt mg)
  (yH:Def P w K mg base k "refuse_counts" ["many","least","gap"] q17)(yI:Def P w K mg base k "room_for" ["numbers","gap"] q3X)(yJ:Def P w K mg base k "lines_of" ["row","many","gap"] q2T)(yi:Def P w K mg base k "stretches_of" ["row","lines","many","gap"] q6G):FnOk P w K mg base CX0 (k+1) f fd ["row","many","gap"] q4m:=by
 refine F.ok sc_best_apart (λvs H Q E h=>?_) (λcdv A outer s H vs Q E hr h=>?_)
 ·obtain⟨r,ns,m,g,rfl,_⟩:=h
  rfl
 obtain⟨r,ns,m,g,rfl,hR,hn,hm,hg,qN,q⟩:=h
 w_up
 ·apply qB
  exact(qj (qI yH hr rfl (pa_cons (pv 1) (pa_cons qD (pa_cons (pv 2) qA)))));apply qB
  ·apply qY
   exact(qL q35 (pv 1) (qI yI hr rfl (pa_cons (qP (qQ (K:=K) rfl) rfl Z.len_ PySem.boot_len (pa_cons (pv 0) qA)) (pa_cons (pv 2) qA))) (qU _))
   ·apply qC
    exact(qK qu)
   exact qO
  apply qB;exact(ps_set (i:=3) sc_best_apart.nd rfl (by k_ne) (qI yJ hr rfl (pa_cons (pv 0) (pa_cons (pv 1) (pa_cons (pv 2) qA)))));apply qC;exact(qK (qf (pa_cons (qM (qR (K:=K) rfl) (q2O (q6m hr) (qM (qR (K:=K) rfl) (pv 3) (pv 1) (λ_ _=>rfl)) qE (λ_ _=>rfl)) qD (λ_ _=>rfl)) (pa_cons (qI yi hr rfl (pa_cons (pv 0) (pa_cons (pv 3) (pa_cons (pv 1) (pa_cons (pv 2) qA))))) qA))))
 have hl:(ns.map V.int).length=ns.length:=List.length_map _;lk;refine⟨_,_,_,rfl,by lia,by lia,?_⟩;lk;refine⟨r,_,rfl,.inl (SqL.of hR),?_⟩;rw[hl];lk;refine⟨ns.length,g,rfl,hg,?_⟩;lk;refine ifD (λz=>?_) (λz=>?_)
 ·lk
  refine qN (q1B (by lia) ?_);have:=room_gt (n:=ns.length) (g:=g) (m:=m) (by lia)
  lia
 have hz:m<=(ns.length+g)/(1+g):=by lia
 have hmn:=room_n hz;obtain⟨x,hx⟩:∃x,fb ns g m 0=some x:=Option.ne_none_iff_exists'.mp (q6q (.inr ⟨by lia,q6T hz⟩));lk;refine⟨r,ns,m,g,rfl,hR,hn,by lia,λl xs H1 s1 hl0 hl1 hL=>?_⟩;obtain⟨d,hd,a,b,e,hd1,ha,hb,he⟩:=hL.2 m (by lia);lk;refine⟨l,_,_,_,rfl,rfl,SqL.of hl1,qi hd,?_⟩;lk;refine⟨d,_,rfl,dBest hd1,?_⟩;lk;refine⟨b,_,((0:Nat):Int),_,rfl,rfl,SqL.of hb,atO (by lia),?_⟩;rw[hx];lk;refine⟨r,l,ns,xs,m,m+1,g,x,rfl,s1 _ _ hR,hl1,hL,by lia,by lia,hn,hx,λst ys H2 s2 hst0 hst hP=>?_⟩;lk;refine⟨by show 2<=sizeLine;decide,λt ht=>?_⟩;have s3:=Same.new ht (.tup [.int x.1,.ref st]);have s12:Same H H2:=λb o z=>s2 _ _ (s1 _ _ z);exact q t st ys x _ hx hmn (λb o z=>s3 _ _ (s12 _ _ z)) (q0x s12 ht) (q0x s1 hst0) q0 (s3 _ _ hst) (hP.keep s3)
noncomputable def pv2(ns:List Int)(g c i:Nat):Option Int:=val (fb (ns.take i) g c 0)
noncomputable def Ppr(ok:Addr->Prop)(H:Hp)(ns:List Int)(g m:Nat)(xs:List V):Prop:=xs.length=m/\∀c,c < m->∃a,xs[c]?=some (.ref a)/\ok a/\H a=some (.lst ((qW (ns.length+1) (pv2 ns g c)).map oV))
theorem line_rev{f:Nat->Option Int}:((qW (n+1) f).map oV).reverse=(qW (n+1) (λi=>f (n-i))).map oV:=by
 refine List.ext_getElem? λi=>?_;have hl:((qW (n+1) f).map oV).length=n+1:=by rw[List.length_map,q0L]
 by_cases hi:i < n+1
 ·rw[List.getElem?_reverse (by lia),hl,List.getElem?_map,List.getElem?_map,q1q (by lia),q1q hi,show n+1-1-i=n-i by lia]
 ·rw[List.getElem?_eq_none (by rw[List.length_reverse,hl];lia),List.getElem?_eq_none (by rw[List.length_map,q0L];lia)]
theorem q7t:qW (ns.length+1) (λi=>val (fb ns.reverse g c (ns.length-i)))=qW (ns.length+1) (pv2 ns g c):=q0B λi hi=>by
 rw[fb_rev (by lia),show ns.length-(ns.length-i)=i by lia];rfl
noncomputable def q1V:Sp:=λvs H Q _=>∃(r:Addr) (ns:List Int) (m g:Nat),vs=[.ref r,.int m,.int g]/\H r=some (.lst (ns.map V.int))/\ns.length<=20000/\1<=m/\m<=40000/\
 ∀(l:Addr) (xs:List V) (H':Hp),Same H H'->H l=none->H' l=some (.lst xs)->Ppr (λa=>H a=none/\a≠l) H' ns g (m+1) xs->Q (.ref l) H'
theorem q5j(F:Fun K "several_paper" "several_paper" q0H f fd)(Z:Blt mg)
  (yH:Def P w K mg base k "refuse_counts" ["many","least","gap"] q17)(yJ:Def P w K mg base k "lines_of" ["row","many","gap"] q2T):FnOk P w K mg base CX0 (k+1) f fd ["row","many","gap"] q1V:=by
 refine F.ok sc_several_paper (λvs H Q E h=>?_) (λcdv A outer s H vs Q E hr h=>?_)
 ·obtain⟨r,ns,m,g,rfl,_⟩:=h
  rfl
 obtain⟨r,ns,m,g,rfl,hR,hn,hm1,hm,q⟩:=h
 w_up
 ·apply qB
  exact(qj (qI yH hr rfl (pa_cons (pv 1) (pa_cons qD (pa_cons (pv 2) qA)))));apply qB;exact(ps_set (i:=3) sc_several_paper.nd rfl (by k_ne) (qI yJ hr rfl (pa_cons (pe_rev (pv 0) (q3m q1U qD)) (pa_cons (pv 1) (pa_cons (pv 2) qA)))));apply qC;exact(qK (q18 (N':=["line"]) (ix:=[none]) rfl rfl (by decide +kernel) rfl rfl rfl rfl (qm (K:=K) rfl (pv 3)) (λ_ _ _ _=>(qZ (i:=0) (show List.Nodup (["line"]:List Str) by decide +kernel) rfl (by k_ne))) (λ_ _ _ _=>qq) (λ_ _ _ _=>(pe_revB (pe_dgetB (q6m hr) (pv 0) qE (λ_ _=>rfl)) (q3m q1U qD)))))
 have hl:(ns.map V.int).length=ns.length:=List.length_map _;lk;refine⟨_,_,_,rfl,by lia,by lia,?_⟩;lk;refine⟨r,_,rfl,rfl,SqL.of hR,λp1 hp1=>?_⟩;have s1:=Same.new hp1 (.lst (ns.map V.int).reverse);have hrl:ns.reverse.length=ns.length:=List.length_reverse;lk;refine⟨p1,ns.reverse,m,g,rfl,by rw[q0,List.map_reverse],by rw[hrl];exact hn,hm,λl xs H1 s2 hl0 hl1 hL=>?_⟩;have s12:=s1.trans s2;lk;refine⟨⟨_,SqL.of hl1⟩,?_⟩;intro acc hacc;have hxl:=hL.1;refine qp (n:=m+1) (λi τ zs H'=>H' acc=some (.lst zs)/\Ppr (λa=>H a=none/\a≠acc) H' ns g i zs/\Same H1 H'/\∃o0,τ=[o0]) ⟨q0,⟨rfl,λc hc=>by lia⟩,Same.new hacc _,none,rfl⟩ (by lia) ?_ ?_ ?_ ?_
 ·rintro i τ zs H' ⟨e,hp,_⟩
  exact⟨e,by rw[hp.1];exact Nat.le_refl _⟩
 ·rintro i τ zs H' hi ⟨e,_,sm',_⟩
  exact⟨_,xs[i]'(by lia),SqL.of (sm' _ _ hl1),List.getElem?_eq_getElem (by lia)⟩
 ·rintro τ zs H4 ⟨e,hp,s4,_⟩
  refine⟨⟨_,SqL.of (s4 _ _ hl1),by rw[hxl];exact Nat.le_refl _⟩,?_⟩;exact q acc zs H4 (s12.trans s4) (s12.free hacc) e hp
 ·rintro i τ zs H4 v H5 hi ⟨e,hp,s4,o0,rfl⟩ ⟨rfl,y⟩
  have ey:=y _ (SqL.of (s4 _ _ hl1));obtain⟨d,hd,a,b,ee,hd1,ha,hb,he⟩:=hL.2 i hi;rw[hd] at ey;cases ey;lk;refine⟨d,_,rfl,dBest (s4 _ _ hd1),?_⟩;lk;refine⟨b,_,rfl,rfl,SqL.of (s4 _ _ hb),λp5 hp5=>?_⟩;rw[hrl,line_rev,q7t];have s5:=Same.new hp5 (.lst ((qW (ns.length+1) (pv2 ns g i)).map oV));have h5n:p5≠acc:=λz=>by rw[z,e] at hp5;cases hp5
  refine⟨s5 _ _ e,Nx.mk hi ⟨q0,⟨by rw[List.length_append,hp.1];rfl,λc hc=>?_⟩,(s4.trans s5).upd hacc,_,rfl⟩⟩;by_cases z:c=i
  ·subst z
   exact⟨p5,by rw[List.getElem?_append_right (by rw[hp.1];exact Nat.le_refl _),hp.1,Nat.sub_self];rfl,⟨(s12.trans s4).free hp5,h5n⟩,by rw[qG h5n,q0]⟩
  ·obtain⟨a',ea,⟨o1,o2⟩,ha'⟩:=hp.2 c (by lia)
   exact⟨a',by rw[List.getElem?_append_left (by rw[hp.1];lia)];exact ea,⟨o1,o2⟩,by rw[qG o2];exact s5 _ _ ha'⟩
theorem txtW_len{n:Int}(h:n.natAbs < 10 ^ 36):(txt n).length<=37:=by
 show(txt n).cps.size<=37;rw[<-Array.length_toList]
 cases n with
 | ofNat m=>
  have e:=q3T m;have b:=q44 35 m h;rw[show(txt (Int.ofNat m)).cps.toList=_ from e,List.length_map]
  lia
 | negSucc m=>
  have b:=q44 35 (m+1) h;rw[q4b,List.length_cons,List.length_map]
  lia
theorem q5q:∀{l:List Str},(∀p,p∈l->p.length<=37)->(l.map (·.length)).sum<=37*l.length
 |[],_=>Nat.le_refl _
 | x::l,h=>by
  have a:=h x List.mem_cons_self;have b:=q5q (l:=l) λp hp=>h p (List.mem_cons_of_mem _ hp);rw[List.map_cons,List.sum_cons,List.length_cons]
  lia
theorem q28(h:ns.length<=2000)(hb:∀n,n∈ns->n.natAbs < 10 ^ 36):JoinOk (Str.ofString " ") (ns.map txt)=true:=by
 have hs:=q5q (l:=ns.map txt) λp hp=>by
  obtain⟨n,hn,rfl⟩:=List.mem_map.mp hp;exact txtW_len (hb n hn)
 rw[List.length_map] at hs;unfold JoinOk;have e:=PySem.StrLaws.joinTotal (Str.ofString " ") (ns.map txt);rw[List.length_map] at e;have e1:(Str.ofString " ").length=1:=rfl;rw[e1] at e;rw[e1,e];unfold Builtin.Str.tooLong;rw[PySem.sizeLine_eq,Bool.not_eq_true'];exact decide_eq_false (by lia)
theorem q5C{n:Int}(h:n.natAbs < 10 ^ 36):n.natAbs.log2 < 128:=by
 by_cases h0:n.natAbs=0
 ·rw[h0]
  decide
 ·exact(Nat.log2_lt h0).mpr (Nat.lt_trans h (by decide))
theorem q0C(x:Str):Txt.join (Str.ofString " ") [x]=x:=by
 unfold Txt.join;rfl
structure RowOk(ns:List Int):Prop where
 l1:1<=ns.length
 l2:ns.length<=40
 b:∀n,n∈ns->n.natAbs < 10 ^ 30
theorem RowOk.at(h:RowOk ns){i:Nat}(hi:i < ns.length): -(10 ^ 30) < ns.getD i 0/\ns.getD i 0 < 10 ^ 30:=by
 have:=h.b _ (List.getElem_mem hi);rw[List.getD_eq_getElem?_getD,List.getElem?_eq_getElem hi];show -(10 ^ 30) < ns[i]/\ns[i] < 10 ^ 30
 lia
theorem RowOk.sum{ns:List Int}(h:RowOk ns):∀{i:Nat},i<=ns.length->-(10 ^ 30)*(i:Int)<=psum ns i/\psum ns i<=10 ^ 30*(i:Int)
 | 0,_=>by
  show _<=(0:Int)/\(0:Int)<=_
  lia
 | i+1,hi=>by
  have ih:=RowOk.sum h (i:=i) (by lia);have e:=q0m (ns:=ns) (i:=i) (by lia);have b:=h.at (i:=i) (by lia);rw[e]
  push_cast
  lia
theorem RowOk.part(h:RowOk ns){f b:Nat}(hb:b<=ns.length)(hf:f<=b):(psum ns b-psum ns f).natAbs < 10 ^ 36:=by
 have h1:=h.sum hb;have h2:=h.sum (i:=f) (by lia);have:=h.l2
 lia
structure Dst where
 row:Option (List Int)
 earlier:List (List Int)
 undone:List (List Int)
noncomputable def HeldV(H:Hp)(v:V):Option (List Int)->Prop
 |none=>v = .non
 |some ns=>∃p,v = .ref p/\IsKept H 13 p ns
structure KL(H:Hp)(xs:List V)(rs:List (List Int)):Prop where
 len:xs.length=rs.length
 at_:∀(i:Nat) (v:V) (r:List Int),xs[i]?=some v->rs[i]?=some r->∃p,v = .ref p/\IsKept H 13 p r
theorem KL.nil:KL H [] []:=⟨rfl,λi v r e=>by simp at e⟩
theorem KL.keep{xs:List V}{rs:List (List Int)}(h:KL H xs rs)(s:q37 H H'):KL H' xs rs:=⟨h.len,λi v r e1 e2=>by
 obtain⟨p,e,k⟩:=h.at_ i v r e1 e2
 exact⟨p,e,k.keepT s⟩⟩
theorem KL.push{xs:List V}{rs:List (List Int)}{p:Addr}(h:KL H xs rs)(k:IsKept H 13 p r):KL H (xs++[.ref p]) (rs++[r]):=⟨by rw[List.length_append,List.length_append,h.len];rfl,λi v q e1 e2=>by
 by_cases hi:i < xs.length
 ·rw[List.getElem?_append_left hi] at e1
  rw[List.getElem?_append_left (by rw[<-h.len];exact hi)] at e2;exact h.at_ i v q e1 e2
 ·rw[List.getElem?_append_right (by lia)] at e1
  rw[List.getElem?_append_right (by rw[<-h.len];lia),<-h.len] at e2
  cases hd:i-xs.length with
  | zero=>
   rw[hd] at e1 e2;cases e1;cases e2;exact⟨p,rfl,k⟩
  |succ j=>rw[hd] at e1;simp at e1⟩
theorem KL.last{xs:List V}{rs:List (List Int)}(h:KL H xs (rs++[r])):∃p ys,xs=ys++[.ref p]/\IsKept H 13 p r/\KL H ys rs:=by
 have hl:=h.len;rw[List.length_append,List.length_singleton] at hl;have hne:xs≠[]:=λz=>by rw[z] at hl;simp at hl
 obtain⟨ys,v,rfl⟩:∃ys v,xs=ys++[v]:=⟨xs.dropLast,xs.getLast hne,(List.dropLast_concat_getLast hne).symm⟩
 have hy:ys.length=rs.length:=by rw[List.length_append,List.length_singleton] at hl;lia
 obtain⟨p,rfl,k⟩:=h.at_ ys.length v r (by rw[List.getElem?_append_right (Nat.le_refl _),Nat.sub_self];rfl) (by rw[hy,List.getElem?_append_right (Nat.le_refl _),Nat.sub_self];rfl);refine⟨p,ys,rfl,k,hy,λi w q e1 e2=>?_⟩;have hi:i < ys.length:=(List.getElem?_eq_some_iff.mp e1).1;exact h.at_ i w q (by rw[List.getElem?_append_left hi];exact e1) (by rw[List.getElem?_append_left (by lia)];exact e2)
theorem HeldV.keep{o:Option (List Int)}(h:HeldV H v o)(s:q37 H H'):HeldV H' v o:=by
 cases o with
 |none=>exact h
 |some ns=>obtain⟨p,e,k⟩:=h;exact⟨p,e,k.keepT s⟩
structure DeskAt(C:Addr)(H:Hp)(d e u:Addr)(st:Dst):Prop where
 ex:∃(dx:Addr) (v:V) (xe xu:List V),H d=some (.ins C dx [("held",v),("earlier",.ref e),("undone",.ref u)])/\HeldV H v st.row/\H e=some (.lst xe)/\KL H xe st.earlier/\H u=some (.lst xu)/\KL H xu st.undone
 ne:e≠u
 rows:(∀r,st.row=some r->RowOk r)/\(∀r,r∈st.earlier->RowOk r)/\(∀r,r∈st.undone->RowOk r)
 few:st.earlier.length+st.undone.length<=1000
noncomputable def FrD(d e u:Addr)(H H':Hp):Prop:=∀b o,b≠d->b≠e->b≠u->H b=some o->H' b=some o
theorem DeskAt.keep{C:Addr}{H H':Hp}{d e u:Addr}{st:Dst}(h:DeskAt C H d e u st)(s:Same H H'):DeskAt C H' d e u st:=by
 obtain⟨dx,v,xe,xu,h1,h2,h3,h4,h5,h6⟩:=h.ex;have t:q37 H H':=λb xs z=>s _ _ z;exact⟨⟨dx,v,xe,xu,s _ _ h1,h2.keep t,s _ _ h3,h4.keep t,s _ _ h5,h6.keep t⟩,h.ne,h.rows,h.few⟩
noncomputable def q2G:Sp:=λvs H Q _=>∃(p:Addr) (ns:List Int),vs=[.ref p]/\IsKept H 13 p ns/\RowOk ns/\∀(x:Sx) (H':Hp),Same H H'->Top (PB ns) x->Q (.str (txt x.s)) H'
theorem ok_bsum(F:Fun K "best_sum" "best_sum" q31 f fd)(Z:Blt mg)
  (y0:Def P w K mg base k "many_of" ["held"] q0G)(y05:Def P w K mg base k "best_in" ["held","stretch"] q2Y)(yO:Def P w K mg base k "shown_row" ["row"] q3I):FnOk P w K mg base CX0 (k+1) f fd ["held"] q2G:=by
 refine F.ok q6P (λvs H Q E h=>?_) (λcdv A outer s H vs Q E hr h=>?_)
 ·obtain⟨p,ns,rfl,_⟩:=h
  rfl
 obtain⟨p,ns,rfl,hk,hR,fin⟩:=h
 w_up
 ·apply qC
  exact(qK (qI yO hr rfl (pa_cons (pe_lst (pa_cons (qM (qH (K:=K) rfl) (qI y05 hr rfl (pa_cons (pv 0) (pa_cons (qf (pa_cons qD (pa_cons (qI y0 hr rfl (pa_cons (pv 0) qA)) qA))) qA))) qD (λ_ _=>rfl)) qA)) qA)))
 have l1:=hR.l1;lk;refine⟨_,p,ns,rfl,hk,?_⟩;refine⟨by show 2<=sizeLine;decide,λt ht=>?_⟩;have s1:=Same.new ht (.tup [.int 0,.int (ns.length:Int)]);lk;refine⟨p,t,0,(ns.length:Int),ns,rfl,hk.keep s1,q0,by decide,by lia,Int.le_refl _,λu x H2 s2 hu hx=>?_⟩;rw[q2m] at hx;lk;refine⟨u,_,0,_,rfl,rfl,SqT.of hu,rfl,?_⟩;refine⟨by show 1<=sizeLine;decide,λl hl=>?_⟩;have s3:=Same.new hl (.lst [.int x.s])
 have hb:∀n,n∈[x.s]->n.natAbs < 10 ^ 36:=λn hn=>by
  rw[List.mem_singleton.mp hn];obtain⟨f,b,h1,h2,rfl⟩:=hx.has;exact hR.part h2 (by lia)
 refine⟨l,[x.s],rfl,q0,by show 1<=1000;decide,λn hn=>q5C (hb n hn),q28 (by show 1<=2000;decide) hb,λH4 s4=>?_⟩;rw[show Txt.join (Str.ofString " ") ([x.s].map txt)=txt x.s from q0C _];exact fin x H4 ((s1.trans s2).trans (s3.trans s4)) hx
structure DC(K:Frag)(C:Addr):Prop where
 cl:Cls K C
 nh:NoAttr K C "held"
 ne:NoAttr K C "earlier"
 nu:NoAttr K C "undone"
noncomputable def q6L(C:Addr):Sp:=λvs H Q _=>∃d dx:Addr,vs=[.ref d]/\H d=some (.ins C dx [])/\∀(e u:Addr) (H':Hp),H e=none->H u=none->(∀b o,b≠d->H b=some o->H' b=some o)->DeskAt C H' d e u ⟨none,[],[]⟩->Q .non H'
theorem ok_init(F:Fun K "__init__" "Desk.__init__" q1K f fd)(Z:Blt mg)(DD:DC K C):FnOk P w K mg base CX0 (k+1) f fd ["self"] (q6L C):=by
 refine F.ok q5Z (λvs H Q E h=>?_) (λcdv A outer s H vs Q E hr h=>?_)
 ·obtain⟨d,dx,rfl,_⟩:=h
  rfl
 obtain⟨d,dx,rfl,hd,fin⟩:=h
 w_up
 ·apply qB
  exact(q13 (K:=K) rfl (pv 0) qu);apply qB;exact(q13 (K:=K) rfl (pv 0) (pe_lst qA));apply qC;exact(q13 (K:=K) rfl (pv 0) (pe_lst qA))
 lk;refine⟨d,C,dx,_,rfl,hd,DD.cl,DD.nh,by decide,?_⟩;lk;refine⟨by show 0<=sizeLine;decide,λe he=>?_⟩;have hde:d≠e:=λz=>by rw[<-z,q0] at he;cases he
 have he0:H e=none:=by rw[qG (Ne.symm hde)] at he;exact he
 lk;refine⟨d,C,dx,_,rfl,by rw[qG hde,q0],DD.cl,DD.ne,by show 1 < 1000;decide,?_⟩;lk;refine⟨by show 0<=sizeLine;decide,λu hu=>?_⟩;have hdu:d≠u:=λz=>by rw[<-z,q0] at hu;cases hu
 have heu:e≠u:=λz=>by rw[<-z,qG (Ne.symm hde),q0] at hu;cases hu
 have hu0:H u=none:=by rw[qG (Ne.symm hdu),qG (Ne.symm heu),qG (Ne.symm hdu)] at hu;exact hu
 lk;refine⟨d,C,dx,_,rfl,by rw[qG hdu,q0],DD.cl,DD.nu,by show 2 < 1000;decide,?_⟩;refine fin e u _ he0 hu0 (λb o hb z=>?_) ⟨⟨dx,.non,[],[],by rw[q0];rfl,rfl,?_,KL.nil,?_,KL.nil⟩,heu,⟨λr z=>(by cases z),λr z=>(by cases z),λr z=>(by cases z)⟩,by show 0<=1000;decide⟩
 ·rw[qG hb,qG (qJ z hu0),qG hb,qG (qJ z he0),qG hb]
  exact z
 ·rw[qG (Ne.symm hde),qG heu,qG (Ne.symm hde),q0]
 ·rw[qG (Ne.symm hdu),q0]
noncomputable def q73(C:Addr):Sp:=λvs H Q _=>∃(d e u r:Addr) (st:Dst) (ns:List Int),vs=[.ref d,.ref r]/\DeskAt C H d e u st/\H r=some (.lst (ns.map V.int))/\r≠e/\r≠u/\RowOk ns/\
 ∀(e' u':Addr) (H':Hp),H e'=none->H u'=none->FrD d e u H H'->DeskAt C H' d e' u' ⟨some ns,[],[]⟩->Q (.str (txt (ns.length:Int))) H'
theorem ok_lay(F:Fun K "lay" "Desk.lay" q32 f fd)(Z:Blt mg)(DD:DC K C)
  (yo:Def P w K mg base k "kept" ["row"] sp_kept)(yO:Def P w K mg base k "shown_row" ["row"] q3I):FnOk P w K mg base CX0 (k+1) f fd ["self","row"] (q73 C):=by
 refine F.ok q6Q (λvs H Q E h=>?_) (λcdv A outer s H vs Q E hr h=>?_)
 ·obtain⟨d,e,u,r,st,ns,rfl,_⟩:=h
  rfl
 obtain⟨d,e,u,r,st,ns,rfl,hD,hR,hre,hru,hO,fin⟩:=h;obtain⟨dx,v,xe,xu,h1,_⟩:=hD.ex;have hrd:r≠d:=λz=>by rw[z,h1] at hR;cases hR
 have l1:=hO.l1;have l2:=hO.l2;have hl:(ns.map V.int).length=ns.length:=List.length_map _
 w_up
 ·apply qB
  exact(q13 (K:=K) rfl (pv 0) (qI yo hr rfl (pa_cons (pv 1) qA)));apply qB;exact(q13 (K:=K) rfl (pv 0) (pe_lst qA));apply qB;exact(q13 (K:=K) rfl (pv 0) (pe_lst qA));apply qC;exact(qK (qI yO hr rfl (pa_cons (pe_lst (pa_cons (qP (qQ (K:=K) rfl) rfl Z.len_ PySem.boot_len (pa_cons (pv 1) qA)) qA)) qA)))
 lk;refine⟨r,ns,rfl,hR,l1,by lia,λt H1 s1 hk=>?_⟩;have h11:=s1 _ _ h1;lk;refine⟨d,C,dx,_,rfl,h11,DD.cl,DD.nh,by show 3 < 1000;decide,?_⟩;lk;refine⟨by show 0<=sizeLine;decide,λe' he=>?_⟩;have hde:d≠e':=λz=>by rw[<-z,q0] at he;cases he
 have he1:H1 e'=none:=by rw[qG (Ne.symm hde)] at he;exact he
 lk;refine⟨d,C,dx,_,rfl,by rw[qG hde,q0],DD.cl,DD.ne,by show 3 < 1000;decide,?_⟩;lk;refine⟨by show 0<=sizeLine;decide,λu' hu=>?_⟩;have hdu:d≠u':=λz=>by rw[<-z,q0] at hu;cases hu
 have heu:e'≠u':=λz=>by rw[<-z,qG (Ne.symm hde),q0] at hu;cases hu
 have hu1:H1 u'=none:=by rw[qG (Ne.symm hdu),qG (Ne.symm heu),qG (Ne.symm hdu)] at hu;exact hu
 lk;refine⟨d,C,dx,_,rfl,by rw[qG hdu,q0],DD.cl,DD.nu,by show 3 < 1000;decide,?_⟩
 obtain⟨H2,eH2⟩:∃z,z=upd (upd (upd (upd (upd H1 d (HO.ins C dx (putF (Str.ofString "held") (V.ref t) [("held",v),("earlier",.ref e),("undone",.ref u)]))) e' (HO.lst [])) d (HO.ins C dx (putF (Str.ofString "earlier") (V.ref e') (putF (Str.ofString "held") (V.ref t) [("held",v),("earlier",.ref e),("undone",.ref u)])))) u' (HO.lst [])) d (HO.ins C dx (putF (Str.ofString "undone") (V.ref u') (putF (Str.ofString "earlier") (V.ref e') (putF (Str.ofString "held") (V.ref t) [("held",v),("earlier",.ref e),("undone",.ref u)])))):=⟨_,rfl⟩
 have old:∀b o,b≠d->H1 b=some o->H2 b=some o:=λb o hb z=>by
  rw[eH2,qG hb,qG (qJ z hu1),qG hb,qG (qJ z he1),qG hb];exact z
 have hd2:H2 d=some (.ins C dx [("held",.ref t),("earlier",.ref e'),("undone",.ref u')]):=by rw[eH2,q0];rfl
 have he2:H2 e'=some (.lst []):=by rw[eH2,qG (Ne.symm hde),qG heu,qG (Ne.symm hde),q0]
 have hu2:H2 u'=some (.lst []):=by rw[eH2,qG (Ne.symm hdu),q0]
 have t2:q37 H1 H2:=λb xs z=>old b _ (λy=>by rw[y,h11] at z;cases z) z;have hR2:H2 r=some (.lst (ns.map V.int)):=old r _ hrd (s1 _ _ hR);rw[<-eH2];lk;refine⟨r,_,rfl,.inl (SqL.of hR2),?_⟩;rw[hl];refine⟨by show 1<=sizeLine;decide,λl hl0=>?_⟩;have s3:=Same.new hl0 (.lst [.int (ns.length:Int)])
 have hb:∀n,n∈[(ns.length:Int)]->n.natAbs < 10 ^ 36:=λn hn=>by
  rw[List.mem_singleton.mp hn]
  lia
 refine⟨l,[(ns.length:Int)],rfl,q0,by show 1<=1000;decide,λn hn=>q5C (hb n hn),q28 (by show 1<=2000;decide) hb,λH4 s4=>?_⟩;rw[show Txt.join (Str.ofString " ") ([(ns.length:Int)].map txt)=txt (ns.length:Int) from q0C _];have s24:Same H2 H4:=s3.trans s4;refine fin e' u' H4 (s1.free he1) (s1.free hu1) (λb o h1 _ _ z=>s24 _ _ (old b o h1 (s1 _ _ z))) (DeskAt.keep ⟨⟨dx,.ref t,[],[],hd2,⟨t,rfl,hk.keepT t2⟩,he2,KL.nil,hu2,KL.nil⟩,heu,⟨λr z=>(by cases z;exact hO),λr z=>(by cases z),λr z=>(by cases z)⟩,by show 0<=1000;decide⟩ s24)
theorem RowOk.put{cs:List (Int×Int)}(h:RowOk ns)(hc:∀c,c∈cs->c.2.natAbs < 10 ^ 30):RowOk (q08 ns cs):=by
 induction cs generalizing ns with
 |nil=>exact h
 | cons c cs ih=>
  refine ih ⟨by rw[List.length_set];exact h.l1,by rw[List.length_set];exact h.l2,λn hn=>?_⟩ λd hd=>hc d (List.mem_cons_of_mem _ hd);rcases List.mem_or_eq_of_mem_set hn with z|z
  ·exact h.b n z
  ·rw[z]
   exact hc c List.mem_cons_self
noncomputable def sp_dput(C:Addr):Sp:=λvs H Q _=>∃(d e u l:Addr) (st:Dst) (ns:List Int) (xs:List V) (cs:List (Int×Int)),vs=[.ref d,.ref l]/\DeskAt C H d e u st/\st.row=some ns/\H l=some (.lst xs)/\Chg H xs cs/\q3F ns.length cs/\(∀c,c∈cs->c.2.natAbs < 10 ^ 30)/\st.earlier.length<=900/\
 ∀(u':Addr) (x:Sx) (H':Hp),H u'=none->FrD d e u H H'->DeskAt C H' d e u' ⟨some (q08 ns cs),st.earlier++[ns],[]⟩->Top (PB (q08 ns cs)) x->Q (.str (txt x.s)) H'
theorem ok_dput(F:Fun K "put" "Desk.put" q24 f fd)(Z:Blt mg)(DD:DC K C)
  (yj:Def P w K mg base k "changed" ["held","changes"] q1z)(y9:Def P w K mg base k "best_sum" ["held"] q2G):FnOk P w K mg base CX0 (k+1) f fd ["self","changes"] (sp_dput C):=by
 refine F.ok sc_Desk_put (λvs H Q E h=>?_) (λcdv A outer s H vs Q E hr h=>?_)
 ·obtain⟨d,e,u,l,st,ns,xs,cs,rfl,_⟩:=h
  rfl
 obtain⟨d,e,u,l,st,ns,xs,cs,rfl,hD,hrow,hl,hC,hin,hb,hfew,fin⟩:=h;obtain⟨dx,v,xe,xu,h1,hv,h3,h4,h5,h6⟩:=hD.ex;rw[hrow] at hv;obtain⟨p,rfl,hk⟩:=hv;have hO:=hD.rows.1 ns hrow
 w_up
 ·apply qB
  exact(ps_set (i:=2) sc_Desk_put.nd rfl (by k_ne) (qI yj hr rfl (pa_cons (qy (K:=K) rfl (pv 0)) (pa_cons (pv 1) qA))));apply qB;exact(qj (q1R (K:=K) rfl PySem.F.plainAttrs_list PySem.F.slot_list_append PySem.F.type_list_append qx (qy (K:=K) rfl (pv 0)) (pa_cons (qy (K:=K) rfl (pv 0)) qA)));apply qB;exact(q13 (K:=K) rfl (pv 0) (pe_lst qA));apply qB;exact(q13 (K:=K) rfl (pv 0) (pv 2));apply qC;exact(qK (qI y9 hr rfl (pa_cons (pv 2) qA)))
 lk;refine⟨d,C,dx,_,_,rfl,h1,DD.cl,DD.nh,rfl,?_⟩;lk;refine⟨p,l,ns,xs,cs,rfl,hk,hl,hC,hin,λt H1 s1 hkt _=>?_⟩;have h11:=s1 _ _ h1;have h31:=s1 _ _ h3;have hde:d≠e:=λz=>by rw[z,h3] at h1;cases h1
 lk;refine⟨d,C,dx,_,_,rfl,h11,DD.cl,DD.ne,rfl,?_⟩;refine⟨.inl ⟨rfl,_,SqL.of h31⟩,?_⟩;lk;refine⟨d,C,dx,_,_,rfl,h11,DD.cl,DD.nh,rfl,?_⟩;lk;refine⟨e,_,_,rfl,rfl,h31,small (by rw[h4.len];lia),?_⟩;lk;refine⟨by show 0<=sizeLine;decide,λu' hu=>?_⟩;have heu:e≠u':=λz=>by rw[<-z,q0] at hu;cases hu
 have hu1:H1 u'=none:=by rw[qG (Ne.symm heu)] at hu;exact hu
 have hdu:d≠u':=λz=>by rw[<-z,h11] at hu1;cases hu1
 lk;refine⟨d,C,dx,_,rfl,by rw[qG hdu,qG hde];exact h11,DD.cl,DD.nu,by show 3 < 1000;decide,?_⟩;lk;refine⟨d,C,dx,_,rfl,q0,DD.cl,DD.nh,by show 3 < 1000;decide,?_⟩;rw[q4Z]
 obtain⟨H2,eH2⟩:∃z,z=upd (upd (upd H1 e (.lst (xe++[.ref p]))) u' (.lst [])) d (.ins C dx (putF "held" (.ref t) (putF "undone" (.ref u') [("held",.ref p),("earlier",.ref e),("undone",.ref u)]))):=⟨_,rfl⟩
 have old:∀b o,b≠d->b≠e->H1 b=some o->H2 b=some o:=λb o hb he z=>by
  rw[eH2,qG hb,qG (qJ z hu1),qG he];exact z
 have t2:q37 H1 H2:=λb xs z=>old b _ (λy=>by rw[y,h11] at z;cases z) (λy=>by rw[y,h31] at z;cases z) z;have t1:q37 H H1:=λb xs z=>s1 _ _ z;have hd2:H2 d=some (.ins C dx [("held",.ref t),("earlier",.ref e),("undone",.ref u')]):=by rw[eH2,q0];rfl
 have he2:H2 e=some (.lst (xe++[.ref p])):=by rw[eH2,qG (Ne.symm hde),qG heu,q0]
 have hu2:H2 u'=some (.lst []):=by rw[eH2,qG (Ne.symm hdu),q0]
 rw[<-eH2];lk;have hO2:=hO.put hb;refine⟨t,_,rfl,hkt.keepT t2,hO2,λx H3 s3 hx=>?_⟩;have kl:KL H2 (xe++[.ref p]) (st.earlier++[ns]):=((h4.keep t1).push (hk.keep s1)).keep t2;refine fin u' x H3 (s1.free hu1) (λb o b1 b2 b3 z=>s3 _ _ (old b o b1 b2 (s1 _ _ z))) (DeskAt.keep ⟨⟨dx,.ref t,_,[],hd2,⟨t,rfl,hkt.keepT t2⟩,he2,kl,hu2,KL.nil⟩,heu,⟨λr z=>(by cases z;exact hO2),λr z=>?_,λr z=>(by cases z)⟩,?_⟩ s3) hx
 ·rcases List.mem_append.mp z with y|y
  ·exact hD.rows.2.1 r y
  ·rw[List.mem_singleton.mp y]
   exact hO
 ·show(st.earlier++[ns]).length+0<=1000
  rw[List.length_append,List.length_singleton]
  lia
noncomputable def q79(C:Addr):Sp:=λvs H Q _=>∃(d e u:Addr) (ns r:List Int) (rs us:List (List Int)),vs=[.ref d]/\DeskAt C H d e u ⟨some ns,rs++[r],us⟩/\
 ∀(x:Sx) (H':Hp),FrD d e u H H'->DeskAt C H' d e u ⟨some r,rs,us++[ns]⟩->Top (PB r) x->Q (.str (txt x.s)) H'
theorem ok_dundo(F:Fun K "undo" "Desk.undo" q1I f fd)(Z:Blt mg)(DD:DC K C)
  (y9:Def P w K mg base k "best_sum" ["held"] q2G):FnOk P w K mg base CX0 (k+1) f fd ["self"] (q79 C):=by
 refine F.ok q3A (λvs H Q E h=>?_) (λcdv A outer s H vs Q E hr h=>?_)
 ·obtain⟨d,e,u,ns,r,rs,us,rfl,_⟩:=h
  rfl
 obtain⟨d,e,u,ns,r,rs,us,rfl,hD,fin⟩:=h;obtain⟨dx,v,xe,xu,h1,hv,h3,h4,h5,h6⟩:=hD.ex;obtain⟨p,rfl,hk⟩:=hv;obtain⟨q,ys,rfl,hq,hys⟩:=h4.last;have hde:d≠e:=λz=>by rw[z,h3] at h1;cases h1
 have hdu:d≠u:=λz=>by rw[z,h5] at h1;cases h1
 have heu:=hD.ne;have hfew:=hD.few;rw[show(Dst.mk (some ns) (rs++[r]) us).earlier=rs++[r] from rfl,show(Dst.mk (some ns) (rs++[r]) us).undone=us from rfl,List.length_append,List.length_singleton] at hfew;have hx6:xu.length=us.length:=h6.len
 w_up
 ·apply qB
  ·apply qY
   exact(qw (q26 (qy (K:=K) rfl (pv 0)) (λ_=>rfl)))
   ·apply qC
    exact q0A
   exact qO
  apply qB;exact(qj (q1R (K:=K) rfl PySem.F.plainAttrs_list PySem.F.slot_list_append PySem.F.type_list_append qx (qy (K:=K) rfl (pv 0)) (pa_cons (qy (K:=K) rfl (pv 0)) qA)));apply qB;exact(q13 (K:=K) rfl (pv 0) (q6X (K:=K) rfl PySem.F.plainAttrs_list PySem.F.slot_list_pop PySem.F.type_list_pop mt_pop (qy (K:=K) rfl (pv 0))));apply qC;exact(qK (qI y9 hr rfl (pa_cons (qy (K:=K) rfl (pv 0)) qA)))
 lk;refine⟨d,C,dx,_,_,rfl,h1,DD.cl,DD.ne,rfl,?_⟩;lk;refine⟨true,.inl ⟨_,SqL.of h3,by simp⟩,?_⟩;refine iteF ?_;lk;refine⟨d,C,dx,_,_,rfl,h1,DD.cl,DD.nu,rfl,?_⟩;refine⟨.inl ⟨rfl,_,SqL.of h5⟩,?_⟩;lk;refine⟨d,C,dx,_,_,rfl,h1,DD.cl,DD.nh,rfl,?_⟩;lk;refine⟨u,_,_,rfl,rfl,h5,small (by lia),?_⟩;have h31:upd H u (.lst (xu++[.ref p])) e=some (.lst (ys++[.ref q])):=by rw[qG heu];exact h3
 have h11:upd H u (.lst (xu++[.ref p])) d=some (.ins C dx [("held",.ref p),("earlier",.ref e),("undone",.ref u)]):=by rw[qG hdu];exact h1
 lk;refine⟨d,C,dx,_,_,rfl,h11,DD.cl,DD.ne,rfl,?_⟩;refine⟨.inl ⟨rfl,_,SqL.of h31⟩,?_⟩;lk;refine⟨e,_,.ref q,rfl,rfl,h31,by rw[List.length_append,List.length_singleton,Nat.add_sub_cancel,List.getElem?_append_right (Nat.le_refl _),Nat.sub_self];rfl,?_⟩;rw[List.dropLast_concat];lk;refine⟨d,C,dx,_,rfl,by rw[qG hde];exact h11,DD.cl,DD.nh,by show 3 < 1000;decide,?_⟩
 obtain⟨H2,eH2⟩:∃z,z=upd (upd (upd H u (.lst (xu++[.ref p]))) e (.lst ys)) d (.ins C dx (putF "held" (.ref q) [("held",.ref p),("earlier",.ref e),("undone",.ref u)])):=⟨_,rfl⟩
 have old:∀b o,b≠d->b≠e->b≠u->H b=some o->H2 b=some o:=λb o b1 b2 b3 z=>by
  rw[eH2,qG b1,qG b2,qG b3];exact z
 have t2:q37 H H2:=λb xs z=>old b _ (λy=>by rw[y,h1] at z;cases z) (λy=>by rw[y,h3] at z;cases z) (λy=>by rw[y,h5] at z;cases z) z;have hd2:H2 d=some (.ins C dx [("held",.ref q),("earlier",.ref e),("undone",.ref u)]):=by rw[eH2,q0];rfl
 have he2:H2 e=some (.lst ys):=by rw[eH2,qG (Ne.symm hde),q0]
 have hu2:H2 u=some (.lst (xu++[.ref p])):=by rw[eH2,qG (Ne.symm hdu),qG (Ne.symm heu),q0]
 have hO:=hD.rows.2.1 r (List.mem_append_right _ List.mem_cons_self);rw[<-eH2];lk;refine⟨d,C,dx,_,_,rfl,hd2,DD.cl,DD.nh,rfl,?_⟩;lk;refine⟨q,r,rfl,hq.keepT t2,hO,λx H3 s3 hx=>?_⟩;refine fin x H3 (λb o b1 b2 b3 z=>s3 _ _ (old b o b1 b2 b3 z)) (DeskAt.keep ⟨⟨dx,.ref q,ys,_,hd2,⟨q,rfl,hq.keepT t2⟩,he2,hys.keep t2,hu2,(h6.push hk).keep t2⟩,heu,⟨λr' z=>(by cases z;exact hO),λr' z=>hD.rows.2.1 r' (List.mem_append_left _ z),λr' z=>?_⟩,?_⟩ s3) hx
 ·rcases List.mem_append.mp z with y|y
  ·exact hD.rows.2.2 r' y
  ·rw[List.mem_singleton.mp y]
   exact hD.rows.1 ns rfl
 ·show rs.length+(us++[ns]).length<=1000
  rw[List.length_append,List.length_singleton]
  lia
noncomputable def q7A(C:Addr):Sp:=λvs H Q _=>∃(d e u:Addr) (ns r:List Int) (rs us:List (List Int)),vs=[.ref d]/\DeskAt C H d e u ⟨some ns,rs,us++[r]⟩/\
 ∀(x:Sx) (H':Hp),FrD d e u H H'->DeskAt C H' d e u ⟨some r,rs++[ns],us⟩->Top (PB r) x->Q (.str (txt x.s)) H'
theorem ok_dredo(F:Fun K "redo" "Desk.redo" q1J f fd)(Z:Blt mg)(DD:DC K C)
  (y9:Def P w K mg base k "best_sum" ["held"] q2G):FnOk P w K mg base CX0 (k+1) f fd ["self"] (q7A C):=by
 refine F.ok q3B (λvs H Q E h=>?_) (λcdv A outer s H vs Q E hr h=>?_)
 ·obtain⟨d,e,u,ns,r,rs,us,rfl,_⟩:=h
  rfl
 obtain⟨d,e,u,ns,r,rs,us,rfl,hD,fin⟩:=h;obtain⟨dx,v,xe,xu,h1,hv,h3,h4,h5,h6⟩:=hD.ex;obtain⟨p,rfl,hk⟩:=hv;obtain⟨q,ys,rfl,hq,hys⟩:=h6.last;have hde:d≠e:=λz=>by rw[z,h3] at h1;cases h1
 have hdu:d≠u:=λz=>by rw[z,h5] at h1;cases h1
 have heu:=hD.ne;have hfew:=hD.few;rw[show(Dst.mk (some ns) rs (us++[r])).earlier=rs from rfl,show(Dst.mk (some ns) rs (us++[r])).undone=us++[r] from rfl,List.length_append,List.length_singleton] at hfew;have hx6:xe.length=rs.length:=h4.len
 w_up
 ·apply qB
  ·apply qY
   exact(qw (q26 (qy (K:=K) rfl (pv 0)) (λ_=>rfl)))
   ·apply qC
    exact q0A
   exact qO
  apply qB;exact(qj (q1R (K:=K) rfl PySem.F.plainAttrs_list PySem.F.slot_list_append PySem.F.type_list_append qx (qy (K:=K) rfl (pv 0)) (pa_cons (qy (K:=K) rfl (pv 0)) qA)));apply qB;exact(q13 (K:=K) rfl (pv 0) (q6X (K:=K) rfl PySem.F.plainAttrs_list PySem.F.slot_list_pop PySem.F.type_list_pop mt_pop (qy (K:=K) rfl (pv 0))));apply qC;exact(qK (qI y9 hr rfl (pa_cons (qy (K:=K) rfl (pv 0)) qA)))
 lk;refine⟨d,C,dx,_,_,rfl,h1,DD.cl,DD.nu,rfl,?_⟩;lk;refine⟨true,.inl ⟨_,SqL.of h5,by simp⟩,?_⟩;refine iteF ?_;lk;refine⟨d,C,dx,_,_,rfl,h1,DD.cl,DD.ne,rfl,?_⟩;refine⟨.inl ⟨rfl,_,SqL.of h3⟩,?_⟩;lk;refine⟨d,C,dx,_,_,rfl,h1,DD.cl,DD.nh,rfl,?_⟩;lk;refine⟨e,_,_,rfl,rfl,h3,small (by lia),?_⟩;have h31:upd H e (.lst (xe++[.ref p])) u=some (.lst (ys++[.ref q])):=by rw[qG (Ne.symm heu)];exact h5
 have h11:upd H e (.lst (xe++[.ref p])) d=some (.ins C dx [("held",.ref p),("earlier",.ref e),("undone",.ref u)]):=by rw[qG hde];exact h1
 lk;refine⟨d,C,dx,_,_,rfl,h11,DD.cl,DD.nu,rfl,?_⟩;refine⟨.inl ⟨rfl,_,SqL.of h31⟩,?_⟩;lk;refine⟨u,_,.ref q,rfl,rfl,h31,by rw[List.length_append,List.length_singleton,Nat.add_sub_cancel,List.getElem?_append_right (Nat.le_refl _),Nat.sub_self];rfl,?_⟩;rw[List.dropLast_concat];lk;refine⟨d,C,dx,_,rfl,by rw[qG hdu];exact h11,DD.cl,DD.nh,by show 3 < 1000;decide,?_⟩
 obtain⟨H2,eH2⟩:∃z,z=upd (upd (upd H e (.lst (xe++[.ref p]))) u (.lst ys)) d (.ins C dx (putF "held" (.ref q) [("held",.ref p),("earlier",.ref e),("undone",.ref u)])):=⟨_,rfl⟩
 have old:∀b o,b≠d->b≠e->b≠u->H b=some o->H2 b=some o:=λb o b1 b2 b3 z=>by
  rw[eH2,qG b1,qG b3,qG b2];exact z
 have t2:q37 H H2:=λb xs z=>old b _ (λy=>by rw[y,h1] at z;cases z) (λy=>by rw[y,h3] at z;cases z) (λy=>by rw[y,h5] at z;cases z) z;have hd2:H2 d=some (.ins C dx [("held",.ref q),("earlier",.ref e),("undone",.ref u)]):=by rw[eH2,q0];rfl
 have hu2:H2 u=some (.lst ys):=by rw[eH2,qG (Ne.symm hdu),q0]
 have he2:H2 e=some (.lst (xe++[.ref p])):=by rw[eH2,qG (Ne.symm hde),qG heu,q0]
 have hO:=hD.rows.2.2 r (List.mem_append_right _ List.mem_cons_self);rw[<-eH2];lk;refine⟨d,C,dx,_,_,rfl,hd2,DD.cl,DD.nh,rfl,?_⟩;lk;refine⟨q,r,rfl,hq.keepT t2,hO,λx H3 s3 hx=>?_⟩;refine fin x H3 (λb o b1 b2 b3 z=>s3 _ _ (old b o b1 b2 b3 z)) (DeskAt.keep ⟨⟨dx,.ref q,_,ys,hd2,⟨q,rfl,hq.keepT t2⟩,he2,(h4.push hk).keep t2,hu2,hys.keep t2⟩,heu,⟨λr' z=>(by cases z;exact hO),λr' z=>?_,λr' z=>hD.rows.2.2 r' (List.mem_append_left _ z)⟩,?_⟩ s3) hx
 ·rcases List.mem_append.mp z with y|y
  ·exact hD.rows.2.1 r' y
  ·rw[List.mem_singleton.mp y]
   exact hD.rows.1 ns rfl
 ·show(rs++[ns]).length+us.length<=1000
  rw[List.length_append,List.length_singleton]
  lia
noncomputable def q3b(C N:Addr):Sp:=λvs H Q E=>q79 C vs H Q E\/∃(d e u:Addr) (st:Dst),vs=[.ref d]/\DeskAt C H d e u st/\st.earlier=[]/\E (.ref N) none H
theorem ok_dundoE(F:Fun K "undo" "Desk.undo" q1I f fd)(Z:Blt mg)(DD:DC K C)
  (y9:Def P w K mg base k "best_sum" ["held"] q2G)(O:PyProof.Rows.OwnCls "NoRound" N bmV "ValueError.__new__" mg base):FnOk P w K mg base (CXE P w) (k+1) f fd ["self"] (q3b C N):=by
 refine(ok_dundo F Z DD y9).toE.two ?_;refine F.okE q3A (λvs H Q E h=>?_) (λcdv A outer s H vs Q E hr h=>?_)
 ·obtain⟨d,e,u,st,rfl,_⟩:=h
  rfl
 obtain⟨d,e,u,st,rfl,hD,h0,q⟩:=h;obtain⟨dx,v,xe,xu,h1,hv,h3,h4,h5,h6⟩:=hD.ex;have hx:xe=[]:=List.eq_nil_of_length_eq_zero (by rw[h4.len,h0];rfl);refine⟨_,qB (qY (qw (q26 (qy (K:=K) rfl (pv 0)) (λ_=>rfl))) (qC (q07 thrE rfl O PySem.F.excBase_ValueError rfl (pa_cons qE qA))) qO) q03,?_⟩;lk;refine⟨d,C,dx,_,_,rfl,h1,DD.cl,DD.ne,rfl,?_⟩;lk;refine⟨false,.inl ⟨_,SqL.of h3,by rw[hx];rfl⟩,?_⟩;refine iteT ?_;exact⟨by decide,q⟩
noncomputable def q3c(C N:Addr):Sp:=λvs H Q E=>q7A C vs H Q E\/∃(d e u:Addr) (st:Dst),vs=[.ref d]/\DeskAt C H d e u st/\st.undone=[]/\E (.ref N) none H
theorem ok_dredoE(F:Fun K "redo" "Desk.redo" q1J f fd)(Z:Blt mg)(DD:DC K C)
  (y9:Def P w K mg base k "best_sum" ["held"] q2G)(O:PyProof.Rows.OwnCls "NoRound" N bmV "ValueError.__new__" mg base):FnOk P w K mg base (CXE P w) (k+1) f fd ["self"] (q3c C N):=by
 refine(ok_dredo F Z DD y9).toE.two ?_;refine F.okE q3B (λvs H Q E h=>?_) (λcdv A outer s H vs Q E hr h=>?_)
 ·obtain⟨d,e,u,st,rfl,_⟩:=h
  rfl
 obtain⟨d,e,u,st,rfl,hD,h0,q⟩:=h;obtain⟨dx,v,xe,xu,h1,hv,h3,h4,h5,h6⟩:=hD.ex;have hx:xu=[]:=List.eq_nil_of_length_eq_zero (by rw[h6.len,h0];rfl);refine⟨_,qB (qY (qw (q26 (qy (K:=K) rfl (pv 0)) (λ_=>rfl))) (qC (q07 thrE rfl O PySem.F.excBase_ValueError rfl (pa_cons qE qA))) qO) q03,?_⟩;lk;refine⟨d,C,dx,_,_,rfl,h1,DD.cl,DD.nu,rfl,?_⟩;lk;refine⟨false,.inl ⟨_,SqL.of h5,by rw[hx];rfl⟩,?_⟩;refine iteT ?_;exact⟨by decide,q⟩
noncomputable def q40(ps:List (Int×Int)):List Int:=ps.flatMap λp=>[p.1,p.2]
theorem q3z:∀ps:List (Int×Int),(q40 ps).length=2*ps.length
 |[]=>rfl
 | p::ps=>by
  have:=q3z ps;unfold q40 at *;rw[List.flatMap_cons,List.length_append,this,List.length_cons];show 2+2*ps.length=2*(ps.length+1)
  lia
theorem q8D{ps:List (Int×Int)}(h:i < ps.length):q40 (ps.take (i+1))=q40 (ps.take i)++[ps[i].1,ps[i].2]:=by
 unfold q40;rw[List.take_succ_eq_append_getElem h,List.flatMap_append];rfl
noncomputable def q6v:Sp:=λvs H Q _=>(vs=[.non]/\Q .non H)\/∃(t st:Addr) (x:Int) (ys:List V) (ps:List (Int×Int)),vs=[.ref t]/\H t=some (.tup [.int x,.ref st])/\H st=some (.lst ys)/\Pairs H ys ps/\ps.length<=1000/\
 ∀(l:Addr) (H':Hp),Same H H'->H l=none->H' l=some (.lst ((x::q40 ps).map V.int))->Q (.ref l) H'
theorem ok_withs(F:Fun K "with_stretches" "with_stretches" q0a f fd)(Z:Blt mg):FnOk P w K mg base CX0 (k+1) f fd ["told"] q6v:=by
 refine F.ok sc_with_stretches (λvs H Q E h=>?_) (λcdv A outer s H vs Q E hr h=>?_)
 ·rcases h with⟨rfl,_⟩|⟨t,st,x,ys,ps,rfl,_⟩<;>rfl
 w_up
 ·apply qB
  ·apply qY
   exact(qL q1o (pv 0) qu (qU _))
   ·apply qC
    exact(qK qu)
   exact qO
  apply qB;exact(ps_set (i:=1) sc_with_stretches.nd rfl (by k_ne) (pe_lst (pa_cons (qM (qH (K:=K) rfl) (pv 0) qD (λ_ _=>rfl)) qA)));apply qB
  ·apply q1Q PassesOwn.never rfl
   exact(qm (K:=K) rfl (qM (qH (K:=K) rfl) (pv 0) qD (λ_ _=>rfl)));exact(qZ (i:=2) sc_with_stretches.nd rfl (by k_ne))
   ·apply qC
    exact(qj (q1R (K:=K) rfl PySem.F.plainAttrs_list PySem.F.slot_list_extend PySem.F.type_list_extend (q80 (K:=K) rfl) (pv 1) (pa_cons (pv 2) qA)))
  apply qC;exact(qK (pv 1))
 rcases h with⟨rfl,q⟩|⟨t,st,x,ys,ps,rfl,ht,hst,hP,hz,fin⟩
 ·lk
  refine ifD (λ_=>q) (λz=>absurd rfl z)
 have hyl:=hP.1;lk;refine⟨t,_,0,_,rfl,rfl,SqT.of ht,rfl,?_⟩;refine⟨by show 1<=sizeLine;decide,λl hl=>?_⟩;have s1:=Same.new hl (.lst [.int x]);lk;refine⟨t,_,1,_,rfl,rfl,SqT.of (s1 _ _ ht),rfl,?_⟩;refine⟨st,rfl,⟨_,SqL.of (s1 _ _ hst)⟩,?_⟩;refine q2A (xs:=ys) (λi σ H'=>∃o2,Same H H'/\H' l=some (.lst ((x::q40 (ps.take i)).map V.int))/\σ=[some (.ref t),some (.ref l),o2]) ⟨_,s1,by rw[q0];rfl,rfl⟩ ?_ ?_ ?_
 ·rintro i σ H' _ ⟨_,sm,_⟩
  exact SqL.of (sm _ _ hst)
 ·rintro i v σ H2 hv ⟨o2,s2,hl2,rfl⟩
  obtain⟨a,p,hp,rfl,ha⟩:=hP.2 i v hv;have hi:i < ps.length:=(List.getElem?_eq_some_iff.mp hp).1;have ep:ps[i]=p:=(List.getElem?_eq_some_iff.mp hp).2;have ha2:=s2 _ _ ha;have hfl:=q3z (ps.take i);rw[List.length_take] at hfl;lk;refine⟨.inl ⟨rfl,_,SqL.of hl2⟩,?_⟩;lk;refine⟨l,a,_,[.int p.1,.int p.2],rfl,rfl,hl2,SqT.of ha2,?_,?_⟩
  ·rw[List.length_map,List.length_cons,hfl]
   exact Nat.le_of_lt (small (by show _+2<=_;lia))
  ·refine⟨_,s2.upd hl,?_,rfl⟩
   rw[q0,q8D hi,ep,<-List.cons_append,List.map_append];rfl
 ·rintro σ H2 ⟨o2,s2,hl2,rfl⟩
  lk;rw[hyl,List.take_length] at hl2;exact fin l H2 s2 hl hl2
noncomputable def sp_sans:Sp:=λvs H Q _=>(vs=[.non]/\Q (.str (Str.ofString "none")) H)\/∃(r:Addr) (ns:List Int),vs=[.ref r]/\H r=some (.lst (ns.map V.int))/\ns.length<=1000/\(∀n,n∈ns->n.natAbs < 10 ^ 36)/\∀H',Same H H'->Q (.str (Txt.join (Str.ofString " ") (ns.map txt))) H'
theorem ok_sans(F:Fun K "shown_answer" "shown_answer" q10 f fd)(Z:Blt mg)
  (yO:Def P w K mg base k "shown_row" ["row"] q3I):FnOk P w K mg base CX0 (k+1) f fd ["answer"] sp_sans:=by
 refine F.ok q3f (λvs H Q E h=>?_) (λcdv A outer s H vs Q E hr h=>?_)
 ·rcases h with⟨rfl,_⟩|⟨r,ns,rfl,_⟩<;>rfl
 w_up
 ·apply qC
  exact(qK (q7P (qL q1o (pv 0) qu (qU _)) qE (qI yO hr rfl (pa_cons (pv 0) qA))))
 rcases h with⟨rfl,q⟩|⟨r,ns,rfl,hR,hn,hb,fin⟩
 ·lk
  exact ifD (λ_=>q) (λz=>absurd rfl z)
 ·lk
  exact⟨r,ns,rfl,hR,hn,λn h=>q5C (hb n h),q28 (by lia) hb,fin⟩
noncomputable def sp_bars:Sp:=λvs H Q _=>∃(r:Addr) (ns:List Int) (m g:Nat) (x:SL),vs=[.ref r,.int m,.int g]/\H r=some (.lst (ns.map V.int))/\ns.length<=1000/\1<=m/\m<=1000/\g < 2 ^ 150/\fb ns g m 0=some x/\∀H',Same H H'->Q (.int x.1) H'
theorem ok_bars(F:Fun K "bars" "bars" q7G f fd)(Z:Blt mg)
  (yI:Def P w K mg base k "room_for" ["numbers","gap"] q3X)(yk:Def P w K mg base k "several_paper" ["row","many","gap"] q1V):FnOk P w K mg base CX0 (k+1) f fd ["row","many","gap"] sp_bars:=by
 refine F.ok sc_bars (λvs H Q E h=>?_) (λcdv A outer s H vs Q E hr h=>?_)
 ·obtain⟨r,ns,m,g,x,rfl,_⟩:=h
  rfl
 obtain⟨r,ns,m,g,x,rfl,hR,hn,hm1,hm2,hg,hx,fin⟩:=h
 w_up
 ·apply qB
  ·apply qY
   exact(qL q35 (pv 1) (qI yI hr rfl (pa_cons (qP (qQ (K:=K) rfl) rfl Z.len_ PySem.boot_len (pa_cons (pv 0) qA)) (pa_cons (pv 2) qA))) (qU _))
   ·apply qC
    exact q0A
   exact qO
  apply qC;exact(qK (qM (qR (K:=K) rfl) (qM (qR (K:=K) rfl) (qI yk hr rfl (pa_cons (pv 0) (pa_cons (pv 1) (pa_cons (pv 2) qA)))) (pv 1) (λ_ _=>rfl)) (qP (qQ (K:=K) rfl) rfl Z.len_ PySem.boot_len (pa_cons (pv 0) qA)) (λ_ _=>rfl)))
 have hl:(ns.map V.int).length=ns.length:=List.length_map _;lk;refine⟨r,_,rfl,.inl (SqL.of hR),?_⟩;rw[hl];lk;refine⟨ns.length,g,rfl,hg,?_⟩;lk;refine ifD (λz=>?_) (λz=>?_)
 ·have h1:=room_gt (n:=ns.length) (g:=g) (m:=m) (by lia)
  have h2:=q1B (ns:=ns) (g:=g) (c:=m) (p:=0) (by lia) (by lia);rw[hx] at h2;cases h2
 lk;refine⟨r,ns,m,g,rfl,hR,by lia,hm1,by lia,λl xs H1 s1 hl0 hl1 hP=>?_⟩;obtain⟨a,ea,_,hA⟩:=hP.2 m (by lia);lk;refine⟨l,_,_,_,rfl,rfl,SqL.of hl1,qi ea,?_⟩;lk;refine⟨r,_,rfl,.inl (SqL.of (s1 _ _ hR)),?_⟩;rw[hl];refine⟨a,_,_,_,rfl,rfl,SqL.of hA,atO (by lia),?_⟩;have e:pv2 ns g m ns.length=some x.1:=by
  unfold pv2;rw[List.take_length,hx];rfl
 rw[e];exact fin _ s1
theorem EqD.bls{K:Frag}{b:Addr}{bs:List Bool}(ha:SqL K H a (bs.map V.bl))(hb:SqL K H b (bs.map V.bl)):EqD K H 1 (.ref a) (.ref b) true:=by
 have q:=EqD.lst (n:=0) (e:=λ_=>true) ha hb rfl λj x y ex ey=>by
  rw[ex] at ey;cases ey;rw[List.getElem?_map] at ex
  cases e1:bs[j]? with
  |none=>rw[e1] at ex;cases ex
  | some c=>
   rw[e1] at ex;cases ex;have z:=EqD.flat (K:=K) (H:=H) (x:=V.bl c) (y:=V.bl c) rfl rfl;have e:eqV (V.bl c) (V.bl c)=true:=by cases c<;>rfl
   rw[e] at z;exact z
 have e:(List.range (bs.map V.bl).length).all (λ_=>true)=true:=by rw[List.all_eq_true];exact λ_ _=>rfl
 rw[e] at q;exact q
noncomputable def q6I(C:Addr):Sp:=λvs H Q E=>q4K vs H Q E\/∃(d:Nat) (p:Addr) (i:Int) (ns:List Int),vs=[.ref p,.int i]/\IsKept H d p ns/\¬(0<=i/\i < (ns.length:Int))/\E (.ref C) none H
theorem ok_rplE(F:Fun K "refuse_place" "refuse_place" q0T f fd)(Z:Blt mg)
  (yE:Def P w K mg base k "is_whole" ["thing"] q3H)(y0:Def P w K mg base k "many_of" ["held"] q0G)(O:PyProof.Rows.OwnCls "NoPlace" C bmV "ValueError.__new__" mg base):FnOk P w K mg base (CXE P w) (k+1) f fd ["held","place"] (q6I C):=by
 refine(ok_rpl F Z yE y0).toE.two ?_;refine F.okE q1a (λvs H Q E h=>?_) (λcdv A outer s H vs Q E hr h=>?_)
 ·obtain⟨d,p,i,ns,rfl,_⟩:=h
  rfl
 obtain⟨d,p,i,ns,rfl,hk,hno,q⟩:=h
 refine⟨_,qC (qY (PW.pt (q2B (qw (q0c (qI yE hr rfl (pa_cons (pv 1) qA)))) (q0u (qw (q2e q3p q2P qD (pv 1) (qI y0 hr rfl (pa_cons (pv 0) qA)))))))
  (qC (q07 thrE rfl O PySem.F.excBase_ValueError rfl (pa_cons qE qA))) qO),?_⟩
 lk;refine ifD (λh0=>?_) (λh0=>?_)
 ·lk
  refine⟨d,p,ns,rfl,hk,?_⟩;lk;rw[decide_eq_false (show¬i < (ns.length:Int) by lia)];exact⟨by decide,q⟩
 ·lk
  exact⟨by decide,q⟩
noncomputable def q3d(C:Addr):Sp:=λvs H Q E=>q1z vs H Q E\/∃(p l:Addr) (ns:List Int) (xs:List V) (pre post:List (Int×Int)) (c:Int×Int),vs=[.ref p,.ref l]/\IsKept H 13 p ns/\H l=some (.lst xs)/\Chg H xs (pre++c::post)/\q3F ns.length pre/\¬(0<=c.1/\c.1 < (ns.length:Int))/\∀H',Same H H'->E (.ref C) none H'
theorem q6e(F:Fun K "changed" "changed" q2b f fd)(Z:Blt mg)
  (yG:Def P w K mg base k "refuse_place" ["held","place"] q4K)(yM:Def P w K mg base k "with_put" ["held","place","number"] (q3Y 13))
  (yY:DefE P w K mg base k "refuse_place" ["held","place"] (q6I C)):FnOk P w K mg base (CXE P w) (k+1) f fd ["held","changes"] (q3d C):=by
 have y0Z:=yM.toE;refine(q4Q F Z yG yM).toE.two ?_;refine F.okE sc_changed (λvs H Q E h=>?_) (λcdv A outer s H vs Q E hr h=>?_)
 ·obtain⟨p,l,ns,xs,pre,post,c,rfl,_⟩:=h
  rfl
 obtain⟨p,l,ns,xs,pre,post,c,rfl,hk,hl,hc,hin,hno,q⟩:=h
 w_up
 ·apply qB
  exact(ps_set (i:=2) sc_changed.nd rfl (by k_ne) (pv 0));apply qB
  ·apply q1Q PassesOwn.leaving rfl
   exact(qm (K:=K) rfl (pv 1));exact(qZ (i:=3) sc_changed.nd rfl (by k_ne))
   ·apply qB
    exact(qj (qd yY hr rfl qz (pa_cons (pv 0) (pa_cons (qM (qH (K:=K) rfl) (pv 3) qD (λ_ _=>rfl)) qA))));apply qC;exact(ps_set (i:=2) sc_changed.nd rfl (by k_ne) (qd y0Z hr rfl qz (pa_cons (pv 2) (pa_cons (qM (qH (K:=K) rfl) (pv 3) qD (λ_ _=>rfl)) (pa_cons (qM (qH (K:=K) rfl) (pv 3) qD (λ_ _=>rfl)) qA)))))
  apply qC;exact(qK (pv 2))
 have hlen:=hc.len;rw[List.length_append,List.length_cons] at hlen;lk;refine⟨⟨_,SqL.of hl⟩,?_⟩;refine q2A (xs:=xs) (λi σ H'=>∃t o,i<=pre.length/\Same H H'/\IsKept H' 13 t (q08 ns (pre.take i))/\σ=[some (.ref p),some (.ref l),some (.ref t),o]) ⟨p,none,Nat.zero_le _,Same.refl _,hk,rfl⟩ ?_ ?_ ?_
 ·rintro i σ H' _ ⟨t,o,_,sm,_⟩
  exact SqL.of (sm _ _ hl)
 ·rintro i x σ H1 hx ⟨t,o,hi,sm,hk1,rfl⟩
  obtain⟨u,e,rfl,hc1,hu⟩:=(hc.keep sm).at hx;lk;refine⟨_,_,_,_,rfl,rfl,SqT.of hu,rfl,?_⟩;by_cases hlt:i < pre.length
  ·rw[List.getElem?_append_left hlt] at hc1
   have hcm:=hin e (List.mem_of_getElem? hc1);refine .inl ⟨13,p,_,ns,rfl,hk.keep sm,hcm.1,hcm.2,?_⟩;lk;refine⟨_,_,_,_,rfl,rfl,SqT.of hu,rfl,?_⟩;lk;refine⟨_,_,_,_,rfl,rfl,SqT.of hu,rfl,?_⟩;refine⟨t,_,_,_,rfl,hk1,hcm.1,by rw[q25];exact hcm.2,λt2 H2 s2 hk2=>?_⟩;exact⟨t2,_,hlt,sm.trans s2,by rw[q3k hc1];exact hk2,rfl⟩
  ·obtain rfl:i=pre.length:=by lia
   rw[List.getElem?_append_right (Nat.le_refl _),Nat.sub_self] at hc1;simp only[List.getElem?_cons_zero,Option.some.injEq] at hc1;subst hc1;exact .inr ⟨13,p,_,ns,rfl,hk.keep sm,hno,q _ sm⟩
 ·rintro σ H1 ⟨t,o,hi,_⟩
  lia
noncomputable def q5D(sp:Sp)(C:Addr):Sp:=λvs H Q E=>sp vs H Q E\/∃(p t:Addr) (f b:Int) (ns:List Int),vs=[.ref p,.ref t]/\IsKept H 13 p ns/\H t=some (.tup [.int f,.int b])/\¬(0<=f/\f < b/\b<=(ns.length:Int))/\E (.ref C) none H
theorem ok_kpartE(F:Fun K "known_of_part" "known_of_part" q0J f fd)(Z:Blt mg)
  (yU:Def P w K mg base k "is_stretch" ["stretch","many"] q1Y)(y0:Def P w K mg base k "many_of" ["held"] q0G)(y6:Def P w K mg base k "known_of" ["held","first","beyond"] (q0d 13))(O:PyProof.Rows.OwnCls "NoStretch" C bmV "ValueError.__new__" mg base):FnOk P w K mg base (CXE P w) (k+1) f fd ["held","stretch"] (q5D q2U C):=by
 refine(q7R F Z yU y0 y6).toE.two ?_;refine F.okE q1P (λvs H Q E h=>?_) (λcdv A outer s H vs Q E hr h=>?_)
 ·obtain⟨p,t,f,b,ns,rfl,_⟩:=h
  rfl
 obtain⟨p,t,f,b,ns,rfl,hk,ht,hno,q⟩:=h
 refine⟨_,qB (qY (qw (q0c (qI yU hr rfl (pa_cons (pv 1) (pa_cons (qI y0 hr rfl (pa_cons (pv 0) qA)) qA)))))
  (qC (q07 thrE rfl O PySem.F.excBase_ValueError rfl (pa_cons qE qA))) qO) q03,?_⟩
 lk;refine⟨_,p,ns,rfl,hk,?_⟩;refine⟨t,f,b,_,rfl,ht,_,rfl,?_⟩;rw[decide_eq_false hno];refine iteT ?_;exact⟨by decide,q⟩
theorem q7w(F:Fun K "best_in" "best_in" q2c f fd)(Z:Blt mg)(CC:Cons mg)
  (y8:Def P w K mg base k "moved" ["stretch","places"] q2S)(yW:Def P w K mg base k "known_of_part" ["held","stretch"] q2U)(y06:DefE P w K mg base k "known_of_part" ["held","stretch"] (q5D q2U C)):FnOk P w K mg base (CXE P w) (k+1) f fd ["held","stretch"] (q5D q2Y C):=by
 have y0a:=y8.toE;refine(q5m F Z CC y8 yW).toE.two ?_;refine F.okE q4L (λvs H Q E h=>?_) (λcdv A outer s H vs Q E hr h=>?_)
 ·obtain⟨p,t,f,b,ns,rfl,_⟩:=h
  rfl
 obtain⟨p,t,f,b,ns,rfl,hk,ht,hno,q⟩:=h
 w_up
 ·apply qC
  exact(qK (qd y0a hr rfl qz (pa_cons (qM (qH (K:=K) rfl) (qd y06 hr rfl qz (pa_cons (pv 0) (pa_cons (pv 1) qA))) (qS (n:=2) rfl CC.BEST) (λ_ _=>rfl)) (pa_cons (qM (qH (K:=K) rfl) (pv 1) qD (λ_ _=>rfl)) qA))))
 lk;exact .inr ⟨p,t,f,b,ns,rfl,hk,ht,hno,q⟩
noncomputable def q72(C:Addr):Sp:=λvs H Q E=>sp_must vs H Q E\/∃(p:Addr) (i:Int) (ns:List Int),vs=[.ref p,.int i]/\IsKept H 13 p ns/\¬(0<=i/\i < (ns.length:Int))/\E (.ref C) none H
theorem ok_mustE(F:Fun K "must_be" "must_be" q2a f fd)(Z:Blt mg)(CC:Cons mg)
  (yG:Def P w K mg base k "refuse_place" ["held","place"] q4K)(y0:Def P w K mg base k "many_of" ["held"] q0G)(y6:Def P w K mg base k "known_of" ["held","first","beyond"] (q0d 13))(yY:DefE P w K mg base k "refuse_place" ["held","place"] (q6I C)):FnOk P w K mg base (CXE P w) (k+1) f fd ["held","place"] (q72 C):=by
 refine(ok_must F Z CC yG y0 y6).toE.two ?_;refine F.okE sc_must_be (λvs H Q E h=>?_) (λcdv A outer s H vs Q E hr h=>?_)
 ·obtain⟨p,i,ns,rfl,_⟩:=h
  rfl
 obtain⟨p,i,ns,rfl,hk,hno,q⟩:=h;refine⟨_,qB (qj (qd yY hr rfl qz (pa_cons (pv 0) (pa_cons (pv 1) qA)))) q03,?_⟩;lk;exact .inr ⟨13,p,i,ns,rfl,hk,hno,q⟩
noncomputable def q3Z(C:Addr):Sp:=λvs H Q E=>q1y vs H Q E\/∃n L M:Int,vs=[.int n,.int L,.int M]/\¬(1<=L/\L<=M/\L<=n)/\E (.ref C) none H
theorem q6c(F:Fun K "longest_of" "longest_of" q0r f fd)(Z:Blt mg)
  (O:PyProof.Rows.OwnCls "NoLength" C bmV "ValueError.__new__" mg base):FnOk P w K mg base (CXE P w) (k+1) f fd ["many","least","most"] (q3Z C):=by
 refine(q4P F Z).toE.two ?_;refine F.okE q2Z (λvs H Q E h=>?_) (λcdv A outer s H vs Q E hr h=>?_)
 ·obtain⟨n,L,M,rfl,_⟩:=h
  rfl
 obtain⟨n,L,M,rfl,hn,q⟩:=h
 refine⟨_,qB (qY (PW.pt (q2B (qL q2P (q2g (i:=1) rfl (.inl rfl)) qD (qU _)) (q2B (qL q2P (q2g (i:=2) rfl (.inl rfl)) (q2g (i:=1) rfl (.inl rfl)) (qU _)) (q0u (qL q35 (q2g (i:=1) rfl (.inl rfl)) (q2g (i:=0) rfl (.inl rfl)) (qU _))))))
  (qC (q07 thrE rfl O PySem.F.excBase_ValueError rfl (pa_cons qE qA))) qO) q03,?_⟩
 lk;refine ifD (λh1=>?_) (λh1=>?_)
 ·exact⟨by decide,q⟩
 ·lk
  refine ifD (λh2=>?_) (λh2=>?_)
  ·exact⟨by decide,q⟩
  ·lk
   refine ifD (λh3=>?_) (λh3=>?_)
   ·exact⟨by decide,q⟩
   ·exact absurd (show 1<=L/\L<=M/\L<=n by lia) hn
noncomputable def q5O(C:Addr):Sp:=λvs H Q E=>q6w vs H Q E\/∃(r:Addr) (ns:List Int) (L M:Int),vs=[.ref r,.int L,.int M]/\H r=some (.lst (ns.map V.int))/\¬(1<=L/\L<=M/\L<=(ns.length:Int))/\E (.ref C) none H
theorem ok_sizedE(F:Fun K "best_sized" "best_sized" q0s f fd)(Z:Blt mg)
  (yf:Def P w K mg base k "longest_of" ["many","least","most"] q1y)(yg:Def P w K mg base k "sums_ahead" ["row"] q4n)(yh:Def P w K mg base k "enter_first" ["firsts","ahead","first"] q4k)(y07:DefE P w K mg base k "longest_of" ["many","least","most"] (q3Z C)):FnOk P w K mg base (CXE P w) (k+1) f fd ["row","least","most"] (q5O C):=by
 refine(ok_sized F Z yf yg yh).toE.two ?_;refine F.okE sc_best_sized (λvs H Q E h=>?_) (λcdv A outer s H vs Q E hr h=>?_)
 ·obtain⟨r,ns,L,M,rfl,_⟩:=h
  rfl
 obtain⟨r,ns,L,M,rfl,hR,hn,q⟩:=h;refine⟨_,qB (ps_set (i:=3) sc_best_sized.nd rfl (.inl rfl) (qd y07 hr rfl qz (pa_cons (qP q3E rfl Z.len_ PySem.boot_len (pa_cons (q2g (i:=0) rfl (.inl rfl)) qA)) (pa_cons (q2g (i:=1) rfl (.inl rfl)) (pa_cons (q2g (i:=2) rfl (.inl rfl)) qA))))) q03,?_⟩;lk;refine⟨r,_,rfl,.inl (SqL.of hR),?_⟩;lk;exact .inr ⟨_,_,_,rfl,by rw[List.length_map];exact hn,q⟩
noncomputable def q2q(C:Addr):Sp:=λvs H Q E=>q17 vs H Q E\/∃m l g:Int,vs=[.int m,.int l,.int g]/\(m < l\/g < 0)/\E (.ref C) none H
theorem q7v(F:Fun K "refuse_counts" "refuse_counts" q0I f fd)(Z:Blt mg)
  (O:PyProof.Rows.OwnCls "NoCount" C bmV "ValueError.__new__" mg base):FnOk P w K mg base (CXE P w) (k+1) f fd ["many","least","gap"] (q2q C):=by
 refine(q5l F Z).toE.two ?_;refine F.okE q1O (λvs H Q E h=>?_) (λcdv A outer s H vs Q E hr h=>?_)
 ·obtain⟨m,l,g,rfl,_⟩:=h
  rfl
 obtain⟨m,l,g,rfl,hn,q⟩:=h;refine⟨_,qC (qY (PW.pt (q2B (qL q2P (pv 0) (pv 1) (qU _)) (q0u (qL q2P (pv 2) qD (qU _))))) (qC (q07 thrE rfl O PySem.F.excBase_ValueError rfl (pa_cons qE qA))) qO),?_⟩;lk;refine ifD (λ_=>?_) (λz=>?_)
 ·exact⟨by decide,q⟩
 ·lk
  refine ifD (λ_=>?_) (λy=>absurd hn (by lia));exact⟨by decide,q⟩
noncomputable def badC(C:Addr)(l:Int)(sp:Sp):Sp:=λvs H Q E=>sp vs H Q E\/∃(r:Addr) (m g:Int),vs=[.ref r,.int m,.int g]/\(m < l\/g < 0)/\E (.ref C) none H
theorem ok_apartE(F:Fun K "best_apart" "best_apart" q0t f fd)(Z:Blt mg)
  (yH:Def P w K mg base k "refuse_counts" ["many","least","gap"] q17)(yI:Def P w K mg base k "room_for" ["numbers","gap"] q3X)(yJ:Def P w K mg base k "lines_of" ["row","many","gap"] q2T)(yi:Def P w K mg base k "stretches_of" ["row","lines","many","gap"] q6G)
  (yZ:DefE P w K mg base k "refuse_counts" ["many","least","gap"] (q2q C)):FnOk P w K mg base (CXE P w) (k+1) f fd ["row","many","gap"] (badC C 1 q4m):=by
 refine(ok_apart F Z yH yI yJ yi).toE.two ?_;refine F.okE sc_best_apart (λvs H Q E h=>?_) (λcdv A outer s H vs Q E hr h=>?_)
 ·obtain⟨r,m,g,rfl,_⟩:=h
  rfl
 obtain⟨r,m,g,rfl,hn,q⟩:=h;refine⟨_,qB (qj (qd yZ hr rfl qz (pa_cons (pv 1) (pa_cons qD (pa_cons (pv 2) qA))))) q03,?_⟩;lk;exact .inr ⟨m,_,g,rfl,hn,q⟩
theorem q7u(F:Fun K "several_paper" "several_paper" q0H f fd)(Z:Blt mg)
  (yH:Def P w K mg base k "refuse_counts" ["many","least","gap"] q17)(yJ:Def P w K mg base k "lines_of" ["row","many","gap"] q2T)
  (yZ:DefE P w K mg base k "refuse_counts" ["many","least","gap"] (q2q C)):FnOk P w K mg base (CXE P w) (k+1) f fd ["row","many","gap"] (badC C 1 q1V):=by
 refine(q5j F Z yH yJ).toE.two ?_;refine F.okE sc_several_paper (λvs H Q E h=>?_) (λcdv A outer s H vs Q E hr h=>?_)
 ·obtain⟨r,m,g,rfl,_⟩:=h
  rfl
 obtain⟨r,m,g,rfl,hn,q⟩:=h;refine⟨_,qB (qj (qd yZ hr rfl qz (pa_cons (pv 1) (pa_cons qD (pa_cons (pv 2) qA))))) q03,?_⟩;lk;exact .inr ⟨m,_,g,rfl,hn,q⟩
noncomputable def q7D(C:Addr):Sp:=λvs H Q E=>sp_bars vs H Q E\/∃(r:Addr) (ns:List Int) (m g:Nat),vs=[.ref r,.int m,.int g]/\H r=some (.lst (ns.map V.int))/\ns.length<=1000/\g < 2 ^ 150/\(m=0\/(1<=m/\fb ns g m 0=none))/\E (.ref C) none H
theorem ok_barsE(F:Fun K "bars" "bars" q7G f fd)(Z:Blt mg)
  (yI:Def P w K mg base k "room_for" ["numbers","gap"] q3X)(yk:Def P w K mg base k "several_paper" ["row","many","gap"] q1V)(y08:DefE P w K mg base k "several_paper" ["row","many","gap"] (badC C 1 q1V))
  (O:PyProof.Rows.OwnCls "NoCount" C bmV "ValueError.__new__" mg base):FnOk P w K mg base (CXE P w) (k+1) f fd ["row","many","gap"] (q7D C):=by
 refine(ok_bars F Z yI yk).toE.two ?_;refine F.okE sc_bars (λvs H Q E h=>?_) (λcdv A outer s H vs Q E hr h=>?_)
 ·obtain⟨r,ns,m,g,rfl,_⟩:=h
  rfl
 obtain⟨r,ns,m,g,rfl,hR,hn,hg,hb,q⟩:=h;have hl:(ns.map V.int).length=ns.length:=List.length_map _
 refine⟨_,qB (qY (qL q35 (pv 1) (qI yI hr rfl (pa_cons (qP (qQ (K:=K) rfl) rfl Z.len_ PySem.boot_len (pa_cons (pv 0) qA)) (pa_cons (pv 2) qA))) (qU _)) (qC (q07 thrE rfl O PySem.F.excBase_ValueError rfl (pa_cons qE qA))) qO)
  (qC (qK (qM (qR (K:=K) rfl) (qM (qR (K:=K) rfl) (qd y08 hr rfl qz (pa_cons (pv 0) (pa_cons (pv 1) (pa_cons (pv 2) qA)))) (pv 1) (λ_ _=>rfl)) (qP (qQ (K:=K) rfl) rfl Z.len_ PySem.boot_len (pa_cons (pv 0) qA)) (λ_ _=>rfl)))),?_⟩
 lk;refine⟨r,_,rfl,.inl (SqL.of hR),?_⟩;rw[hl];lk;refine⟨ns.length,g,rfl,hg,?_⟩;lk;refine ifD (λz=>⟨by decide,q⟩) (λz=>?_);lk;rcases hb with rfl|⟨h1,h2⟩
 ·exact .inr ⟨r,_,_,rfl,.inl (by decide),q⟩
 ·have h3:=q6T (n:=ns.length) (g:=g) (m:=m) (by lia)
  exact absurd h2 (q6q (.inr ⟨by lia,h3⟩))
noncomputable def q4l(C N:Addr):Sp:=λvs H Q E=>sp_dput C vs H Q E\/∃(d e u l:Addr) (st:Dst) (ns:List Int) (xs:List V) (pre post:List (Int×Int)) (c:Int×Int),vs=[.ref d,.ref l]/\DeskAt C H d e u st/\st.row=some ns/\H l=some (.lst xs)/\Chg H xs (pre++c::post)/\q3F ns.length pre/\¬(0<=c.1/\c.1 < (ns.length:Int))/\∀H',Same H H'->E (.ref N) none H'
theorem ok_dputE(F:Fun K "put" "Desk.put" q24 f fd)(Z:Blt mg)(DD:DC K C)
  (yj:Def P w K mg base k "changed" ["held","changes"] q1z)(y9:Def P w K mg base k "best_sum" ["held"] q2G)(y09:DefE P w K mg base k "changed" ["held","changes"] (q3d N)):FnOk P w K mg base (CXE P w) (k+1) f fd ["self","changes"] (q4l C N):=by
 refine(ok_dput F Z DD yj y9).toE.two ?_;refine F.okE sc_Desk_put (λvs H Q E h=>?_) (λcdv A outer s H vs Q E hr h=>?_)
 ·obtain⟨d,e,u,l,st,ns,xs,pre,post,c,rfl,_⟩:=h
  rfl
 obtain⟨d,e,u,l,st,ns,xs,pre,post,c,rfl,hD,hrow,hl,hC,hin,hno,q⟩:=h;obtain⟨dx,v,xe,xu,h1,hv,h3,h4,h5,h6⟩:=hD.ex;rw[hrow] at hv;obtain⟨p,rfl,hk⟩:=hv;refine⟨_,qB (ps_set (i:=2) sc_Desk_put.nd rfl (.inl rfl) (qd y09 hr rfl qz (pa_cons (qy (K:=K) rfl (pv 0)) (pa_cons (pv 1) qA)))) q03,?_⟩;lk;refine⟨d,C,dx,_,_,rfl,h1,DD.cl,DD.nh,rfl,?_⟩;lk;exact .inr ⟨p,l,ns,xs,pre,post,c,rfl,hk,hl,hC,hin,hno,q⟩
inductive Ask where
 |best|ring|row
 |part (f b:Nat)
 |length (f b:Nat)
 |apart (m g:Nat)
 |bars (m g:Nat)
 |must (i:Nat)
noncomputable def Ask.word:Ask->Str
 |.best=>"best"|.ring=>"ring"|.row=>"row"|.part ..=>"part"|.length ..=>"length"|.apart ..=>"apart"|.bars ..=>"bars"|.must ..=>"must"
noncomputable def Ask.nums:Ask->List Int
 |.best=>[]|.ring=>[]|.row=>[]|.part f b=>[(f:Int),(b:Int)]|.length f b=>[(f:Int),(b:Int)]|.apart m g=>[(m:Int),(g:Int)]|.bars m g=>[(m:Int),(g:Int)]|.must i=>[(i:Int)]
noncomputable def Ask.few:Ask->Prop
 |.apart m g=>m<=1000/\g < 2 ^ 150
 |.bars m g=>m<=1000/\g < 2 ^ 150
 |_=>True
inductive Out where
 |ans (o:Option (List Int))
 |ref (i:Nat)
inductive Tells (ns:List Int):Ask->Out->Prop where
 |best {x:Sx}:Top (PB ns) x->Tells ns .best (.ans (some [x.s,x.f,x.b]))
 |ring {x:Sx}:Top (PG ns) x->Tells ns .ring (.ans (some [x.s,x.f,x.b]))
 |row:Tells ns .row (.ans (some ns))
 |part {f b:Nat} {x:Sx}:f < b->b<=ns.length->Top (PB (cutI ns f b)) x->Tells ns (.part f b) (.ans (some [x.s,x.f+f,x.b+f]))
 |partN {f b:Nat}:¬(f < b/\b<=ns.length)->Tells ns (.part f b) (.ref 0)
 |length {L M:Nat} {s:Int} {f b:Nat}:1<=L->L<=M->L<=ns.length->IsBest ns L M s f b->Tells ns (.length L M) (.ans (some [s,(f:Int),(b:Int)]))
 |lengthN {L M:Nat}:¬(1<=L/\L<=M/\L<=ns.length)->Tells ns (.length L M) (.ref 1)
 |apart {m g:Nat} {x:SL}:1<=m->fb ns g m 0=some x->Tells ns (.apart m g) (.ans (some (x.1::q40 (x.2.map prI))))
 |apartO {m g:Nat}:1<=m->fb ns g m 0=none->Tells ns (.apart m g) (.ans none)
 |apartN {g:Nat}:Tells ns (.apart 0 g) (.ref 2)
 |bars {m g:Nat} {x:SL}:1<=m->fb ns g m 0=some x->Tells ns (.bars m g) (.ans (some [x.1]))
 |barsN {m g:Nat}:m=0\/(1<=m/\fb ns g m 0=none)->Tells ns (.bars m g) (.ref 2)
 |must1 {i:Nat}:i < ns.length->ns.length=1->Tells ns (.must i) (.ans none)
 |must {i:Nat} {v:Int}:i < ns.length->1 < ns.length->MustIs ns i v->Tells ns (.must i) (.ans (some [v]))
 |mustN {i:Nat}:¬i < ns.length->Tells ns (.must i) (.ref 3)
noncomputable def AnsV(H:Hp)(v:V):Option (List Int)->Prop
 |none=>v = .non
 |some xs=>∃r,v = .ref r/\H r=some (.lst (xs.map V.int))
noncomputable def clsOf(c1 c2 c3 c4:Addr):Nat->Addr
 |0=>c1|1=>c2|2=>c3|_=>c4
noncomputable def sp_ansE(c1 c2 c3 c4:Addr):Sp:=λvs H Q E=>∃(p l:Addr) (ns:List Int) (a:Ask),vs=[.ref p,.str a.word,.ref l]/\IsKept H 13 p ns/\RowOk ns/\H l=some (.lst (a.nums.map V.int))/\a.few/\
 (∀(o:Option (List Int)) (v:V) (H':Hp),Same H H'->AnsV H' v o->Tells ns a (.ans o)->Q v H')/\∀(i:Nat) (H':Hp),Same H H'->Tells ns a (.ref i)->E (.ref (clsOf c1 c2 c3 c4 i)) none H'
theorem ok_ansE(F:Fun K "answer_of" "answer_of" q2N f fd)(Z:Blt mg)
  (y0A:DefE P w K mg base k "many_of" ["held"] q0G)(yq:DefE P w K mg base k "best_in" ["held","stretch"] (q5D q2Y c1))(y0B:DefE P w K mg base k "best_sized" ["row","least","most"] (q5O c2))(ya:DefE P w K mg base k "row_of" ["held"] (q1x 13))
  (y0C:DefE P w K mg base k "best_round" ["held"] q5S)(y0D:DefE P w K mg base k "with_stretches" ["told"] q6v)(y0E:DefE P w K mg base k "best_apart" ["row","many","gap"] (badC c3 1 q4m))(y0F:DefE P w K mg base k "bars" ["row","many","gap"] (q7D c3))(y0G:DefE P w K mg base k "must_be" ["held","place"] (q72 c4)):
  FnOk P w K mg base (CXE P w) (k+1) f fd ["held","word","numbers"] (sp_ansE c1 c2 c3 c4):=by
 refine F.okE sc_answer_of (λvs H Q E h=>?_) (λcdv A outer s H vs Q E hr h=>?_)
 ·obtain⟨p,l,ns,a,rfl,_⟩:=h
  rfl
 obtain⟨p,l,ns,a,rfl,hk,hO,hl,hf,fin,bad⟩:=h;have l1:=hO.l1;have l2:=hO.l2
 w_up
 ·apply qB
  ·apply qY
   exact(qL q0X (pv 1) qE (qU _))
   ·apply qC
    exact(qK (qa (q0N (K:=K) rfl) rfl Z.list_ PyProof.Rows.boot_list (pa_cons (qd yq hr rfl qz (pa_cons (pv 0) (pa_cons (qf (pa_cons qD (pa_cons (qd y0A hr rfl qz (pa_cons (pv 0) qA)) qA))) qA))) qA)))
   exact qO
  apply qB
  ·apply qY
   exact(qL q0X (pv 1) qE (qU _))
   ·apply qC
    exact(qK (qa (q0N (K:=K) rfl) rfl Z.list_ PyProof.Rows.boot_list (pa_cons (qd yq hr rfl qz (pa_cons (pv 0) (pa_cons (qf (pa_cons (qM (qR (K:=K) rfl) (pv 2) qD (λ_ _=>rfl)) (pa_cons (qM (qR (K:=K) rfl) (pv 2) qD (λ_ _=>rfl)) qA))) qA))) qA)))
   exact qO
  apply qB
  ·apply qY
   exact(qL q0X (pv 1) qE (qU _))
   ·apply qC
    exact(qK (qa (q0N (K:=K) rfl) rfl Z.list_ PyProof.Rows.boot_list (pa_cons (qd y0B hr rfl qz (pa_cons (qd ya hr rfl qz (pa_cons (pv 0) qA)) (pa_cons (qM (qR (K:=K) rfl) (pv 2) qD (λ_ _=>rfl)) (pa_cons (qM (qR (K:=K) rfl) (pv 2) qD (λ_ _=>rfl)) qA)))) qA)))
   exact qO
  apply qB
  ·apply qY
   exact(qL q0X (pv 1) qE (qU _))
   ·apply qC
    exact(qK (qa (q0N (K:=K) rfl) rfl Z.list_ PyProof.Rows.boot_list (pa_cons (qd y0C hr rfl qz (pa_cons (pv 0) qA)) qA)))
   exact qO
  apply qB
  ·apply qY
   exact(qL q0X (pv 1) qE (qU _))
   ·apply qC
    exact(qK (qd y0D hr rfl qz (pa_cons (qd y0E hr rfl qz (pa_cons (qd ya hr rfl qz (pa_cons (pv 0) qA)) (pa_cons (qM (qR (K:=K) rfl) (pv 2) qD (λ_ _=>rfl)) (pa_cons (qM (qR (K:=K) rfl) (pv 2) qD (λ_ _=>rfl)) qA)))) qA)))
   exact qO
  apply qB
  ·apply qY
   exact(qL q0X (pv 1) qE (qU _))
   ·apply qC
    exact(qK (pe_lst (pa_cons (qd y0F hr rfl qz (pa_cons (qd ya hr rfl qz (pa_cons (pv 0) qA)) (pa_cons (qM (qR (K:=K) rfl) (pv 2) qD (λ_ _=>rfl)) (pa_cons (qM (qR (K:=K) rfl) (pv 2) qD (λ_ _=>rfl)) qA)))) qA)))
   exact qO
  apply qB
  ·apply qY
   exact(qL q0X (pv 1) qE (qU _))
   ·apply qB
    exact(ps_set (i:=3) sc_answer_of.nd rfl (by k_ne) (qd y0G hr rfl qz (pa_cons (pv 0) (pa_cons (qM (qR (K:=K) rfl) (pv 2) qD (λ_ _=>rfl)) qA))));apply qC;exact(qK (q7P (qL q1o (pv 3) qu (qU _)) qu (pe_lst (pa_cons (pv 3) qA))))
   exact qO
  apply qC;exact(qK (qd ya hr rfl qz (pa_cons (pv 0) qA)))
 cases a with
 | best=>
  lk;refine⟨_,p,ns,rfl,hk,?_⟩;refine⟨by show 2<=sizeLine;decide,λt ht=>?_⟩;have s1:=Same.new ht (.tup [.int 0,.int (ns.length:Int)]);refine .inl ⟨p,t,0,(ns.length:Int),ns,rfl,hk.keep s1,q0,by decide,by lia,Int.le_refl _,λu x H2 s2 hu hx=>?_⟩;rw[q2m] at hx;lk;refine⟨u,_,rfl,.inr (SqT.of hu),λr hr0=>?_⟩;refine fin (some [x.s,x.f,x.b]) (.ref r) _ ((s1.trans s2).trans (Same.new hr0 _)) ⟨r,rfl,?_⟩ (.best hx);rw[q0];show some (HO.lst [V.int x.s,V.int (x.f+0),V.int (x.b+0)])=_;rw[Int.add_zero,Int.add_zero];rfl
 | ring=>
  lk;refine⟨p,ns,rfl,hk,λu x H2 s2 hu hx=>?_⟩;lk;refine⟨u,_,rfl,.inr (SqT.of hu),λr hr0=>?_⟩;exact fin (some [x.s,x.f,x.b]) (.ref r) _ (s2.trans (Same.new hr0 _)) ⟨r,rfl,by rw[q0];rfl⟩ (.ring hx)
 | row=>
  lk;refine⟨p,ns,rfl,hk,by lia,λr H2 s2 hr0 hr2=>?_⟩;exact fin (some ns) (.ref r) _ s2 ⟨r,rfl,hr2⟩ .row
 | part f b=>
  have hl':H l=some (.lst [V.int (f:Int),V.int (b:Int)]):=hl;lk;refine⟨l,_,0,_,rfl,rfl,SqL.of hl',rfl,?_⟩;lk;refine⟨l,_,1,_,rfl,rfl,SqL.of hl',rfl,?_⟩;refine⟨by show 2<=sizeLine;decide,λt ht=>?_⟩;have s1:=Same.new ht (.tup [.int (f:Int),.int (b:Int)]);by_cases hg:f < b/\b<=ns.length
  ·refine .inl ⟨p,t,(f:Int),(b:Int),ns,rfl,hk.keep s1,q0,by lia,by lia,by lia,λu x H2 s2 hu hx=>?_⟩
   lk;refine⟨u,_,rfl,.inr (SqT.of hu),λr hr0=>?_⟩;exact fin (some [x.s,x.f+f,x.b+f]) (.ref r) _ ((s1.trans s2).trans (Same.new hr0 _)) ⟨r,rfl,by rw[q0];rfl⟩ (.part hg.1 hg.2 hx)
  ·exact .inr ⟨p,t,_,_,ns,rfl,hk.keep s1,q0,λz=>hg (by lia),bad 0 _ s1 (.partN hg)⟩
 | length f b=>
  have hl':H l=some (.lst [V.int (f:Int),V.int (b:Int)]):=hl;lk;refine⟨p,ns,rfl,hk,by lia,λr H2 s2 hr0 hr2=>?_⟩;lk;refine⟨l,_,0,_,rfl,rfl,SqL.of (s2 _ _ hl'),rfl,?_⟩;lk;refine⟨l,_,1,_,rfl,rfl,SqL.of (s2 _ _ hl'),rfl,?_⟩;by_cases hg:1<=f/\f<=b/\f<=ns.length
  ·refine .inl ⟨r,ns,f,(b:Int),rfl,hr2,by lia,hg.1,hg.2.2,by lia,λt s' f' b' H3 s3 ht hB=>?_⟩
   lk;refine⟨t,_,rfl,.inr (SqT.of ht),λr4 hr4=>?_⟩;exact fin (some [s',(f':Int),(b':Int)]) (.ref r4) _ ((s2.trans s3).trans (Same.new hr4 _)) ⟨r4,rfl,by rw[q0];rfl⟩ (.length hg.1 hg.2.1 hg.2.2 hB)
  ·exact .inr ⟨r,ns,_,_,rfl,hr2,λz=>hg (by lia),bad 1 _ s2 (.lengthN hg)⟩
 | apart m g=>
  have hl':H l=some (.lst [V.int (m:Int),V.int (g:Int)]):=hl;have hf':m<=1000/\g < 2 ^ 150:=hf;lk;refine⟨p,ns,rfl,hk,by lia,λr H2 s2 hr0 hr2=>?_⟩;lk;refine⟨l,_,0,_,rfl,rfl,SqL.of (s2 _ _ hl'),rfl,?_⟩;lk;refine⟨l,_,1,_,rfl,rfl,SqL.of (s2 _ _ hl'),rfl,?_⟩;by_cases hm:1<=m
  ·refine .inl ⟨r,ns,m,g,rfl,hr2,by lia,hm,hf'.2,λhN=>?_,λt st ys x H3 hx hmn s3 ht0 hst0 ht hst hP=>?_⟩
   ·lk
    exact .inl ⟨rfl,fin none .non _ s2 rfl (.apartO hm hN)⟩
   ·lk
    have hw:=fb_wf hx;refine .inr ⟨t,st,x.1,ys,x.2.map prI,rfl,ht,hst,hP,by rw[List.length_map,hw.2.1];lia,λr4 H4 s4 hr4 hr5=>?_⟩;exact fin (some (x.1::q40 (x.2.map prI))) (.ref r4) _ ((s2.trans s3).trans s4) ⟨r4,rfl,hr5⟩ (.apart hm hx)
  ·obtain rfl:m=0:=by lia
   exact .inr ⟨r,_,_,rfl,.inl (by decide),bad 2 _ s2 .apartN⟩
 | bars m g=>
  have hl':H l=some (.lst [V.int (m:Int),V.int (g:Int)]):=hl;have hf':m<=1000/\g < 2 ^ 150:=hf;lk;refine⟨p,ns,rfl,hk,by lia,λr H2 s2 hr0 hr2=>?_⟩;lk;refine⟨l,_,0,_,rfl,rfl,SqL.of (s2 _ _ hl'),rfl,?_⟩;lk;refine⟨l,_,1,_,rfl,rfl,SqL.of (s2 _ _ hl'),rfl,?_⟩
  by_cases hm:m=0\/(1<=m/\fb ns g m 0=none)
  ·exact .inr ⟨r,ns,m,g,rfl,hr2,by lia,hf'.2,hm,bad 2 _ s2 (.barsN hm)⟩
  ·have h1:1<=m:=by lia
   cases hx:fb ns g m 0 with
   |none=>exact absurd (.inr ⟨h1,hx⟩) hm
   | some x=>
    refine .inl ⟨r,ns,m,g,x,rfl,hr2,by lia,h1,hf'.1,hf'.2,hx,λH3 s3=>?_⟩;refine⟨by show 1<=sizeLine;decide,λr4 hr4=>?_⟩;exact fin (some [x.1]) (.ref r4) _ ((s2.trans s3).trans (Same.new hr4 _)) ⟨r4,rfl,by rw[q0];rfl⟩ (.bars h1 hx)
 | must i=>
  have hl':H l=some (.lst [V.int (i:Int)]):=hl;lk;refine⟨l,_,0,_,rfl,rfl,SqL.of hl',rfl,?_⟩;by_cases hi:i < ns.length
  ·refine .inl ⟨p,(i:Int),ns,rfl,hk,by lia,by lia,λh1 H2 s2=>?_,λh1 v H2 s2 hv=>?_⟩
   ·lk
    exact fin none .non _ s2 rfl (.must1 hi h1)
   ·lk
    refine⟨by show 1<=sizeLine;decide,λr4 hr4=>?_⟩;exact fin (some [v]) (.ref r4) _ (s2.trans (Same.new hr4 _)) ⟨r4,rfl,by rw[q0];rfl⟩ (.must hi h1 hv)
  ·exact .inr ⟨p,_,ns,rfl,hk,λz=>hi (by lia),bad 3 _ (Same.refl _) (.mustN hi)⟩
noncomputable def q6J:Sp:=λvs H Q _=>∃m:Nat,vs=[.str (txt (m:Int))]/\m < 10 ^ 6/\∀H',Same H H'->Q (.int (m:Int)) H'
theorem ok_rfig(F:Fun K "read_figures" "read_figures" q0U f fd)(Z:Blt mg)(CC:Cons mg)
  (yQ:Def P w K mg base k "are_figures" ["word","most"] q78):FnOk P w K mg base CX0 (k+1) f fd ["word"] q6J:=by
 refine F.ok q1b (λvs H Q E h=>?_) (λcdv A outer s H vs Q E hr h=>?_)
 ·obtain⟨n,rfl,_⟩:=h
  rfl
 obtain⟨n,rfl,hn,fin⟩:=h;have hn':(n:Int).natAbs < 10 ^ 30:=Nat.lt_trans hn (by decide)
 w_up
 ·apply qB
  ·apply qY
   exact(qw (q0c (qI yQ hr rfl (pa_cons (pv 0) (pa_cons (qS (n:=6) rfl CC.MOST_FIGURES_desk) qA)))))
   ·apply qC
    exact q0A
   exact qO
  apply qC;exact(qK (qa q0O rfl Z.int_ PyProof.Rows.boot_int (pa_cons (pv 0) qA)))
 lk;refine⟨_,n,5,rfl,by decide,q3T n,hn,λH1 s1=>?_⟩;lk;exact⟨_,_,rfl,q4a hn',Nat.le_trans (q0k hn') (by decide),fin _ s1⟩
noncomputable def sp_rnum:Sp:=λvs H Q _=>∃n:Int,vs=[.str (txt n)]/\n.natAbs < 10 ^ 30/\∀H',Same H H'->Q (.int n) H'
theorem ok_rnum(F:Fun K "read_number" "read_number" q0f f fd)(Z:Blt mg)
  (yL:Def P w K mg base k "is_number" ["word"] q4i):FnOk P w K mg base CX0 (k+1) f fd ["word"] sp_rnum:=by
 refine F.ok q2D (λvs H Q E h=>?_) (λcdv A outer s H vs Q E hr h=>?_)
 ·obtain⟨n,rfl,_⟩:=h
  rfl
 obtain⟨n,rfl,hn,fin⟩:=h
 w_up
 ·apply qB
  ·apply qY
   exact(qw (q0c (qI yL hr rfl (pa_cons (pv 0) qA))))
   ·apply qC
    exact q0A
   exact qO
  apply qC;exact(qK (qa q0O rfl Z.int_ PyProof.Rows.boot_int (pa_cons (pv 0) qA)))
 lk;refine⟨hn,λH1 s1=>?_⟩;lk;exact⟨_,_,rfl,q4a hn,Nat.le_trans (q0k hn) (by decide),fin _ s1⟩
noncomputable def q15:List (Nat×Int)->List V
 |[]=>[]
 |c::cs=>.str (txt (c.1:Int))::.str (txt c.2)::q15 cs
theorem q4H:∀cs:List (Nat×Int),(q15 cs).length=2*cs.length
 |[]=>rfl
 | c::cs=>by
  show(q15 cs).length+1+1=_;rw[q4H cs,List.length_cons]
  lia
theorem q5F:∀{cs:List (Nat×Int)} {i:Nat} {c:Nat×Int},cs[i]?=some c->(q15 cs)[2*i]?=some (.str (txt (c.1:Int)))/\(q15 cs)[2*i+1]?=some (.str (txt c.2))
 |[],_,_,h=>by simp at h
 | c::cs,0,_,h=>by
  simp at h;subst h;exact⟨rfl,rfl⟩
 |c::cs,i+1,d,h=>q5F (cs:=cs) (i:=i) h
noncomputable def intC(c:Nat×Int):Int×Int:=((c.1:Int),c.2)
theorem Chg.snoc{H:Hp}{c:Int×Int}{p:Addr}(hp:H p=some (.tup [.int c.1,.int c.2])):∀{xs:List V} {cs:List (Int×Int)},Chg H xs cs->Chg H (xs++[.ref p]) (cs++[c])
 |[],[],_=>⟨⟨p,rfl,hp⟩,trivial⟩
 |x::xs,d::cs,⟨h,t⟩=>⟨h,Chg.snoc hp t⟩
theorem Chg.keepT{H H':Hp}(s:q37 H H'):∀{xs:List V} {cs:List (Int×Int)},Chg H xs cs->Chg H' xs cs
 |[],[],_=>trivial
 |_::_,_::_,⟨⟨p,e,h⟩,t⟩=>⟨⟨p,e,s _ _ h⟩,Chg.keepT s t⟩
noncomputable def sp_rchg:Sp:=λvs H Q _=>∃(l:Addr) (cs:List (Nat×Int)),vs=[.ref l]/\H l=some (.lst (q15 cs))/\1<=cs.length/\cs.length<=20/\(∀c,c∈cs->c.1 < 10 ^ 6/\c.2.natAbs < 10 ^ 30)/\
 ∀(r:Addr) (xs:List V) (H':Hp),H r=none->Same H H'->H' r=some (.lst xs)->Chg H' xs (cs.map intC)->Q (.ref r) H'
theorem ok_rchg(F:Fun K "read_changes" "read_changes" q0V f fd)(Z:Blt mg)(CC:Cons mg)
  (yb:Def P w K mg base k "read_figures" ["word"] q6J)(y0H:Def P w K mg base k "read_number" ["word"] sp_rnum):FnOk P w K mg base CX0 (k+1) f fd ["words"] sp_rchg:=by
 refine F.ok q1c (λvs H Q E h=>?_) (λcdv A outer s H vs Q E hr h=>?_)
 ·obtain⟨l,cs,rfl,_⟩:=h
  rfl
 obtain⟨l,cs,rfl,hl,h1,h2,hb,fin⟩:=h;have hw:=q4H cs
 w_up
 ·apply qB
  ·apply qY
   exact(PW.pt (q2B (qw (q2e q3p q3p qD (qP (qQ (K:=K) rfl) rfl Z.len_ PySem.boot_len (pa_cons (pv 0) qA)) (qT op_mul qD (qS (n:=20) rfl CC.MOST_PAIRS)))) (q0u (qL q3o (qT q0n (qP (qQ (K:=K) rfl) rfl Z.len_ PySem.boot_len (pa_cons (pv 0) qA)) qD) qD (qU _)))))
   ·apply qC
    exact q0A
   exact qO
  apply qC;exact(qK (q18 (N':=["turn","words"]) (ix:=[none,some 0]) rfl rfl (by decide +kernel) rfl rfl rfl rfl (q5g rfl Z.range_ (pa_cons qD (pa_cons (qP (qQ (K:=K) rfl) rfl Z.len_ PySem.boot_len (pa_cons (pv 0) qA)) (pa_cons qD qA)))) (λ_ _ _ _=>(qZ (i:=0) (show List.Nodup (["turn","words"]:List Str) by decide +kernel) rfl (by k_ne))) (λ_ _ _ _=>qq) (λ_ _ _ _=>(qf (pa_cons (qI yb hr rfl (pa_cons (qM q51 (pv 1) (pv 0) (λ_ _=>rfl)) qA)) (pa_cons (qI y0H hr rfl (pa_cons (qM q51 (pv 1) (qT qo (pv 0) qD) (λ_ _=>rfl)) qA)) qA))))))
 lk;refine⟨l,_,rfl,.inl (SqL.of hl),?_⟩;rw[hw];lk;refine ifD (λ_=>?_) (λh=>absurd (show(2:Int)<=((2*cs.length:Nat):Int) by lia) h);lk;rw[decide_eq_true (show((2*cs.length:Nat):Int)<=2*20 by lia)];lk;refine⟨l,_,rfl,.inl (SqL.of hl),?_⟩;rw[hw];lk;have hmod:((2*cs.length:Nat):Int)%2=0:=by lia
 refine if_b (c:=false) (show(!decide (V.int (((2*cs.length:Nat):Int)%2)=V.int 0))=false by rw[hmod];rfl) ?_;refine iteF ?_;lk;refine⟨l,_,rfl,.inl (SqL.of hl),?_⟩;rw[hw];refine⟨0,((2*cs.length:Nat):Int),rfl,⟨by decide,by decide,by lia,by lia⟩,?_⟩;rw[show((((2*cs.length:Nat):Int)-0+1)/2).toNat=cs.length by lia];intro acc hacc;refine qp (n:=cs.length) (λi τ zs H'=>H' acc=some (.lst zs)/\Chg H' zs ((cs.take i).map intC)/\zs.length=i/\Same H H'/\∃o0,τ=[o0,some (.ref l)]) ⟨q0,trivial,rfl,Same.new hacc _,none,rfl⟩ (by lia) ?_ ?_ ?_ ?_
 ·rintro i τ zs H' ⟨e,_,hz,_⟩
  exact⟨e,by lia⟩
 ·rintro i τ zs H' hi _
  exact hi
 ·rintro τ zs H' ⟨e,hc,hz,sm,_⟩
  rw[List.take_length] at hc;exact⟨Nat.le_refl _,fin acc zs H' hacc sm e hc⟩
 ·rintro i τ zs H' v H2 hi ⟨e,hc,hz,sm,o0,rfl⟩ ⟨rfl,rfl⟩
  have hci:cs[i]?=some cs[i]:=List.getElem?_eq_getElem hi;obtain⟨w1,w2⟩:=q5F hci;obtain⟨b1,b2⟩:=hb _ (List.getElem_mem hi);have a1:atI (q15 cs) (0+(i:Int)*2)=some (.str (txt (cs[i].1:Int))):=by
   rw[show 0+(i:Int)*2=((2*i:Nat):Int) by lia];exact qi w1
  have a2:atI (q15 cs) (0+(i:Int)*2+1)=some (.str (txt cs[i].2)):=by
   rw[show 0+(i:Int)*2+1=((2*i+1:Nat):Int) by lia];exact qi w2
  lk;refine⟨l,_,_,_,rfl,rfl,SqL.of (sm _ _ hl),a1,?_⟩;refine⟨_,rfl,b1,λH3 s3=>?_⟩;lk;refine⟨l,_,_,_,rfl,rfl,SqL.of (s3 _ _ (sm _ _ hl)),a2,?_⟩;refine⟨_,rfl,b2,λH4 s4=>?_⟩;lk;refine⟨by show 2<=sizeLine;decide,λp hp=>?_⟩;have sp:=Same.new hp (.tup [.int (cs[i].1:Int),.int cs[i].2]);have s5:=(s3.trans s4).trans sp;refine⟨s5 _ _ e,Nx.mk hi ⟨q0,?_,by rw[List.length_append,hz];rfl,(sm.trans s5).upd hacc,_,rfl⟩⟩;rw[List.take_succ_eq_append_getElem hi,List.map_append]
  have hpa:p≠acc:=λz=>by
   have:=s5 _ _ e;rw[z,q0] at this;cases this
  refine Chg.snoc (by rw[qG hpa,q0];rfl) (hc.keepT λb xs z=>?_);rw[qG (λy=>by rw[y,e] at z;cases z)];exact s5 _ _ z
noncomputable def nbl:List (Str×Int):=[("row",0),("undo",0),("again",0),("best",0),("part",2),("length",2),("ring",0),("apart",2),("bars",2),("must",1)]
theorem ok_rtext(F:Fun K "read_text" "read_text" q1D f fd)
  (y0I:Def P w K mg base k "read_row" ["text"] q4g):FnOk P w K mg base CX0 (k+1) f fd ["text"] q4g:=by
 refine F.ok q39 (λvs H Q E h=>?_) (λcdv A outer s H vs Q E hr h=>?_)
 ·obtain⟨ns,rfl,_⟩:=h
  rfl
 obtain⟨ns,rfl,h1,h2,hb,fin⟩:=h
 w_up
 ·apply qC
  exact ps_tryN λpins xe=>(qC (qK (qI y0I hr rfl (pa_cons (pv 0) qA))))
 lk;exact⟨h1,h2,hb,fin⟩
noncomputable def sp_rbeh:Sp:=λvs H Q _=>
 (∃(l:Addr) (cs:List (Nat×Int)),vs=[.str "put",.ref l]/\H l=some (.lst (q15 cs))/\1<=cs.length/\cs.length<=20/\(∀c,c∈cs->c.1 < 10 ^ 6/\c.2.natAbs < 10 ^ 30)/\
  ∀(r:Addr) (xs:List V) (H':Hp),H r=none->Same H H'->H' r=some (.lst xs)->Chg H' xs (cs.map intC)->Q (.ref r) H') \/
 ∃(l:Addr) (z:Str) (ns:List Nat),vs=[.str z,.ref l]/\z≠"put"/\valD nbl z = .int (ns.length:Int)/\H l=some (.lst (ns.map λn:Nat=>V.str (txt (n:Int))))/\ns.length<=2/\(∀n,n∈ns->n < 10 ^ 6)/\
  ∀(r:Addr) (H':Hp),H r=none->Same H H'->H' r=some (.lst (ns.map λn:Nat=>V.int (n:Int)))->Q (.ref r) H'
theorem ok_rbeh{AB:Addr}(F:Fun K "read_behind" "read_behind" q0g f fd)(Z:Blt mg)(NB:NumD K w AB nbl)(mB:mg "NUMBERS_BEHIND" = some (.ref AB))
  (y0J:Def P w K mg base k "read_changes" ["words"] sp_rchg)(yb:Def P w K mg base k "read_figures" ["word"] q6J):FnOk P w K mg base CX0 (k+1) f fd ["word","words"] sp_rbeh:=by
 refine F.ok q2E (λvs H Q E h=>?_) (λcdv A outer s H vs Q E hr h=>?_)
 ·rcases h with⟨l,cs,rfl,_⟩|⟨l,z,ns,rfl,_⟩<;>rfl
 w_up
 ·apply qB
  ·apply qY
   exact(qL q0X (pv 0) qE (qU _))
   ·apply qC
    exact(qK (qI y0J hr rfl (pa_cons (pv 1) qA)))
   exact qO
  apply qB
  ·apply qY
   exact(qL q3o (q7Q (K:=K) (w:=w) rfl rfl NB (q0R (v:=.ref _) rfl mB rfl) (pv 0) ⟨rfl,rfl,rfl,rfl⟩) (qP (qQ (K:=K) rfl) rfl Z.len_ PySem.boot_len (pa_cons (pv 1) qA)) (qU _))
   ·apply qC
    exact q0A
   exact qO
  apply qC;exact(qK (q18 (N':=["one"]) (ix:=[none]) rfl rfl (by decide +kernel) rfl rfl rfl rfl (qm (K:=K) rfl (pv 1)) (λ_ _ _ _=>(qZ (i:=0) (show List.Nodup (["one"]:List Str) by decide +kernel) rfl (by k_ne))) (λ_ _ _ _=>qq) (λ_ _ _ _=>(qI yb hr rfl (pa_cons (pv 0) qA)))))
 rcases h with⟨l,cs,rfl,hl,h1,h2,hb,fin⟩|⟨l,z,ns,rfl,hz,hv,hl,h2,hb,fin⟩
 ·lk
  exact⟨l,cs,rfl,hl,h1,h2,hb,fin⟩
 ·lk
  rw[decide_eq_false (λh=>hz (V.str.inj h))];lk;refine⟨l,_,rfl,.inl (SqL.of hl),?_⟩;rw[hv,List.length_map];lk;refine if_b (c:=false) (show(!decide (V.int (ns.length:Int)=V.int (ns.length:Int)))=false by rw[decide_eq_true rfl];rfl) ?_;refine iteF ?_;lk;refine⟨⟨_,SqL.of hl⟩,?_⟩;intro acc hacc;refine qp (n:=ns.length) (λi τ zs H'=>H' acc=some (.lst zs)/\zs=(ns.take i).map (λn:Nat=>V.int (n:Int))/\Same H H'/\∃o0,τ=[o0]) ⟨q0,rfl,Same.new hacc _,none,rfl⟩ (by lia) ?_ ?_ ?_ ?_
  ·rintro i τ zs H' ⟨e,rfl,_⟩
   exact⟨e,by rw[List.length_map,List.length_take];lia⟩
  ·rintro i τ zs H' hi ⟨e,_,sm,_⟩
   exact⟨_,V.str (txt (ns[i]:Int)),SqL.of (sm _ _ hl),by rw[List.getElem?_map,List.getElem?_eq_getElem hi];rfl⟩
  ·rintro τ zs H' ⟨e,rfl,sm,_⟩
   refine⟨⟨_,SqL.of (sm _ _ hl),by rw[List.length_map];exact Nat.le_refl _⟩,?_⟩;rw[List.take_length] at e;exact fin _ _ hacc sm e
  ·rintro i τ zs H' v H2 hi ⟨e,rfl,sm,o0,rfl⟩ ⟨rfl,y⟩
   have ey:=y _ (SqL.of (sm _ _ hl));rw[List.getElem?_map,List.getElem?_eq_getElem hi] at ey;obtain rfl:V.str (txt (ns[i]:Int))=v:=Option.some.inj ey;lk;refine⟨hb _ (List.getElem_mem hi),λH3 s3=>?_⟩;refine⟨s3 _ _ e,Nx.mk hi ⟨q0,?_,(sm.trans s3).upd hacc,_,rfl⟩⟩;rw[List.take_succ_eq_append_getElem hi,List.map_append];rfl
theorem q7o(h1:1<=k)(hk:k<=z.length):(Txt.slice z (some (k:Int)) none).cps.toList=z.cps.toList.drop k:=by
 obtain⟨cps⟩:=z;obtain⟨l⟩:=cps;have hk':k<=l.length:=hk;have hl:(⟨⟨l⟩⟩:Str).length=l.length:=rfl;have hi:Builtin.Str.strSliceIndices (some (k:Int)) none 1 l.length=(List.range (l.length-k)).map (·+k):=by
  have a:(max 0 (min (k:Int) (l.length:Int)))=(k:Int):=by lia
  have hneg:¬((k:Int) < 0):=by lia
  unfold Builtin.Str.strSliceIndices;simp only[hneg,if_false,show(1:Int) > 0 by decide,if_true];rw[a];unfold sliceRange;simp only[show(1:Int) > 0 by decide,if_true];have b:(if(k:Int) < (l.length:Int) then((l.length:Int)-(k:Int)+1-1)/1 else 0).toNat=l.length-k:=by
   split
   ·rw[Int.ediv_one];lia
   ·lia
  rw[b];exact List.map_congr_left λj _=>by lia
 unfold Txt.slice;rw[hl,hi,if_neg (by simp;lia)];show((List.range (l.length-k)).map (·+k)).filterMap (λj=>l.toArray[j]?)=l.drop k;rw[List.filterMap_map];have e:((λj=>l.toArray[j]?) ∘ λx=>x+k)=λj=>(l.drop k)[j]?:=by
  funext j;simp[Nat.add_comm]
 rw[e];have r:=q3i (l.drop k);rw[List.length_drop] at r;exact r
theorem q1A{x y:Str}:Txt.join (Str.ofString " ") (x::y::l)=x++⟨#[32]⟩++Txt.join (Str.ofString " ") (y::l):=by
 rw[q4c,q4c];rfl
theorem row_cut{y:Str}:Txt.slice (Txt.join (Str.ofString " ") (Str.ofString "row"::y::l)) (some 4) none=Txt.join (Str.ofString " ") (y::l):=by
 rw[q1A];have e:(Str.ofString "row"++⟨#[32]⟩++Txt.join (Str.ofString " ") (y::l)).cps.toList=[114,111,119]++32::(Txt.join (Str.ofString " ") (y::l)).cps.toList:=q0v;have hl:4<=(Str.ofString "row"++⟨#[32]⟩++Txt.join (Str.ofString " ") (y::l)).length:=by
  show 4<=(Str.ofString "row"++⟨#[32]⟩++Txt.join (Str.ofString " ") (y::l)).cps.size;rw[<-Array.length_toList,e,List.length_append,List.length_cons];exact Nat.add_le_add (Nat.le_refl 3) (Nat.succ_le_succ (Nat.zero_le _))
 refine q4J ?_;have d:=q7o (k:=4) (by decide) hl;rw[e] at d;exact d
theorem q87(h:l.length<=2000)(hb:∀p,p∈l->p.length<=31):JoinOk (Str.ofString " ") l=true:=by
 have hs:=q4z hb;unfold JoinOk;have e:=PySem.StrLaws.joinTotal (Str.ofString " ") l;have e1:(Str.ofString " ").length=1:=rfl;rw[e1] at e;rw[e1,e];unfold Builtin.Str.tooLong;rw[PySem.sizeLine_eq,Bool.not_eq_true'];exact decide_eq_false (by lia)
noncomputable def q2C:List (Nat×Int)->List Str
 |[]=>[]
 |c::cs=>txt (c.1:Int)::txt c.2::q2C cs
theorem q5E:∀cs:List (Nat×Int),q15 cs=(q2C cs).map V.str
 |[]=>rfl
 | c::cs=>by
  show _::_::q15 cs=_::_::(q2C cs).map V.str;rw[q5E cs]
noncomputable def Ask.nat:Ask->List Nat
 |.best=>[]|.ring=>[]|.row=>[]|.part f b=>[f,b]|.length f b=>[f,b]|.apart m g=>[m,g]|.bars m g=>[m,g]|.must i=>[i]
inductive Cmd where
 |row (ns:List Int)
 |put (cs:List (Nat×Int))
 |undo|again
 |ask (a:Ask)
noncomputable def Cmd.words:Cmd->List Str
 |.row ns=>"row"::ns.map txt
 |.put cs=>"put"::q2C cs
 |.undo=>["undo"]
 |.again=>["again"]
 |.ask a=>a.word::a.nat.map λn:Nat=>txt (n:Int)
noncomputable def Cmd.text(c:Cmd):Str:=Txt.join (Str.ofString " ") c.words
noncomputable def Cmd.ok:Cmd->Prop
 |.row ns=>RowOk ns
 |.put cs=>1<=cs.length/\cs.length<=20/\∀c,c∈cs->c.1 < 10 ^ 6/\c.2.natAbs < 10 ^ 30
 |.undo=>True
 |.again=>True
 |.ask a=>a.few/\∀n,n∈a.nat->n < 10 ^ 6
noncomputable def shownA:Option (List Int)->Str
 |none=>"none"
 |some xs=>Txt.join (Str.ofString " ") (xs.map txt)
inductive Rep where
 |ans (z:Str)
 |ref (i:Nat)
inductive Says (st:Dst):Cmd->Rep->Dst->Prop where
 |row {ns:List Int}:Says st (.row ns) (.ans (txt (ns.length:Int))) ⟨some ns,[],[]⟩
 |none {c:Cmd}:(∀ns,c≠.row ns)->st.row=none->Says st c (.ref 6) st
 |put {cs:List (Nat×Int)} {ns:List Int} {x:Sx}:st.row=some ns->q3F ns.length (cs.map intC)->Top (PB (q08 ns (cs.map intC))) x->Says st (.put cs) (.ans (txt x.s)) ⟨some (q08 ns (cs.map intC)),st.earlier++[ns],[]⟩
 |putN {cs:List (Nat×Int)} {ns:List Int}:st.row=some ns->¬q3F ns.length (cs.map intC)->Says st (.put cs) (.ref 3) st
 |undo {ns r:List Int} {rs:List (List Int)} {x:Sx}:st.row=some ns->st.earlier=rs++[r]->Top (PB r) x->Says st .undo (.ans (txt x.s)) ⟨some r,rs,st.undone++[ns]⟩
 |undoN {ns:List Int}:st.row=some ns->st.earlier=[]->Says st .undo (.ref 7) st
 |again {ns r:List Int} {us:List (List Int)} {x:Sx}:st.row=some ns->st.undone=us++[r]->Top (PB r) x->Says st .again (.ans (txt x.s)) ⟨some r,st.earlier++[ns],us⟩
 |againN {ns:List Int}:st.row=some ns->st.undone=[]->Says st .again (.ref 7) st
 |ask {a:Ask} {ns:List Int} {o:Option (List Int)}:st.row=some ns->Tells ns a (.ans o)->Says st (.ask a) (.ans (shownA o)) st
 |askN {a:Ask} {ns:List Int} {i:Nat}:st.row=some ns->Tells ns a (.ref i)->Says st (.ask a) (.ref i) st
theorem Ask.nums_nat(a:Ask):a.nums=a.nat.map λn:Nat=>(n:Int):=by cases a<;>rfl
theorem Ask.nat_few(a:Ask):a.nat.length<=2:=by cases a<;>(dsimp only[Ask.nat,List.length];decide)
theorem Ask.behind(a:Ask):valD nbl a.word = .int (a.nat.length:Int):=by cases a<;>(dsimp only[Ask.nat,Ask.word,List.length];decide)
theorem Ask.not_put(a:Ask):a.word≠"put":=by cases a<;>(dsimp only[Ask.word];decide)
theorem q4G:∀cs:List (Nat×Int),(q2C cs).length=2*cs.length
 |[]=>rfl
 | c::cs=>by
  show(q2C cs).length+1+1=_;rw[q4G cs,List.length_cons]
  lia
theorem q4F:∀{cs:List (Nat×Int)} {p:Str},p∈q2C cs->∃c,c∈cs/\(p=txt (c.1:Int)\/p=txt c.2)
 | c::cs,p,h=>by
  rcases List.mem_cons.mp h with h|h
  ·exact⟨c,List.mem_cons_self,.inl h⟩
  ·rcases List.mem_cons.mp h with h|h
   ·exact⟨c,List.mem_cons_self,.inr h⟩
   ·obtain⟨d,hd,e⟩:=q4F h
    exact⟨d,List.mem_cons_of_mem _ hd,e⟩
theorem Ask.word_free(a:Ask):32∉a.word.cps.toList/\a.word.length<=31:=by cases a<;>(dsimp only[Ask.word];decide)
theorem Cmd.plain{c:Cmd}(h:c.ok):c.words≠[]/\c.words.length<=41/\∀p,p∈c.words->32∉p.cps.toList/\p.length<=31:=by
 have nat6:∀{n:Nat},n < 10 ^ 6->32∉(txt (n:Int)).cps.toList/\(txt (n:Int)).length<=31:=λ{n} hn=>⟨q3G _,q0k (Nat.lt_trans (show(n:Int).natAbs < 10 ^ 6 from hn) (by decide))⟩
 cases c with
 | row ns=>
  have h':RowOk ns:=h;have l2:=h'.l2;refine⟨List.cons_ne_nil _ _,?_,λp hp=>?_⟩
  ·show(ns.map txt).length+1<=41
   rw[List.length_map]
   lia
  ·rcases List.mem_cons.mp hp with rfl|hp
   ·decide
   ·obtain⟨n,hn,rfl⟩:=List.mem_map.mp hp
    exact⟨q3G n,q0k (h'.b n hn)⟩
 | put cs=>
  obtain⟨h1,h2,hb⟩:1<=cs.length/\cs.length<=20/\∀c,c∈cs->c.1 < 10 ^ 6/\c.2.natAbs < 10 ^ 30:=h;refine⟨List.cons_ne_nil _ _,?_,λp hp=>?_⟩
  ·show(q2C cs).length+1<=41
   rw[q4G]
   lia
  ·rcases List.mem_cons.mp hp with rfl|hp
   ·decide
   ·obtain⟨c,hc,e|e⟩:=q4F hp<;>subst e
    ·exact nat6 (hb c hc).1
    ·exact⟨q3G _,q0k (hb c hc).2⟩
 |undo=>exact⟨List.cons_ne_nil _ _,by decide,λp hp=>by rw[List.mem_singleton.mp hp];decide⟩
 |again=>exact⟨List.cons_ne_nil _ _,by decide,λp hp=>by rw[List.mem_singleton.mp hp];decide⟩
 | ask a=>
  obtain⟨_,hb⟩:a.few/\∀n,n∈a.nat->n < 10 ^ 6:=h;have:=a.nat_few;refine⟨List.cons_ne_nil _ _,?_,λp hp=>?_⟩
  ·show(a.nat.map _).length+1<=41
   rw[List.length_map]
   lia
  ·rcases List.mem_cons.mp hp with rfl|hp
   ·exact a.word_free
   ·obtain⟨n,hn,rfl⟩:=List.mem_map.mp hp
    exact nat6 (hb n hn)
theorem Cmd.split{c:Cmd}(h:c.ok):Txt.split c.text (Str.ofString " ")=c.words:=q2o (Cmd.plain h).1 λp hp=>((Cmd.plain h).2.2 p hp).1
theorem Cmd.short{c:Cmd}(h:c.ok):c.text.length<=sizeLine:=PySem.joinOk_length (q87 (by have:=(Cmd.plain h).2.1;lia) λp hp=>((Cmd.plain h).2.2 p hp).2)
noncomputable def clsD(c1 c2 c3 c4 n6 n7:Addr):Nat->Addr
 |0=>c1|1=>c2|2=>c3|3=>c4|6=>n6|_=>n7
theorem Tells.low{a:Ask}(h:Tells ns a (.ref i)){c1 c2 c3 c4 n6 n7:Addr}:clsOf c1 c2 c3 c4 i=clsD c1 c2 c3 c4 n6 n7 i:=by
 cases h<;>rfl
noncomputable def TellsOk:Prop:=∀(ns:List Int) (a:Ask) (xs:List Int),RowOk ns->a.few->Tells ns a (.ans (some xs))->xs.length<=1000/\∀n,n∈xs->n.natAbs < 10 ^ 36
noncomputable def sp_say(C:Addr)(cls:Nat->Addr):Sp:=λvs H Q E=>∃(d e u:Addr) (st:Dst) (c:Cmd),vs=[.ref d,.str c.text]/\DeskAt C H d e u st/\c.ok/\st.earlier.length<=900/\
 (∀(z:Str) (st':Dst) (e' u':Addr) (H':Hp),(e'=e\/H e'=none)->(u'=u\/H u'=none)->FrD d e u H H'->DeskAt C H' d e' u' st'->Says st c (.ans z) st'->Q (.str z) H')/\
 ∀(i:Nat) (H':Hp),Same H H'->Says st c (.ref i) st->E (.ref (cls i)) none H'
theorem Ask.not_turn(a:Ask):a.word≠"undo"/\a.word≠"again":=by cases a<;>(dsimp only[Ask.word];decide)
theorem cut1(x:Str)(l:List Str):cutV ((x::l).map V.str) (some 1) none=l.map V.str:=by
 unfold cutV HT.sIx;simp;exact List.take_of_length_le (by simp)
theorem q61{n:Nat}:∀{cs:List (Int×Int)},¬q3F n cs->∃pre c post,cs=pre++c::post/\q3F n pre/\¬(0<=c.1/\c.1 < (n:Int))
 |[],h=>absurd (λc hc=>by cases hc) h
 | c::cs,h=>by
  by_cases hc:0<=c.1/\c.1 < (n:Int)
  ·have h':¬q3F n cs:=λz=>h λd hd=>by
    rcases List.mem_cons.mp hd with rfl|hd
    ·exact hc
    ·exact z d hd
   obtain⟨pre,d,post,e,h1,h2⟩:=q61 h';refine⟨c::pre,d,post,by rw[e];rfl,λb hb=>?_,h2⟩;rcases List.mem_cons.mp hb with rfl|hb
   ·exact hc
   ·exact h1 b hb
  ·exact⟨[],c,cs,rfl,(λb hb=>by cases hb),hc⟩
theorem ok_say{n6 n7:Addr}(F:Fun K "say" "Desk.say" q23 f fd)(Z:Blt mg)(DD:DC K C)(TB:TellsOk)
  (yl:DefE P w K mg base k "read_text" ["text"] q4g)(ym:DefE P w K mg base k "read_behind" ["word","words"] sp_rbeh)
  (yc:MDef (CXE P w) P w K mg base k C "lay" ["self","row"] (q73 C))(y0K:MDef (CXE P w) P w K mg base k C "put" ["self","changes"] (q4l C c4))(y0L:MDef (CXE P w) P w K mg base k C "undo" ["self"] (q3b C n7))
  (y0M:MDef (CXE P w) P w K mg base k C "redo" ["self"] (q3c C n7))(y0N:DefE P w K mg base k "shown_answer" ["answer"] sp_sans)(y0O:DefE P w K mg base k "answer_of" ["held","word","numbers"] (sp_ansE c1 c2 c3 c4))
  (O:PyProof.Rows.OwnCls "NoneYet" n6 bmV "ValueError.__new__" mg base):FnOk P w K mg base (CXE P w) (k+1) f fd ["self","row"] (sp_say C (clsD c1 c2 c3 c4 n6 n7)):=by
 refine F.okE sc_Desk_say (λvs H Q E h=>?_) (λcdv A outer s H vs Q E hr h=>?_)
 ·obtain⟨d,e,u,st,c,rfl,_⟩:=h
  rfl
 obtain⟨d,e,u,st,c,rfl,hD,hok,hfew,fin,bad⟩:=h;have CL:=DD.cl;have hsp:=Cmd.split hok;have hsz:=Cmd.short hok;obtain⟨hne,h41,_⟩:=Cmd.plain hok
 w_up
 ·apply qB
  exact(ps_set (i:=2) sc_Desk_say.nd rfl (by k_ne) (q5i PySem.F.plainAttrs_str PySem.F.slot_str_split PySem.F.type_str_split q3P (pv 1) (pa_cons qE qA)));apply qB;exact(ps_set (i:=3) sc_Desk_say.nd rfl (by k_ne) (qM (qR (K:=K) rfl) (pv 2) qD (λ_ _=>rfl)));apply qB
  ·apply qY
   exact(PW.pt (q5e (qL q0X (pv 3) qE (qU _)) (q3j (qL q35 (qP (qQ (K:=K) rfl) rfl Z.len_ PySem.boot_len (pa_cons (pv 2) qA)) qD (qU _)))))
   ·apply qC
    exact(qK (q2h yc CL hr qz (pv 0) (pa_cons (qd yl hr rfl qz (pa_cons (qr q38 (pv 1) (q04 (qP q06 rfl Z.len_ PySem.boot_len (pa_cons qE qA))) q05) qA)) qA)))
   exact qO
  apply qB;exact(ps_set (i:=4) sc_Desk_say.nd rfl (by k_ne) (qd ym hr rfl qz (pa_cons (pv 3) (pa_cons (qr (q0e (K:=K) rfl) (pv 2) (q04 qD) q05) qA))));apply qB
  ·apply qY
   exact(qL q1o (qy (K:=K) rfl (pv 0)) qu (qU _))
   ·apply qC
    exact(q07 thrE rfl O PySem.F.excBase_ValueError rfl (pa_cons qE qA))
   exact qO
  apply qB
  ·apply qY
   exact(qL q0X (pv 3) qE (qU _))
   ·apply qC
    exact(qK (q2h y0K CL hr qz (pv 0) (pa_cons (pv 4) qA)))
   exact qO
  apply qB
  ·apply qY
   exact(qL q0X (pv 3) qE (qU _))
   ·apply qC
    exact(qK (pe_md0 y0L CL hr qz (pv 0)))
   exact qO
  apply qB
  ·apply qY
   exact(qL q0X (pv 3) qE (qU _))
   ·apply qC
    exact(qK (pe_md0 y0M CL hr qz (pv 0)))
   exact qO
  apply qC;exact(qK (qd y0N hr rfl qz (pa_cons (qd y0O hr rfl qz (pa_cons (qy (K:=K) rfl (pv 0)) (pa_cons (pv 3) (pa_cons (pv 4) qA)))) qA)))
 lk;refine⟨hsz,by rw[hsp];exact Nat.le_of_lt (small (by lia)),λl hl0=>?_⟩;rw[hsp];have s1:=Same.new hl0 (.lst (c.words.map V.str))
 obtain⟨H1,eH1⟩:∃z,z=upd H l (.lst (c.words.map V.str)):=⟨_,rfl⟩
 rw[<-eH1] at s1 ⊢;have hl:H1 l=some (.lst (c.words.map V.str)):=by rw[eH1,q0]
 have hD1:=hD.keep s1;obtain⟨dx,v,xe,xu,h1,hv,h3,h4,h5,h6⟩:=hD1.ex;lk
 cases c with
 | row ns=>
  have hR:RowOk ns:=hok;have l1:=hR.l1;have l2:=hR.l2;refine⟨l,_,0,_,rfl,rfl,SqL.of hl,qi (j:=0) (v:=.str "row") rfl,?_⟩;lk;refine⟨l,_,rfl,.inl (SqL.of hl),?_⟩;have hlen:(((Cmd.row ns).words.map V.str).length:Int) > 1:=by
   rw[List.length_map];show(((ns.map txt).length+1:Nat):Int) > 1;rw[List.length_map]
   lia
  lk;rw[decide_eq_true hlen];lk;refine⟨d,dx,_,rfl,h1,rfl,?_⟩;lk;refine⟨by decide,?_⟩;lk;refine⟨hsz,?_⟩;have hcut:Txt.slice (Cmd.row ns).text (some 4) none=Txt.join (Str.ofString " ") (ns.map txt):=by
   cases ns with
   |nil=>exact absurd l1 (by decide)
   |cons n ns=>exact row_cut
  refine⟨ns,congrArg (λz=>[V.str z]) hcut,l1,by lia,hR.b,λr H3 hr0 s3 hr3=>?_⟩;lk;refine⟨d,e,u,r,st,ns,rfl,hD1.keep s3,hr3,(qJ h3 hr0).symm,(qJ h5 hr0).symm,hR,λe' u' H4 he' hu' f4 hD4=>?_⟩;have s13:=s1.trans s3;exact fin _ _ e' u' H4 (.inr (s13.free he')) (.inr (s13.free hu')) (λb o n1 n2 n3 z=>f4 b o n1 n2 n3 (s13 _ _ z)) hD4 .row
 | put cs=>
  obtain⟨p1,p2,pb⟩:1<=cs.length/\cs.length<=20/\∀c,c∈cs->c.1 < 10 ^ 6/\c.2.natAbs < 10 ^ 30:=hok;refine⟨l,_,0,_,rfl,rfl,SqL.of hl,qi (j:=0) (v:=.str "put") rfl,?_⟩;lk;refine⟨l,_,rfl,SqL.of hl,λl2 hl2=>?_⟩;have hc:cutV ((Cmd.put cs).words.map V.str) (some 1) none=q15 cs:=by
   rw[q5E];exact cut1 _ _
  rw[hc];have s2:=Same.new hl2 (.lst (q15 cs));refine .inl ⟨l2,cs,rfl,q0,p1,p2,pb,λr xs H3 hr0 s3 hr3 hC=>?_⟩;have hD3:=hD1.keep (s2.trans s3);obtain⟨dx3,v3,xe3,xu3,d1,dv,d3,d4,d5,d6⟩:=hD3.ex;lk;refine⟨d,C,dx3,_,_,rfl,d1,DD.cl,DD.nh,rfl,?_⟩;have s13:=s1.trans (s2.trans s3)
  cases hrow:st.row with
  | none=>
   rw[hrow] at dv;obtain rfl:v3 = .non:=dv;lk;exact⟨by decide,bad 6 _ s13 (.none (λns z=>by cases z) hrow)⟩
  | some ns=>
   rw[hrow] at dv;obtain⟨p,rfl,hk⟩:=dv;lk;refine⟨d,dx3,_,rfl,d1,rfl,?_⟩;lk;by_cases hin:q3F ns.length (cs.map intC)
   ·refine .inl ⟨d,e,u,r,st,ns,xs,cs.map intC,rfl,hD3,hrow,hr3,hC,hin,λc hc=>?_,hfew,λu' x H4 hu' f4 hD4 hx=>?_⟩
    ·obtain⟨c0,h0,rfl⟩:=List.mem_map.mp hc
     exact(pb c0 h0).2
    ·exact fin (txt x.s) _ e u' H4 (.inl rfl) (.inr (s13.free hu')) (λb o n1 n2 n3 z=>f4 b o n1 n2 n3 (s13 _ _ z)) hD4 (.put hrow hin hx)
   ·obtain⟨pre,c,post,ep,hpre,hno⟩:=q61 hin
    refine .inr ⟨d,e,u,r,st,ns,xs,pre,post,c,rfl,hD3,hrow,hr3,ep▸hC,hpre,hno,λH4 s4=>?_⟩;exact bad 3 _ (s13.trans s4) (.putN hrow hin)
 | undo=>
  refine⟨l,_,0,_,rfl,rfl,SqL.of hl,rfl,?_⟩;lk;refine⟨l,_,rfl,SqL.of hl,λl2 hl2=>?_⟩;have s2:=Same.new hl2 (.lst (cutV ((Cmd.undo).words.map V.str) (some 1) none));refine .inr ⟨l2,"undo",[],rfl,by decide,by decide,?_,by decide,λn hn=>(by cases hn),λr H3 hr0 s3 hr3=>?_⟩
  ·rw[q0]
   rfl
  have hD3:=hD1.keep (s2.trans s3);obtain⟨dx3,v3,xe3,xu3,d1,dv,d3,d4,d5,d6⟩:=hD3.ex;lk;refine⟨d,C,dx3,_,_,rfl,d1,DD.cl,DD.nh,rfl,?_⟩;have s13:=s1.trans (s2.trans s3)
  cases hrow:st.row with
  | none=>
   rw[hrow] at dv;obtain rfl:v3 = .non:=dv;lk;exact⟨by decide,bad 6 _ s13 (.none (λns z=>by cases z) hrow)⟩
  | some ns=>
   rw[hrow] at dv;obtain⟨p,rfl,hk⟩:=dv;lk;refine⟨d,dx3,_,rfl,d1,rfl,?_⟩
   by_cases he:st.earlier=[]
   ·exact .inr ⟨d,e,u,st,rfl,hD3,he,bad 7 _ s13 (.undoN hrow he)⟩
   ·obtain⟨rs,r,her⟩:∃rs r,st.earlier=rs++[r]:=⟨_,_,(List.dropLast_concat_getLast he).symm⟩
    refine .inl ⟨d,e,u,ns,r,rs,st.undone,rfl,?_,λx H4 f4 hD4 hx=>?_⟩
    ·rw[<-hrow,<-her]
     exact hD3
    ·exact fin (txt x.s) _ e u H4 (.inl rfl) (.inl rfl) (λb o n1 n2 n3 z=>f4 b o n1 n2 n3 (s13 _ _ z)) hD4 (.undo hrow her hx)
 | again=>
  refine⟨l,_,0,_,rfl,rfl,SqL.of hl,rfl,?_⟩;lk;refine⟨l,_,rfl,SqL.of hl,λl2 hl2=>?_⟩;have s2:=Same.new hl2 (.lst (cutV ((Cmd.again).words.map V.str) (some 1) none));refine .inr ⟨l2,"again",[],rfl,by decide,by decide,?_,by decide,λn hn=>(by cases hn),λr H3 hr0 s3 hr3=>?_⟩
  ·rw[q0]
   rfl
  have hD3:=hD1.keep (s2.trans s3);obtain⟨dx3,v3,xe3,xu3,d1,dv,d3,d4,d5,d6⟩:=hD3.ex;lk;refine⟨d,C,dx3,_,_,rfl,d1,DD.cl,DD.nh,rfl,?_⟩;have s13:=s1.trans (s2.trans s3)
  cases hrow:st.row with
  | none=>
   rw[hrow] at dv;obtain rfl:v3 = .non:=dv;lk;exact⟨by decide,bad 6 _ s13 (.none (λns z=>by cases z) hrow)⟩
  | some ns=>
   rw[hrow] at dv;obtain⟨p,rfl,hk⟩:=dv;lk;refine⟨d,dx3,_,rfl,d1,rfl,?_⟩
   by_cases he:st.undone=[]
   ·exact .inr ⟨d,e,u,st,rfl,hD3,he,bad 7 _ s13 (.againN hrow he)⟩
   ·obtain⟨us,r,her⟩:∃us r,st.undone=us++[r]:=⟨_,_,(List.dropLast_concat_getLast he).symm⟩
    refine .inl ⟨d,e,u,ns,r,st.earlier,us,rfl,?_,λx H4 f4 hD4 hx=>?_⟩
    ·rw[<-hrow,<-her]
     exact hD3
    ·exact fin (txt x.s) _ e u H4 (.inl rfl) (.inl rfl) (λb o n1 n2 n3 z=>f4 b o n1 n2 n3 (s13 _ _ z)) hD4 (.again hrow her hx)
 | ask a=>
  obtain⟨af,ab⟩:a.few/\∀n,n∈a.nat->n < 10 ^ 6:=hok;refine⟨l,_,0,_,rfl,rfl,SqL.of hl,qi (j:=0) (v:=.str a.word) rfl,?_⟩;lk;refine(λrest=>ifD (λhw=>?_) (λ_=>rest)) ?_
  ·lk
   refine⟨l,_,rfl,.inl (SqL.of hl),?_⟩;have hlen:¬(1:Int) < (((Cmd.ask a).words.map V.str).length:Int):=by
    rw[List.length_map];cases a<;>first|decide|exact absurd (V.str.inj hw) (by dsimp only[Ask.word];decide)
   lk;rw[decide_eq_false hlen];exact rest
  lk;refine⟨l,_,rfl,SqL.of hl,λl2 hl2=>?_⟩;have hc:cutV ((Cmd.ask a).words.map V.str) (some 1) none=a.nat.map λn:Nat=>V.str (txt (n:Int)):=by
   refine(cut1 _ _).trans ?_;rw[List.map_map];rfl
  rw[hc];have s2:=Same.new hl2 (.lst (a.nat.map λn:Nat=>V.str (txt (n:Int))));refine .inr ⟨l2,a.word,a.nat,rfl,a.not_put,a.behind,q0,a.nat_few,ab,λr H3 hr0 s3 hr3=>?_⟩;have hD3:=hD1.keep (s2.trans s3);obtain⟨dx3,v3,xe3,xu3,d1,dv,d3,d4,d5,d6⟩:=hD3.ex;lk;refine⟨d,C,dx3,_,_,rfl,d1,DD.cl,DD.nh,rfl,?_⟩;have s13:=s1.trans (s2.trans s3)
  cases hrow:st.row with
  | none=>
   rw[hrow] at dv;obtain rfl:v3 = .non:=dv;lk;exact⟨by decide,bad 6 _ s13 (.none (λns z=>by cases z) hrow)⟩
  | some ns=>
   have hO:=hD.rows.1 ns hrow;rw[hrow] at dv;obtain⟨p,rfl,hk⟩:=dv;lk;rw[decide_eq_false (λh=>a.not_put (V.str.inj h))];lk;rw[decide_eq_false (λh=>a.not_turn.1 (V.str.inj h))];lk;rw[decide_eq_false (λh=>a.not_turn.2 (V.str.inj h))];lk;refine⟨d,C,dx3,_,_,rfl,d1,DD.cl,DD.nh,rfl,?_⟩;lk;refine⟨p,r,ns,a,rfl,hk,hO,by rw[a.nums_nat,List.map_map];exact hr3,af,λo v H4 s4 hA hT=>?_,λi H4 s4 hT=>?_⟩
   ·lk
    cases o with
    | none=>
     obtain rfl:v = .non:=hA;exact .inl ⟨rfl,fin "none" st e u H4 (.inl rfl) (.inl rfl) (λb o _ _ _ z=>s4 _ _ (s13 _ _ z)) (hD3.keep s4) (.ask hrow hT)⟩
    | some xs=>
     obtain⟨q,rfl,hq⟩:=hA;obtain⟨b1,b2⟩:=TB ns a xs hO af hT;exact .inr ⟨q,xs,rfl,hq,b1,b2,λH5 s5=>fin (shownA (some xs)) st e u H5 (.inl rfl) (.inl rfl) (λb o _ _ _ z=>s5 _ _ (s4 _ _ (s13 _ _ z))) (hD3.keep (s4.trans s5)) (.ask hrow hT)⟩
   ·rw[hT.low (n6:=n6) (n7:=n7)]
    exact bad i _ (s13.trans s4) (.askN hrow hT)
noncomputable def q76(K:Frag)(T c1 c2 c3 c4 c5 c6 c7 c8:Addr):Sp:=λvs H Q _=>∃(a D:Addr) (b1 b2 b3 b4 b5 b6 b7 b8:Bool),vs=[.ref a]/\H a=some (exV a (.ref D))/\Fault K T c1 c2 c3 c4 c5 c6 c7 c8 D b1 b2 b3 b4 b5 b6 b7 b8/\
 ∀(l:Addr) (H':Hp),Same H H'->H l=none->H' l=some (.lst ([b1,b2,b3,b4,b5,b6,b7,b8,false].map V.bl))->Q (.ref l) H'
theorem ok_flags{T c5 c6 c7 c8:Addr}(F:Fun K "_law_flags" "_law_flags" q2J f fd)(Z:Blt mg)(Y:Errs mg T c1 c2 c3 c4 c5 c6 c7 c8):
  FnOk P w K mg base CX0 (k+1) f fd ["e"] (q76 K T c1 c2 c3 c4 c5 c6 c7 c8):=by
 refine F.ok sc_law_flags (λvs H Q E h=>?_) (λcdv A outer s H vs Q E hr h=>?_)
 ·obtain⟨a,D,b1,b2,b3,b4,b5,b6,b7,b8,rfl,_⟩:=h
  rfl
 obtain⟨a,D,b1,b2,b3,b4,b5,b6,b7,b8,rfl,ha,W,fin⟩:=h
 w_up
 ·apply qB
  exact(ps_set (i:=1) sc_law_flags.nd rfl (by k_ne) (pe_lst (pa_cons (qP (q0j (K:=K) rfl) rfl Z.isinstance_ PyProof.Rows.boot_isinstance (pa_cons (pv 0) (pa_cons (q0R (v:=.ref _) rfl Y.n1 rfl) qA))) (pa_cons (qP (q0j (K:=K) rfl) rfl Z.isinstance_ PyProof.Rows.boot_isinstance (pa_cons (pv 0) (pa_cons (q0R (v:=.ref _) rfl Y.n2 rfl) qA))) (pa_cons (qP (q0j (K:=K) rfl) rfl Z.isinstance_ PyProof.Rows.boot_isinstance (pa_cons (pv 0) (pa_cons (q0R (v:=.ref _) rfl Y.n3 rfl) qA))) (pa_cons (qP (q0j (K:=K) rfl) rfl Z.isinstance_ PyProof.Rows.boot_isinstance (pa_cons (pv 0) (pa_cons (q0R (v:=.ref _) rfl Y.n4 rfl) qA))) qA))))));apply qB;exact(ps_set (i:=1) sc_law_flags.nd rfl (by k_ne) (qT q0E (pv 1) (pe_lst (pa_cons (qP (q0j (K:=K) rfl) rfl Z.isinstance_ PyProof.Rows.boot_isinstance (pa_cons (pv 0) (pa_cons (q0R (v:=.ref _) rfl Y.n5 rfl) qA))) (pa_cons (qP (q0j (K:=K) rfl) rfl Z.isinstance_ PyProof.Rows.boot_isinstance (pa_cons (pv 0) (pa_cons (q0R (v:=.ref _) rfl Y.n6 rfl) qA))) (pa_cons (qP (q0j (K:=K) rfl) rfl Z.isinstance_ PyProof.Rows.boot_isinstance (pa_cons (pv 0) (pa_cons (q0R (v:=.ref _) rfl Y.n7 rfl) qA))) (pa_cons (qP (q0j (K:=K) rfl) rfl Z.isinstance_ PyProof.Rows.boot_isinstance (pa_cons (pv 0) (pa_cons (q0R (v:=.ref _) rfl Y.n8 rfl) qA))) qA)))))));apply qC;exact(qK (qT q0E (pv 1) (pe_lst (pa_cons (pe_not (qP (q0j (K:=K) rfl) rfl Z.isinstance_ PyProof.Rows.boot_isinstance (pa_cons (pv 0) (pa_cons (q4u (v:=.ty "ValueError") rfl Y.val boot_VE rfl) qA)))) qA))))
 lk;refine⟨a,D,_,_,_,rfl,ha,W.exk,.inl ⟨_,rfl,rfl⟩,W.k1,?_⟩;lk;refine⟨a,D,_,_,_,rfl,ha,W.exk,.inl ⟨_,rfl,rfl⟩,W.k2,?_⟩;lk;refine⟨a,D,_,_,_,rfl,ha,W.exk,.inl ⟨_,rfl,rfl⟩,W.k3,?_⟩;lk;refine⟨a,D,_,_,_,rfl,ha,W.exk,.inl ⟨_,rfl,rfl⟩,W.k4,?_⟩;lk;refine⟨by show 4<=sizeLine;decide,λl1 hl1=>?_⟩;have s1:=Same.new hl1 (.lst [.bl b1,.bl b2,.bl b3,.bl b4]);lk;refine⟨a,D,_,_,_,rfl,(s1 _ _ ha),W.exk,.inl ⟨_,rfl,rfl⟩,W.k5,?_⟩;lk;refine⟨a,D,_,_,_,rfl,(s1 _ _ ha),W.exk,.inl ⟨_,rfl,rfl⟩,W.k6,?_⟩;lk;refine⟨a,D,_,_,_,rfl,(s1 _ _ ha),W.exk,.inl ⟨_,rfl,rfl⟩,W.k7,?_⟩;lk;refine⟨a,D,_,_,_,rfl,(s1 _ _ ha),W.exk,.inl ⟨_,rfl,rfl⟩,W.k8,?_⟩;lk;refine⟨by show 4<=sizeLine;decide,λl2 hl2=>?_⟩;have s2:=Same.new hl2 (.lst [.bl b5,.bl b6,.bl b7,.bl b8]);lk;refine⟨l1,l2,_,_,rfl,rfl,s2 _ _ q0,q0,by show 8<=sizeLine;decide,λl3 hl3=>?_⟩;have s3:=Same.new hl3 (.lst ([.bl b1,.bl b2,.bl b3,.bl b4]++[.bl b5,.bl b6,.bl b7,.bl b8]));lk;refine⟨a,D,_,_,_,rfl,s3 _ _ (s2 _ _ (s1 _ _ ha)),W.exk,.inr ⟨_,rfl,rfl⟩,W.kv,?_⟩;lk;refine⟨by show 1<=sizeLine;decide,λl4 hl4=>?_⟩;have s4:=Same.new hl4 (.lst [.bl false]);lk;refine⟨l3,l4,_,_,rfl,rfl,s4 _ _ q0,q0,by show 9<=sizeLine;decide,λl5 hl5=>?_⟩;have s5:=Same.new hl5 (.lst (([.bl b1,.bl b2,.bl b3,.bl b4]++[.bl b5,.bl b6,.bl b7,.bl b8])++[.bl false]));have s14:=s1.trans (s2.trans (s3.trans s4));exact fin l5 _ (s14.trans s5) (s14.free hl5) q0
noncomputable def due(i:Nat):List Bool:=(List.range 9).map λk=>decide (k=i)
noncomputable def sp_due:Sp:=λvs H Q _=>∃i:Nat,vs=[.int (i:Int)]/\∀(l:Addr) (H':Hp),Same H H'->H l=none->H' l=some (.lst ((due i).map V.bl))->Q (.ref l) H'
theorem ok_due(F:Fun K "_law_due" "_law_due" q3h f fd)(Z:Blt mg):FnOk P w K mg base CX0 (k+1) f fd ["at"] sp_due:=by
 refine F.ok q7r (λvs H Q E h=>?_) (λcdv A outer s H vs Q E hr h=>?_)
 ·obtain⟨i,rfl,_⟩:=h
  rfl
 obtain⟨n,rfl,fin⟩:=h
 w_up
 ·apply qC
  exact(qK (q18 (N':=["k","at"]) (ix:=[none,some 0]) rfl rfl (by decide +kernel) rfl rfl rfl rfl (q0K rfl Z.range_ (pa_cons qD qA)) (λ_ _ _ _=>(qZ (i:=0) (show List.Nodup (["k","at"]:List Str) by decide +kernel) rfl (by k_ne))) (λ_ _ _ _=>qq) (λ_ _ _ _=>(q33 q0X (pv 0) (pv 1) (qU _)))))
 lk;refine⟨by decide,by decide,?_⟩;intro acc hacc;refine qp (n:=9) (λi τ zs H'=>H' acc=some (.lst zs)/\zs=(((List.range 9).map λk=>decide (k=n)).take i).map V.bl/\Same H H'/\∃o0,τ=[o0,some (.int (n:Int))]) ⟨q0,rfl,Same.new hacc _,none,rfl⟩ (by decide) ?_ ?_ ?_ ?_
 ·rintro i τ zs H' ⟨e,rfl,_⟩
  exact⟨e,by rw[List.length_map,List.length_take];lia⟩
 ·rintro i τ zs H' hi _
  exact hi
 ·rintro τ zs H' ⟨e,rfl,sm,_⟩
  refine⟨Nat.le_refl _,fin acc H' sm hacc ?_⟩;exact e
 ·rintro i τ zs H' v H2 hi ⟨e,rfl,sm,o0,rfl⟩ ⟨rfl,rfl⟩
  lk;refine⟨e,Nx.mk hi ⟨q0,?_,sm.upd hacc,_,rfl⟩⟩;have hi':i < ((List.range 9).map λk=>decide (k=n)).length:=by rw[List.length_map,List.length_range];exact hi
  rw[List.take_succ_eq_append_getElem hi',List.map_append];refine congrArg _ (congrArg (λb=>[V.bl b]) ?_);rw[List.getElem_map,List.getElem_range];refine decide_eq_decide.mpr ⟨λh=>?_,λh=>?_⟩
  ·have:=V.int.inj h
   lia
  ·rw[h,Int.zero_add]
structure Ws(K:Frag)(T c1 c2 c3 c4 c5 c6 c7 c8:Addr):Prop where
 w1:Fault K T c1 c2 c3 c4 c5 c6 c7 c8 c1 true false false false false false false false
 w2:Fault K T c1 c2 c3 c4 c5 c6 c7 c8 c2 false true false false false false false false
 w3:Fault K T c1 c2 c3 c4 c5 c6 c7 c8 c3 false false true false false false false false
 w4:Fault K T c1 c2 c3 c4 c5 c6 c7 c8 c4 false false false true false false false false
 w7:Fault K T c1 c2 c3 c4 c5 c6 c7 c8 c7 false false false false false false true false
 w8:Fault K T c1 c2 c3 c4 c5 c6 c7 c8 c8 false false false false false false false true
theorem Ws.at{K:Frag}{T c5 c6 c7 c8:Addr}(W:Ws K T c1 c2 c3 c4 c5 c6 c7 c8){i:Nat}(hi:i=0\/i=1\/i=2\/i=3\/i=6\/i=7):
  ∃b1 b2 b3 b4 b5 b6 b7 b8,Fault K T c1 c2 c3 c4 c5 c6 c7 c8 (clsD c1 c2 c3 c4 c7 c8 i) b1 b2 b3 b4 b5 b6 b7 b8/\[b1,b2,b3,b4,b5,b6,b7,b8,false]=due i:=by
 rcases hi with rfl|rfl|rfl|rfl|rfl|rfl
 ·exact⟨_,_,_,_,_,_,_,_,W.w1,by decide⟩
 ·exact⟨_,_,_,_,_,_,_,_,W.w2,by decide⟩
 ·exact⟨_,_,_,_,_,_,_,_,W.w3,by decide⟩
 ·exact⟨_,_,_,_,_,_,_,_,W.w4,by decide⟩
 ·exact⟨_,_,_,_,_,_,_,_,W.w7,by decide⟩
 ·exact⟨_,_,_,_,_,_,_,_,W.w8,by decide⟩
theorem Tells.few{a:Ask}(h:Tells ns a (.ref i)):i=0\/i=1\/i=2\/i=3\/i=6\/i=7:=by cases h<;>lia
theorem Says.few{st st':Dst}{c:Cmd}{i:Nat}(h:Says st c (.ref i) st'):i=0\/i=1\/i=2\/i=3\/i=6\/i=7:=by
 cases h with
 |askN _ t=>exact t.few
 |_=>lia
theorem RowOk.ps(h:RowOk ns){i:Nat}(hi:i<=ns.length): -(40*10 ^ 30)<=psum ns i/\psum ns i<=40*10 ^ 30:=by
 have a:=h.sum hi;have:=h.l2
 lia
theorem RowOk.cut(h:RowOk ns){f b:Nat}(h1:f < b)(h2:b<=ns.length):RowOk (cutI ns f b):=by
 have e:(cutI ns f b).length=b-f:=by
  unfold cutI;rw[List.length_take,List.length_drop,Int.toNat_natCast,Int.toNat_natCast]
  lia
 have:=h.l2;exact⟨by lia,by lia,λn hn=>h.b n (List.mem_of_mem_drop (List.mem_of_mem_take hn))⟩
theorem q2n{ns:List Int}(h:RowOk ns):∀{L:List (Nat×Nat)},WfL ns.length L->-(80*10 ^ 30)*(L.length:Int)<=sumL ns L/\sumL ns L<=80*10 ^ 30*(L.length:Int)
 | [],_=>by
  show _<=(0:Int)/\(0:Int)<=_;exact⟨by rw[List.length_nil];decide,by rw[List.length_nil];decide⟩
 | p::L,hw=>by
  have ih:=q2n h (L:=L) λq hq=>hw q (List.mem_cons_of_mem _ hq);have h1:=hw p List.mem_cons_self;have a:=h.ps h1.2;have b:=h.ps (i:=p.1) (by lia);have e:sumL ns (p::L)=psum ns p.2-psum ns p.1+sumL ns L:=rfl;rw[e,List.length_cons]
  push_cast
  lia
theorem fb_many{x:SL}(h1:1<=m)(h:fb ns g m 0=some x):m<=ns.length:=by
 refine Decidable.byContradiction λhn=>?_;have hg:g<=m*g:=Nat.le_mul_of_pos_left g h1;have e:m*(1+g)=m+m*g:=by rw[Nat.mul_add,Nat.mul_one]
 rw[q1B (by lia) (by lia)] at h;cases h
theorem flatP_mem:∀{ps:List (Int×Int)} {n:Int},n∈q40 ps->∃p,p∈ps/\(n=p.1\/n=p.2):=λ{ps n} h=>by
 unfold q40 at h;obtain⟨p,hp,hn⟩:=List.mem_flatMap.mp h;exact⟨p,hp,by simpa using hn⟩
theorem tells_ok:TellsOk:=λns a xs hO hf h=>by
 have l1:=hO.l1;have l2:=hO.l2
 cases h with
 | best hx=>
  obtain⟨f,b,h1,h2,rfl⟩:=hx.has;have p1:=hO.ps h2;have p2:=hO.ps (i:=f) (by lia);refine⟨by show 3<=1000;decide,λn hn=>?_⟩;rcases List.mem_cons.mp hn with rfl|hn
  ·show(psum ns b-psum ns f).natAbs < _
   lia
  rcases List.mem_cons.mp hn with rfl|hn
  ·show((f:Int)).natAbs < _
   lia
  rw[List.mem_singleton.mp hn];show((b:Int)).natAbs < _
  lia
 | ring hx=>
  obtain⟨f,m,h1,h2,h3,rfl⟩:=hx.has;refine⟨by show 3<=1000;decide,λn hn=>?_⟩;rcases List.mem_cons.mp hn with rfl|hn
  ·show(rg ns f m).natAbs < _
   unfold rg;split
   ·have p1:=hO.ps (i:=f+m) (by lia)
    have p2:=hO.ps (i:=f) (by lia)
    lia
   ·have p1:=hO.ps (i:=ns.length) (Nat.le_refl _)
    have p2:=hO.ps (i:=f) (by lia);have p3:=hO.ps (i:=f+m-ns.length) (by lia)
    lia
  rcases List.mem_cons.mp hn with rfl|hn
  ·show((f:Int)).natAbs < _
   lia
  rw[List.mem_singleton.mp hn];show((m:Int)).natAbs < _
  lia
 |row=>exact⟨by lia,λn hn=>Nat.lt_trans (hO.b n hn) (by decide)⟩
 | @part f b _ h1 h2 hx=>
  have hC:=hO.cut h1 h2;have c2:=hC.l2;obtain⟨f',b',h3,h4,rfl⟩:=hx.has;have p1:=hC.ps h4;have p2:=hC.ps (i:=f') (by lia);refine⟨by show 3<=1000;decide,λn hn=>?_⟩;rcases List.mem_cons.mp hn with rfl|hn
  ·show(psum _ b'-psum _ f').natAbs < _
   lia
  rcases List.mem_cons.mp hn with rfl|hn
  ·show((f':Int)+(f:Int)).natAbs < _
   lia
  rw[List.mem_singleton.mp hn];show((b':Int)+(f:Int)).natAbs < _
  lia
 | @length L M s f b h1 h2 h3 hB=>
  have m1:=hB.mem.1;have m3:b<=ns.length:=hB.mem.2.2;have hv:s=psum ns b-psum ns f:=hB.val;have p1:=hO.ps m3;have p2:=hO.ps (i:=f) (by lia);refine⟨by show 3<=1000;decide,λn hn=>?_⟩;rcases List.mem_cons.mp hn with rfl|hn
  ·lia
  rcases List.mem_cons.mp hn with rfl|hn
  ·lia
  rw[List.mem_singleton.mp hn]
  lia
 | apart h1 hx=>
  have hm:=fb_many h1 hx;obtain⟨hw,hl,hs⟩:=fb_wf hx;have b:=q2n hO hw;rw[<-hs] at b;refine⟨by rw[List.length_cons,q3z,List.length_map];lia,λn hn=>?_⟩;rcases List.mem_cons.mp hn with rfl|hn
  ·lia
  ·obtain⟨p,hp,e⟩:=flatP_mem hn
   obtain⟨q,hq,rfl⟩:=List.mem_map.mp hp;have:=hw q hq;rcases e with rfl|rfl
   ·show((q.1:Int)).natAbs < _
    lia
   ·show((q.2:Int)).natAbs < _
    lia
 | bars h1 hx=>
  have hm:=fb_many h1 hx;obtain⟨hw,hl,hs⟩:=fb_wf hx;have b:=q2n hO hw;rw[<-hs] at b;refine⟨by show 1<=1000;decide,λn hn=>?_⟩;rw[List.mem_singleton.mp hn]
  lia
 | @must i _ h1 h2 hv=>
  obtain⟨W,B,⟨⟨f,b,o1,o2,o3,rfl⟩,_⟩,⟨⟨f',b',i1,i2,i3,rfl⟩,_⟩,rfl⟩:=hv;have p1:=hO.ps o2;have p2:=hO.ps (i:=f) (by lia);have p3:=hO.ps i3;have p4:=hO.ps (i:=f') (by lia);have p5:=hO.ps (i:=i) (Nat.le_of_lt h1);have p6:=hO.ps (i:=i+1) h1;refine⟨by show 1<=1000;decide,λn hn=>?_⟩;rw[List.mem_singleton.mp hn]
  lia
theorem Tells.uniq{ns:List Int}{a:Ask}{r1 r2:Out}(h:Tells ns a r1)(g:Tells ns a r2):r1=r2:=by
 cases h with
 | best h=>cases g with
  |best g=>rw[h.uniq g]
 | ring h=>cases g with
  |ring g=>rw[h.uniq g]
 |row=>cases g;rfl
 | part h1 h2 h=>cases g with
  |part _ _ g=>rw[h.uniq g]
  |partN g=>exact absurd ⟨h1,h2⟩ g
 | partN h=>cases g with
  |part h1 h2 _=>exact absurd ⟨h1,h2⟩ h
  |partN g=>rfl
 | length h1 h2 h3 h=>cases g with
  | length _ _ _ g=>
   obtain⟨rfl,rfl,rfl⟩:=h.uniq g;rfl
  |lengthN g=>exact absurd ⟨h1,h2,h3⟩ g
 | lengthN h=>cases g with
  |length h1 h2 h3 _=>exact absurd ⟨h1,h2,h3⟩ h
  |lengthN g=>rfl
 | apart h1 h=>cases g with
  |apart _ g=>rw[h] at g;cases g;rfl
  |apartO _ g=>rw[h] at g;cases g
  |apartN=>exact absurd h1 (by decide)
 | apartO h1 h=>cases g with
  |apart _ g=>rw[h] at g;cases g
  |apartO _ g=>rfl
  |apartN=>exact absurd h1 (by decide)
 | apartN=>cases g with
  |apart h1 _=>exact absurd h1 (by decide)
  |apartO h1 _=>exact absurd h1 (by decide)
  |apartN=>rfl
 | bars h1 h=>cases g with
  |bars _ g=>rw[h] at g;cases g;rfl
  | barsN g=>
   rcases g with g|⟨_,g⟩
   ·lia
   ·rw[h] at g;cases g
 | barsN h=>cases g with
  | bars h1 g=>
   rcases h with h|⟨_,h⟩
   ·lia
   ·rw[h] at g;cases g
  |barsN g=>rfl
 | must1 h1 h2=>cases g with
  |must1 _ _=>rfl
  |must _ g _=>lia
  |mustN g=>exact absurd h1 g
 | must h1 h2 h=>cases g with
  |must1 _ g=>lia
  |must _ _ g=>rw[h.uniq g]
  |mustN g=>exact absurd h1 g
 | mustN h=>cases g with
  |must1 g _=>exact absurd g h
  |must g _ _=>exact absurd g h
  |mustN g=>rfl
theorem Says.uniq{st s1 s2:Dst}{c:Cmd}{r1 r2:Rep}(h:Says st c r1 s1)(g:Says st c r2 s2):r1=r2/\s1=s2:=by
 cases h with
 | row=>cases g with
  |row=>exact⟨rfl,rfl⟩
  |none n _=>exact absurd rfl (n _)
 | none n e=>cases g with
  |row=>exact absurd rfl (n _)
  |none _ _=>exact⟨rfl,rfl⟩
  |put e'=>rw[e] at e';cases e'
  |putN e'=>rw[e] at e';cases e'
  |undo e'=>rw[e] at e';cases e'
  |undoN e'=>rw[e] at e';cases e'
  |again e'=>rw[e] at e';cases e'
  |againN e'=>rw[e] at e';cases e'
  |ask e'=>rw[e] at e';cases e'
  |askN e'=>rw[e] at e';cases e'
 | put e i x=>cases g with
  |none _ e'=>rw[e] at e';cases e'
  |put e' _ y=>rw[e] at e';cases e';rw[x.uniq y];exact⟨rfl,rfl⟩
  |putN e' i'=>rw[e] at e';cases e';exact absurd i i'
 | putN e i=>cases g with
  |none _ e'=>rw[e] at e';cases e'
  |put e' i' _=>rw[e] at e';cases e';exact absurd i' i
  |putN _ _=>exact⟨rfl,rfl⟩
 | undo e l x=>cases g with
  |none _ e'=>rw[e] at e';cases e'
  | undo e' l' y=>
   rw[e] at e';cases e';rw[l] at l';obtain⟨l1,l2⟩:=List.append_inj' l' rfl;cases l1;cases l2;rw[x.uniq y];exact⟨rfl,rfl⟩
  |undoN _ l'=>rw[l] at l';exact absurd l' (List.append_ne_nil_of_right_ne_nil _ (List.cons_ne_nil _ _))
 | undoN e l=>cases g with
  |none _ e'=>rw[e] at e';cases e'
  |undo _ l' _=>rw[l] at l';exact absurd l'.symm (List.append_ne_nil_of_right_ne_nil _ (List.cons_ne_nil _ _))
  |undoN _ _=>exact⟨rfl,rfl⟩
 | again e l x=>cases g with
  |none _ e'=>rw[e] at e';cases e'
  | again e' l' y=>
   rw[e] at e';cases e';rw[l] at l';obtain⟨l1,l2⟩:=List.append_inj' l' rfl;cases l1;cases l2;rw[x.uniq y];exact⟨rfl,rfl⟩
  |againN _ l'=>rw[l] at l';exact absurd l' (List.append_ne_nil_of_right_ne_nil _ (List.cons_ne_nil _ _))
 | againN e l=>cases g with
  |none _ e'=>rw[e] at e';cases e'
  |again _ l' _=>rw[l] at l';exact absurd l'.symm (List.append_ne_nil_of_right_ne_nil _ (List.cons_ne_nil _ _))
  |againN _ _=>exact⟨rfl,rfl⟩
 | ask e t=>cases g with
  |none _ e'=>rw[e] at e';cases e'
  |ask e' t'=>rw[e] at e';cases e';cases t.uniq t';exact⟨rfl,rfl⟩
  |askN e' t'=>rw[e] at e';cases e';cases t.uniq t'
 | askN e t=>cases g with
  |none _ e'=>rw[e] at e';cases e'
  |ask e' t'=>rw[e] at e';cases e';cases t.uniq t'
  |askN e' t'=>rw[e] at e';cases e';cases t.uniq t';exact⟨rfl,rfl⟩
noncomputable def q7h(w:Str)(ws:List Str):Prop:=(w = "put"/\BadChg ws)\/(w≠"put"/\(valD nbl w≠.int (ws.length:Int)\/∃p,p∈ws/\figN 6 p.cps.toList=false))
noncomputable def q70(C:Addr):Sp:=λvs H Q E=>∃(l:Addr) (z:Str) (ws:List Str),vs=[.str z,.ref l]/\H l=some (.lst (ws.map V.str))/\ws.length<=90000/\(∀p,p∈ws->p.length<=80000)/\q7h z ws/\∀H',Same H H'->E (.ref C) none H'
theorem valD_scal(z:Str)(n:Int):scal (valD nbl z) (.int n)=true:=by
 unfold valD;split<;>rfl
theorem ok_rbehN{AB:Addr}(F:Fun K "read_behind" "read_behind" q0g f fd)(Z:Blt mg)(NB:NumD K w AB nbl)(mB:mg "NUMBERS_BEHIND" = some (.ref AB))(O:PyProof.Rows.OwnCls "NoShape" C bmV "ValueError.__new__" mg base)
  (y0b:DefE P w K mg base k "read_changes" ["words"] (q6z C))(yx:DefE P w K mg base k "read_figures" ["word"] (q4f C)):FnOk P w K mg base (CXE P w) (k+1) f fd ["word","words"] (q70 C):=by
 refine F.okE q2E (λvs H Q E h=>?_) (λcdv A outer s H vs Q E hr h=>?_)
 ·obtain⟨l,z,ws,rfl,_⟩:=h
  rfl
 obtain⟨l,z,ws,rfl,hl,hn,hb,bad,fin⟩:=h;have hw:(ws.map V.str).length=ws.length:=List.length_map _
 w_up
 ·apply qB
  ·apply qY
   exact(qL q0X (pv 0) qE (qU _))
   ·apply qC
    exact(qK (qd y0b hr rfl qz (pa_cons (pv 1) qA)))
   exact qO
  apply qB
  ·apply qY
   exact(qL q3o (q7Q (K:=K) (w:=w) rfl rfl NB (q0R (v:=.ref _) rfl mB rfl) (pv 0) ⟨rfl,rfl,rfl,rfl⟩) (qP (qQ (K:=K) rfl) rfl Z.len_ PySem.boot_len (pa_cons (pv 1) qA)) (qU _))
   ·apply qC
    exact(q07 thrE rfl O PySem.F.excBase_ValueError rfl (pa_cons qE qA))
   exact qO
  apply qC;exact(qK (pe_lcE rfl (N':=["one"]) (ix:=[none]) rfl rfl (by decide +kernel) rfl rfl rfl rfl (qm (K:=K) rfl (pv 1)) (λ_ _ _ _=>(qZ (i:=0) (show List.Nodup (["one"]:List Str) by decide +kernel) rfl (by k_ne))) (λ_ _ _ _=>qq) (λ_ _ _ _=>(qd yx hr rfl passB (pa_cons (pv 0) qA)))))
 lk;refine ifD (λhz=>?_) (λhz=>?_)
 ·have hz:=V.str.inj hz
  rcases bad with⟨_,bad⟩|⟨hne,_⟩
  case inr=>exact absurd hz hne
  lk;exact⟨l,ws,rfl,hl,hn,hb,bad,fin⟩
 ·have hz':z≠Str.ofString "put":=λq=>hz (congrArg V.str q)
  rcases bad with⟨q,_⟩|⟨_,bad⟩
  ·exact absurd q hz'
  lk;refine⟨l,_,rfl,.inl (SqL.of hl),?_⟩;rw[hw];lk;refine⟨valD_scal z _,?_⟩;by_cases h1:valD nbl z = .int (ws.length:Int)
  case neg=>
   refine⟨_,rfl,?_⟩;rw[decide_eq_false h1];lk;exact⟨by decide,fin _ (Same.refl _)⟩
  refine⟨_,rfl,?_⟩;rw[decide_eq_true h1];obtain⟨p,hp,hf⟩:=bad.resolve_left λq=>q h1;obtain⟨j,hj,ej⟩:=List.getElem_of_mem hp;lk;refine⟨⟨_,SqL.of hl⟩,?_⟩;intro acc hacc;refine qp (n:=ws.length) (λi τ zs H'=>H' acc=some (.lst zs)/\zs.length=i/\i<=j/\Same H H'/\∃o0,τ=[o0]) ⟨q0,rfl,Nat.zero_le _,Same.new hacc _,none,rfl⟩ (by lia) ?_ ?_ ?_ ?_
  ·rintro i τ zs H' ⟨e,hz,_⟩
   exact⟨e,by lia⟩
  ·rintro i τ zs H' hi ⟨e,_,_,sm,_⟩
   exact⟨_,V.str ws[i],SqL.of (sm _ _ hl),by rw[List.getElem?_map,List.getElem?_eq_getElem hi];rfl⟩
  ·rintro τ zs H' ⟨e,_,hle,_⟩
   lia
  ·rintro i τ zs H' v H2 hi ⟨e,hz,hle,sm,o0,rfl⟩ ⟨rfl,y⟩
   have ey:=y _ (SqL.of (sm _ _ hl));rw[List.getElem?_map,List.getElem?_eq_getElem hi] at ey;obtain rfl:V.str ws[i]=v:=Option.some.inj ey;lk;refine⟨Nat.le_trans (hb _ (List.getElem_mem hi)) (by decide),λg1 H3 s3=>?_,λ_ H3 s3=>fin _ (sm.trans s3)⟩;have hlt:i < j:=by
    rcases Nat.lt_or_eq_of_le hle with h|rfl
    ·exact h
    ·rw[ej,hf] at g1;cases g1
   refine⟨s3 _ _ e,Nx.mk hi ⟨q0,by rw[List.length_append,hz];rfl,hlt,(sm.trans s3).upd hacc,_,rfl⟩⟩
noncomputable def q0w(z:Str):Prop:=∃w0 r,q0Z z=w0::r/\((w0 = "row"/\r≠[]/\(q0Z (Txt.slice z (some 4) none)).all isB=false)\/(¬(w0 = "row"/\r≠[])/\q7h w0 r))
noncomputable def sp_sayN(C N:Addr):Sp:=λvs H Q E=>∃(d e u:Addr) (st:Dst) (z:Str),vs=[.ref d,.str z]/\DeskAt C H d e u st/\z.length<=80000/\q0w z/\∀H',Same H H'->E (.ref N) none H'
theorem ok_sayN(F:Fun K "say" "Desk.say" q23 f fd)(Z:Blt mg)(DD:DC K C)
  (yl:DefE P w K mg base k "read_text" ["text"] (q5P N))(ym:DefE P w K mg base k "read_behind" ["word","words"] (q70 N))(yc:MDef (CXE P w) P w K mg base k C "lay" ["self","row"] (q73 C)):
  FnOk P w K mg base (CXE P w) (k+1) f fd ["self","row"] (sp_sayN C N):=by
 refine F.okE sc_Desk_say (λvs H Q E h=>?_) (λcdv A outer s H vs Q E hr h=>?_)
 ·obtain⟨d,e,u,st,z,rfl,_⟩:=h
  rfl
 obtain⟨d,e,u,st,z,rfl,hD,hz,⟨w0,r,hsp,hbad⟩,bad⟩:=h;have CL:=DD.cl
 w_up
 ·apply qB
  exact(ps_set (i:=2) sc_Desk_say.nd rfl (by k_ne) (q5i PySem.F.plainAttrs_str PySem.F.slot_str_split PySem.F.type_str_split q3P (pv 1) (pa_cons qE qA)));apply qB;exact(ps_set (i:=3) sc_Desk_say.nd rfl (by k_ne) (qM (qR (K:=K) rfl) (pv 2) qD (λ_ _=>rfl)));apply qB
  ·apply qY
   exact(PW.pt (q5e (qL q0X (pv 3) qE (qU _)) (q3j (qL q35 (qP (qQ (K:=K) rfl) rfl Z.len_ PySem.boot_len (pa_cons (pv 2) qA)) qD (qU _)))))
   ·apply qC
    exact(qK (q2h yc CL hr qz (pv 0) (pa_cons (qd yl hr rfl qz (pa_cons (qr q38 (pv 1) (q04 (qP q06 rfl Z.len_ PySem.boot_len (pa_cons qE qA))) q05) qA)) qA)))
   exact qO
  apply qB;exact(ps_set (i:=4) sc_Desk_say.nd rfl (by k_ne) (qd ym hr rfl qz (pa_cons (pv 3) (pa_cons (qr (q0e (K:=K) rfl) (pv 2) (q04 qD) q05) qA))));exact q03
 have hlen:=q5M z;have hws:∀p,p∈q0Z z->p.length<=z.length:=λp hp=>PyProof.Rows.part_short hp;rw[show Txt.split z (Str.ofString " ")=q0Z z from rfl,hsp,List.length_cons] at hlen;lk;refine⟨Nat.le_of_lt (small (by lia)),Nat.le_of_lt (small (by rw[show Txt.split z (Str.ofString " ")=q0Z z from rfl,hsp,List.length_cons];lia)),λl hl0=>?_⟩;rw[show Txt.split z (Str.ofString " ")=w0::r from hsp];have s1:=Same.new hl0 (.lst ((w0::r).map V.str))
 obtain⟨H1,eH1⟩:∃z,z=upd H l (.lst ((w0::r).map V.str)):=⟨_,rfl⟩
 rw[<-eH1] at s1 ⊢;have hl:H1 l=some (.lst ((w0::r).map V.str)):=by rw[eH1,q0]
 have hD1:=hD.keep s1;obtain⟨dx,v,xe,xu,h1,hv,h3,h4,h5,h6⟩:=hD1.ex;have hlr:(((w0::r).map V.str).length:Int)=(r.length:Int)+1:=by
  rw[List.length_map,List.length_cons];rfl
 have beh:¬(w0 = "row"/\r≠[])->q7h w0 r:=λhn=>by
  rcases hbad with⟨q1,q2,_⟩|⟨_,q⟩
  ·exact absurd ⟨q1,q2⟩ hn
  ·exact q
 lk;refine⟨l,_,0,_,rfl,rfl,SqL.of hl,qi (j:=0) (v:=.str w0) rfl,?_⟩;lk;refine ifD (λhw=>?_) (λhw=>?_)
 ·have hw:=V.str.inj hw
  lk;refine⟨l,_,rfl,.inl (SqL.of hl),?_⟩;lk;rw[hlr]
  by_cases hr1:r=[]
  ·rw[decide_eq_false (show¬((r.length:Int)+1 > 1) by rw[hr1];decide)]
   lk;refine⟨l,_,rfl,SqL.of hl,λp hp=>?_⟩;rw[cut1];have s2:=Same.new hp (.lst (r.map V.str));lk;exact⟨p,w0,r,rfl,q0,by lia,λq hq=>Nat.le_trans (hws q (by rw[hsp];exact List.mem_cons_of_mem _ hq)) hz,beh (λq=>q.2 hr1),λH' s'=>bad _ ((s1.trans s2).trans s')⟩
  ·have hr2:1<=r.length:=List.length_pos_iff.mpr hr1
   rw[decide_eq_true (show(r.length:Int)+1 > 1 by lia)];rcases hbad with⟨_,_,q⟩|⟨q,_⟩
   case inr=>exact absurd ⟨hw,hr1⟩ q
   lk;refine⟨d,dx,_,rfl,h1,rfl,?_⟩;lk;refine⟨by decide,?_⟩;lk;refine⟨Nat.le_of_lt (small (by lia)),?_⟩;lk;exact⟨Nat.le_trans (Txt.slice_le z _ _) hz,q,λH' s'=>bad _ (s1.trans s')⟩
 ·have hw':w0≠Str.ofString "row":=λq=>hw (congrArg V.str q)
  lk;refine⟨l,_,rfl,SqL.of hl,λp hp=>?_⟩;rw[cut1];have s2:=Same.new hp (.lst (r.map V.str));lk;exact⟨p,w0,r,rfl,q0,by lia,λq hq=>Nat.le_trans (hws q (by rw[hsp];exact List.mem_cons_of_mem _ hq)) hz,beh (λq=>hw' q.1),λH' s'=>bad _ ((s1.trans s2).trans s')⟩
noncomputable def q2p(C N:Addr)(cls:Nat->Addr):Sp:=λvs H Q E=>sp_say C cls vs H Q E\/sp_sayN C N vs H Q E
noncomputable def q3J(C:Addr):Sp:=λvs H Q _=>∃(d e u:Addr) (st:Dst) (z:Str),vs=[.ref d,.str z]/\DeskAt C H d e u st/\
 ((∃c:Cmd,z=c.text/\c.ok/\st.earlier.length<=900/\
  (∀(z:Str) (st':Dst) (e' u':Addr) (H':Hp),(e'=e\/H e'=none)->(u'=u\/H u'=none)->FrD d e u H H'->DeskAt C H' d e' u' st'->Says st c (.ans z) st'->Q (.str z) H')/\
  ∀(i:Nat) (l:Addr) (H':Hp),Same H H'->H l=none->H' l=some (.lst ((due i).map V.bl))->Says st c (.ref i) st->Q (.ref l) H') \/
 (z.length<=80000/\q0w z/\∀(l:Addr) (H':Hp),Same H H'->H l=none->H' l=some (.lst ((due 5).map V.bl))->Q (.ref l) H'))
theorem ok_saidA{T c5 c6 c7 c8:Addr}(F:Fun K "_law_said" "_law_said" q2x f fd)(Y:Errs mg T c1 c2 c3 c4 c5 c6 c7 c8)(W:Ws K T c1 c2 c3 c4 c5 c6 c7 c8)
  (W6:Fault K T c1 c2 c3 c4 c5 c6 c7 c8 c6 false false false false false true false false)(DD:DC K C)
  (y4:MDef (CXE P w) P w K mg base k C "say" ["self","row"] (q2p C c6 (clsD c1 c2 c3 c4 c7 c8)))(y0P:Def P w K mg base k "_law_flags" ["e"] (q76 K T c1 c2 c3 c4 c5 c6 c7 c8)):FnOk P w K mg base CX0 (k+1) f fd ["desk","row"] (q3J C):=by
 refine F.ok sc_law_said (λvs H Q E h=>?_) (λcdv A outer s H vs Q E hr h=>?_)
 ·obtain⟨d,e,u,st,z,rfl,_⟩:=h
  rfl
 obtain⟨d,e,u,st,z,rfl,hD,hcase⟩:=h;have CL:=DD.cl;obtain⟨dx,v,xe,xu,h1,_⟩:=id hD.ex
 w_up
 ·apply qB
  exact(ps_set (i:=2) sc_law_said.nd rfl (by k_ne) qu);apply qB;exact(ps_set (i:=3) sc_law_said.nd rfl (by k_ne) qu);apply qB
  ·refine' ps_tryK (i:=4) sc_law_said.nd rfl rfl rfl rfl rfl Y.top ?hb ?hh
   case hb=>exact λpins xe E hp=>(qC (ps_set (i:=3) sc_law_said.nd rfl (by k_ne) (q2h y4 CL hr hp (pv 0) (pa_cons (pv 1) qA))))
   case hh=>
    intro a o pins C hC;apply qC;exact(ps_set (i:=2) sc_law_said.nd rfl (by k_ne) (pv 4))
  apply qB
  ·apply qY
   exact(qL q1o (pv 2) qu (qU _))
   ·apply qC
    exact(qK (pv 3))
   exact qO
  apply qC;exact(qK (qI y0P hr rfl (pa_cons (pv 2) qA)))
 lk;refine⟨d,dx,_,rfl,h1,rfl,?_⟩;lk;rcases hcase with⟨c,rfl,hok,hfew,fin,bad⟩|⟨hz,hF,bad⟩
 ·refine .inl ⟨d,e,u,st,c,rfl,hD,hok,hfew,λz st' e' u' H' he hu fr hD' hs=>?_,λi H1 s1 hs=>?_⟩
  ·lk
   exact fin z st' e' u' H' he hu fr hD' hs
  ·obtain⟨b1,b2,b3,b4,b5,b6,b7,b8,hW,hb⟩:=W.at hs.few
   refine⟨hW.exm,λa σ' ha hlen=>?_⟩
   match σ',hlen with
   | [u0,u1,u2,u3,u4],_=>
    lk;have s2:=Same.new ha (exV a (.ref (clsD c1 c2 c3 c4 c7 c8 i)));refine⟨a,_,b1,b2,b3,b4,b5,b6,b7,b8,rfl,q0,hW,λl H3 s3 hl hl3=>?_⟩;rw[hb] at hl3;have s12:=s1.trans s2;exact bad i l H3 (s12.trans s3) (s12.free hl) hl3 hs
 ·refine .inr ⟨d,e,u,st,z,rfl,hD,hz,hF,λH1 s1=>?_⟩
  refine⟨W6.exm,λa σ' ha hlen=>?_⟩
  match σ',hlen with
  | [u0,u1,u2,u3,u4],_=>
   lk;have s2:=Same.new ha (exV a (.ref c6));refine⟨a,_,_,_,_,_,_,_,_,_,rfl,q0,W6,λl H3 s3 hl hl3=>?_⟩;have s12:=s1.trans s2;exact bad l H3 (s12.trans s3) (s12.free hl) hl3
theorem q3U(x y z:Str):x++y++z=x++(y++z):=q4J (by simp only[Str.cps_append,Array.toList_append,List.append_assoc])
theorem q1s(z:Str):∀(x:Str) (l:List Str),Txt.join (Str.ofString " ") (x::l++[z])=Txt.join (Str.ofString " ") (x::l)++Str.ofString " "++z
 | x,[]=>by
  have e:Str.ofString " " = ⟨#[32]⟩:=rfl;show Txt.join (Str.ofString " ") (x::z::[])=_;rw[q1A,q0C,q0C,e]
 | x,y::l=>by
  have e:Str.ofString " " = ⟨#[32]⟩:=rfl;show Txt.join (Str.ofString " ") (x::y::(l++[z]))=_;rw[q1A,show y::(l++[z])=y::l++[z] from rfl,q1s z y l,q1A,<-e];simp only[q3U]
theorem q0l(x y:Str):(x++y).length=x.length+y.length:=by
 show(x++y).cps.size=_;rw[Str.cps_append,Array.size_append];rfl
noncomputable def badP:List Str->Bool
 |a::b::r=>!figN 6 a.cps.toList ||!numB b.cps.toList ||badP r
 |_=>false
theorem badP_of:∀{ws:List Str},badP ws=true->∃j,badC1 ws j
 |[],h=>by cases h
 |[_],h=>by cases h
 | a::b::r,h=>by
  unfold badP at h;rw[Bool.or_eq_true,Bool.or_eq_true] at h;rcases h with(h|h)|h
  ·exact⟨0,a,b,rfl,rfl,.inl (by simpa using h)⟩
  ·exact⟨0,a,b,rfl,rfl,.inr (by simpa using h)⟩
  ·obtain⟨j,x,y,e1,e2,e3⟩:=badP_of h
   exact⟨j+1,x,y,by rw[show 2*(j+1)=2*j+1+1 by lia];exact e1,by rw[show 2*(j+1)+1=2*j+1+1+1 by lia];exact e2,e3⟩
noncomputable def badB(w:Str)(ws:List Str):Bool:=
 if w = "put" then !(decide (2<=ws.length) && decide (ws.length<=40)) ||decide (ws.length%2=1) ||badP ws else !decide (valD nbl w = .int (ws.length:Int)) ||ws.any λp=>!figN 6 p.cps.toList
theorem badB_of{w:Str}{ws:List Str}(h:badB w ws=true):q7h w ws:=by
 unfold badB at h;by_cases hw:w = "put"
 ·rw[if_pos hw,Bool.or_eq_true,Bool.or_eq_true] at h
  refine .inl ⟨hw,?_⟩;rcases h with(h|h)|h
  ·exact .inl (by rw[Bool.not_eq_true',Bool.and_eq_false_iff,decide_eq_false_iff_not,decide_eq_false_iff_not] at h;lia)
  ·exact .inr (.inl (by simpa using h))
  ·exact .inr (.inr (badP_of h))
 ·rw[if_neg hw,Bool.or_eq_true] at h
  refine .inr ⟨hw,?_⟩;rcases h with h|h
  ·exact .inl (by simpa using h)
  ·obtain⟨p,hp,e⟩:=List.any_eq_true.mp h
   exact .inr ⟨p,hp,by simpa using e⟩
noncomputable def formB(z:Str):Bool:=match q0Z z with
 |[]=>false
 |w0::r=>if w0 = "row"/\r≠[] then !(q0Z (Txt.slice z (some 4) none)).all isB else badB w0 r
theorem q7W(h:formB z=true):q0w z:=by
 unfold formB at h
 cases e:q0Z z with
 |nil=>rw[e] at h;cases h
 | cons w0 r=>
  rw[e] at h;dsimp only at h;refine⟨w0,r,e.symm▸rfl,?_⟩;by_cases hr:w0 = "row"/\r≠[]
  ·rw[if_pos hr] at h
   exact .inl ⟨hr.1,hr.2,by simpa using h⟩
  ·rw[if_neg hr] at h
   exact .inr ⟨hr,badB_of h⟩
noncomputable def formL1:List Str:=[""," ","rows","row ","row x","row 01","row -0","row 1  2","row 1 "," row 1","row --1","put"]
noncomputable def formL2:List Str:=["put 0","put 0 1 2","put x 1","put 0 x","put 01 1","put -1 1","put 0 -0","put 1000000 1"]
noncomputable def formL3:List Str:=[Str.ofString "put"++repS " 0 1" 21,"undo 1","again ","best 1","part 0","part 0 1 2","part -1 1","length 1"]
noncomputable def formL4:List Str:=["length 01 2","ring 1","apart 1","apart 1 x","bars 1","bars 1 0 0","must","must x"]
noncomputable def formL5:List Str:=["must 1 2"]
noncomputable def formL6:List Str:=["best\n","row 1\n2","Best","part 0 1000000","must 1234567",Str.ofString "row "++repS "9" 31]
noncomputable def q5y:List Str:=["apart -1 0","row +1","put 0 +1",Str.ofString "put 0 "++repS "9" 31]
noncomputable abbrev longT:Str:=Str.ofString "must 0"++repS "9" 5000
noncomputable def formL:List Str:=formL1++formL2++formL3++formL4++formL5++formL6++(q5y++[longT])
theorem formL_ok:((formL1++formL2++formL3++formL4++formL5++formL6++q5y).all λz=>formB z && decide (z.length<=200))=true:=by decide +kernel
theorem rep_mem(a:Array Nat):∀(n:Nat) (b:Array Nat) (c:Nat),c∈((List.replicate n a).foldl (·++·) b).toList->c∈b.toList\/c∈a.toList
 |0,b,c,h=>.inl h
 | n+1,b,c,h=>by
  rw[List.replicate_succ,List.foldl_cons] at h;rcases rep_mem a n (b++a) c h with h|h
  ·rw[Array.toList_append] at h
   exact List.mem_append.mp h
  ·exact .inr h
theorem longT_ok:q0w longT/\longT.length<=80000:=by
 have hw:(Str.ofString "0"++repS "9" 5000).length=5001:=by
  rw[q0l,q0h];rfl
 have ht:longT=Txt.join (Str.ofString " ") [Str.ofString "must",Str.ofString "0"++repS "9" 5000]:=by
  rw[q1A,q0C];unfold longT;rw[<-q3U];rfl
 have hs:q0Z longT=[Str.ofString "must",Str.ofString "0"++repS "9" 5000]:=by
  rw[ht];refine q2o (List.cons_ne_nil _ _) λp hp=>?_;rcases List.mem_cons.mp hp with rfl|hp
  ·decide
  ·rw[List.mem_singleton.mp hp]
   intro h;rw[Str.cps_append,Array.toList_append] at h;rcases List.mem_append.mp h with h|h
   ·exact absurd h (by decide)
   ·rcases rep_mem _ _ _ _ h with h|h
    ·cases h
    ·exact absurd h (by decide)
 refine⟨⟨_,_,hs,.inr ⟨λz=>absurd z.1 (by decide),.inr ⟨by decide,.inr ⟨_,List.mem_singleton.mpr rfl,q62 ?_⟩⟩⟩⟩,?_⟩
 ·rw[Array.length_toList]
  show¬(Str.ofString "0"++repS "9" 5000).length<=6;rw[hw];decide
 ·unfold longT
  rw[q0l,q0h];decide
theorem q5x(h:z∈formL):q0w z/\z.length<=80000:=by
 unfold formL at h;rw[<-List.append_assoc] at h;rcases List.mem_append.mp h with h|h
 ·have:=List.all_eq_true.mp formL_ok z h
  rw[Bool.and_eq_true,decide_eq_true_iff] at this;exact⟨q7W this.1,by lia⟩
 ·rw[List.mem_singleton.mp h]
  exact longT_ok
noncomputable def q3a:Sp:=λvs H Q _=>vs=[]/\∀(l:Addr) (H':Hp),Same H H'->H l=none->H' l=some (.lst (formL.map V.str))->Q (.ref l) H'
theorem q6d(F:Fun K "_law_formless" "_law_formless" q11 f fd):FnOk P w K mg base CX0 (k+1) f fd [] q3a:=by
 refine F.ok sc_law_formless (λvs H Q E h=>?_) (λcdv A outer s H vs Q E hr h=>?_)
 ·obtain⟨rfl,_⟩:=h
  rfl
 obtain⟨rfl,fin⟩:=h
 w_up
 ·refine' qB ?g1 ?r1
  case g1=>
   refine' @L2.ps_set _ _ 0 _ _ _ _ sc_law_formless.nd rfl (by k_ne) ?he rfl (by k_ne)
   case he=>
    refine' @L2.pe_lst _ _ _ _ ?ha
    case ha=>
     refine' @L2.pa_cons _ _ _ _ _ ?hx0 ?ha0 rfl
     case hx0=>exact qE
     case ha0=>
      refine' @L2.pa_cons _ _ _ _ _ ?hx1 ?ha1 rfl
      case hx1=>exact qE
      case ha1=>
       refine' @L2.pa_cons _ _ _ _ _ ?hx2 ?ha2 rfl
       case hx2=>exact qE
       case ha2=>
        refine' @L2.pa_cons _ _ _ _ _ ?hx3 ?ha3 rfl
        case hx3=>exact qE
        case ha3=>
         refine' @L2.pa_cons _ _ _ _ _ ?hx4 ?ha4 rfl
         case hx4=>exact qE
         case ha4=>
          refine' @L2.pa_cons _ _ _ _ _ ?hx5 ?ha5 rfl
          case hx5=>exact qE
          case ha5=>
           refine' @L2.pa_cons _ _ _ _ _ ?hx6 ?ha6 rfl
           case hx6=>exact qE
           case ha6=>
            refine' @L2.pa_cons _ _ _ _ _ ?hx7 ?ha7 rfl
            case hx7=>exact qE
            case ha7=>
             refine' @L2.pa_cons _ _ _ _ _ ?hx8 ?ha8 rfl
             case hx8=>exact qE
             case ha8=>
              refine' @L2.pa_cons _ _ _ _ _ ?hx9 ?ha9 rfl
              case hx9=>exact qE
              case ha9=>
               refine' @L2.pa_cons _ _ _ _ _ ?hx10 ?ha10 rfl
               case hx10=>exact qE
               case ha10=>
                refine' @L2.pa_cons _ _ _ _ _ ?hx11 ?ha11 rfl
                case hx11=>exact qE
                case ha11=>
                 exact qA
  case r1=>
   refine' qB ?g2 ?r2
   case g2=>
    refine' @L2.ps_set _ _ 0 _ _ _ _ sc_law_formless.nd rfl (by k_ne) ?he rfl (by k_ne)
    case he=>
     refine' qT q0E (pv 0) ?hl
     case hl=>
      refine' @L2.pe_lst _ _ _ _ ?ha
      case ha=>
       refine' @L2.pa_cons _ _ _ _ _ ?hx0 ?ha0 rfl
       case hx0=>exact qE
       case ha0=>
        refine' @L2.pa_cons _ _ _ _ _ ?hx1 ?ha1 rfl
        case hx1=>exact qE
        case ha1=>
         refine' @L2.pa_cons _ _ _ _ _ ?hx2 ?ha2 rfl
         case hx2=>exact qE
         case ha2=>
          refine' @L2.pa_cons _ _ _ _ _ ?hx3 ?ha3 rfl
          case hx3=>exact qE
          case ha3=>
           refine' @L2.pa_cons _ _ _ _ _ ?hx4 ?ha4 rfl
           case hx4=>exact qE
           case ha4=>
            refine' @L2.pa_cons _ _ _ _ _ ?hx5 ?ha5 rfl
            case hx5=>exact qE
            case ha5=>
             refine' @L2.pa_cons _ _ _ _ _ ?hx6 ?ha6 rfl
             case hx6=>exact qE
             case ha6=>
              refine' @L2.pa_cons _ _ _ _ _ ?hx7 ?ha7 rfl
              case hx7=>exact qE
              case ha7=>
               exact qA
   case r2=>
    refine' qB ?g3 ?r3
    case g3=>
     refine' @L2.ps_set _ _ 0 _ _ _ _ sc_law_formless.nd rfl (by k_ne) ?he rfl (by k_ne)
     case he=>
      refine' qT q0E (pv 0) ?hl
      case hl=>
       refine' @L2.pe_lst _ _ _ _ ?ha
       case ha=>
        refine' @L2.pa_cons _ _ _ _ _ ?hx0 ?ha0 rfl
        case hx0=>exact(qT qX qE (qT q19 qE qD))
        case ha0=>
         refine' @L2.pa_cons _ _ _ _ _ ?hx1 ?ha1 rfl
         case hx1=>exact qE
         case ha1=>
          refine' @L2.pa_cons _ _ _ _ _ ?hx2 ?ha2 rfl
          case hx2=>exact qE
          case ha2=>
           refine' @L2.pa_cons _ _ _ _ _ ?hx3 ?ha3 rfl
           case hx3=>exact qE
           case ha3=>
            refine' @L2.pa_cons _ _ _ _ _ ?hx4 ?ha4 rfl
            case hx4=>exact qE
            case ha4=>
             refine' @L2.pa_cons _ _ _ _ _ ?hx5 ?ha5 rfl
             case hx5=>exact qE
             case ha5=>
              refine' @L2.pa_cons _ _ _ _ _ ?hx6 ?ha6 rfl
              case hx6=>exact qE
              case ha6=>
               refine' @L2.pa_cons _ _ _ _ _ ?hx7 ?ha7 rfl
               case hx7=>exact qE
               case ha7=>
                exact qA
    case r3=>
     refine' qB ?g4 ?r4
     case g4=>
      refine' @L2.ps_set _ _ 0 _ _ _ _ sc_law_formless.nd rfl (by k_ne) ?he rfl (by k_ne)
      case he=>
       refine' qT q0E (pv 0) ?hl
       case hl=>
        refine' @L2.pe_lst _ _ _ _ ?ha
        case ha=>
         refine' @L2.pa_cons _ _ _ _ _ ?hx0 ?ha0 rfl
         case hx0=>exact qE
         case ha0=>
          refine' @L2.pa_cons _ _ _ _ _ ?hx1 ?ha1 rfl
          case hx1=>exact qE
          case ha1=>
           refine' @L2.pa_cons _ _ _ _ _ ?hx2 ?ha2 rfl
           case hx2=>exact qE
           case ha2=>
            refine' @L2.pa_cons _ _ _ _ _ ?hx3 ?ha3 rfl
            case hx3=>exact qE
            case ha3=>
             refine' @L2.pa_cons _ _ _ _ _ ?hx4 ?ha4 rfl
             case hx4=>exact qE
             case ha4=>
              refine' @L2.pa_cons _ _ _ _ _ ?hx5 ?ha5 rfl
              case hx5=>exact qE
              case ha5=>
               refine' @L2.pa_cons _ _ _ _ _ ?hx6 ?ha6 rfl
               case hx6=>exact qE
               case ha6=>
                refine' @L2.pa_cons _ _ _ _ _ ?hx7 ?ha7 rfl
                case hx7=>exact qE
                case ha7=>
                 exact qA
     case r4=>
      refine' qB ?g5 ?r5
      case g5=>
       exact(ps_set (i:=0) sc_law_formless.nd rfl (by k_ne) (qT q0E (pv 0) (pe_lst (pa_cons qE qA))))
      case r5=>
       refine' qB ?g6 ?r6
       case g6=>
        refine' @L2.ps_set _ _ 0 _ _ _ _ sc_law_formless.nd rfl (by k_ne) ?he rfl (by k_ne)
        case he=>
         refine' qT q0E (pv 0) ?hl
         case hl=>
          refine' @L2.pe_lst _ _ _ _ ?ha
          case ha=>
           refine' @L2.pa_cons _ _ _ _ _ ?hx0 ?ha0 rfl
           case hx0=>exact qE
           case ha0=>
            refine' @L2.pa_cons _ _ _ _ _ ?hx1 ?ha1 rfl
            case hx1=>exact qE
            case ha1=>
             refine' @L2.pa_cons _ _ _ _ _ ?hx2 ?ha2 rfl
             case hx2=>exact qE
             case ha2=>
              refine' @L2.pa_cons _ _ _ _ _ ?hx3 ?ha3 rfl
              case hx3=>exact qE
              case ha3=>
               refine' @L2.pa_cons _ _ _ _ _ ?hx4 ?ha4 rfl
               case hx4=>exact qE
               case ha4=>
                refine' @L2.pa_cons _ _ _ _ _ ?hx5 ?ha5 rfl
                case hx5=>exact(qT qX qE (qT q19 qE qD))
                case ha5=>
                 exact qA
       case r6=>
        refine' qC ?g7
        case g7=>
         exact(qK (qT q0E (pv 0) (pe_lst (pa_cons qE (pa_cons qE (pa_cons qE (pa_cons (qT qX qE (qT q19 qE qD)) (pa_cons (qT qX qE (qT q19 qE qD)) qA))))))))
 refine seqU (λσ' H'=>∃l,Same H H'/\H l=none/\H' l=some (.lst (formL1.map V.str))/\σ'=[some (.ref l)]) ?_ (λR hR=>?_)
 case refine_2=>
  lk;refine⟨by show 12<=sizeLine;decide,λl hl=>?_⟩;exact hR _ _ ⟨l,Same.new hl _,hl,q0,rfl⟩
 rintro σ' H1 ⟨l1,s1,n1,h1,rfl⟩;refine seqU (λσ' H'=>∃l,Same H H'/\H l=none/\H' l=some (.lst ((formL1++formL2).map V.str))/\σ'=[some (.ref l)]) ?_ (λR hR=>?_)
 case refine_2=>
  lk;refine⟨by show 8<=sizeLine;decide,λp hp=>?_⟩;have t1:=Same.new hp (.lst (formL2.map V.str));refine⟨l1,p,_,_,rfl,rfl,t1 _ _ h1,q0,Nat.le_of_lt (small (by decide)),λq hq=>?_⟩;have t2:=Same.new hq (.lst ((formL1).map V.str++formL2.map V.str));exact hR _ _ ⟨q,s1.trans (t1.trans t2),(s1.trans t1).free hq,by rw[List.map_append];exact q0,rfl⟩
 rintro σ' H1 ⟨l1,s1,n1,h1,rfl⟩;refine seqU (λσ' H'=>∃l,Same H H'/\H l=none/\H' l=some (.lst ((formL1++formL2++formL3).map V.str))/\σ'=[some (.ref l)]) ?_ (λR hR=>?_)
 case refine_2=>
  lk;refine⟨by decide,by decide,by decide,?_⟩;lk;refine⟨by rw[q0h];decide,?_⟩;lk;refine⟨by show 8<=sizeLine;decide,λp hp=>?_⟩;have t1:=Same.new hp (.lst (formL3.map V.str));refine⟨l1,p,_,_,rfl,rfl,t1 _ _ h1,q0,Nat.le_of_lt (small (by decide)),λq hq=>?_⟩;have t2:=Same.new hq (.lst ((formL1++formL2).map V.str++formL3.map V.str));exact hR _ _ ⟨q,s1.trans (t1.trans t2),(s1.trans t1).free hq,by rw[List.map_append];exact q0,rfl⟩
 rintro σ' H1 ⟨l1,s1,n1,h1,rfl⟩;refine seqU (λσ' H'=>∃l,Same H H'/\H l=none/\H' l=some (.lst ((formL1++formL2++formL3++formL4).map V.str))/\σ'=[some (.ref l)]) ?_ (λR hR=>?_)
 case refine_2=>
  lk;refine⟨by show 8<=sizeLine;decide,λp hp=>?_⟩;have t1:=Same.new hp (.lst (formL4.map V.str));refine⟨l1,p,_,_,rfl,rfl,t1 _ _ h1,q0,Nat.le_of_lt (small (by decide)),λq hq=>?_⟩;have t2:=Same.new hq (.lst ((formL1++formL2++formL3).map V.str++formL4.map V.str));exact hR _ _ ⟨q,s1.trans (t1.trans t2),(s1.trans t1).free hq,by rw[List.map_append];exact q0,rfl⟩
 rintro σ' H1 ⟨l1,s1,n1,h1,rfl⟩;refine seqU (λσ' H'=>∃l,Same H H'/\H l=none/\H' l=some (.lst ((formL1++formL2++formL3++formL4++formL5).map V.str))/\σ'=[some (.ref l)]) ?_ (λR hR=>?_)
 case refine_2=>
  lk;refine⟨by show 1<=sizeLine;decide,λp hp=>?_⟩;have t1:=Same.new hp (.lst (formL5.map V.str));refine⟨l1,p,_,_,rfl,rfl,t1 _ _ h1,q0,Nat.le_of_lt (small (by decide)),λq hq=>?_⟩;have t2:=Same.new hq (.lst ((formL1++formL2++formL3++formL4).map V.str++formL5.map V.str));exact hR _ _ ⟨q,s1.trans (t1.trans t2),(s1.trans t1).free hq,by rw[List.map_append];exact q0,rfl⟩
 rintro σ' H1 ⟨l1,s1,n1,h1,rfl⟩;refine seqU (λσ' H'=>∃l,Same H H'/\H l=none/\H' l=some (.lst ((formL1++formL2++formL3++formL4++formL5++formL6).map V.str))/\σ'=[some (.ref l)]) ?_ (λR hR=>?_)
 case refine_2=>
  lk;refine⟨by decide,by decide,by decide,?_⟩;lk;refine⟨by rw[q0h];decide,?_⟩;lk;refine⟨by show 6<=sizeLine;decide,λp hp=>?_⟩;have t1:=Same.new hp (.lst (formL6.map V.str));refine⟨l1,p,_,_,rfl,rfl,t1 _ _ h1,q0,Nat.le_of_lt (small (by decide)),λq hq=>?_⟩;have t2:=Same.new hq (.lst ((formL1++formL2++formL3++formL4++formL5).map V.str++formL6.map V.str));exact hR _ _ ⟨q,s1.trans (t1.trans t2),(s1.trans t1).free hq,by rw[List.map_append];exact q0,rfl⟩
 rintro σ' H1 ⟨l1,s1,n1,h1,rfl⟩;lk;refine⟨by decide,by decide,by decide,?_⟩;lk;refine⟨by rw[q0h];decide,?_⟩;lk;refine⟨by decide,by decide,by show 1*5000<=100000;decide,?_⟩;refine⟨_,_,rfl,rfl,by rw[q0h];show 6+5000*1<=sizeLine;decide,?_⟩;lk;refine⟨by show 5<=sizeLine;decide,λp hp=>?_⟩;have t1:=Same.new hp (.lst ((q5y++[longT]).map V.str));refine⟨l1,p,_,_,rfl,rfl,t1 _ _ h1,q0,Nat.le_of_lt (small (by decide)),λq hq=>?_⟩;have t2:=Same.new hq (.lst ((formL1++formL2++formL3++formL4++formL5++formL6).map V.str++(q5y++[longT]).map V.str));exact fin q _ (s1.trans (t1.trans t2)) ((s1.trans t1).free hq) (by unfold formL;rw[List.map_append (l₂:=q5y++[longT])];exact q0)
noncomputable def powL:List Int:=[1,7,49,343,2401,16807]
noncomputable def numF(c:Int):List Int:=(List.range (2+c%5).toNat).map λk=>c/powL.getD k 1%9-4
theorem q7S(c:Int):(numF c).length=(2+c%5).toNat:=by unfold numF;rw[List.length_map,List.length_range]
theorem numF_at{c:Int}(h:i < (numF c).length):(numF c)[i]=c/powL.getD i 1%9-4:=by simp only[numF,List.getElem_map,List.getElem_range]
theorem q1p(c:Int):RowOk (numF c)/\2<=(numF c).length/\(numF c).length<=6:=by
 have h:=q7S c;refine⟨⟨by lia,by lia,λn hn=>?_⟩,by lia,by lia⟩;unfold numF at hn;obtain⟨k,_,rfl⟩:=List.mem_map.mp hn;have:=Int.emod_nonneg (c/powL.getD k 1) (show(9:Int)≠0 by decide);have:=Int.emod_lt_of_pos (c/powL.getD k 1) (show(0:Int) < 9 by decide)
 lia
noncomputable def q2R:Sp:=λvs H Q _=>∃c:Int,vs=[.int c]/\∀(l:Addr) (H':Hp),Same H H'->H l=none->H' l=some (.lst ((numF c).map V.int))->Q (.ref l) H'
theorem ok_numof(F:Fun K "_law_numbers_of" "_law_numbers_of" q0b f fd)(Z:Blt mg):FnOk P w K mg base CX0 (k+1) f fd ["first"] q2R:=by
 refine F.ok q2s (λvs H Q E h=>?_) (λcdv A outer s H vs Q E hr h=>?_)
 ·obtain⟨c,rfl,_⟩:=h
  rfl
 obtain⟨c,rfl,fin⟩:=h
 w_up
 ·apply qC
  exact(qK (q18 (N':=["k","first"]) (ix:=[none,some 0]) rfl rfl (by decide +kernel) rfl rfl rfl rfl (q0K rfl Z.range_ (pa_cons (qT qo qD (qT q0n (pv 0) qD)) qA)) (λ_ _ _ _=>(qZ (i:=0) (show List.Nodup (["k","first"]:List Str) by decide +kernel) rfl (by k_ne))) (λ_ _ _ _=>qq) (λ_ _ _ _=>(qT q0Q (qT q0n (qT q1L (pv 1) (qM q51 (pe_lst (pa_cons qD (pa_cons qD (pa_cons qD (pa_cons qD (pa_cons qD (pa_cons qD qA))))))) (pv 0) (λ_ _=>rfl))) qD) qD))))
 lk;refine⟨by lia,by lia,?_⟩
 obtain⟨n,en⟩:∃n:Nat,(2+c%5).toNat=n:=⟨_,rfl⟩
 have hl:=q7S c;rw[en] at hl ⊢;intro acc hacc;refine qp (n:=n) (λi τ zs H'=>H' acc=some (.lst zs)/\zs=((numF c).take i).map V.int/\Same H H'/\∃o0,τ=[o0,some (.int c)]) ⟨q0,rfl,Same.new hacc _,none,rfl⟩ (by lia) ?_ ?_ ?_ ?_
 ·rintro i τ zs H' ⟨e,rfl,_⟩
  exact⟨e,by rw[List.length_map,List.length_take];lia⟩
 ·rintro i τ zs H' hi _
  exact hi
 ·rintro τ zs H' ⟨e,rfl,sm,_⟩
  refine⟨Nat.le_refl _,fin acc H' sm hacc ?_⟩;rw[<-hl,List.take_length] at e;exact e
 ·rintro i τ zs H' v H2 hi ⟨e,rfl,sm,o0,rfl⟩ ⟨rfl,rfl⟩
  lk;refine⟨by show 6<=sizeLine;decide,λp hp=>?_⟩;have s1:=Same.new hp (.lst (powL.map V.int));lk;have hi6:i < powL.length:=by show i < 6;lia
  have ea:atI (powL.map V.int) (0+(i:Int))=some (.int powL[i]):=by
   rw[Int.zero_add];exact qi (by rw[List.getElem?_map,List.getElem?_eq_getElem hi6];rfl)
  have hp1:1<=powL[i]/\powL[i]<=16807:=by
   have:=List.getElem_mem hi6;generalize powL[i]=q at this;unfold powL at this;simp only[List.mem_cons,List.not_mem_nil,or_false] at this
   lia
  refine⟨p,_,_,_,rfl,rfl,SqL.of q0,ea,?_⟩;refine⟨_,_,rfl,rfl,⟨by lia,by lia⟩,?_⟩;lk;have hin:i < (numF c).length:=by lia
  refine⟨s1 _ _ e,Nx.mk hi ⟨q0,?_,(sm.trans s1).upd hacc,_,rfl⟩⟩;rw[List.take_succ_eq_append_getElem hin,List.map_append];refine congrArg _ (congrArg (λz=>[V.int z]) ?_);rw[numF_at hin,List.getD_eq_getElem?_getD,List.getElem?_eq_getElem hi6];rfl
theorem row_text(ns:List Int)(h:1<=ns.length):(Cmd.row ns).text=Str.ofString "row "++Txt.join (Str.ofString " ") (ns.map txt):=by
 cases ns with
 |nil=>cases h
 | cons x r=>
  show Txt.join (Str.ofString " ") (Str.ofString "row"::txt x::r.map txt)=_++Txt.join (Str.ofString " ") (txt x::r.map txt);rw[q1A];rfl
noncomputable def putF(c:Int):List Int:=q08 (numF c) [(1,3),(0,-2)]
noncomputable def q0F(c k:Int):Dst:=if k=0 then⟨none,[],[]⟩ else if k=1 then⟨some (numF c),[],[]⟩ else if k=2 then⟨some (putF c),[numF c],[]⟩ else⟨some (numF c),[],[putF c]⟩
noncomputable def q4h(C:Addr):Sp:=λvs H Q _=>∃c k:Int,vs=[.int c,.int k]/\0<=k/\k<=3/\∀(d e u:Addr) (H':Hp),Same H H'->H d=none->H e=none->H u=none->DeskAt C H' d e u (q0F c k)->Q (.ref d) H'
theorem FrD.same{u:Addr}{H1 H2:Hp}(s:Same H H1)(fr:FrD d e u H1 H2)(hd:H d=none)(he:H e=none)(hu:H u=none):Same H H2:=λx o z=>fr x o (qJ z hd) (qJ z he) (qJ z hu) (s _ _ z)
theorem q01{H1:Hp}{e':Addr}(s:Same H H1)(h:e'=e\/H1 e'=none)(he:H e=none):H e'=none:=by
 rcases h with rfl|h
 ·exact he
 ·exact s.free h
theorem ok_made(F:Fun K "_law_made" "_law_made" q2z f fd)(Z:Blt mg)(DD:DC K C)(y0Q:NDef P w K mg base k C "Desk" ["self"] (q6L C))
  (y4:MDef (CXE P w) P w K mg base (k+1) C "say" ["self","row"] (q2p C N cls))(yD:Def P w K mg base (k+1) "_law_numbers_of" ["first"] q2R):FnOk P w K mg base CX0 (k+1+1) f fd ["first","kind"] (q4h C):=by
 refine F.ok sc_law_made (λvs H Q E h=>?_) (λcdv A outer s H vs Q E hr h=>?_)
 ·obtain⟨c,kd,rfl,_⟩:=h
  rfl
 obtain⟨c,kd,rfl,k0,k3,fin⟩:=h;have CL:=DD.cl;obtain⟨hN,n2,n6⟩:=q1p c
 w_up
 ·apply qB
  exact(ps_set (i:=2) sc_law_made.nd rfl (by k_ne) (pe_nd y0Q hr rfl));apply qB
  ·apply qY
   exact(qL q35 (pv 1) qD (qU _))
   ·apply qC
    exact(qj (q2h y4 CL hr (q09 q0W) (pv 2) (pa_cons (qT qX qE (q5i PySem.F.plainAttrs_str PySem.F.slot_str_join PySem.F.type_str_join mt_join qE (pa_cons (q18 (N':=["number"]) (ix:=[none]) rfl rfl (by decide +kernel) rfl rfl rfl rfl (qm (K:=K) rfl (qI yD hr rfl (pa_cons (pv 0) qA))) (λ_ _ _ _=>(qZ (i:=0) (show List.Nodup (["number"]:List Str) by decide +kernel) rfl (by k_ne))) (λ_ _ _ _=>qq) (λ_ _ _ _=>(qa qe rfl Z.str_ PyProof.Rows.boot_str (pa_cons (pv 0) qA)))) qA))) qA)))
   exact qO
  apply qB
  ·apply qY
   exact(qL q35 (pv 1) qD (qU _))
   ·apply qC
    exact(qj (q2h y4 CL hr (q09 q0W) (pv 2) (pa_cons qE qA)))
   exact qO
  apply qB
  ·apply qY
   exact(qL q35 (pv 1) qD (qU _))
   ·apply qC
    exact(qj (q2h y4 CL hr (q09 q0W) (pv 2) (pa_cons qE qA)))
   exact qO
  apply qC;exact(qK (pv 2))
 refine seqU (λσ' H'=>∃d e u:Addr,Same H H'/\H d=none/\H e=none/\H u=none/\DeskAt C H' d e u ⟨none,[],[]⟩/\σ'=[some (.int c),some (.int kd),some (.ref d)]) ?_ (λR hR=>?_)
 case refine_2=>
  lk;intro d dx hd hdx hne;refine⟨d,dx,rfl,q0,λe u H1 he hu fr hD=>⟨rfl,?_⟩⟩;have hed:e≠d:=λz=>by rw[z,q0] at he;cases he
  have hud:u≠d:=λz=>by rw[z,q0] at hu;cases hu
  have hex:e≠dx:=λz=>by rw[z,qG hne,q0] at he;cases he
  have hux:u≠dx:=λz=>by rw[z,qG hne,q0] at hu;cases hu
  rw[qG hed,qG hex] at he;rw[qG hud,qG hux] at hu;refine hR _ _ ⟨d,e,u,λx o z=>fr x o (qJ z hd) ?_,hd,he,hu,hD,rfl⟩;rw[qG (qJ z hd),qG (qJ z hdx)];exact z
 rintro σ' H1 ⟨d,e,u,s1,hd,he,hu,hD,rfl⟩;refine seqU (λσ' H'=>∃e u:Addr,Same H H'/\H e=none/\H u=none/\DeskAt C H' d e u (if kd=0 then⟨none,[],[]⟩ else⟨some (numF c),[],[]⟩)/\σ'=[some (.int c),some (.int kd),some (.ref d)]) ?_ (λR hR=>?_)
 case refine_2=>
  lk;refine ifD (λz=>?_) (λz=>hR _ _ ⟨e,u,s1,he,hu,by rw[if_pos (by lia)];exact hD,rfl⟩);rw[if_neg (by lia)] at hR;obtain⟨dx,v,xe,xu,h1,_⟩:=id hD.ex;lk;refine⟨d,dx,_,rfl,h1,rfl,?_⟩;lk;intro l H2 s2 hl0 hl;lk;refine⟨⟨_,SqL.of hl⟩,?_⟩;intro acc hacc;have hlm:((numF c).map V.int).length=(numF c).length:=List.length_map _;have hok:(Cmd.row (numF c)).ok:=hN;have htx:=row_text (numF c) hN.l1;have hsh:=Cmd.short hok;rw[htx,q0l] at hsh;refine qp (n:=(numF c).length) (λi τ zs H'=>H' acc=some (.lst zs)/\zs=(((numF c).take i).map txt).map V.str/\Same H2 H'/\∃o0,τ=[o0]) ⟨q0,rfl,Same.new hacc _,none,rfl⟩ (by lia) ?_ ?_ ?_ ?_
  ·rintro i τ zs H' ⟨e,rfl,_⟩
   exact⟨e,by rw[List.length_map,List.length_map,List.length_take];lia⟩
  ·rintro i τ zs H' hi ⟨e,_,sm,_⟩
   exact⟨_,V.int (numF c)[i],SqL.of (sm _ _ hl),by rw[List.getElem?_map,List.getElem?_eq_getElem hi];rfl⟩
  ·rintro τ zs H3 ⟨e3,rfl,sm,_⟩
   refine⟨⟨_,SqL.of (sm _ _ hl),by rw[hlm];exact Nat.le_refl _⟩,?_⟩;rw[List.take_length] at e3;refine⟨_,acc,_,rfl,rfl,SqL.of e3,q28 (by lia) (λx hx=>Nat.lt_trans (hN.b x hx) (by decide)),?_⟩;lk;refine⟨hsh,?_⟩;lk;have s13:=s1.trans (s2.trans sm);refine .inl ⟨d,e,u,⟨none,[],[]⟩,.row (numF c),by rw[htx];rfl,hD.keep (s2.trans sm),hok,by show 0<=900;decide,λz st' e' u' H4 he' hu' fr hD' hs=>?_,λi H4 s4 hs=>?_⟩
   ·cases hs with
    |row=>exact hR _ _ ⟨e',u',FrD.same s13 fr hd he hu,q01 s13 he' he,q01 s13 hu' hu,hD',rfl⟩
   ·cases hs with
    |none n _=>exact(n _ rfl).elim
  ·rintro i τ zs H' v H2 hi ⟨e,rfl,sm,o0,rfl⟩ ⟨rfl,y⟩
   have ey:=y _ (SqL.of (sm _ _ hl));obtain⟨_,rfl⟩:=q3v ey;lk;refine⟨Nat.lt_trans (q2Q (hN.b _ (List.getElem_mem hi))) (by decide),?_⟩;refine⟨e,Nx.mk hi ⟨q0,?_,sm.upd hacc,_,rfl⟩⟩;rw[List.take_succ_eq_append_getElem hi,List.map_append,List.map_append];rfl
 rintro σ' H2 ⟨e,u,s2,he,hu,hD2,rfl⟩;refine seqU (λσ' H'=>∃e u:Addr,Same H H'/\H e=none/\H u=none/\DeskAt C H' d e u (if kd=0 then⟨none,[],[]⟩ else if kd=1 then⟨some (numF c),[],[]⟩ else⟨some (putF c),[numF c],[]⟩)/\σ'=[some (.int c),some (.int kd),some (.ref d)]) ?_ (λR hR=>?_)
 case refine_2=>
  lk;refine ifD (λz=>?_) (λz=>hR _ _ ⟨e,u,s2,he,hu,?_,rfl⟩)
  case refine_2=>
   by_cases h0:kd=0
   ·rw[if_pos h0] at hD2 ⊢
    exact hD2
   ·rw[if_neg h0] at hD2
    rw[if_neg h0,if_pos (by lia)];exact hD2
  rw[if_neg (by lia),if_neg (by lia)] at hR;rw[if_neg (by lia)] at hD2;obtain⟨dx,v,xe,xu,h1,_⟩:=id hD2.ex;lk;refine⟨d,dx,_,rfl,h1,rfl,?_⟩;lk
  have hin:q3F (numF c).length ([(1,3),(0,-2)].map intC):=λx hx=>by
   rcases List.mem_cons.mp hx with rfl|hx
   ·exact⟨by decide,by show(1:Int) < _;lia⟩
   ·rw[List.mem_singleton.mp hx]
    exact⟨by decide,by show(0:Int) < _;lia⟩
  refine .inl ⟨d,e,u,⟨some (numF c),[],[]⟩,.put [(1,3),(0,-2)],rfl,hD2,⟨by decide,by decide,by decide⟩,by show 0<=900;decide,λz st' e' u' H4 he' hu' fr hD' hs=>?_,λi H4 s4 hs=>?_⟩
  ·cases hs with
   | put er _ _=>
    cases er;exact hR _ _ ⟨e',u',FrD.same s2 fr hd he hu,q01 s2 he' he,q01 s2 hu' hu,hD',rfl⟩
  ·cases hs with
   |none _ er=>cases er
   | putN er hn=>
    cases er;exact(hn hin).elim
 rintro σ' H3 ⟨e,u,s3,he,hu,hD3,rfl⟩;refine seqU (λσ' H'=>∃e u:Addr,Same H H'/\H e=none/\H u=none/\DeskAt C H' d e u (q0F c kd)/\σ'=[some (.int c),some (.int kd),some (.ref d)]) ?_ (λR hR=>?_)
 case refine_2=>
  lk;refine ifD (λz=>?_) (λz=>hR _ _ ⟨e,u,s3,he,hu,?_,rfl⟩)
  case refine_2=>
   unfold q0F;by_cases h0:kd=0
   ·rw[if_pos h0] at hD3 ⊢
    exact hD3
   ·rw[if_neg h0] at hD3 ⊢
    by_cases h1:kd=1
    ·rw[if_pos h1] at hD3 ⊢
     exact hD3
    ·rw[if_neg h1] at hD3 ⊢
     rw[if_pos (by lia)];exact hD3
  unfold q0F at hR;rw[if_neg (by lia),if_neg (by lia),if_neg (by lia)] at hR;rw[if_neg (by lia),if_neg (by lia)] at hD3;obtain⟨dx,v,xe,xu,h1,_⟩:=id hD3.ex;lk;refine⟨d,dx,_,rfl,h1,rfl,?_⟩;lk;refine .inl ⟨d,e,u,⟨some (putF c),[numF c],[]⟩,.undo,by rw[show Cmd.undo.text=Str.ofString "undo" from q0C _];rfl,hD3,trivial,by show 1<=900;decide,λz st' e' u' H4 he' hu' fr hD' hs=>?_,λi H4 s4 hs=>?_⟩
  ·cases hs with
   | undo er el _=>
    cases er;obtain⟨l1,l2⟩:=List.append_inj' (show[]++[numF c]=_ from el) rfl;cases l1;cases l2;exact hR _ _ ⟨e',u',FrD.same s3 fr hd he hu,q01 s3 he' he,q01 s3 hu' hu,hD',rfl⟩
  ·cases hs with
   |none _ er=>cases er
   |undoN er el=>cases el
 rintro σ' H4 ⟨e,u,s4,he,hu,hD4,rfl⟩;lk;exact fin d e u H4 s4 hd he hu hD4
noncomputable def MaxE(ns:List Int)(i:Nat)(h:Int):Prop:=(∃f,f < i/\h=psum ns i-psum ns f)/\∀f,f < i->psum ns i-psum ns f<=h
noncomputable def MaxB(ns:List Int)(i:Nat)(m:Int):Prop:=(∃f b,f < b/\b<=i/\m=psum ns b-psum ns f)/\∀f b,f < b->b<=i->psum ns b-psum ns f<=m
theorem q2i{m:Int}(h:MaxB ns ns.length m)(t:Top (PB ns) x):x.s=m:=by
 obtain⟨f,b,h1,h2,e⟩:=t.has;obtain⟨f',b',g1,g2,rfl⟩:=h.1;have a:=h.2 f b h1 h2;have l:=t.le _ ⟨f',b',g1,g2,rfl⟩;have e1:x.s=psum ns b-psum ns f:=by rw[e]
 unfold Sx.le at l;dsimp only at l
 lia
theorem maxE_next{h:Int}(hi:i < ns.length)(hE:(i=0/\h=0)\/MaxE ns i h):MaxE ns (i+1) (ns.getD i 0+if h < 0 then 0 else h):=by
 have pn:psum ns (i+1)=psum ns i+ns.getD i 0:=by
  rw[q1m hi,List.getD_eq_getElem?_getD,List.getElem?_eq_getElem hi];rfl
 rcases hE with⟨rfl,rfl⟩|⟨⟨f,hf,rfl⟩,hm⟩
 ·rw[if_neg (by decide)]
  refine⟨⟨0,by decide,by lia⟩,λf hf=>?_⟩;obtain rfl:f=0:=by lia
  lia
 ·split
  ·refine⟨⟨i,by lia,by lia⟩,λg hg=>?_⟩
   by_cases e:g=i
   ·rw[e];lia
   ·have:=hm g (by lia)
    lia
  ·refine⟨⟨f,by lia,by lia⟩,λg hg=>?_⟩
   by_cases e:g=i
   ·rw[e];lia
   ·have:=hm g (by lia)
    lia
theorem maxB_next{m h:Int}(hi:i < ns.length)(hB:(i=0/\m=ns.getD 0 0)\/MaxB ns i m)(hE:MaxE ns (i+1) h):MaxB ns (i+1) (if h < m then m else h):=by
 obtain⟨⟨f,hf,rfl⟩,hm⟩:=hE;rcases hB with⟨rfl,rfl⟩|⟨⟨f',b',g1,g2,rfl⟩,hb⟩
 ·obtain rfl:f=0:=by lia
  have pn:psum ns (0+1)=psum ns 0+ns.getD 0 0:=by
   rw[q1m hi,List.getD_eq_getElem?_getD,List.getElem?_eq_getElem hi];rfl
  rw[if_neg (by lia)];refine⟨⟨0,1,by decide,by decide,rfl⟩,λf b h1 h2=>?_⟩;obtain rfl:f=0:=by lia
  obtain rfl:b=1:=by lia
  exact Int.le_refl _
 ·split
  ·refine⟨⟨f',b',g1,by lia,rfl⟩,λg b h1 h2=>?_⟩
   by_cases e:b<=i
   ·exact hb g b h1 e
   ·obtain rfl:b=i+1:=by lia
    have:=hm g h1
    lia
  ·refine⟨⟨f,i+1,hf,Nat.le_refl _,rfl⟩,λg b h1 h2=>?_⟩
   by_cases e:b<=i
   ·have:=hb g b h1 e
    lia
   ·obtain rfl:b=i+1:=by lia
    exact hm g h1
noncomputable def q6K:Sp:=λvs H Q _=>∃(r:Addr) (ns:List Int),vs=[.ref r]/\H r=some (.lst (ns.map V.int))/\1<=ns.length/\ns.length<=1000/\∀(m:Int) (H':Hp),Same H H'->MaxB ns ns.length m->Q (.int m) H'
theorem ok_most(F:Fun K "_law_most" "_law_most" q2y f fd)(Z:Blt mg):FnOk P w K mg base CX0 (k+1) f fd ["row"] q6K:=by
 refine F.ok sc_law_most (λvs H Q E h=>?_) (λcdv A outer s H vs Q E hr h=>?_)
 ·obtain⟨r,ns,rfl,_⟩:=h
  rfl
 obtain⟨r,ns,rfl,hr0,h1,h2,fin⟩:=h
 w_up
 ·apply qB
  exact(ps_set (i:=1) sc_law_most.nd rfl (by k_ne) (qM (qR (K:=K) rfl) (pv 0) qD (λ_ _=>rfl)));apply qB;exact(ps_set (i:=2) sc_law_most.nd rfl (by k_ne) qD);apply qB
  ·apply q1Q PassesOwn.never rfl
   exact(qm (K:=K) rfl (pv 0));exact(qZ (i:=3) sc_law_most.nd rfl (by k_ne))
   ·apply qB
    exact(ps_set (i:=2) sc_law_most.nd rfl (by k_ne) (qT qo (pv 3) (qP (q1v rfl) rfl Z.max_ PyProof.Rows.boot_max (pa_cons qD (pa_cons (pv 2) qA)))));apply qC;exact(ps_set (i:=1) sc_law_most.nd rfl (by k_ne) (qP (q1v rfl) rfl Z.max_ PyProof.Rows.boot_max (pa_cons (pv 1) (pa_cons (pv 2) qA))))
  apply qC;exact(qK (pv 1))
 lk;refine⟨r,_,0,.int (ns.getD 0 0),rfl,rfl,SqL.of hr0,qi (j:=0) (by rw[List.getElem?_map,List.getElem?_eq_getElem (by lia),List.getD_eq_getElem?_getD,List.getElem?_eq_getElem (by lia)];rfl),?_⟩;lk;refine⟨⟨_,SqL.of hr0⟩,?_⟩;refine q2A (xs:=ns.map V.int) (λi σ H'=>∃(m hh:Int) (o3:Option V),H=H'/\((i=0/\hh=0)\/MaxE ns i hh)/\((i=0/\m=ns.getD 0 0)\/MaxB ns i m)/\σ=[some (.ref r),some (.int m),some (.int hh),o3]) ⟨_,_,_,rfl,.inl ⟨rfl,rfl⟩,.inl ⟨rfl,rfl⟩,rfl⟩ ?_ ?_ ?_
 ·rintro i σ H' _ ⟨_,_,_,rfl,_⟩
  exact SqL.of hr0
 ·rintro i v σ H' hv ⟨m,hh,o3,rfl,hE,hB,rfl⟩
  obtain⟨hi,rfl⟩:=q3v hv;have hE2:=maxE_next hi hE;have hB2:=maxB_next hi hB hE2;lk;refine⟨0,hh,rfl,?_⟩;lk;refine⟨m,_,rfl,?_⟩;have en:ns[i]=ns.getD i 0:=by
   rw[List.getD_eq_getElem?_getD,List.getElem?_eq_getElem hi];rfl
  have eh:(if hh > 0 then hh else 0)=if hh < 0 then 0 else hh:=by
   split<;>split<;>lia
  dsimp only;rw[en,eh];generalize (ns.getD i 0+if hh < 0 then 0 else hh)=z at hE2 hB2;refine⟨_,z,some (.int (ns.getD i 0)),rfl,.inr hE2,.inr hB2,?_⟩;rw[show(if z < m then m else z)=if z > m then z else m by split<;>split<;>lia];rfl
 ·rintro σ H' ⟨m,hh,o3,rfl,hE,hB,rfl⟩
  rw[List.length_map] at hB;lk;rcases hB with⟨h0,_⟩|hB
  ·lia
  ·exact fin m _ (Same.refl _) hB
noncomputable def spT:Nat->Str
 |0=>Str.ofString "part 0 1"|1=>Str.ofString "length 1 2"|2=>Str.ofString "apart 1 0"|3=>Str.ofString "bars 1 0"|4=>Str.ofString "must 1"|5=>Str.ofString "put 0 5"|6=>Str.ofString "put 1 5 0 7"|7=>Str.ofString "best"|8=>Str.ofString "ring"|_=>Str.ofString "undo"
noncomputable def chB(z:Str)(k:Nat)(cs:List Nat):Bool:=match z.cps.toList[k]? with|some c=>decide (c∈cs)|none=>false
noncomputable def q1n(z:Str):List Nat:=(List.range z.length).filter λk=>chB z k [32]
noncomputable def q6o(z:Str):List Nat:=(List.range z.length).filter λk=>chB z k [48,49,50,53,55]
noncomputable def insT(z:Str)(a:Nat)(y:Str):Str:=Txt.slice z none (some (a:Int))++y++Txt.slice z (some (a:Int)) none
noncomputable def capT(z:Str):Str:=Txt.upper ⟨#[z.cps.getD 0 0]⟩++Txt.slice z (some 1) none
noncomputable def okT(z:Str):Bool:=formB z && decide (z.length<=100)
theorem spT_len:∀j:Nat,j < 10->4<=(spT j).length/\(spT j).length<=11:=by decide
theorem spT_ins:∀j:Nat,j < 10->((q1n (spT j)++[0,(spT j).length]).all λa=>okT (insT (spT j) a (Str.ofString " ")))=true:=by decide +kernel
theorem spT_fig:∀j:Nat,j < 10->((q6o (spT j)).all λa=>okT (insT (spT j) a (Str.ofString "0")))=true:=by decide +kernel
theorem spT_cap:∀j:Nat,j < 10->okT (capT (spT j))=true:=by decide +kernel
theorem okT_of(h:okT z=true):q0w z/\z.length<=80000:=by
 unfold okT at h;rw[Bool.and_eq_true,decide_eq_true_iff] at h;exact⟨q7W h.1,by lia⟩
noncomputable def q3W:Sp:=λvs H Q _=>∃c:Int,vs=[.int c]/\0<=c/\∀(z:Str) (H':Hp),Same H H'->q0w z->z.length<=80000->Q (.str z) H'
theorem EqD.nil{K:Frag}{H:Hp}{a b:Addr}{xs:List V}(ha:SqL K H a xs)(hb:SqL K H b []):EqD K H 1 (.ref a) (.ref b) xs.isEmpty:=by
 cases xs with
 |nil=>exact EqD.lst (n:=0) (e:=λ_=>true) ha hb rfl λj x y e=>by simp at e
 |cons x xs=>exact EqD.len ha hb (by simp)
theorem q6b(F:Fun K "_law_spoilt" "_law_spoilt" q1f f fd)(Z:Blt mg):FnOk P w K mg base CX0 (k+1) f fd ["rest"] q3W:=by
 refine F.ok sc_law_spoilt (λvs H Q E h=>?_) (λcdv A outer s H vs Q E hr h=>?_)
 ·obtain⟨c,rfl,_⟩:=h
  rfl
 obtain⟨c,rfl,hc,fin⟩:=h
 w_up
 ·apply qB
  exact(ps_set (i:=1) sc_law_spoilt.nd rfl (by k_ne) (pe_lst (pa_cons qE (pa_cons qE (pa_cons qE (pa_cons qE (pa_cons qE (pa_cons qE (pa_cons qE (pa_cons qE qA))))))))));apply qB;exact(ps_set (i:=2) sc_law_spoilt.nd rfl (by k_ne) (qM (qR (K:=K) rfl) (qT q0E (pv 1) (pe_lst (pa_cons qE (pa_cons qE qA)))) (qT q0n (pv 0) qD) (λ_ _=>rfl)));apply qB;exact(ps_set (i:=3) sc_law_spoilt.nd rfl (by k_ne) (qT q0E (q18 (N':=["k","row"]) (ix:=[none,some 2]) rfl rfl (by decide +kernel) rfl rfl rfl rfl (q0K rfl Z.range_ (pa_cons (qP q06 rfl Z.len_ PySem.boot_len (pa_cons (pv 2) qA)) qA)) (λ_ _ _ _=>(qZ (i:=0) (show List.Nodup (["k","row"]:List Str) by decide +kernel) rfl (by k_ne))) (λ_ _ _ _=>(q6V (qL q0X (qM q5t (pv 1) (pv 0) (λ_ _=>rfl)) qE (qU _)))) (λ_ _ _ _=>(pv 0))) (pe_lst (pa_cons qD (pa_cons (qP q06 rfl Z.len_ PySem.boot_len (pa_cons (pv 2) qA)) qA)))));apply qB;exact(ps_set (i:=4) sc_law_spoilt.nd rfl (by k_ne) (qT q0n (qT q1L (pv 0) qD) qD));apply qB;exact(ps_set (i:=5) sc_law_spoilt.nd rfl (by k_ne) (qM (qR (K:=K) rfl) (pv 3) (qT q0n (qT q1L (pv 0) qD) (qP (qQ (K:=K) rfl) rfl Z.len_ PySem.boot_len (pa_cons (pv 3) qA))) (λ_ _=>rfl)));apply qB
  ·apply qY
   exact(qL q2P (pv 4) qD (qU _))
   ·apply qC
    exact(qK (qT qX (qT qX (qr q38 (pv 2) q05 (q04 (pv 5))) qE) (qr q38 (pv 2) (q04 (pv 5)) q05)))
   exact qO
  apply qB
  ·first|exact(ps_lc (i:=6) sc_law_spoilt.nd rfl (by k_ne) (N':=["k","row"]) (ix:=[none,some 2]) rfl rfl (by decide +kernel) rfl rfl rfl rfl (q0K rfl Z.range_ (pa_cons (qP q06 rfl Z.len_ PySem.boot_len (pa_cons (pv 2) qA)) qA)) (λ_ _ _ _=>(qZ (i:=0) (show List.Nodup (["k","row"]:List Str) by decide +kernel) rfl (by k_ne))) (λ_ _ _ _=>(q6V (qL q34 (qM q5t (pv 1) (pv 0) (λ_ _=>rfl)) qE rfl))) (λ_ _ _ _=>(pv 0)))|exact(ps_set (i:=6) sc_law_spoilt.nd rfl (by k_ne) (q18 (N':=["k","row"]) (ix:=[none,some 2]) rfl rfl (by decide +kernel) rfl rfl rfl rfl (q0K rfl Z.range_ (pa_cons (qP q06 rfl Z.len_ PySem.boot_len (pa_cons (pv 2) qA)) qA)) (λ_ _ _ _=>(qZ (i:=0) (show List.Nodup (["k","row"]:List Str) by decide +kernel) rfl (by k_ne))) (λ_ _ _ _=>(q6V (qL q34 (qM q5t (pv 1) (pv 0) (λ_ _=>rfl)) qE rfl))) (λ_ _ _ _=>(pv 0))))
  apply qB
  ·apply qY
   exact(PW.pt (q2B (qL q0X (pv 4) qD (qU _)) (q0u (qL (op_eqDK (K:=K) hr rfl) (pv 6) (pe_lst qA) (qU _)))))
   ·apply qC
    exact(qK (qT qX (pe_bm0 PySem.F.plainAttrs_str PySem.F.slot_str_upper PySem.F.type_str_upper mt_upper (qM q5t (pv 2) qD (λ_ _=>rfl))) (qr q38 (pv 2) (q04 qD) q05)))
   exact qO
  apply qB;exact(ps_set (i:=5) sc_law_spoilt.nd rfl (by k_ne) (qM (qR (K:=K) rfl) (pv 6) (qT q0n (qT q1L (pv 0) qD) (qP (qQ (K:=K) rfl) rfl Z.len_ PySem.boot_len (pa_cons (pv 6) qA))) (λ_ _=>rfl)));apply qC;exact(qK (qT qX (qT qX (qr q38 (pv 2) q05 (q04 (pv 5))) qE) (qr q38 (pv 2) (q04 (pv 5)) q05)))
 refine seqU (λσ' H'=>∃l,Same H H'/\H' l=some (.lst ((List.range 8).map λj=>V.str (spT j)))/\σ'=[some (.int c),some (.ref l),none,none,none,none,none]) ?_ (λR hR=>?_)
 case refine_2=>
  lk;refine⟨by show 8<=sizeLine;decide,λl hl=>?_⟩;exact hR _ _ ⟨l,Same.new hl _,q0,rfl⟩
 rintro σ' H1 ⟨l,s1,h1,rfl⟩
 obtain⟨j,hj,ej⟩:∃j:Nat,j < 10/\c%10=(j:Int):=⟨(c%10).toNat,by lia,by lia⟩
 obtain⟨z4,z11⟩:=spT_len j hj;refine seqU (λσ' H'=>Same H H'/\σ'=[some (.int c),some (.ref l),some (.str (spT j)),none,none,none,none]) ?_ (λR hR=>?_)
 case refine_2=>
  lk;refine⟨by show 2<=sizeLine;decide,λp hp=>?_⟩;have t1:=Same.new hp (.lst [.str (spT 8),.str (spT 9)]);lk;refine⟨l,p,_,_,rfl,rfl,t1 _ _ h1,q0,Nat.le_of_lt (small (by decide)),λq hq=>?_⟩;have t2:=Same.new hq (.lst ((List.range 10).map λj=>V.str (spT j)));lk;dsimp only;rw[ej];refine⟨q,(List.range 10).map λj=>V.str (spT j),_,.str (spT j),rfl,rfl,SqL.of q0,qi (by rw[List.getElem?_map,List.getElem?_range hj];rfl),?_⟩;exact hR _ _ ⟨s1.trans (t1.trans t2),rfl⟩
 rintro σ' H2 ⟨s2,rfl⟩;generalize hz:spT j=z at z4 z11;refine seqU (λσ' H'=>∃pl,Same H H'/\H' pl=some (.lst ((q1n z++[0,z.length]).map λa:Nat=>V.int (a:Int)))/\σ'=[some (.int c),some (.ref l),some (.str z),some (.ref pl),none,none,none]) ?_ (λR hR=>?_)
 case refine_2=>
  lk;refine⟨Nat.le_of_lt (small (by lia)),?_⟩;lk;refine⟨by lia,by lia,?_⟩;rw[Int.toNat_natCast];intro acc hacc;refine qp (n:=z.length) (λi τ zs H'=>H' acc=some (.lst zs)/\zs=((List.range i).filter λk=>chB z k [32]).map (λa:Nat=>V.int (a:Int))/\Same H2 H'/\∃o0,τ=[o0,some (.str z)]) ⟨q0,rfl,Same.new hacc _,none,rfl⟩ (by lia) ?_ ?_ ?_ ?_
  ·rintro i τ zs H' ⟨e,rfl,_⟩
   refine⟨e,?_⟩;rw[List.length_map];exact Nat.le_trans (List.length_filter_le _ _) (by rw[List.length_range];exact Nat.le_refl _)
  ·rintro i τ zs H' hi _
   exact hi
  ·rintro τ zs H3 ⟨e3,rfl,sm,_⟩
   refine⟨Nat.le_refl _,?_⟩;lk;refine⟨Nat.le_of_lt (small (by lia)),?_⟩;lk;refine⟨by show 2<=sizeLine;decide,λp hp=>?_⟩;have t1:=Same.new hp (.lst [.int 0,.int (z.length:Int)]);have hpl:(q1n z).length<=z.length:=Nat.le_trans (List.length_filter_le _ _) (by rw[List.length_range];exact Nat.le_refl _);refine⟨acc,p,_,_,rfl,rfl,t1 _ _ e3,q0,Nat.le_of_lt (small (by rw[List.length_map];show(q1n z).length+2<=_;lia)),λq hq=>?_⟩;have t2:=Same.new hq (.lst ((q1n z).map (λa:Nat=>V.int (a:Int))++[.int 0,.int (z.length:Int)]));exact hR _ _ ⟨q,s2.trans (sm.trans (t1.trans t2)),by rw[List.map_append];exact q0,rfl⟩
  ·rintro i τ zs H' v H3 hi ⟨e,rfl,sm,o0,rfl⟩ ⟨rfl,rfl⟩
   obtain⟨ch,hch⟩:∃ch,z.cps.toList[i]?=some ch:=⟨_,List.getElem?_eq_getElem (by rw[Array.length_toList];exact hi)⟩
   lk;refine⟨z,_,ch,rfl,rfl,Nat.le_of_lt (small (by lia)),by rw[Int.zero_add];exact qi hch,?_⟩;lk;have hb:decide (V.str ⟨#[ch]⟩=V.str (Str.ofString " "))=chB z i [32]:=by
    unfold chB;rw[hch];refine decide_eq_decide.mpr ⟨λq=>?_,λq=>?_⟩
    ·have q2:=congrArg (λs=>s.cps.toList) (V.str.inj q)
     exact List.mem_singleton.mpr (List.cons.inj q2).1
    ·rw[List.mem_singleton.mp q]
     rfl
   rw[hb]
   cases hcb:chB z i [32] with
   | true=>
    refine iteT ?_;lk;refine⟨e,Nx.mk hi ⟨q0,?_,sm.upd hacc,_,rfl⟩⟩;rw[List.range_succ,List.filter_append,List.map_append,List.filter_cons_of_pos (by exact hcb),Int.zero_add];rfl
   | false=>
    refine iteF (Nx.mk hi ⟨e,?_,sm,_,rfl⟩);rw[List.range_succ,List.filter_append,List.filter_cons_of_neg (by rw[hcb];decide)];rw[List.filter_nil,List.append_nil]
 rintro σ' H3 ⟨pl,s3,h3,rfl⟩;refine seqU (λσ' H'=>H3=H'/\σ'=[some (.int c),some (.ref l),some (.str z),some (.ref pl),some (.int (c/10%4)),none,none]) ?_ (λR hR=>?_)
 case refine_2=>
  lk;exact hR _ _ ⟨rfl,rfl⟩
 rintro σ' H' ⟨rfl,rfl⟩;have hall:=spT_ins j hj;rw[hz] at hall;have hpl0:1<=(q1n z++[0,z.length]).length:=by rw[List.length_append];show 1<=_+2;lia
 refine seqU (λσ' H'=>H3=H'/\∃a:Nat,a∈q1n z++[0,z.length]/\σ'=[some (.int c),some (.ref l),some (.str z),some (.ref pl),some (.int (c/10%4)),some (.int (a:Int)),none]) ?_ (λR hR=>?_)
 case refine_2=>
  lk;refine⟨pl,_,rfl,.inl (SqL.of h3),?_⟩;rw[List.length_map];generalize q1n z++[0,z.length]=ps at hpl0 h3 hall hR ⊢;lk;refine⟨by lia,?_⟩;have m0:=Int.emod_nonneg (c/40) (show(ps.length:Int)≠0 by lia);have m1:=Int.emod_lt_of_pos (c/40) (show(0:Int) < (ps.length:Int) by lia)
  obtain⟨i,ei⟩:∃i:Nat,c/40%(ps.length:Int)=(i:Int):=⟨(c/40%(ps.length:Int)).toNat,by lia⟩
  dsimp only;rw[ei] at m1 ⊢;have hi:i < ps.length:=by lia
  refine⟨pl,_,_,.int (ps[i]:Int),rfl,rfl,SqL.of h3,qi (by rw[List.getElem?_map,List.getElem?_eq_getElem hi];rfl),?_⟩;exact hR _ _ ⟨rfl,ps[i],List.getElem_mem hi,rfl⟩
 rintro σ' H' ⟨rfl,a,ha,rfl⟩
 have la:∀y:Str,y.length=1->(Txt.slice z none (some (a:Int))).length+y.length<=100000/\(Txt.slice z none (some (a:Int))++y).length+(Txt.slice z (some (a:Int)) none).length<=100000:=λy hy=>by
  have e1:=Txt.slice_le z none (some (a:Int));have e2:=Txt.slice_le z (some (a:Int)) none;rw[q0l]
  lia
 refine seqU (λσ' H'=>H3=H'/\σ'=[some (.int c),some (.ref l),some (.str z),some (.ref pl),some (.int (c/10%4)),some (.int (a:Int)),none]) ?_ (λR hR=>?_)
 case refine_2=>
  lk;refine ifD (λq=>?_) (λq=>hR _ _ ⟨rfl,rfl⟩);lk;refine⟨Nat.le_of_lt (small (by lia)),?_⟩;lk;refine⟨Nat.le_of_lt (small (la (Str.ofString " ") rfl).1),?_⟩;lk;refine⟨Nat.le_of_lt (small (by lia)),?_⟩;lk;refine⟨Nat.le_of_lt (small (la (Str.ofString " ") rfl).2),?_⟩;have ok:=okT_of (List.all_eq_true.mp hall a ha);exact fin _ _ s3 ok.1 ok.2
 rintro σ' H' ⟨rfl,rfl⟩;refine seqU (λσ' H'=>∃fl,Same H H'/\H' fl=some (.lst ((q6o z).map λa:Nat=>V.int (a:Int)))/\σ'=[some (.int c),some (.ref l),some (.str z),some (.ref pl),some (.int (c/10%4)),some (.int (a:Int)),some (.ref fl)]) ?_ (λR hR=>?_)
 case refine_2=>
  lk;refine⟨Nat.le_of_lt (small (by lia)),?_⟩;lk;refine⟨by lia,by lia,?_⟩;rw[Int.toNat_natCast];intro acc hacc;refine qp (n:=z.length) (λi τ zs H'=>H' acc=some (.lst zs)/\zs=((List.range i).filter λk=>chB z k [48,49,50,53,55]).map (λa:Nat=>V.int (a:Int))/\Same H3 H'/\∃o0,τ=[o0,some (.str z)]) ⟨q0,rfl,Same.new hacc _,none,rfl⟩ (by lia) ?_ ?_ ?_ ?_
  ·rintro i τ zs H' ⟨e,rfl,_⟩
   refine⟨e,?_⟩;rw[List.length_map];exact Nat.le_trans (List.length_filter_le _ _) (by rw[List.length_range];exact Nat.le_refl _)
  ·rintro i τ zs H' hi _
   exact hi
  ·rintro τ zs H4 ⟨e4,rfl,sm,_⟩
   refine⟨Nat.le_refl _,?_⟩;exact hR _ _ ⟨acc,s3.trans sm,e4,rfl⟩
  ·rintro i τ zs H' v H4 hi ⟨e,rfl,sm,o0,rfl⟩ ⟨rfl,rfl⟩
   obtain⟨ch,hch⟩:∃ch,z.cps.toList[i]?=some ch:=⟨_,List.getElem?_eq_getElem (by rw[Array.length_toList];exact hi)⟩
   lk;refine⟨z,_,ch,rfl,rfl,Nat.le_of_lt (small (by lia)),by rw[Int.zero_add];exact qi hch,?_⟩;lk;have hb:(!(Builtin.Str.occurrences (Str.ofString "01257") ⟨#[ch]⟩ 0 (Str.ofString "01257").length 1).isEmpty)=chB z i [48,49,50,53,55]:=by
    unfold chB;rw[hch,PySem.StrLaws.found_one];rfl
   rw[hb]
   cases hcb:chB z i [48,49,50,53,55] with
   | true=>
    refine iteT ?_;lk;refine⟨e,Nx.mk hi ⟨q0,?_,sm.upd hacc,_,rfl⟩⟩;rw[List.range_succ,List.filter_append,List.map_append,List.filter_cons_of_pos (by exact hcb),Int.zero_add];rfl
   | false=>
    refine iteF (Nx.mk hi ⟨e,?_,sm,_,rfl⟩);rw[List.range_succ,List.filter_append,List.filter_cons_of_neg (by rw[hcb];decide)];rw[List.filter_nil,List.append_nil]
 rintro σ' H4 ⟨fl,s4,h4,rfl⟩;refine seqU (λσ' H'=>Same H H'/\H' fl=some (.lst ((q6o z).map λa:Nat=>V.int (a:Int)))/\q6o z≠[]/\σ'=[some (.int c),some (.ref l),some (.str z),some (.ref pl),some (.int (c/10%4)),some (.int (a:Int)),some (.ref fl)]) ?_ (λR hR=>?_)
 case refine_2=>
  refine ifU (λb H'=>Same H4 H'/\(b=false->q6o z≠[])) ?_ (λT hT=>?_)
  case refine_2=>
   lk;refine ifD (λ_=>hT _ _ ⟨Same.refl _,λq=>by cases q⟩) (λ_=>?_);lk;refine⟨by show 0<=sizeLine;decide,λp hp=>?_⟩;have t1:=Same.new hp (.lst []);refine⟨0,_,EqD.nil (SqL.of (t1 _ _ h4)) (SqL.of q0),by decide,_,rfl,hT _ _ ⟨t1,λq=>?_⟩⟩;intro q2;rw[q2] at q;cases q
  rintro b H5 ⟨s5,hb⟩
  cases b with
  |false=>exact iteF (hR _ _ ⟨s4.trans s5,s5 _ _ h4,hb rfl,rfl⟩)
  | true=>
   refine iteT ?_
   obtain⟨ch,hch⟩:∃ch,z.cps.toList[0]?=some ch:=⟨_,List.getElem?_eq_getElem (by rw[Array.length_toList];show 0 < z.length;lia)⟩
   have e0:(⟨#[ch]⟩:Str)=⟨#[z.cps.getD 0 0]⟩:=by
    rw[Array.getD_eq_getD_getElem?,<-Array.getElem?_toList,hch];rfl
   have ok:=okT_of (spT_cap j hj);rw[hz] at ok;have lc:=ok.2;unfold capT at lc;rw[q0l] at lc;lk;refine⟨z,0,ch,rfl,rfl,Nat.le_of_lt (small (by lia)),qi (j:=0) hch,?_⟩;rw[e0];lk;refine⟨Nat.le_of_lt (small (by lia)),?_⟩;lk;refine⟨Nat.le_of_lt (small (by lia)),?_⟩;lk;refine⟨Nat.le_of_lt (small (by lia)),?_⟩;exact fin _ _ (s4.trans s5) ok.1 ok.2
 rintro σ' H5 ⟨s5,h5,hne,rfl⟩;have hall2:=spT_fig j hj;rw[hz] at hall2;have hf0:1<=(q6o z).length:=List.length_pos_iff.mpr hne;generalize q6o z=fs at hf0 h5 hall2;refine seqU (λσ' H'=>H5=H'/\∃a:Nat,a∈fs/\σ'=[some (.int c),some (.ref l),some (.str z),some (.ref pl),some (.int (c/10%4)),some (.int (a:Int)),some (.ref fl)]) ?_ (λR hR=>?_)
 case refine_2=>
  lk;refine⟨fl,_,rfl,.inl (SqL.of h5),?_⟩;rw[List.length_map];lk;refine⟨by lia,?_⟩;have m0:=Int.emod_nonneg (c/40) (show(fs.length:Int)≠0 by lia);have m1:=Int.emod_lt_of_pos (c/40) (show(0:Int) < (fs.length:Int) by lia)
  obtain⟨i,ei⟩:∃i:Nat,c/40%(fs.length:Int)=(i:Int):=⟨(c/40%(fs.length:Int)).toNat,by lia⟩
  dsimp only;rw[ei] at m1 ⊢;have hi:i < fs.length:=by lia
  refine⟨fl,_,_,.int (fs[i]:Int),rfl,rfl,SqL.of h5,qi (by rw[List.getElem?_map,List.getElem?_eq_getElem hi];rfl),?_⟩;exact hR _ _ ⟨rfl,fs[i],List.getElem_mem hi,rfl⟩
 rintro σ' H' ⟨rfl,a2,ha2,rfl⟩;have e1:=Txt.slice_le z none (some (a2:Int));have e2:=Txt.slice_le z (some (a2:Int)) none;lk;refine⟨Nat.le_of_lt (small (by lia)),?_⟩;lk;refine⟨Nat.le_of_lt (small (by show _+1<=_;lia)),?_⟩;lk;refine⟨Nat.le_of_lt (small (by lia)),?_⟩;lk;refine⟨Nat.le_of_lt (small (by rw[q0l];show _+1+_<=_;lia)),?_⟩;have ok:=okT_of (List.all_eq_true.mp hall2 a2 ha2);exact fin _ _ s5 ok.1 ok.2
noncomputable def Ask.fewB:Ask->Bool
 |.apart m _=>decide (m<=1000)
 |.bars m _=>decide (m<=1000)
 |_=>true
noncomputable def okB:Cmd->Bool
 |.undo=>true
 |.again=>true
 |.ask a=>a.fewB && a.nat.all λn=>decide (n < 10 ^ 6)
 |.put cs=>decide (1<=cs.length) && (decide (cs.length<=20) && cs.all λc=>decide (c.1 < 10 ^ 6) && decide (c.2.natAbs < 10 ^ 30))
 |.row _=>false
theorem q4R{c:Cmd}(h:okB c=true):c.ok/\∀ns,c≠.row ns:=by
 cases c with
 |row ns=>cases h
 |undo=>exact⟨trivial,λns z=>by cases z⟩
 |again=>exact⟨trivial,λns z=>by cases z⟩
 | put cs=>
  refine⟨?_,λns z=>by cases z⟩;simp only[okB,Bool.and_eq_true,decide_eq_true_eq,List.all_eq_true] at h;exact h
 | ask a=>
  refine⟨?_,λns z=>by cases z⟩;simp only[okB,Bool.and_eq_true,List.all_eq_true,decide_eq_true_eq] at h;refine⟨?_,h.2⟩;have big:∀g,g∈a.nat->g < 2 ^ 150:=λg hg=>Nat.lt_trans (h.2 g hg) (by decide)
  cases a with
  |apart m g=>exact⟨by simpa[Ask.fewB] using h.1,big g (by simp[Ask.nat])⟩
  |bars m g=>exact⟨by simpa[Ask.fewB] using h.1,big g (by simp[Ask.nat])⟩
  |_=>trivial
noncomputable def lat0:List (Cmd×Nat):=[(.undo,6),(.again,6),(.ask .best,6),(.ask .ring,6),(.ask .row,6),(.ask (.part 0 1),6),(.ask (.length 1 1),6),(.ask (.apart 1 0),6),(.ask (.bars 1 0),6),(.ask (.must 0),6),(.put [(0,1)],6),(.ask (.apart 0 0),6),(.ask (.part 1 1),6)]
noncomputable def lat1(m:Nat):List (Cmd×Nat):=[(.ask (.part 1 1),0),(.ask (.part 0 (m+1)),0),(.ask (.part 2 1),0),(.ask (.length 0 1),1),(.ask (.length 2 1),1)]
noncomputable def lat2(m:Nat):List (Cmd×Nat):=[(.ask (.length (m+1) 99),1),(.ask (.apart 0 0),2),(.ask (.bars 0 0),2)]
noncomputable def lat3(m:Nat):List (Cmd×Nat):=[(.ask (.bars (m+1) 0),2),(.ask (.bars 2 m),2),(.ask (.must m),3)]
noncomputable def lat4(m:Nat):List (Cmd×Nat):=[(.put [(m,1)],3),(.put [(0,1),(999999,1)],3)]
noncomputable def lat5(k:Int):List (Cmd×Nat):=if k=1 then[(.undo,7),(.again,7)] else if k=2 then[(.again,7)] else[(.undo,7)]
noncomputable def q2k(c k:Int):List (Cmd×Nat):=if k=0 then lat0 else lat1 (numF c).length++lat2 (numF c).length++lat3 (numF c).length++lat4 (numF c).length++lat5 k
theorem lat0_ok:(lat0.all λp=>okB p.1 && decide (p.2=6))=true:=by decide
theorem latm_ok:∀m:Nat,m < 7->((lat1 m++lat2 m++lat3 m++lat4 m).all λp=>okB p.1)=true:=by decide
theorem lat5_ok(k:Int):((lat5 k).all λp=>okB p.1)=true:=by
 unfold lat5;split
 ·decide
 ·split<;>decide
theorem made_row{c k:Int}(h:k≠0):∃ns,(q0F c k).row=some ns/\ns.length=(numF c).length:=by
 unfold q0F;rw[if_neg h];by_cases h1:k=1
 ·rw[if_pos h1]
  exact⟨_,rfl,rfl⟩
 ·rw[if_neg h1]
  by_cases h2:k=2
  ·rw[if_pos h2]
   exact⟨_,rfl,q25⟩
  ·rw[if_neg h2]
   exact⟨_,rfl,rfl⟩
theorem later_ok{c k:Int}(k0:0<=k)(k3:k<=3):∀p,p∈q2k c k->p.1.ok/\Says (q0F c k) p.1 (.ref p.2) (q0F c k):=by
 obtain⟨_,n2,n6⟩:=q1p c;intro p hp;unfold q2k at hp;by_cases hk:k=0
 ·rw[if_pos hk] at hp
  have h:=List.all_eq_true.mp lat0_ok p hp;rw[Bool.and_eq_true,decide_eq_true_eq] at h;rw[h.2];exact⟨(q4R h.1).1,.none (q4R h.1).2 (by unfold q0F;rw[if_pos hk])⟩
 ·rw[if_neg hk] at hp
  obtain⟨ns,hrow,hlen⟩:=made_row (c:=c) hk;generalize (numF c).length=m at hp n2 n6 hlen;rcases List.mem_append.mp hp with hp|hp
  ·refine⟨(q4R (List.all_eq_true.mp (latm_ok m (by lia)) p hp)).1,?_⟩
   simp only[lat1,lat2,lat3,lat4,List.cons_append,List.nil_append,List.mem_cons,List.not_mem_nil,or_false] at hp;rcases hp with rfl|rfl|rfl|rfl|rfl|rfl|rfl|rfl|rfl|rfl|rfl|rfl|rfl
   ·exact .askN hrow (.partN (by lia))
   ·exact .askN hrow (.partN (by lia))
   ·exact .askN hrow (.partN (by lia))
   ·exact .askN hrow (.lengthN (by lia))
   ·exact .askN hrow (.lengthN (by lia))
   ·exact .askN hrow (.lengthN (by lia))
   ·exact .askN hrow .apartN
   ·exact .askN hrow (.barsN (.inl rfl))
   ·exact .askN hrow (.barsN (.inr ⟨by lia,q1B (by lia) (by lia)⟩))
   ·exact .askN hrow (.barsN (.inr ⟨by lia,q1B (by lia) (by lia)⟩))
   ·exact .askN hrow (.mustN (by lia))
   ·refine .putN hrow λz=>?_
    have:=(z (intC (m,1)) (List.mem_singleton.mpr rfl)).2;have e:(intC (m,1)).1=(m:Int):=rfl
    lia
   ·refine .putN hrow λz=>?_
    have:=(z (intC (999999,1)) (List.mem_cons_of_mem _ (List.mem_singleton.mpr rfl))).2;have e:(intC (999999,1)).1=999999:=rfl
    lia
  ·refine⟨(q4R (List.all_eq_true.mp (lat5_ok k) p hp)).1,?_⟩
   unfold lat5 at hp;unfold q0F;rw[if_neg hk];by_cases h1:k=1
   ·rw[if_pos h1] at hp ⊢
    simp only[List.mem_cons,List.not_mem_nil,or_false] at hp;rcases hp with rfl|rfl
    ·exact .undoN rfl rfl
    ·exact .againN rfl rfl
   ·rw[if_neg h1] at hp ⊢
    by_cases h2:k=2
    ·rw[if_pos h2] at hp ⊢
     rw[List.mem_singleton.mp hp];exact .againN rfl rfl
    ·rw[if_neg h2] at hp ⊢
     rw[List.mem_singleton.mp hp];exact .undoN rfl rfl
structure LatAt(H:Hp)(xs:List V)(ps:List (Cmd×Nat)):Prop where
 len:xs.length=ps.length
 at_:∀(i:Nat) (v:V) (p:Cmd×Nat),xs[i]?=some v->ps[i]?=some p->∃t,v = .ref t/\H t=some (.tup [.str p.1.text,.int (p.2:Int)])
theorem LatAt.nil:LatAt H [] []:=⟨rfl,λi v p e=>by simp at e⟩
theorem LatAt.cons{xs:List V}{ps:List (Cmd×Nat)}{t:Addr}{p:Cmd×Nat}(e:z=p.1.text)(h:H t=some (.tup [.str z,.int (p.2:Int)]))(l:LatAt H xs ps):LatAt H (.ref t::xs) (p::ps):=⟨by rw[List.length_cons,List.length_cons,l.len],λi v q e1 e2=>by
 cases i with
 |zero=>cases e1;cases e2;exact⟨t,rfl,by rw[<-e];exact h⟩
 |succ i=>exact l.at_ i v q e1 e2⟩
theorem LatAt.same{xs:List V}{ps:List (Cmd×Nat)}(l:LatAt H xs ps)(s:Same H H'):LatAt H' xs ps:=⟨l.len,λi v p e1 e2=>by
 obtain⟨t,e,h⟩:=l.at_ i v p e1 e2
 exact⟨t,e,s _ _ h⟩⟩
theorem LatAt.app{xs ys:List V}{ps qs:List (Cmd×Nat)}(l:LatAt H xs ps)(g:LatAt H ys qs):LatAt H (xs++ys) (ps++qs):=⟨by rw[List.length_append,List.length_append,l.len,g.len],λi v p e1 e2=>by
 by_cases hi:i < xs.length
 ·rw[List.getElem?_append_left hi] at e1
  rw[List.getElem?_append_left (by rw[<-l.len];exact hi)] at e2;exact l.at_ i v p e1 e2
 ·rw[List.getElem?_append_right (by lia)] at e1
  rw[List.getElem?_append_right (by rw[<-l.len];lia),<-l.len] at e2
  exact g.at_ _ v p e1 e2⟩
theorem q4d(a b:Str)(x:Int)(y:Str)(h:Txt.join (Str.ofString " ") [a,b]++Str.ofString " " = y):y++txt x=Txt.join (Str.ofString " ") [a,b,txt x]:=by
 rw[<-h,show[a,b,txt x]=a::[b]++[txt x] from rfl,q1s]
theorem one_text(a:Str)(x:Int)(y:Str)(h:a++Str.ofString " " = y):y++txt x=Txt.join (Str.ofString " ") [a,txt x]:=by
 rw[<-h,show[a,txt x]=a::[]++[txt x] from rfl,q1s,q0C]
theorem q4x(a:Str)(x:Int)(b y z:Str)(h1:a++Str.ofString " " = y)(h2:Str.ofString " "++b=z):y++txt x++z=Txt.join (Str.ofString " ") [a,txt x,b]:=by
 rw[<-h1,<-h2,show[a,txt x,b]=a::[txt x]++[b] from rfl,q1s,show[a,txt x]=a::[]++[txt x] from rfl,q1s,q0C];simp only[q3U]
noncomputable def q75:Sp:=λvs H Q _=>∃c k:Int,vs=[.int c,.int k]/\0<=k/\k<=3/\∀(l:Addr) (xs:List V) (H':Hp),Same H H'->H' l=some (.lst xs)->LatAt H' xs (q2k c k)->Q (.ref l) H'
theorem ok_later(F:Fun K "_law_later" "_law_later" q2I f fd)(Z:Blt mg)(yD:Def P w K mg base k "_law_numbers_of" ["first"] q2R):FnOk P w K mg base CX0 (k+1) f fd ["first","kind"] q75:=by
 refine F.ok sc_law_later (λvs H Q E h=>?_) (λcdv A outer s H vs Q E hr h=>?_)
 ·obtain⟨c,kd,rfl,_⟩:=h
  rfl
 obtain⟨c,kd,rfl,k0,k3,fin⟩:=h;obtain⟨hN,n2,n6⟩:=q1p c
 w_up
 ·refine' qB ?g8 ?r8
  case g8=>
   exact(ps_set (i:=2) sc_law_later.nd rfl (by k_ne) (qP (qQ (K:=K) rfl) rfl Z.len_ PySem.boot_len (pa_cons (qI yD hr rfl (pa_cons (pv 0) qA)) qA)))
  case r8=>
   refine' qB ?g9 ?r9
   case g9=>
    refine' qY ?c10 ?a10 ?b10
    case c10=>exact(qL q0X (pv 1) qD (qU _))
    case a10=>
     refine' qB ?g11 ?r11
     case g11=>
      refine' @L2.ps_set _ _ 3 _ _ _ _ sc_law_later.nd rfl (by k_ne) ?he rfl (by k_ne)
      case he=>
       refine' @L2.pe_lst _ _ _ _ ?ha
       case ha=>
        refine' @L2.pa_cons _ _ _ _ _ ?hx0 ?ha0 rfl
        case hx0=>exact qE
        case ha0=>
         refine' @L2.pa_cons _ _ _ _ _ ?hx1 ?ha1 rfl
         case hx1=>exact qE
         case ha1=>
          refine' @L2.pa_cons _ _ _ _ _ ?hx2 ?ha2 rfl
          case hx2=>exact qE
          case ha2=>
           refine' @L2.pa_cons _ _ _ _ _ ?hx3 ?ha3 rfl
           case hx3=>exact qE
           case ha3=>
            refine' @L2.pa_cons _ _ _ _ _ ?hx4 ?ha4 rfl
            case hx4=>exact qE
            case ha4=>
             refine' @L2.pa_cons _ _ _ _ _ ?hx5 ?ha5 rfl
             case hx5=>exact qE
             case ha5=>
              refine' @L2.pa_cons _ _ _ _ _ ?hx6 ?ha6 rfl
              case hx6=>exact qE
              case ha6=>
               refine' @L2.pa_cons _ _ _ _ _ ?hx7 ?ha7 rfl
               case hx7=>exact qE
               case ha7=>
                refine' @L2.pa_cons _ _ _ _ _ ?hx8 ?ha8 rfl
                case hx8=>exact qE
                case ha8=>
                 refine' @L2.pa_cons _ _ _ _ _ ?hx9 ?ha9 rfl
                 case hx9=>exact qE
                 case ha9=>
                  exact qA
     case r11=>
      refine' qC ?g12
      case g12=>
       exact(qK (q18 (N':=["row"]) (ix:=[none]) rfl rfl (by decide +kernel) rfl rfl rfl rfl (qm (K:=K) rfl (qT q0E (pv 3) (pe_lst (pa_cons qE (pa_cons qE (pa_cons qE qA)))))) (λ_ _ _ _=>(qZ (i:=0) (show List.Nodup (["row"]:List Str) by decide +kernel) rfl (by k_ne))) (λ_ _ _ _=>qq) (λ_ _ _ _=>(qf (pa_cons (pv 0) (pa_cons qD qA))))))
    case b10=>
     exact qO
   case r9=>
    refine' qB ?g13 ?r13
    case g13=>
     refine' @L2.ps_set _ _ 4 _ _ _ _ sc_law_later.nd rfl (by k_ne) ?he rfl (by k_ne)
     case he=>
      refine' @L2.pe_lst _ _ _ _ ?ha
      case ha=>
       refine' @L2.pa_cons _ _ _ _ _ ?hx0 ?ha0 rfl
       case hx0=>exact(qf (pa_cons qE (pa_cons qD qA)))
       case ha0=>
        refine' @L2.pa_cons _ _ _ _ _ ?hx1 ?ha1 rfl
        case hx1=>(refine' qf ?hq;case hq=>exact(pa_cons (qT qX qE (qa qe rfl Z.str_ PyProof.Rows.boot_str (pa_cons (qT qo (pv 2) qD) qA))) (pa_cons qD qA)))
        case ha1=>
         refine' @L2.pa_cons _ _ _ _ _ ?hx2 ?ha2 rfl
         case hx2=>exact(qf (pa_cons qE (pa_cons qD qA)))
         case ha2=>
          refine' @L2.pa_cons _ _ _ _ _ ?hx3 ?ha3 rfl
          case hx3=>exact(qf (pa_cons qE (pa_cons qD qA)))
          case ha3=>
           refine' @L2.pa_cons _ _ _ _ _ ?hx4 ?ha4 rfl
           case hx4=>exact(qf (pa_cons qE (pa_cons qD qA)))
           case ha4=>
            exact qA
    case r13=>
     refine' qB ?g14 ?r14
     case g14=>
      exact(ps_set (i:=4) sc_law_later.nd rfl (by k_ne) (qT q0E (pv 4) (pe_lst (pa_cons (qf (pa_cons (qT qX (qT qX qE (qa qe rfl Z.str_ PyProof.Rows.boot_str (pa_cons (qT qo (pv 2) qD) qA))) qE) (pa_cons qD qA))) (pa_cons (qf (pa_cons qE (pa_cons qD qA))) (pa_cons (qf (pa_cons qE (pa_cons qD qA))) qA))))))
     case r14=>
      refine' qB ?g15 ?r15
      case g15=>
       exact(ps_set (i:=4) sc_law_later.nd rfl (by k_ne) (qT q0E (pv 4) (pe_lst (pa_cons (qf (pa_cons (qT qX (qT qX qE (qa qe rfl Z.str_ PyProof.Rows.boot_str (pa_cons (qT qo (pv 2) qD) qA))) qE) (pa_cons qD qA))) (pa_cons (qf (pa_cons (qT qX qE (qa qe rfl Z.str_ PyProof.Rows.boot_str (pa_cons (pv 2) qA))) (pa_cons qD qA))) (pa_cons (qf (pa_cons (qT qX qE (qa qe rfl Z.str_ PyProof.Rows.boot_str (pa_cons (pv 2) qA))) (pa_cons qD qA))) qA))))))
      case r15=>
       refine' qB ?g16 ?r16
       case g16=>
        exact(ps_set (i:=4) sc_law_later.nd rfl (by k_ne) (qT q0E (pv 4) (pe_lst (pa_cons (qf (pa_cons (qT qX (qT qX qE (qa qe rfl Z.str_ PyProof.Rows.boot_str (pa_cons (pv 2) qA))) qE) (pa_cons qD qA))) (pa_cons (qf (pa_cons qE (pa_cons qD qA))) qA)))))
       case r16=>
        refine' qC ?g17
        case g17=>
         exact(qK (qT q0E (pv 4) (qM (qR (K:=K) rfl) (pe_lst (pa_cons (pe_lst (pa_cons (qf (pa_cons qE (pa_cons qD qA))) (pa_cons (qf (pa_cons qE (pa_cons qD qA))) qA))) (pa_cons (pe_lst (pa_cons (qf (pa_cons qE (pa_cons qD qA))) qA)) (pa_cons (pe_lst (pa_cons (qf (pa_cons qE (pa_cons qD qA))) qA)) qA)))) (qT q0Q (pv 1) qD) (λ_ _=>rfl))))
 have hlm:((numF c).map V.int).length=(numF c).length:=List.length_map _;unfold q2k at fin;generalize hm:(numF c).length=m at n2 n6 fin hlm;refine seqU (λσ' H'=>Same H H'/\σ'=[some (.int c),some (.int kd),some (.int (m:Int)),none,none]) ?_ (λR hR=>?_)
 case refine_2=>
  lk;intro l H1 s1 _ hl;refine⟨l,_,rfl,.inl (SqL.of hl),?_⟩;rw[hlm];exact hR _ _ ⟨s1,rfl⟩
 rintro σ' H1 ⟨s1,rfl⟩;refine seqU (λσ' H'=>kd≠0/\H1=H'/\σ'=[some (.int c),some (.int kd),some (.int (m:Int)),none,none]) ?_ (λR hR=>?_)
 case refine_2=>
  lk;refine ifD (λz=>?_) (λz=>hR _ _ ⟨λq=>z (by rw[q]),rfl,rfl⟩);have z:=V.int.inj z;rw[if_pos z] at fin;lk;refine⟨by show 10<=sizeLine;decide,λp hp=>?_⟩;have t1:=Same.new hp (.lst ((lat0.take 10).map λp=>V.str p.1.text));lk;refine⟨by show 3<=sizeLine;decide,λq hq=>?_⟩;have t2:=Same.new hq (.lst ((lat0.drop 10).map λp=>V.str p.1.text));lk;refine⟨p,q,(lat0.take 10).map λp=>V.str p.1.text,(lat0.drop 10).map λp=>V.str p.1.text,rfl,rfl,t2 _ _ q0,q0,Nat.le_of_lt (small (by decide)),λr hr0=>?_⟩;have t3:=Same.new hr0 (.lst (lat0.map λp=>V.str p.1.text));have s4:=s1.trans (t1.trans (t2.trans t3));lk;refine⟨⟨lat0.map λp=>V.str p.1.text,SqL.of q0⟩,?_⟩;intro acc hacc;have hacc0:H acc=none:=s4.free hacc;have hra:r≠acc:=λq=>by rw[<-q,q0] at hacc;cases hacc
  refine qp (n:=13) (λi τ zs H'=>H' acc=some (.lst zs)/\LatAt H' zs (lat0.take i)/\zs.length=i/\H' r=some (.lst (lat0.map λp=>V.str p.1.text))/\Same H H'/\∃o0,τ=[o0]) ⟨q0,.nil,rfl,by rw[qG hra];exact q0,s4.upd hacc0,none,rfl⟩ (by decide) ?_ ?_ ?_ ?_
  ·rintro i τ zs H' ⟨e,_,hz,_⟩
   exact⟨e,by lia⟩
  ·rintro i τ zs H' hi ⟨e,_,_,hr',_⟩
   have hi':i < lat0.length:=hi;exact⟨_,V.str lat0[i].1.text,SqL.of hr',by rw[List.getElem?_map,List.getElem?_eq_getElem hi'];rfl⟩
  ·rintro τ zs H' ⟨e,hL,_,hr',sm,_⟩
   refine⟨⟨_,SqL.of hr',by rw[List.length_map];exact Nat.le_refl _⟩,?_⟩;exact fin acc zs H' sm e hL
  ·rintro i τ zs H' v H3 hi ⟨e,hL,hz,hr',sm,o0,rfl⟩ ⟨rfl,y⟩
   have hi':i < lat0.length:=hi;have ey:=y _ (SqL.of hr');rw[List.getElem?_map,List.getElem?_eq_getElem hi'] at ey;obtain rfl:V.str lat0[i].1.text=v:=Option.some.inj ey;have h6:=List.all_eq_true.mp lat0_ok _ (List.getElem_mem hi');rw[Bool.and_eq_true,decide_eq_true_eq] at h6;lk;refine⟨by show 2<=sizeLine;decide,λt ht=>?_⟩;have s5:=Same.new ht (.tup [.str lat0[i].1.text,.int 6]);have e5:=s5 _ _ e;refine⟨e5,Nx.mk hi ⟨q0,?_,by rw[List.length_append,hz];rfl,?_,(sm.trans s5).upd hacc0,_,rfl⟩⟩
   ·rw[List.take_succ_eq_append_getElem hi']
    have hta:t≠acc:=λq=>by rw[q] at ht;rw[e] at ht;cases ht
    refine LatAt.app ⟨hL.len,λi v p e1 e2=>?_⟩ (.cons rfl (by rw[qG hta,q0,h6.2];rfl) .nil);obtain⟨t',q,hq⟩:=hL.at_ i v p e1 e2;exact⟨t',q,by rw[qG (λq2=>by rw[q2,e] at hq;cases hq)];exact s5 _ _ hq⟩
   ·rw[qG hra]
    exact s5 _ _ hr'
 rintro σ' H' ⟨hk,rfl,rfl⟩;rw[if_neg hk] at fin;have lt0:(txt (m:Int)).length<=31:=q0k (by lia);have lt1:(txt ((m:Int)+1)).length<=31:=q0k (by lia);refine seqU (λσ' H'=>∃(l:Addr) (xs:List V),Same H H'/\H' l=some (.lst xs)/\LatAt H' xs (lat1 m)/\σ'=[some (.int c),some (.int kd),some (.int (m:Int)),none,some (.ref l)]) ?_ (λR hR=>?_)
 case refine_2=>
  lk;refine⟨by show 2<=sizeLine;decide,λa1 h1=>?_⟩;have r1:=Same.new h1 (.tup [.str (Str.ofString "part 1 1"),.int 0]);lk;refine⟨Nat.lt_trans (q2Q (n:=((m:Int)+1)) (by lia)) (by decide),?_⟩;lk;refine⟨Nat.le_of_lt (small (by show 7+(txt ((m:Int)+1)).length<=_;lia)),?_⟩;lk;refine⟨by show 2<=sizeLine;decide,λa2 h2=>?_⟩;have r2:=Same.new h2 (.tup [.str (Str.ofString "part 0 "++txt ((m:Int)+1)),.int 0]);lk;refine⟨by show 2<=sizeLine;decide,λa3 h3=>?_⟩;have r3:=Same.new h3 (.tup [.str (Str.ofString "part 2 1"),.int 0]);lk;refine⟨by show 2<=sizeLine;decide,λa4 h4=>?_⟩;have r4:=Same.new h4 (.tup [.str (Str.ofString "length 0 1"),.int 1]);lk;refine⟨by show 2<=sizeLine;decide,λa5 h5=>?_⟩;have r5:=Same.new h5 (.tup [.str (Str.ofString "length 2 1"),.int 1]);lk;refine⟨by show 5<=sizeLine;decide,λb hb=>?_⟩;have rb:=Same.new hb (.lst [.ref a1,.ref a2,.ref a3,.ref a4,.ref a5])
  have rr:=(r1.trans (r2.trans (r3.trans (r4.trans (r5.trans rb)))))
  exact hR _ _ ⟨b,_,s1.trans rr,q0,(LatAt.cons (rfl) ((r2.trans (r3.trans (r4.trans (r5.trans rb)))) _ _ q0) (LatAt.cons (q4d (Str.ofString "part") (txt 0) _ _ rfl) ((r3.trans (r4.trans (r5.trans rb))) _ _ q0) (LatAt.cons (rfl) ((r4.trans (r5.trans rb)) _ _ q0) (LatAt.cons (rfl) ((r5.trans rb) _ _ q0) (LatAt.cons (rfl) (rb _ _ q0) LatAt.nil))))),rfl⟩
 rintro σ' H2 ⟨l,xs,sx,hl,hx,rfl⟩;refine seqU (λσ' H'=>∃(l:Addr) (xs:List V),Same H H'/\H' l=some (.lst xs)/\LatAt H' xs (lat1 m++lat2 m)/\σ'=[some (.int c),some (.int kd),some (.int (m:Int)),none,some (.ref l)]) ?_ (λR hR=>?_)
 case refine_2=>
  lk;refine⟨Nat.lt_trans (q2Q (n:=((m:Int)+1)) (by lia)) (by decide),?_⟩;lk;refine⟨Nat.le_of_lt (small (by show 7+(txt ((m:Int)+1)).length<=_;lia)),?_⟩;lk;refine⟨Nat.le_of_lt (small (by rw[q0l];show 7+(txt ((m:Int)+1)).length+3<=_;lia)),?_⟩;lk;refine⟨by show 2<=sizeLine;decide,λa6 h6=>?_⟩;have r6:=Same.new h6 (.tup [.str (Str.ofString "length "++txt ((m:Int)+1)++Str.ofString " 99"),.int 1]);lk;refine⟨by show 2<=sizeLine;decide,λa7 h7=>?_⟩;have r7:=Same.new h7 (.tup [.str (Str.ofString "apart 0 0"),.int 2]);lk;refine⟨by show 2<=sizeLine;decide,λa8 h8=>?_⟩;have r8:=Same.new h8 (.tup [.str (Str.ofString "bars 0 0"),.int 2]);lk;refine⟨by show 3<=sizeLine;decide,λb hb=>?_⟩;have rb:=Same.new hb (.lst [.ref a6,.ref a7,.ref a8])
  have rr:=(r6.trans (r7.trans (r8.trans rb)))
  have lat:LatAt _ [.ref a6,.ref a7,.ref a8] (lat2 m):=(LatAt.cons (q4x (Str.ofString "length") _ (txt 99) _ _ rfl rfl) ((r7.trans (r8.trans rb)) _ _ q0) (LatAt.cons (rfl) ((r8.trans rb) _ _ q0) (LatAt.cons (rfl) (rb _ _ q0) LatAt.nil)));have hxl:=hx.len;refine⟨l,b,_,_,rfl,rfl,rr _ _ hl,q0,Nat.le_of_lt (small (by rw[hxl];simp only[lat1,lat2,lat3,List.length_append,List.length_cons,List.length_nil];decide)),λd hd=>?_⟩;have rd:=Same.new hd (.lst (xs++[.ref a6,.ref a7,.ref a8]));exact hR _ _ ⟨d,_,sx.trans (rr.trans rd),q0,(hx.same (rr.trans rd)).app (lat.same rd),rfl⟩
 rintro σ' H2 ⟨l,xs,sx,hl,hx,rfl⟩;refine seqU (λσ' H'=>∃(l:Addr) (xs:List V),Same H H'/\H' l=some (.lst xs)/\LatAt H' xs (lat1 m++lat2 m++lat3 m)/\σ'=[some (.int c),some (.int kd),some (.int (m:Int)),none,some (.ref l)]) ?_ (λR hR=>?_)
 case refine_2=>
  lk;refine⟨Nat.lt_trans (q2Q (n:=((m:Int)+1)) (by lia)) (by decide),?_⟩;lk;refine⟨Nat.le_of_lt (small (by show 5+(txt ((m:Int)+1)).length<=_;lia)),?_⟩;lk;refine⟨Nat.le_of_lt (small (by rw[q0l];show 5+(txt ((m:Int)+1)).length+2<=_;lia)),?_⟩;lk;refine⟨by show 2<=sizeLine;decide,λa9 h9=>?_⟩;have r9:=Same.new h9 (.tup [.str (Str.ofString "bars "++txt ((m:Int)+1)++Str.ofString " 0"),.int 2]);lk;refine⟨Nat.lt_trans (q2Q (n:=(m:Int)) (by lia)) (by decide),?_⟩;lk;refine⟨Nat.le_of_lt (small (by show 7+(txt (m:Int)).length<=_;lia)),?_⟩;lk;refine⟨by show 2<=sizeLine;decide,λa10 h10=>?_⟩;have r10:=Same.new h10 (.tup [.str (Str.ofString "bars 2 "++txt (m:Int)),.int 2]);lk;refine⟨Nat.lt_trans (q2Q (n:=(m:Int)) (by lia)) (by decide),?_⟩;lk;refine⟨Nat.le_of_lt (small (by show 5+(txt (m:Int)).length<=_;lia)),?_⟩;lk;refine⟨by show 2<=sizeLine;decide,λa11 h11=>?_⟩;have r11:=Same.new h11 (.tup [.str (Str.ofString "must "++txt (m:Int)),.int 3]);lk;refine⟨by show 3<=sizeLine;decide,λb hb=>?_⟩;have rb:=Same.new hb (.lst [.ref a9,.ref a10,.ref a11])
  have rr:=(r9.trans (r10.trans (r11.trans rb)))
  have lat:LatAt _ [.ref a9,.ref a10,.ref a11] (lat3 m):=(LatAt.cons (q4x (Str.ofString "bars") _ (txt 0) _ _ rfl rfl) ((r10.trans (r11.trans rb)) _ _ q0) (LatAt.cons (q4d (Str.ofString "bars") (txt 2) _ _ rfl) ((r11.trans rb) _ _ q0) (LatAt.cons (one_text (Str.ofString "must") _ _ rfl) (rb _ _ q0) LatAt.nil)));have hxl:=hx.len;refine⟨l,b,_,_,rfl,rfl,rr _ _ hl,q0,Nat.le_of_lt (small (by rw[hxl];simp only[lat1,lat2,lat3,List.length_append,List.length_cons,List.length_nil];decide)),λd hd=>?_⟩;have rd:=Same.new hd (.lst (xs++[.ref a9,.ref a10,.ref a11]));exact hR _ _ ⟨d,_,sx.trans (rr.trans rd),q0,(hx.same (rr.trans rd)).app (lat.same rd),rfl⟩
 rintro σ' H2 ⟨l,xs,sx,hl,hx,rfl⟩;refine seqU (λσ' H'=>∃(l:Addr) (xs:List V),Same H H'/\H' l=some (.lst xs)/\LatAt H' xs (lat1 m++lat2 m++lat3 m++lat4 m)/\σ'=[some (.int c),some (.int kd),some (.int (m:Int)),none,some (.ref l)]) ?_ (λR hR=>?_)
 case refine_2=>
  lk;refine⟨Nat.lt_trans (q2Q (n:=(m:Int)) (by lia)) (by decide),?_⟩;lk;refine⟨Nat.le_of_lt (small (by show 4+(txt (m:Int)).length<=_;lia)),?_⟩;lk;refine⟨Nat.le_of_lt (small (by rw[q0l];show 4+(txt (m:Int)).length+2<=_;lia)),?_⟩;lk;refine⟨by show 2<=sizeLine;decide,λa12 h12=>?_⟩;have r12:=Same.new h12 (.tup [.str (Str.ofString "put "++txt (m:Int)++Str.ofString " 1"),.int 3]);lk;refine⟨by show 2<=sizeLine;decide,λa13 h13=>?_⟩;have r13:=Same.new h13 (.tup [.str (Str.ofString "put 0 1 999999 1"),.int 3]);lk;refine⟨by show 2<=sizeLine;decide,λb hb=>?_⟩;have rb:=Same.new hb (.lst [.ref a12,.ref a13])
  have rr:=(r12.trans (r13.trans rb))
  have lat:LatAt _ [.ref a12,.ref a13] (lat4 m):=(LatAt.cons (q4x (Str.ofString "put") _ (txt 1) _ _ rfl rfl) ((r13.trans rb) _ _ q0) (LatAt.cons (rfl) (rb _ _ q0) LatAt.nil));have hxl:=hx.len;refine⟨l,b,_,_,rfl,rfl,rr _ _ hl,q0,Nat.le_of_lt (small (by rw[hxl];simp only[lat1,lat2,lat3,List.length_append,List.length_cons,List.length_nil];decide)),λd hd=>?_⟩;have rd:=Same.new hd (.lst (xs++[.ref a12,.ref a13]));exact hR _ _ ⟨d,_,sx.trans (rr.trans rd),q0,(hx.same (rr.trans rd)).app (lat.same rd),rfl⟩
 rintro σ' H2 ⟨l,xs,sx,hl,hx,rfl⟩;lk;refine⟨by show 2<=sizeLine;decide,λc1 g1=>?_⟩;have q1:=Same.new g1 (.tup [.str (Str.ofString "undo"),.int 7]);lk;refine⟨by show 2<=sizeLine;decide,λc2 g2=>?_⟩;have q2:=Same.new g2 (.tup [.str (Str.ofString "again"),.int 7]);lk;refine⟨by show 2<=sizeLine;decide,λp1 g3=>?_⟩;have q3:=Same.new g3 (.lst [.ref c1,.ref c2]);lk;refine⟨by show 2<=sizeLine;decide,λc3 g4=>?_⟩;have q4:=Same.new g4 (.tup [.str (Str.ofString "again"),.int 7]);lk;refine⟨by show 1<=sizeLine;decide,λp2 g5=>?_⟩;have q5:=Same.new g5 (.lst [.ref c3]);lk;refine⟨by show 2<=sizeLine;decide,λc4 g6=>?_⟩;have q6:=Same.new g6 (.tup [.str (Str.ofString "undo"),.int 7]);lk;refine⟨by show 1<=sizeLine;decide,λp3 g7=>?_⟩;have q7:=Same.new g7 (.lst [.ref c4]);lk;refine⟨by show 3<=sizeLine;decide,λp4 g8=>?_⟩;have q8:=Same.new g8 (.lst [.ref p1,.ref p2,.ref p3]);have w7:=q7.trans q8;have w6:=q6.trans w7;have w5:=q5.trans w6;have w4:=q4.trans w5;have w3:=q3.trans w4;have w2:=q2.trans w3;have w1:=q1.trans w2;lk
 obtain⟨pz,zs,ep,hpz,hlat⟩:∃(pz:Addr) (zs:List V),atI [V.ref p1,V.ref p2,V.ref p3] (kd-1)=some (.ref pz)/\(upd (upd (upd (upd (upd (upd (upd (upd H2 c1 (.tup [.str (Str.ofString "undo"),.int 7])) c2 (.tup [.str (Str.ofString "again"),.int 7])) p1 (.lst [.ref c1,.ref c2])) c3 (.tup [.str (Str.ofString "again"),.int 7])) p2 (.lst [.ref c3])) c4 (.tup [.str (Str.ofString "undo"),.int 7])) p3 (.lst [.ref c4])) p4 (.lst [.ref p1,.ref p2,.ref p3])) pz=some (HO.lst zs)/\LatAt (upd (upd (upd (upd (upd (upd (upd (upd H2 c1 (.tup [.str (Str.ofString "undo"),.int 7])) c2 (.tup [.str (Str.ofString "again"),.int 7])) p1 (.lst [.ref c1,.ref c2])) c3 (.tup [.str (Str.ofString "again"),.int 7])) p2 (.lst [.ref c3])) c4 (.tup [.str (Str.ofString "undo"),.int 7])) p3 (.lst [.ref c4])) p4 (.lst [.ref p1,.ref p2,.ref p3])) zs (lat5 kd):=by
  unfold lat5;by_cases e1:kd=1
  ·rw[if_pos e1]
   exact⟨p1,_,by rw[e1];rfl,w4 _ _ q0,.cons rfl (w2 _ _ q0) (.cons rfl (w3 _ _ q0) .nil)⟩
  ·rw[if_neg e1]
   by_cases e2:kd=2
   ·rw[if_pos e2]
    exact⟨p2,_,by rw[e2];rfl,w6 _ _ q0,.cons rfl (w5 _ _ q0) .nil⟩
   ·rw[if_neg e2]
    exact⟨p3,_,by rw[show kd=3 by lia];rfl,q8 _ _ q0,.cons rfl (w7 _ _ q0) .nil⟩
 refine⟨p4,_,_,_,rfl,rfl,SqL.of q0,ep,?_⟩;have hxl:=hx.len;have hzl:=hlat.len;have hz2:(lat5 kd).length<=2:=by
  unfold lat5;split
  ·decide
  ·split<;>decide
 refine⟨l,pz,_,_,rfl,rfl,w1 _ _ hl,hpz,Nat.le_of_lt (small (by rw[hxl,hzl];simp only[lat1,lat2,lat3,lat4,List.length_append,List.length_cons,List.length_nil];lia)),λd hd=>?_⟩;have q9:=Same.new hd (.lst (xs++zs));exact fin d _ _ (sx.trans (w1.trans q9)) q0 ((hx.same (w1.trans q9)).app (hlat.same q9))
noncomputable def DueV(H:Hp)(v:V):Rep->Prop
 |.ans z=>v = .str z
 |.ref i=>∃l,v = .ref l/\H l=some (.lst ((due i).map V.bl))
inductive SaysAll (st:Dst):List Cmd->List Rep->Dst->Prop where
 |nil:SaysAll st [] [] st
 |snoc {cs:List Cmd} {rs:List Rep} {s1 s2:Dst} {c:Cmd} {r:Rep}:SaysAll st cs rs s1->Says s1 c r s2->SaysAll st (cs++[c]) (rs++[r]) s2
theorem SaysAll.inv{s2:Dst}{cs:List Cmd}(h:SaysAll st cs rs s2):(cs=[]/\rs=[]/\s2=st)\/∃cs' rs' c r s1,cs=cs'++[c]/\rs=rs'++[r]/\SaysAll st cs' rs' s1/\Says s1 c r s2:=by
 cases h with
 |nil=>exact .inl ⟨rfl,rfl,rfl⟩
 |snoc h g=>exact .inr ⟨_,_,_,_,_,rfl,rfl,h,g⟩
theorem SaysAll.uniq{st s1:Dst}{cs:List Cmd}{rs:List Rep}(h:SaysAll st cs rs s1):∀{rs':List Rep} {s1':Dst},SaysAll st cs rs' s1'->rs=rs'/\s1=s1':=by
 induction h with
 | nil=>
  intro rs' s1' g;rcases g.inv with⟨_,e2,e3⟩|⟨cs',rs',c,r,s,e,_⟩
  ·exact⟨e2.symm,e3.symm⟩
  ·exact absurd e.symm (List.append_ne_nil_of_right_ne_nil _ (List.cons_ne_nil _ _))
 | snoc h k ih=>
  intro rs' s1' g;rcases g.inv with⟨e,_⟩|⟨cs',rs'',c,r,s,e,e2,g1,g2⟩
  ·exact absurd e (List.append_ne_nil_of_right_ne_nil _ (List.cons_ne_nil _ _))
  ·obtain⟨l1,l2⟩:=List.append_inj' e rfl
   cases l1;cases l2;obtain⟨e3,rfl⟩:=ih g1;obtain⟨e4,e5⟩:=k.uniq g2;rw[e2,e3,e4];exact⟨rfl,e5⟩
noncomputable def seenC:List Cmd:=[.ask .row,.ask .best,.ask .ring,.again,.undo,.undo,.ask .best,.put [(0,9)],.ask (.must 1),.ask (.apart 1 0),.undo,.ask .row,.again,.ask (.part 0 2)]
theorem seenC_ok:(seenC.all okB)=true:=by decide
structure SeenAt(H:Hp)(xs:List V)(rs:List Rep):Prop where
 len:xs.length=rs.length
 at_:∀(i:Nat) (v:V) (r:Rep),xs[i]?=some v->rs[i]?=some r->DueV H v r
theorem DueV.keep{r:Rep}(h:DueV H v r)(s:∀(l:Addr) (bs:List Bool),v = .ref l->H l=some (.lst (bs.map V.bl))->H' l=some (.lst (bs.map V.bl))):DueV H' v r:=by
 cases r with
 |ans z=>exact h
 | ref i=>
  obtain⟨l,e,k⟩:=h;exact⟨l,e,s l _ e k⟩
theorem SeenAt.keep{H H':Hp}{xs:List V}{rs:List Rep}(h:SeenAt H xs rs)(s:∀(l:Addr) (bs:List Bool),V.ref l∈xs->H l=some (.lst (bs.map V.bl))->H' l=some (.lst (bs.map V.bl))):SeenAt H' xs rs:=⟨h.len,λi v r e1 e2=>(h.at_ i v r e1 e2).keep λl bs e k=>s l bs (by rw[<-e];exact List.mem_of_getElem? e1) k⟩
theorem SeenAt.push{xs:List V}{r:Rep}(h:SeenAt H xs rs)(k:DueV H v r):SeenAt H (xs++[v]) (rs++[r]):=⟨by rw[List.length_append,List.length_append,h.len];rfl,λi w q e1 e2=>by
 by_cases hi:i < xs.length
 ·rw[List.getElem?_append_left hi] at e1
  rw[List.getElem?_append_left (by rw[<-h.len];exact hi)] at e2;exact h.at_ i w q e1 e2
 ·rw[List.getElem?_append_right (by lia)] at e1
  rw[List.getElem?_append_right (by rw[<-h.len];lia),<-h.len] at e2
  cases hd:i-xs.length with
  |zero=>rw[hd] at e1 e2;cases e1;cases e2;exact k
  |succ j=>rw[hd] at e1;simp at e1⟩
theorem Says.count1{c:Cmd}{r:Rep}(h:Says st c r st'):st'.earlier.length+st'.undone.length<=st.earlier.length+st.undone.length+1:=by
 cases h with
 |row=>exact Nat.zero_le _
 |put _ _ _=>simp only[List.length_append,List.length_nil,List.length_cons];lia
 |undo _ e _=>rw[e];simp only[List.length_append,List.length_nil,List.length_cons];lia
 |again _ e _=>rw[e];simp only[List.length_append,List.length_nil,List.length_cons];lia
 |_=>lia
theorem qc{a' x:Addr}{o:HO}(n:a≠x)(h:a'=a\/H a'=none)(k:H x=some o):a'≠x:=by
 rcases h with rfl|h
 ·exact n
 ·exact Ne.symm (qJ k h)
theorem SeenAt.ref_at{xs:List V}{l:Addr}(h:SeenAt H xs rs)(e:xs[i]?=some (.ref l)):∃l2,V.ref l = .ref l2/\∃o,H l2=some o:=by
 have hi:=(List.getElem?_eq_some_iff.mp e).1;have hd:=h.at_ i _ _ e (List.getElem?_eq_getElem (by rw[<-h.len];exact hi))
 cases hr:rs[i]'(by rw[<-h.len];exact hi) with
 |ans z=>rw[hr] at hd;cases(show V.ref l = .str z from hd)
 | ref j=>
  rw[hr] at hd;obtain⟨l2,e2,k⟩:=hd;exact⟨l2,e2,_,k⟩
theorem DeskAt.keepL{u:Addr}{zs ys:List V}(h:DeskAt C H d e u st)(ha:H a=some (.lst zs))(ae:a≠e)(au:a≠u):DeskAt C (upd H a (.lst ys)) d e u st:=by
 obtain⟨dx,v,xe,xu,h1,h2,h3,h4,h5,h6⟩:=h.ex;have t:q37 H (upd H a (.lst ys)):=λb xs z=>by rw[qG (λq=>by rw[q,ha] at z;cases z)];exact z
 exact⟨⟨dx,v,xe,xu,by rw[qG (λq=>by rw[q,ha] at h1;cases h1)];exact h1,h2.keep t,by rw[qG (Ne.symm ae)];exact h3,h4.keep t,by rw[qG (Ne.symm au)];exact h5,h6.keep t⟩,h.ne,h.rows,h.few⟩
noncomputable def sp_seen(C:Addr):Sp:=λvs H Q _=>∃(d e u:Addr) (st:Dst),vs=[.ref d]/\DeskAt C H d e u st/\st.earlier.length+st.undone.length<=300/\
 ∀(l:Addr) (xs:List V) (rs:List Rep) (st':Dst) (H':Hp),FrD d e u H H'->H' l=some (.lst xs)->SeenAt H' xs rs->SaysAll st seenC rs st'->Q (.ref l) H'
theorem ok_seen(F:Fun K "_law_seen" "_law_seen" q2w f fd)(Z:Blt mg)(yP:Def P w K mg base k "_law_said" ["desk","row"] (q3J C)):FnOk P w K mg base CX0 (k+1) f fd ["desk"] (sp_seen C):=by
 refine F.ok sc_law_seen (λvs H Q E h=>?_) (λcdv A outer s H vs Q E hr h=>?_)
 ·obtain⟨d,e,u,st,rfl,_⟩:=h
  rfl
 obtain⟨d,e0,u0,st,rfl,hD,hfew,fin⟩:=h
 w_up
 ·refine' qB ?g18 ?r18
  case g18=>
   refine' @L2.ps_set _ _ 1 _ _ _ _ sc_law_seen.nd rfl (by k_ne) ?he rfl (by k_ne)
   case he=>
    refine' @L2.pe_lst _ _ _ _ ?ha
    case ha=>
     refine' @L2.pa_cons _ _ _ _ _ ?hx0 ?ha0 rfl
     case hx0=>exact qE
     case ha0=>
      refine' @L2.pa_cons _ _ _ _ _ ?hx1 ?ha1 rfl
      case hx1=>exact qE
      case ha1=>
       refine' @L2.pa_cons _ _ _ _ _ ?hx2 ?ha2 rfl
       case hx2=>exact qE
       case ha2=>
        refine' @L2.pa_cons _ _ _ _ _ ?hx3 ?ha3 rfl
        case hx3=>exact qE
        case ha3=>
         refine' @L2.pa_cons _ _ _ _ _ ?hx4 ?ha4 rfl
         case hx4=>exact qE
         case ha4=>
          refine' @L2.pa_cons _ _ _ _ _ ?hx5 ?ha5 rfl
          case hx5=>exact qE
          case ha5=>
           refine' @L2.pa_cons _ _ _ _ _ ?hx6 ?ha6 rfl
           case hx6=>exact qE
           case ha6=>
            refine' @L2.pa_cons _ _ _ _ _ ?hx7 ?ha7 rfl
            case hx7=>exact qE
            case ha7=>
             refine' @L2.pa_cons _ _ _ _ _ ?hx8 ?ha8 rfl
             case hx8=>exact qE
             case ha8=>
              refine' @L2.pa_cons _ _ _ _ _ ?hx9 ?ha9 rfl
              case hx9=>exact qE
              case ha9=>
               refine' @L2.pa_cons _ _ _ _ _ ?hx10 ?ha10 rfl
               case hx10=>exact qE
               case ha10=>
                refine' @L2.pa_cons _ _ _ _ _ ?hx11 ?ha11 rfl
                case hx11=>exact qE
                case ha11=>
                 exact qA
  case r18=>
   refine' qC ?g19
   case g19=>
    exact(qK (q18 (N':=["row","desk"]) (ix:=[none,some 0]) rfl rfl (by decide +kernel) rfl rfl rfl rfl (qm (K:=K) rfl (qT q0E (pv 1) (pe_lst (pa_cons qE (pa_cons qE qA))))) (λ_ _ _ _=>(qZ (i:=0) (show List.Nodup (["row","desk"]:List Str) by decide +kernel) rfl (by k_ne))) (λ_ _ _ _=>qq) (λ_ _ _ _=>(qI yP hr rfl (pa_cons (pv 1) (pa_cons (pv 0) qA))))))
 lk;refine⟨by show 12<=sizeLine;decide,λp hp=>?_⟩;have t1:=Same.new hp (.lst ((seenC.take 12).map λc=>V.str c.text));lk;refine⟨by show 2<=sizeLine;decide,λq hq=>?_⟩;have t2:=Same.new hq (.lst ((seenC.drop 12).map λc=>V.str c.text));lk;refine⟨p,q,(seenC.take 12).map λc=>V.str c.text,(seenC.drop 12).map λc=>V.str c.text,rfl,rfl,t2 _ _ q0,q0,Nat.le_of_lt (small (by decide)),λr hr0=>?_⟩;have t3:=Same.new hr0 (.lst (seenC.map λc=>V.str c.text));have s4:=t1.trans (t2.trans t3);lk;refine⟨⟨seenC.map λc=>V.str c.text,SqL.of q0⟩,?_⟩;intro acc hacc;have hacc0:H acc=none:=s4.free hacc;have hra:r≠acc:=λq=>by rw[<-q,q0] at hacc;cases hacc
 have hr00:H r=none:=(t1.trans t2).free hr0;obtain⟨dx,v0,xe,xu,k1,_,k3,_,k5,_⟩:=id hD.ex
 refine qp (n:=14) (λi τ zs H'=>∃(e u:Addr) (s1:Dst) (rs:List Rep),H' acc=some (.lst zs)/\zs.length=i/\DeskAt C H' d e u s1/\s1.earlier.length+s1.undone.length<=300+i/\SaysAll st (seenC.take i) rs s1/\SeenAt H' zs rs/\(∀l,V.ref l∈zs->l≠acc/\l≠e/\l≠u)/\
  (∀b o,b≠d->b≠e0->b≠u0->H b=some o->b≠e/\b≠u)/\acc≠e/\acc≠u/\r≠e/\r≠u/\H' r=some (.lst (seenC.map λc=>V.str c.text))/\FrD d e0 u0 H H'/\∃o0,τ=[o0,some (.ref d)]) ?_ (by decide) ?_ ?_ ?_ ?_
 ·refine⟨e0,u0,st,[],q0,rfl,hD.keep (s4.upd hacc0),by lia,.nil,⟨rfl,λi v r e=>by simp at e⟩,(λl hl=>by cases hl),(λb o _ n1 n2 _=>⟨n1,n2⟩),Ne.symm (qJ k3 hacc0),Ne.symm (qJ k5 hacc0),Ne.symm (qJ k3 hr00),Ne.symm (qJ k5 hr00),by rw[qG hra];exact q0,λb o _ _ _ z=>(s4.upd hacc0) _ _ z,none,rfl⟩
 ·rintro i τ zs H' ⟨_,_,_,_,e,hz,_⟩
  exact⟨e,by lia⟩
 ·rintro i τ zs H' hi ⟨_,_,_,_,_,_,_,_,_,_,_,_,_,_,_,_,hr',_⟩
  have hi':i < seenC.length:=hi;exact⟨_,V.str seenC[i].text,SqL.of hr',by rw[List.getElem?_map,List.getElem?_eq_getElem hi'];rfl⟩
 ·rintro τ zs H' ⟨e,u,s1,rs,ha,hz,hD',hc,hall,hs,_,_,_,_,_,_,hr',fr,_⟩
  refine⟨⟨_,SqL.of hr',by rw[List.length_map];exact Nat.le_refl _⟩,?_⟩;exact fin acc zs rs s1 H' fr ha hs hall
 ·rintro i τ zs H' v H3 hi ⟨e,u,s1,rs,ha,hz,hD',hc,hall,hs,hne,hnew,ae,au,re,ru,hr',fr,o0,rfl⟩ ⟨rfl,y⟩
  have hi':i < seenC.length:=hi;have ey:=y _ (SqL.of hr');rw[List.getElem?_map,List.getElem?_eq_getElem hi'] at ey;obtain rfl:V.str seenC[i].text=v:=Option.some.inj ey;have hok:=q4R (List.all_eq_true.mp seenC_ok _ (List.getElem_mem hi'));have etake:seenC.take (i+1)=seenC.take i++[seenC[i]]:=List.take_succ_eq_append_getElem hi';obtain⟨dx',v',xe',xu',j1,_,j3,_,j5,_⟩:=id hD'.ex;have da:acc≠d:=λq=>by rw[q,j1] at ha;cases ha
  have dr:r≠d:=λq=>by rw[q,j1] at hr';cases hr'
  lk;refine⟨d,e,u,s1,_,rfl,hD',.inl ⟨seenC[i],rfl,hok.1,by lia,λz st' e' u' H4 he' hu' fr4 hD4 hs4=>?_,λj l H4 s4' hl0 hl4 hs4=>?_⟩⟩
  ·have ha4:=fr4 acc _ da ae au ha
   have ae':=Ne.symm (qc (Ne.symm ae) he' ha);have au':=Ne.symm (qc (Ne.symm au) hu' ha);have hcount:=hs4.count1;refine⟨ha4,Nx.mk hi ⟨e',u',st',rs++[.ans z],q0,by rw[List.length_append,hz];rfl,hD4.keepL ha4 ae' au',by lia,?_,?_,?_,?_,ae',au',Ne.symm (qc (Ne.symm re) he' hr'),Ne.symm (qc (Ne.symm ru) hu' hr'),?_,?_,_,rfl⟩⟩
   ·rw[etake]
    exact .snoc hall hs4
   ·refine SeenAt.push (hs.keep λl bs hl kl=>?_) rfl
    obtain⟨n1,n2,n3⟩:=hne l hl;rw[qG n1];exact fr4 l _ (λq=>by rw[q,j1] at kl;cases kl) n2 n3 kl
   ·intro l hl
    rcases List.mem_append.mp hl with hl|hl
    ·obtain⟨n1,n2,n3⟩:=hne l hl
     obtain⟨jx,ejx⟩:=List.getElem?_of_mem hl;obtain⟨l2,e2,o2,k2⟩:=hs.ref_at ejx;cases e2;exact⟨n1,Ne.symm (qc (Ne.symm n2) he' k2),Ne.symm (qc (Ne.symm n3) hu' k2)⟩
    ·cases List.mem_singleton.mp hl
   ·intro b o n1 n2 n3 hb
    have hb':=fr b o n1 n2 n3 hb;obtain⟨m1,m2⟩:=hnew b o n1 n2 n3 hb;exact⟨Ne.symm (qc (Ne.symm m1) he' hb'),Ne.symm (qc (Ne.symm m2) hu' hb')⟩
   ·rw[qG hra]
    exact fr4 r _ dr re ru hr'
   ·intro b o n1 n2 n3 hb
    have hb':=fr b o n1 n2 n3 hb;obtain⟨m1,m2⟩:=hnew b o n1 n2 n3 hb;rw[qG (qJ hb hacc0)];exact fr4 b o n1 m1 m2 hb'
  ·have ha4:=s4' _ _ ha
   have hla:l≠acc:=Ne.symm (qJ ha hl0);have hle:l≠e:=Ne.symm (qJ j3 hl0);have hlu:l≠u:=Ne.symm (qJ j5 hl0);refine⟨ha4,Nx.mk hi ⟨e,u,s1,rs++[.ref j],q0,by rw[List.length_append,hz];rfl,(hD'.keep s4').keepL ha4 ae au,by lia,?_,?_,?_,hnew,ae,au,re,ru,?_,?_,_,rfl⟩⟩
   ·rw[etake]
    exact .snoc hall hs4
   ·refine SeenAt.push (hs.keep λl bs hl kl=>?_) ⟨l,rfl,by rw[qG hla];exact hl4⟩
    rw[qG (hne l hl).1];exact s4' _ _ kl
   ·intro l2 hl
    rcases List.mem_append.mp hl with hl|hl
    ·exact hne l2 hl
    ·cases List.mem_singleton.mp hl
     exact⟨hla,hle,hlu⟩
   ·rw[qG hra]
    exact s4' _ _ hr'
   ·intro b o n1 n2 n3 hb
    rw[qG (qJ hb hacc0)];exact s4' _ _ (fr b o n1 n2 n3 hb)
noncomputable def twC:List (Nat×Int):=List.replicate 19 (0,1)++[(0,7)]
theorem tw_text:Str.ofString "put"++repS " 0 1" 19++Str.ofString " 0 7" = (Cmd.put twC).text:=by
 have e0:txt ((0:Nat):Int)=Str.ofString "0":=by decide +kernel
 have e1:txt 1=Str.ofString "1":=by decide +kernel
 have e7:txt 7=Str.ofString "7":=by decide +kernel
 show _=Txt.join (Str.ofString " ") (Str.ofString "put"::q2C twC);rw[show q2C twC=(List.replicate 19 [txt ((0:Nat):Int),txt 1]).flatten++[txt ((0:Nat):Int),txt 7] from rfl,e0,e1,e7];decide +kernel
theorem tw_rows{r:List Int}:∀(n:Nat) (a:Int),q08 (a::r) ((List.replicate n ((0:Nat),(1:Int))++[(0,7)]).map intC)=7::r
 |0,_=>rfl
 |n+1,_=>tw_rows n 1
theorem tw_row{a:Int}:q08 (a::r) (twC.map intC)=7::r:=tw_rows 19 a
noncomputable def q5N:Sp:=λvs H Q _=>∃c:Int,vs=[.int c]/\∀H',Same H H'->Q (.bl true) H'
theorem ok_twenty(F:Fun K "_law_twenty" "_law_twenty" q1e f fd)(Z:Blt mg)(DD:DC K C)
  (y4:MDef (CXE P w) P w K mg base k C "say" ["self","row"] (q2p C N cls))(yD:Def P w K mg base k "_law_numbers_of" ["first"] q2R)(yK:Def P w K mg base k "_law_made" ["first","kind"] (q4h C))(yS:Def P w K mg base k "_law_most" ["row"] q6K):
  FnOk P w K mg base CX0 (k+1) f fd ["first"] q5N:=by
 refine F.ok sc_law_twenty (λvs H Q E h=>?_) (λcdv A outer s H vs Q E hr h=>?_)
 ·obtain⟨c,rfl,_⟩:=h
  rfl
 obtain⟨c,rfl,fin⟩:=h;have CL:=DD.cl;obtain⟨hN,n2,n6⟩:=q1p c
 w_up
 ·apply qB
  exact(ps_set (i:=1) sc_law_twenty.nd rfl (by k_ne) (qI yK hr rfl (pa_cons (pv 0) (pa_cons qD qA))));apply qB;exact(ps_set (i:=2) sc_law_twenty.nd rfl (by k_ne) (qI yD hr rfl (pa_cons (pv 0) qA)));apply qB
  ·apply qY
   exact(qL q3o (q2h y4 CL hr (q09 q0W) (pv 1) (pa_cons (qT qX (qT qX qE (qT q19 qE qD)) qE) qA)) (qa qe rfl Z.str_ PyProof.Rows.boot_str (pa_cons (qI yS hr rfl (pa_cons (qT q0E (pe_lst (pa_cons qD qA)) (qr (q0e (K:=K) rfl) (pv 2) (q04 qD) q05)) qA)) qA)) (qU _))
   ·apply qC
    exact(qK q3n)
   exact qO
  apply qC;exact(qK (q33 q0X (q2h y4 CL hr (q09 q0W) (pv 1) (pa_cons qE qA)) (qa qe rfl Z.str_ PyProof.Rows.boot_str (pa_cons (qI yS hr rfl (pa_cons (pv 2) qA)) qA)) (qU _)))
 refine seqU (λσ' H'=>∃d e u:Addr,Same H H'/\H d=none/\H e=none/\H u=none/\DeskAt C H' d e u ⟨some (numF c),[],[]⟩/\σ'=[some (.int c),some (.ref d),none]) ?_ (λR hR=>?_)
 case refine_2=>
  lk;refine⟨c,1,rfl,by decide,by decide,λd e u H1 s1 hd he hu hD=>?_⟩;exact hR _ _ ⟨d,e,u,s1,hd,he,hu,hD,rfl⟩
 rintro σ' H1 ⟨d,e,u,s1,hd,he,hu,hD,rfl⟩;refine seqU (λσ' H'=>∃r:Addr,Same H1 H'/\H1 r=none/\H' r=some (.lst ((numF c).map V.int))/\σ'=[some (.int c),some (.ref d),some (.ref r)]) ?_ (λR hR=>?_)
 case refine_2=>
  lk;intro r H2 s2 hr0 hr2;exact hR _ _ ⟨r,s2,hr0,hr2,rfl⟩
 rintro σ' H2 ⟨r,s2,hr0,hr2,rfl⟩;generalize hns:numF c=ns at hN n2 n6 hD hr2
 obtain⟨a,rs,rfl⟩:∃a rs,ns=a::rs:=by
  cases ns with
  |nil=>exact absurd n2 (by decide)
  |cons a rs=>exact⟨a,rs,rfl⟩
 have hD2:=hD.keep s2;obtain⟨dx,v,xe,xu,h1,_,h3,_,h5,_⟩:=id hD2.ex;lk;refine⟨d,dx,_,rfl,h1,rfl,?_⟩;lk;refine⟨by decide,by decide,by decide,?_⟩;refine⟨_,_,rfl,rfl,by rw[q0h];decide,?_⟩;refine⟨_,_,rfl,rfl,by rw[q0l,q0h];decide,?_⟩
 have hin:q3F (a::rs).length (twC.map intC):=λx hx=>by
  obtain⟨y,hy,rfl⟩:=List.mem_map.mp hx;have:y.1=0:=by
   rcases List.mem_append.mp hy with hy|hy
   ·rw[(List.mem_replicate.mp hy).2]
   ·rw[List.mem_singleton.mp hy]
  exact⟨by show(0:Int)<=(y.1:Int);lia,by show(y.1:Int) < _;rw[this,List.length_cons];lia⟩
 have hok:(Cmd.put twC).ok:=(q4R (show okB (.put twC)=true by decide +kernel)).1;have s12:=s1.trans s2;refine .inl ⟨d,e,u,⟨some (a::rs),[],[]⟩,.put twC,by rw[<-tw_text];rfl,hD2,hok,by show 0<=900;decide,λz st' e' u' H3 he' hu' fr hD3 hs=>?_,λi H3 s3 hs=>?_⟩
 case refine_2=>
  cases hs with
  |none _ er=>cases er
  |putN er hn=>cases er;exact(hn hin).elim
 cases hs with
 |@put _ _ x er _ htop=>
 cases er;rw[tw_row] at htop hD3;have s3:Same H H3:=FrD.same s12 fr hd he hu;have re:r≠e:=Ne.symm (qJ (hD.ex.choose_spec.choose_spec.choose_spec.choose_spec.2.2.1) hr0);have ru:r≠u:=Ne.symm (qJ (hD.ex.choose_spec.choose_spec.choose_spec.choose_spec.2.2.2.2.1) hr0);have hr3:=fr r _ (λq=>by rw[q,h1] at hr2;cases hr2) re ru hr2;lk;refine⟨by show 1<=sizeLine;decide,λp hp=>?_⟩;have t1:=Same.new hp (.lst [.int 7]);lk;refine⟨r,_,rfl,SqL.of (t1 _ _ hr3),λq hq=>?_⟩;have ecut:cutV ((a::rs).map V.int) (some 1) none=rs.map V.int:=by
  unfold cutV HT.sIx;simp;exact List.take_of_length_le (by simp)
 rw[ecut];have t2:=Same.new hq (.lst (rs.map V.int));lk;rw[List.length_cons] at n6;refine⟨p,q,_,_,rfl,rfl,t2 _ _ q0,q0,Nat.le_of_lt (small (by rw[List.length_map];show 1+rs.length<=_;lia)),λy hy=>?_⟩;have t3:=Same.new hy (.lst ([.int 7]++rs.map V.int));have t13:=t1.trans (t2.trans t3);refine⟨y,7::rs,rfl,q0,by rw[List.length_cons];lia,by rw[List.length_cons];lia,λm H4 s4 hm=>?_⟩;have em:=q2i hm htop
 have hR7:RowOk (7::rs):=⟨by rw[List.length_cons];lia,by rw[List.length_cons];lia,λn hn=>by
  rcases List.mem_cons.mp hn with rfl|hn
  ·decide
  ·exact hN.b n (List.mem_cons_of_mem _ hn)⟩
 have hb7:m.natAbs < 10 ^ 36:=by
  obtain⟨f',b',g1,g2,rfl⟩:=hm.1;exact hR7.part g2 (by lia)
 lk;refine⟨Nat.lt_trans (q5C hb7) (by decide),?_⟩;refine⟨rfl,_,rfl,?_⟩;rw[em,decide_eq_true (show V.str (txt m)=V.str (Str.ofString (toString m)) from rfl)];refine iteF ?_;have w4:=t13.trans s4;have hD4:=hD3.keep w4;obtain⟨dx4,v4,xe4,xu4,j1,_⟩:=id hD4.ex;have hr4:=w4 _ _ hr3;lk;refine⟨d,dx4,_,rfl,j1,rfl,?_⟩;lk;refine .inl ⟨d,e',u',⟨some (7::rs),[a::rs],[]⟩,.undo,by rw[show Cmd.undo.text=Str.ofString "undo" from q0C _];rfl,hD4,trivial,by show 1<=900;decide,λz st' e'' u'' H5 he5 hu5 fr5 hD5 hs5=>?_,λi H5 s5 hs5=>?_⟩
 case refine_2=>
  cases hs5 with
  |none _ er=>cases er
  |undoN er el=>cases el
 cases hs5 with
 |@undo _ ro rs0 x5 er el htop5=>
 cases er;obtain⟨l1,l2⟩:=List.append_inj' (show[]++[a::rs]=_ from el) rfl;cases l1;cases l2;have e0':H3 r=some (.lst ((a::rs).map V.int)):=hr3;have he0:H e'=none:=q01 s12 he' he;have hu0:H u'=none:=q01 s12 hu' hu;have re':r≠e':=Ne.symm (qc (Ne.symm re) he' hr2);have ru':r≠u':=Ne.symm (qc (Ne.symm ru) hu' hr2);have s5:Same H H5:=FrD.same (s3.trans w4) fr5 hd he0 hu0;have hr5:=fr5 r _ (λq=>by rw[q,j1] at hr4;cases hr4) re' ru' hr4;lk;refine⟨r,a::rs,rfl,hr5,by rw[List.length_cons];lia,by rw[List.length_cons];lia,λm5 H6 s6 hm5=>?_⟩;have em5:=q2i hm5 htop5;have hb5:m5.natAbs < 10 ^ 36:=by
  obtain⟨f',b',g1,g2,rfl⟩:=hm5.1;exact hN.part g2 (by lia)
 lk;refine⟨Nat.lt_trans (q5C hb5) (by decide),?_⟩;refine⟨rfl,?_⟩;rw[em5,decide_eq_true (show V.str (txt m5)=V.str (Str.ofString (toString m5)) from rfl)];exact fin H6 (s5.trans s6)
noncomputable def rndR(c:Int):Nat->List Int
 |0=>numF c
 |k+1=>(c%7+(k:Int)*((k:Int)%3))::(numF c).drop 1
theorem rndR_drop(c:Int)(k:Nat):(rndR c k).drop 1=(numF c).drop 1:=by cases k<;>rfl
theorem q5b(c:Int)(k:Nat):∃a,rndR c k=a::(numF c).drop 1:=by
 cases k with
 | zero=>
  obtain⟨_,n2,_⟩:=q1p c;show ∃a,numF c=_
  cases h:numF c with
  |nil=>rw[h] at n2;exact absurd n2 (by decide)
  |cons a r=>exact⟨a,rfl⟩
 |succ k=>exact⟨_,rfl⟩
theorem q7K(c:Int)(k:Nat):(rndR c k).length=(numF c).length:=by
 obtain⟨_,n2,_⟩:=q1p c;obtain⟨a,e⟩:=q5b c k;rw[e,List.length_cons,List.length_drop]
 lia
theorem rnd_val(c:Int){k:Nat}(h:k<=200):0<=c%7+(k:Int)*((k:Int)%3)/\c%7+(k:Int)*((k:Int)%3)<=406:=by
 have h1:(k:Int)%3=0\/(k:Int)%3=1\/(k:Int)%3=2:=by lia
 rcases h1 with e|e|e<;>rw[e]<;>lia
theorem rndR_ok(c:Int){k:Nat}(h:k<=200):RowOk (rndR c k):=by
 obtain⟨hN,n2,n6⟩:=q1p c;have hl:=q7K c k;refine⟨by lia,by lia,λn hn=>?_⟩
 cases k with
 |zero=>exact hN.b n hn
 | succ k=>
  rcases List.mem_cons.mp hn with rfl|hn
  ·have:=rnd_val c (k:=k) (by lia)
   exact Nat.lt_of_lt_of_le (show _ < 407 by lia) (by decide)
  ·exact hN.b n (List.mem_of_mem_drop hn)
noncomputable def rndS(c:Int)(n m:Nat):Dst:=⟨some (rndR c m),(List.range m).map (rndR c),(List.range (n-m)).map λi=>rndR c (n-i)⟩
theorem rndS_all{c:Int}:rndS c n n=⟨some (rndR c n),(List.range n).map (rndR c),[]⟩:=by unfold rndS;rw[Nat.sub_self];rfl
theorem rnd_put{c:Int}(h:Says (rndS c k k) (.put [(0,c%7+(k:Int)*((k:Int)%3))]) rep st'):∃x,rep = .ans (txt x.s)/\Top (PB (rndR c (k+1))) x/\st'=rndS c (k+1) (k+1):=by
 rw[rndS_all] at h ⊢;obtain⟨a,e⟩:=q5b c k
 cases h with
 |none _ er=>cases er
 | @put _ ns x er _ ht=>
  cases er;have ep:q08 (rndR c k) ([(0,c%7+(k:Int)*((k:Int)%3))].map intC)=rndR c (k+1):=by rw[e];rfl
  rw[ep] at ht ⊢;refine⟨x,rfl,ht,?_⟩;rw[List.range_succ,List.map_append];rfl
 | putN er hn=>
  cases er;refine(hn λy hy=>?_).elim;rw[List.mem_singleton.mp hy];exact⟨by show(0:Int)<=0;lia,by show(0:Int) < _;rw[e,List.length_cons];lia⟩
theorem q7I{c:Int}(hm:m < n)(h:Says (rndS c n (m+1)) .undo rep st'):∃x,rep = .ans (txt x.s)/\Top (PB (rndR c m)) x/\st'=rndS c n m:=by
 have el':(rndS c n (m+1)).earlier=(List.range m).map (rndR c)++[rndR c m]:=by
  show(List.range (m+1)).map (rndR c)=_;rw[List.range_succ,List.map_append];rfl
 cases h with
 |none _ er=>cases er
 | @undo ns r rs x er el ht=>
  cases er;rw[el'] at el;obtain⟨l1,l2⟩:=List.append_inj' el rfl;cases l1;cases l2;refine⟨x,rfl,ht,?_⟩;have eu:(rndS c n (m+1)).undone++[rndR c (m+1)]=(List.range (n-m)).map λi=>rndR c (n-i):=by
   show(List.range (n-(m+1))).map (λi=>rndR c (n-i))++_=_;rw[show n-m=n-(m+1)+1 by lia,List.range_succ,List.map_append,show[rndR c (m+1)]=List.map (λi=>rndR c (n-i)) [n-(m+1)] by rw[List.map_singleton,show n-(n-(m+1))=m+1 by lia]]
  rw[eu];rfl
 | undoN er el=>
  rw[el'] at el;exact absurd el (by simp)
theorem q5a{c:Int}(hm:m < n)(h:Says (rndS c n m) .again rep st'):∃x,rep = .ans (txt x.s)/\Top (PB (rndR c (m+1))) x/\st'=rndS c n (m+1):=by
 have el':(rndS c n m).undone=((List.range (n-(m+1))).map λi=>rndR c (n-i))++[rndR c (m+1)]:=by
  show(List.range (n-m)).map (λi=>rndR c (n-i))=_;rw[show n-m=n-(m+1)+1 by lia,List.range_succ,List.map_append,show[rndR c (m+1)]=List.map (λi=>rndR c (n-i)) [n-(m+1)] by rw[List.map_singleton,show n-(n-(m+1))=m+1 by lia]]
 cases h with
 |none _ er=>cases er
 | @again ns r us x er el ht=>
  cases er;rw[el'] at el;obtain⟨l1,l2⟩:=List.append_inj' el rfl;cases l1;cases l2;refine⟨x,rfl,ht,?_⟩;have eu:(rndS c n m).earlier++[rndR c m]=(List.range (m+1)).map (rndR c):=by
   show(List.range m).map (rndR c)++_=_;rw[List.range_succ,List.map_append];rfl
  rw[eu];rfl
 | againN er el=>
  rw[el'] at el;exact absurd el (by simp)
theorem q7J{c:Int}(h:Says (rndS c n 0) .undo rep st'):rep = .ref 7:=by
 cases h with
 |none _ er=>cases er
 |undo _ el _=>exact absurd (show[]=_ from el) (by simp)
 |undoN _ _=>rfl
noncomputable def Sums(c:Int)(ms:List Int):Prop:=∀(i:Nat) (m:Int),ms[i]?=some m->MaxB (rndR c i) (rndR c i).length m
theorem Sums.push{c m:Int}{ms:List Int}(h:Sums c ms)(hl:ms.length=k)(hm:MaxB (rndR c k) (rndR c k).length m):Sums c (ms++[m]):=λi y e=>by
 by_cases hi:i < ms.length
 ·rw[List.getElem?_append_left hi] at e
  exact h i y e
 ·rw[List.getElem?_append_right (by lia)] at e
  cases hd:i-ms.length with
  | zero=>
   rw[hd] at e;cases e;rw[show i=k by lia];exact hm
  |succ j=>rw[hd] at e;simp at e
theorem MaxB.small{c m:Int}(hk:k<=200)(h:MaxB (rndR c k) (rndR c k).length m):m.natAbs < 10 ^ 36:=by
 obtain⟨f',b',g1,g2,rfl⟩:=h.1;exact(rndR_ok c hk).part g2 (by lia)
theorem EqD.strs{K:Frag}{b:Addr}{zs:List Str}(ha:SqL K H a (zs.map V.str))(hb:SqL K H b (zs.map V.str)):EqD K H 1 (.ref a) (.ref b) true:=by
 have h:=EqD.lst (n:=0) (e:=λ_=>true) ha hb rfl λj x y ex ey=>by
  rw[ex] at ey;cases ey;rw[List.getElem?_map] at ex
  cases hz:zs[j]? with
  |none=>rw[hz] at ex;cases ex
  | some z=>
   rw[hz] at ex;cases ex;have:=EqD.flat (K:=K) (H:=H) (x:=V.str z) (y:=V.str z) rfl rfl;rw[show eqV (.str z) (.str z)=true by unfold eqV;simp] at this;exact this
 rw[show(List.range (zs.map V.str).length).all (λ_=>true)=true from List.all_eq_true.mpr λ_ _=>rfl] at h;exact h
theorem cut_tl:cutV (ns.map V.int) (some 1) none=(ns.drop 1).map V.int:=by
 unfold cutV HT.sIx
 cases ns with
 |nil=>rfl
 | cons a r=>
  simp;exact List.take_of_length_le (by simp)
theorem put_one(x:Int):Str.ofString "put 0 "++txt x=(Cmd.put [(0,x)]).text:=by
 have e0:txt ((0:Nat):Int)=Str.ofString "0":=by decide +kernel
 show _=Txt.join (Str.ofString " ") [Str.ofString "put",txt ((0:Nat):Int),txt x];rw[e0];exact q4d _ _ x _ (by decide +kernel)
theorem q3N{c:Int}(h:m<=200):(rndS c n m).earlier.length<=900:=by
 show((List.range m).map _).length<=_;rw[List.length_map,List.length_range]
 lia
noncomputable def q5Q:Sp:=λvs H Q _=>∃c:Int,vs=[.int c]/\∀H',Same H H'->Q (.bl true) H'
theorem ok_rounds(F:Fun K "_law_rounds" "_law_rounds" q1g f fd)(Z:Blt mg)(DD:DC K C)
  (y4:MDef (CXE P w) P w K mg base k C "say" ["self","row"] (q2p C N cls))(yD:Def P w K mg base k "_law_numbers_of" ["first"] q2R)(yK:Def P w K mg base k "_law_made" ["first","kind"] (q4h C))(yS:Def P w K mg base k "_law_most" ["row"] q6K)
  (yP:Def P w K mg base k "_law_said" ["desk","row"] (q3J C))(yd:Def P w K mg base k "_law_due" ["at"] sp_due):
  FnOk P w K mg base CX0 (k+1) f fd ["first"] q5Q:=by
 refine F.ok sc_law_rounds (λvs H Q E h=>?_) (λcdv A outer s H vs Q E hr h=>?_)
 ·obtain⟨c,rfl,_⟩:=h
  rfl
 obtain⟨c,rfl,fin⟩:=h;have CL:=DD.cl;obtain⟨hN,n2,n6⟩:=q1p c
 w_up
 ·apply qB
  exact(ps_set (i:=1) sc_law_rounds.nd rfl (by k_ne) (qI yK hr rfl (pa_cons (pv 0) (pa_cons qD qA))));apply qB;exact(ps_set (i:=2) sc_law_rounds.nd rfl (by k_ne) (qI yD hr rfl (pa_cons (pv 0) qA)));apply qB;exact(ps_set (i:=3) sc_law_rounds.nd rfl (by k_ne) (pe_lst (pa_cons (qI yS hr rfl (pa_cons (pv 2) qA)) qA)));apply qB;exact(ps_set (i:=4) sc_law_rounds.nd rfl (by k_ne) (qM (qR (K:=K) rfl) (pe_lst (pa_cons qD (pa_cons qD qA))) (qa call_int1 rfl Z.int_ PyProof.Rows.boot_int (pa_cons (q33 q0X (qT q0n (pv 0) qD) qD (qU _)) qA)) (λ_ _=>rfl)));apply qB
  ·apply q1Q PassesOwn.never rfl
   exact(q0K rfl Z.range_ (pa_cons (pv 4) qA));exact(qZ (i:=5) sc_law_rounds.nd rfl (by k_ne))
   ·apply qB
    exact(ps_set (i:=2) sc_law_rounds.nd rfl (by k_ne) (qT q0E (pe_lst (pa_cons (qT qo (qT q0n (pv 0) qD) (qT op_mul (pv 5) (qT q0n (pv 5) qD))) qA)) (qr (q0e (K:=K) rfl) (pv 2) (q04 qD) q05)));apply qB;exact(qj (q1R (K:=K) rfl PySem.F.plainAttrs_list PySem.F.slot_list_append PySem.F.type_list_append qx (pv 3) (pa_cons (qI yS hr rfl (pa_cons (pv 2) qA)) qA)));apply qC;apply qY;exact(qL q3o (q2h y4 CL hr (q09 q0W) (pv 1) (pa_cons (qT qX qE (qa qe rfl Z.str_ PyProof.Rows.boot_str (pa_cons (qM (qR (K:=K) rfl) (pv 2) qD (λ_ _=>rfl)) qA))) qA)) (qa qe rfl Z.str_ PyProof.Rows.boot_str (pa_cons (qM (qR (K:=K) rfl) (pv 3) (q3m q1U qD) (λ_ _=>rfl)) qA)) (qU _))
    ·apply qC
     exact(qK q3n)
    exact qO
  apply qB
  ·first|exact(ps_lc (i:=6) sc_law_rounds.nd rfl (by k_ne) (N':=["k","desk"]) (ix:=[none,some 1]) rfl rfl (by decide +kernel) rfl rfl rfl rfl (q0K rfl Z.range_ (pa_cons (pv 4) qA)) (λ_ _ _ _=>(qZ (i:=0) (show List.Nodup (["k","desk"]:List Str) by decide +kernel) rfl (by k_ne))) (λ_ _ _ _=>qq) (λ_ _ _ _=>(q2h y4 CL hr (q09 q0W) (pv 1) (pa_cons qE qA))))|exact(ps_set (i:=6) sc_law_rounds.nd rfl (by k_ne) (q18 (N':=["k","desk"]) (ix:=[none,some 1]) rfl rfl (by decide +kernel) rfl rfl rfl rfl (q0K rfl Z.range_ (pa_cons (pv 4) qA)) (λ_ _ _ _=>(qZ (i:=0) (show List.Nodup (["k","desk"]:List Str) by decide +kernel) rfl (by k_ne))) (λ_ _ _ _=>qq) (λ_ _ _ _=>(q2h y4 CL hr (q09 q0W) (pv 1) (pa_cons qE qA)))))
  apply qB
  ·apply qY
   exact(PW.pt (q2B (qL (q6a (K:=K) hr rfl) (pv 6) (q18 (N':=["one"]) (ix:=[none]) rfl rfl (by decide +kernel) rfl rfl rfl rfl (qm (K:=K) rfl (pe_rev (qr (q0e (K:=K) rfl) (pv 3) q05 (q04 (pv 4))) (q3m q1U qD))) (λ_ _ _ _=>(qZ (i:=0) (show List.Nodup (["one"]:List Str) by decide +kernel) rfl (by k_ne))) (λ_ _ _ _=>qq) (λ_ _ _ _=>(qa qe rfl Z.str_ PyProof.Rows.boot_str (pa_cons (pv 0) qA)))) (qU _)) (q0u (qL (q6a (K:=K) hr rfl) (qI yP hr rfl (pa_cons (pv 1) (pa_cons qE qA))) (qI yd hr rfl (pa_cons qD qA)) (qU _)))))
   ·apply qC
    exact(qK q3n)
   exact qO
  apply qC;exact(qK (q33 (op_eqDK (K:=K) hr rfl) (q18 (N':=["k","desk"]) (ix:=[none,some 1]) rfl rfl (by decide +kernel) rfl rfl rfl rfl (q0K rfl Z.range_ (pa_cons (pv 4) qA)) (λ_ _ _ _=>(qZ (i:=0) (show List.Nodup (["k","desk"]:List Str) by decide +kernel) rfl (by k_ne))) (λ_ _ _ _=>qq) (λ_ _ _ _=>(q2h y4 CL hr (q09 q0W) (pv 1) (pa_cons qE qA)))) (q18 (N':=["one"]) (ix:=[none]) rfl rfl (by decide +kernel) rfl rfl rfl rfl (qm (K:=K) rfl (qr (q0e (K:=K) rfl) (pv 3) (q04 qD) q05)) (λ_ _ _ _=>(qZ (i:=0) (show List.Nodup (["one"]:List Str) by decide +kernel) rfl (by k_ne))) (λ_ _ _ _=>qq) (λ_ _ _ _=>(qa qe rfl Z.str_ PyProof.Rows.boot_str (pa_cons (pv 0) qA)))) (qU _)))
 refine seqU (λσ' H'=>∃d e u:Addr,Same H H'/\H d=none/\H e=none/\H u=none/\DeskAt C H' d e u ⟨some (numF c),[],[]⟩/\σ'=[some (.int c),some (.ref d),none,none,none,none,none]) ?_ (λR hR=>?_)
 case refine_2=>
  lk;refine⟨c,1,rfl,by decide,by decide,λd e u H1 s1 hd he hu hD=>?_⟩;exact hR _ _ ⟨d,e,u,s1,hd,he,hu,hD,rfl⟩
 rintro σ' H1 ⟨d,e,u,s1,hd,he,hu,hD,rfl⟩;obtain⟨dx,v,xe,xu,h1,_,h3,_,h5,_⟩:=id hD.ex;refine seqU (λσ' H'=>∃r:Addr,Same H1 H'/\H1 r=none/\H' r=some (.lst ((numF c).map V.int))/\σ'=[some (.int c),some (.ref d),some (.ref r),none,none,none,none]) ?_ (λR hR=>?_)
 case refine_2=>
  lk;intro r H2 s2 hr0 hr2;exact hR _ _ ⟨r,s2,hr0,hr2,rfl⟩
 rintro σ' H2 ⟨r,s2,hr0,hr2,rfl⟩;refine seqU (λσ' H'=>∃(sl:Addr) (m:Int),Same H2 H'/\H2 sl=none/\H' sl=some (.lst ([m].map V.int))/\MaxB (numF c) (numF c).length m/\σ'=[some (.int c),some (.ref d),some (.ref r),some (.ref sl),none,none,none]) ?_ (λR hR=>?_)
 case refine_2=>
  lk;refine⟨r,numF c,rfl,hr2,by lia,by lia,λm H3 s3 hm=>?_⟩;lk;refine⟨by show 1<=sizeLine;decide,λsl hsl=>?_⟩;exact hR _ _ ⟨sl,m,s3.trans (Same.new hsl _),s3.free hsl,q0,hm,rfl⟩
 rintro σ' H3 ⟨sl,m,s3,hsl0,hsl,hm,rfl⟩;refine seqU (λσ' H'=>∃n:Nat,n<=200/\Same H3 H'/\σ'=[some (.int c),some (.ref d),some (.ref r),some (.ref sl),some (.int (n:Int)),none,none]) ?_ (λR hR=>?_)
 case refine_2=>
  lk;refine⟨by show 2<=sizeLine;decide,λp hp=>?_⟩;have t1:=Same.new hp (.lst [.int 30,.int 200]);lk;refine .inr ⟨_,rfl,?_⟩;by_cases hc:(V.int (c%4))=V.int 1
  ·rw[decide_eq_true hc,if_pos rfl]
   refine⟨p,_,1,.int 200,rfl,rfl,SqL.of q0,rfl,?_⟩;exact hR _ _ ⟨200,Nat.le_refl _,t1,rfl⟩
  ·rw[decide_eq_false hc,if_neg (by decide)]
   refine⟨p,_,0,.int 30,rfl,rfl,SqL.of q0,rfl,?_⟩;exact hR _ _ ⟨30,by decide,t1,rfl⟩
 rintro σ' H4 ⟨n,hn,s4,rfl⟩;have s14:=s2.trans (s3.trans s4);refine seqU (λσ' H'=>∃(e u r:Addr) (ms:List Int) (o5:Option V),Same H H'/\H e=none/\H u=none/\DeskAt C H' d e u (rndS c n n)/\H sl=none/\sl≠e/\sl≠u/\H' sl=some (.lst (ms.map V.int))/\ms.length=n+1/\Sums c ms/\σ'=[some (.int c),some (.ref d),some (.ref r),some (.ref sl),some (.int (n:Int)),o5,none]) ?_ (λR hR=>?_)
 case refine_2=>
  lk;refine⟨by lia,by lia,?_⟩;rw[Int.toNat_natCast];have hslH:H sl=none:=(s1.trans s2).free hsl0
  refine q3y (λi σ H'=>∃(e u r:Addr) (ms:List Int) (o5:Option V),Same H H'/\H e=none/\H u=none/\DeskAt C H' d e u (rndS c i i)/\sl≠e/\sl≠u/\H' r=some (.lst ((rndR c i).map V.int))/\H' sl=some (.lst (ms.map V.int))/\ms.length=i+1/\Sums c ms/\σ=[some (.int c),some (.ref d),some (.ref r),some (.ref sl),some (.int (n:Int)),o5,none])
   ⟨e,u,r,[m],none,s1.trans s14,he,hu,hD.keep s14,Ne.symm (qJ (s2 _ _ h3) hsl0),Ne.symm (qJ (s2 _ _ h5) hsl0),s4 _ _ (s3 _ _ hr2),s4 _ _ hsl,rfl,λi y ey=>?_,rfl⟩ ?_ ?_
  ·cases i with
   |zero=>cases ey;exact hm
   |succ i=>cases ey
  ·rintro i σ H5 hi ⟨e,u,r,ms,o5,s5,he5,hu5,hD5,sle,slu,hr5,hsl5,hms,hsum,rfl⟩
   rw[Int.zero_add];have hvb:=rnd_val c (k:=i) (by lia);have eR:(rndR c (i+1)).map V.int = .int (c%7+(i:Int)*((i:Int)%3))::((numF c).drop 1).map V.int:=rfl;have hI:(i:Int)<=200:=by lia
   have hI0:0<=(i:Int):=by lia
   generalize hv:c%7+(i:Int)*((i:Int)%3)=v;rw[hv] at hvb eR;have hv0:=hv;generalize (i:Int)=I at hv hI hI0;lk;refine⟨.inl ⟨by lia,by lia⟩,?_⟩;lk;refine⟨by show 1<=sizeLine;decide,λp hp=>?_⟩;dsimp only at hp ⊢;rw[hv];have t1:=Same.new hp (.lst [.int v]);lk;refine⟨r,_,rfl,SqL.of (t1 _ _ hr5),λq hq=>?_⟩;rw[cut_tl,rndR_drop];have t2:=Same.new hq (.lst (((numF c).drop 1).map V.int));lk;refine⟨p,q,_,_,rfl,rfl,t2 _ _ q0,q0,Nat.le_of_lt (small (by rw[List.length_map,List.length_drop];show 1+((numF c).length-1)<=_;lia)),λy hy=>?_⟩;have t3:=Same.new hy (.lst ([.int v]++((numF c).drop 1).map V.int));have t13:=t1.trans (t2.trans t3);have hlR:=q7K c (i+1);lk;refine⟨.inl ⟨rfl,_,SqL.of (t13 _ _ hsl5)⟩,?_⟩;lk;refine⟨y,rndR c (i+1),rfl,by rw[eR];exact q0,by lia,by lia,λm' H6 s6 hm'=>?_⟩;have s56:=t13.trans s6;have hy6:H6 y=some (.lst ((rndR c (i+1)).map V.int)):=s6 _ _ (by rw[eR];exact q0);have hsl6:=s56 _ _ hsl5;have ysl:y≠sl:=Ne.symm (qJ ((t1.trans t2) _ _ hsl5) hy)
   have hD6:=(hD5.keep s56)
   have hD7:=hD6.keepL (ys:=ms.map V.int++[.int m']) hsl6 sle slu;obtain⟨dx7,v7,xe7,xu7,j1,_,j3,_,j5,_⟩:=id hD7.ex;lk;refine⟨sl,_,_,rfl,rfl,hsl6,small (by rw[List.length_map];lia),?_⟩;lk;refine⟨d,dx7,_,rfl,j1,rfl,?_⟩;lk;have hy7:upd H6 sl (.lst (ms.map V.int++[.int m'])) y=some (.lst ((rndR c (i+1)).map V.int)):=by rw[qG ysl];exact hy6
   refine⟨y,_,0,.int v,rfl,rfl,SqL.of hy7,by rw[eR];exact qi (j:=0) rfl,?_⟩;lk;have hvs:v.natAbs < 10 ^ 36:=Nat.lt_of_le_of_lt (show _<=406 by lia) (by decide);refine⟨Nat.lt_trans (q5C hvs) (by decide),?_⟩;lk
   have hok:(Cmd.put [(0,v)]).ok:=⟨by show 1<=1;decide,by show 1<=20;decide,λx hx=>by
    rw[List.mem_singleton.mp hx]
    exact⟨by show 0 < _;decide,Nat.lt_of_le_of_lt (show v.natAbs<=406 by lia) (by decide)⟩⟩
   have hsh:=Cmd.short hok;rw[<-put_one,q0l] at hsh;refine⟨hsh,?_⟩;lk;have s7:Same H (upd H6 sl (.lst (ms.map V.int++[.int m']))):=(s5.trans s56).upd hslH;have hsl7:upd H6 sl (.lst (ms.map V.int++[.int m'])) sl=some (.lst (ms.map V.int++[.int m'])):=q0;refine .inl ⟨d,e,u,rndS c i i,.put [(0,v)],by rw[<-put_one];rfl,hD7,hok,q3N (by lia),λz st' e' u' H8 he8 hu8 fr hD8 hs=>?_,λj H8 s8 hs=>?_⟩
   case refine_2=>
    rw[<-hv0] at hs;obtain⟨x,ex,_⟩:=rnd_put hs;cases ex
   rw[<-hv0] at hs;obtain⟨x,ex,htop,rfl⟩:=rnd_put hs;cases ex;have em:=q2i hm' htop;have hb:=MaxB.small (by lia) hm'
   have dsl:sl≠d:=λq=>by
    obtain⟨_,_,_,_,i1,_⟩:=id hD5.ex;rw[q,i1] at hsl5;cases hsl5
   have dy:y≠d:=λq=>by rw[q,j1] at hy7;cases hy7
   have ye:y≠e:=Ne.symm (qJ ((t1.trans t2) _ _ (hD5.ex.choose_spec.choose_spec.choose_spec.choose_spec.2.2.1)) hy);have yu:y≠u:=Ne.symm (qJ ((t1.trans t2) _ _ (hD5.ex.choose_spec.choose_spec.choose_spec.choose_spec.2.2.2.2.1)) hy);have hsl8:=fr sl _ dsl sle slu hsl7;have hy8:=fr y _ dy ye yu hy7;lk;refine⟨sl,_,-1,.int m',rfl,rfl,SqL.of hsl8,q7f _ _,?_⟩;lk;refine⟨Nat.lt_trans (q5C hb) (by decide),?_⟩;refine⟨rfl,_,rfl,?_⟩;rw[em,decide_eq_true (show V.str (txt m')=V.str (Str.ofString (toString m')) from rfl)];refine iteF ?_;exact⟨e',u',y,ms++[m'],some (.int I),FrD.same s7 fr hd he5 hu5,q01 s7 he8 he5,q01 s7 hu8 hu5,hD8,Ne.symm (qc (Ne.symm sle) he8 hsl7),Ne.symm (qc (Ne.symm slu) hu8 hsl7),hy8,by rw[List.map_append];exact hsl8,by rw[List.length_append,hms];rfl,hsum.push hms hm',rfl⟩
  ·rintro σ H5 ⟨e,u,r,ms,o5,s5,he5,hu5,hD5,sle,slu,hr5,hsl5,hms,hsum,rfl⟩
   exact hR _ _ ⟨e,u,r,ms,o5,s5,he5,hu5,hD5,hslH,sle,slu,hsl5,hms,hsum,rfl⟩
 rintro σ' H5 ⟨e,u,r,ms,o5,s5,he,hu,hD5,hslH,sle,slu,hsl5,hms,hsum,rfl⟩
 have hall:∀y,y∈ms->y.natAbs < 10 ^ 36:=λy hy=>by
  obtain⟨j,hj,rfl⟩:=List.mem_iff_getElem.mp hy;exact MaxB.small (k:=j) (by lia) (hsum _ _ (List.getElem?_eq_getElem hj))
 have dsl:sl≠d:=λq=>by
  obtain⟨_,_,_,_,j1,_⟩:=id hD5.ex;rw[q,j1] at hsl5;cases hsl5
 have hrev:∀i,i < n->(ms.take n).reverse.take (i+1)=(ms.take n).reverse.take i++[ms[n-1-i]'(by lia)]:=λi hi=>by
  rw[List.take_succ_eq_append_getElem (by rw[List.length_reverse,List.length_take];lia),List.getElem_reverse,List.getElem_take];have el:(ms.take n).length=n:=by rw[List.length_take];lia
  simp only[el]
 refine seqU (λσ' H'=>∃(e u bk:Addr) (o5:Option V),Same H H'/\H e=none/\H u=none/\DeskAt C H' d e u (rndS c n 0)/\sl≠e/\sl≠u/\H' sl=some (.lst (ms.map V.int))/\H' bk=some (.lst ((((ms.take n).reverse).map txt).map V.str))/\σ'=[some (.int c),some (.ref d),some (.ref r),some (.ref sl),some (.int (n:Int)),o5,some (.ref bk)]) ?_ (λR hR=>?_)
 case refine_2=>
  lk;refine⟨by lia,by lia,?_⟩;rw[Int.toNat_natCast];intro acc hacc;obtain⟨_,_,_,_,j1,_,j3,_,j5,_⟩:=id hD5.ex;have hacc0:H acc=none:=s5.free hacc;have sla:sl≠acc:=qJ hsl5 hacc;have hD6:=hD5.keep (Same.new hacc (.lst []))
  refine qp (n:=n) (λi τ zs H'=>∃e u:Addr,H' acc=some (.lst zs)/\zs=(((ms.take n).reverse.take i).map txt).map V.str/\Same H H'/\H e=none/\H u=none/\DeskAt C H' d e u (rndS c n (n-i))/\sl≠e/\sl≠u/\acc≠e/\acc≠u/\H' sl=some (.lst (ms.map V.int))/\∃o0,τ=[o0,some (.ref d)])
   ⟨e,u,q0,rfl,s5.upd hacc0,he,hu,hD6,sle,slu,Ne.symm (qJ j3 hacc),Ne.symm (qJ j5 hacc),by rw[qG sla];exact hsl5,none,rfl⟩ (by lia) ?_ ?_ ?_ ?_
  ·rintro i τ zs H' ⟨e,u,ha,rfl,_⟩
   refine⟨ha,?_⟩;rw[List.length_map,List.length_map,List.length_take]
   lia
  ·rintro i τ zs H' hi _
   exact hi
  ·rintro τ zs H' ⟨e,u,ha,rfl,sm,he',hu',hD',h1,h2,h3,h4,hs',_⟩
   refine⟨Nat.le_refl _,?_⟩;rw[List.take_of_length_le (by rw[List.length_reverse,List.length_take];lia)] at ha;rw[Nat.sub_self] at hD';exact hR _ _ ⟨e,u,acc,o5,sm,he',hu',hD',h1,h2,hs',ha,rfl⟩
  ·rintro i τ zs H' v H3 hi ⟨e,u,ha,rfl,sm,he',hu',hD',h1,h2,h3,h4,hs',o0,rfl⟩ ⟨rfl,rfl⟩
   obtain⟨dx',_,_,_,k1,_⟩:=id hD'.ex;have da:acc≠d:=λq=>by rw[q,k1] at ha;cases ha
   have en:n-i=(n-(i+1))+1:=by lia
   lk;refine⟨d,dx',_,rfl,k1,rfl,?_⟩;lk;refine .inl ⟨d,e,u,rndS c n (n-i),.undo,by rw[show Cmd.undo.text=Str.ofString "undo" from q0C _];rfl,hD',trivial,q3N (by lia),λz st' e' u' H8 he8 hu8 fr hD8 hs=>?_,λj H8 s8 hs=>?_⟩
   case refine_2=>
    rw[en] at hs;obtain⟨x,ex,_⟩:=q7I (by lia) hs;cases ex
   rw[en] at hs;obtain⟨x,ex,htop,rfl⟩:=q7I (by lia) hs;cases ex;have ha8:=fr acc _ da h3 h4 ha;have a3:=Ne.symm (qc (Ne.symm h3) he8 ha);have a4:=Ne.symm (qc (Ne.symm h4) hu8 ha);have em:=q2i (hsum (n-1-i) _ (List.getElem?_eq_getElem (by lia))) (show Top (PB (rndR c (n-1-i))) x by rw[show n-1-i=n-(i+1) by lia];exact htop);refine⟨ha8,Nx.mk hi ⟨e',u',q0,?_,(FrD.same sm fr hd he' hu').upd hacc0,q01 sm he8 he',q01 sm hu8 hu',hD8.keepL ha8 a3 a4,Ne.symm (qc (Ne.symm h1) he8 hs'),Ne.symm (qc (Ne.symm h2) hu8 hs'),a3,a4,by rw[qG sla];exact fr sl _ dsl h1 h2 hs',_,rfl⟩⟩;rw[hrev i hi,List.map_append,List.map_append,em];rfl
 rintro σ' H6 ⟨e,u,bk,o6,s6,he,hu,hD6,sle,slu,hsl6,hbk,rfl⟩;refine seqU (λσ' H'=>∃(e u:Addr),Same H H'/\H e=none/\H u=none/\DeskAt C H' d e u (rndS c n 0)/\sl≠e/\sl≠u/\H' sl=some (.lst (ms.map V.int))/\σ'=[some (.int c),some (.ref d),some (.ref r),some (.ref sl),some (.int (n:Int)),o6,some (.ref bk)]) ?_ (λR hR=>?_)
 case refine_2=>
  lk;refine⟨sl,_,rfl,SqL.of hsl6,λp hp=>?_⟩;rw[q45];have t1:=Same.new hp (.lst ((ms.take n).map V.int));lk;refine⟨p,_,rfl,rfl,SqL.of q0,λq hq=>?_⟩;rw[<-List.map_reverse];have t2:=Same.new hq (.lst ((ms.take n).reverse.map V.int));lk;refine⟨⟨_,SqL.of q0⟩,?_⟩;intro acc hacc;have hq':upd (upd H6 p (.lst ((ms.take n).map V.int))) q (.lst ((ms.take n).reverse.map V.int)) q=some (.lst ((ms.take n).reverse.map V.int)):=q0;have s26:=t1.trans t2;generalize upd (upd H6 p (.lst ((ms.take n).map V.int))) q (.lst ((ms.take n).reverse.map V.int))=H7 at hacc hq' s26;have el:(ms.take n).reverse.length=n:=by rw[List.length_reverse,List.length_take];lia
  refine qp (n:=n) (λi τ zs H'=>H' acc=some (.lst zs)/\zs=(((ms.take n).reverse.take i).map txt).map V.str/\Same H7 H'/\∃o0,τ=[o0]) ⟨q0,rfl,Same.new hacc _,none,rfl⟩ (by lia) ?_ ?_ ?_ ?_
  ·rintro i τ zs H' ⟨e,rfl,_⟩
   exact⟨e,by rw[List.length_map,List.length_map,List.length_take];lia⟩
  ·rintro i τ zs H' hi ⟨e,_,sm,_⟩
   exact⟨_,V.int ((ms.take n).reverse[i]'(by lia)),SqL.of (sm _ _ hq'),by rw[List.getElem?_map,List.getElem?_eq_getElem (by lia)];rfl⟩
  ·rintro τ zs H8 ⟨e8,rfl,sm,_⟩
   refine⟨⟨_,SqL.of (sm _ _ hq'),by rw[List.length_map,el];exact Nat.le_refl _⟩,?_⟩;rw[List.take_of_length_le (by lia)] at e8;have s68:=s26.trans sm;refine⟨0,true,EqD.strs (SqL.of (s68 _ _ hbk)) (SqL.of e8),by decide,?_⟩;lk;refine⟨d,e,u,rndS c n 0,_,rfl,hD6.keep s68,.inl ⟨.undo,(q0C _).symm,trivial,q3N (by lia),λz st' e' u' H9 he9 hu9 fr hD9 hs=>?_,λj l H9 s9 hl0 hl hs=>?_⟩⟩
   ·cases q7J hs
   ·cases q7J hs
    lk;refine λl2 H10 s10 hl20 hl2=>?_;refine⟨0,true,EqD.bls (SqL.of (s10 _ _ hl)) (SqL.of hl2),by decide,?_⟩;lk;refine iteF ?_;have s610:=s68.trans (s9.trans s10);exact hR _ _ ⟨e,u,s6.trans s610,he,hu,hD6.keep s610,sle,slu,s610 _ _ hsl6,rfl⟩
  ·rintro i τ zs H' v H2 hi ⟨e,rfl,sm,o0,rfl⟩ ⟨rfl,y⟩
   have ey:=y _ (SqL.of (sm _ _ hq'));obtain⟨hi',rfl⟩:=q3v ey;lk;refine⟨Nat.lt_trans (q5C (show((ms.take n).reverse[i]).natAbs < 10 ^ 36 from hall _ (List.mem_of_mem_take (List.mem_reverse.mp (List.getElem_mem hi'))))) (by decide),?_⟩;refine⟨e,Nx.mk hi ⟨q0,?_,sm.upd hacc,_,rfl⟩⟩;rw[List.take_succ_eq_append_getElem hi',List.map_append,List.map_append];rfl
 rintro σ' H7 ⟨e,u,s7,he,hu,hD7,sle,slu,hsl7,rfl⟩;lk;refine⟨by lia,by lia,?_⟩;rw[Int.toNat_natCast];intro acc hacc;obtain⟨_,_,_,_,j1,_,j3,_,j5,_⟩:=id hD7.ex;have hacc0:H acc=none:=s7.free hacc;have sla:sl≠acc:=qJ hsl7 hacc;have hD8:=hD7.keep (Same.new hacc (.lst []));have eld:(ms.drop 1).length=n:=by rw[List.length_drop];lia
 refine qp (n:=n) (λi τ zs H'=>∃e u:Addr,H' acc=some (.lst zs)/\zs=(((ms.drop 1).take i).map txt).map V.str/\Same H H'/\H e=none/\H u=none/\DeskAt C H' d e u (rndS c n i)/\sl≠e/\sl≠u/\acc≠e/\acc≠u/\H' sl=some (.lst (ms.map V.int))/\∃o0,τ=[o0,some (.ref d)])
  ⟨e,u,q0,rfl,s7.upd hacc0,he,hu,hD8,sle,slu,Ne.symm (qJ j3 hacc),Ne.symm (qJ j5 hacc),by rw[qG sla];exact hsl7,none,rfl⟩ (by lia) ?_ ?_ ?_ ?_
 ·rintro i τ zs H' ⟨e,u,ha,rfl,_⟩
  refine⟨ha,?_⟩;rw[List.length_map,List.length_map,List.length_take]
  lia
 ·rintro i τ zs H' hi _
  exact hi
 ·rintro τ zs H9 ⟨e,u,ha,rfl,sm9,he',hu',hD',h1,h2,h3,h4,hs',_⟩
  refine⟨Nat.le_refl _,?_⟩;rw[List.take_of_length_le (by lia)] at ha;lk;refine⟨sl,_,rfl,SqL.of hs',λp hp=>?_⟩;rw[cut_tl];have t1:=Same.new hp (.lst ((ms.drop 1).map V.int));lk;refine⟨⟨_,SqL.of q0⟩,?_⟩;intro ac2 hac2;have hp':upd H9 p (.lst ((ms.drop 1).map V.int)) p=some (.lst ((ms.drop 1).map V.int)):=q0;generalize upd H9 p (.lst ((ms.drop 1).map V.int))=H10 at hac2 hp' t1;refine qp (n:=n) (λi τ zs H'=>H' ac2=some (.lst zs)/\zs=(((ms.drop 1).take i).map txt).map V.str/\Same H10 H'/\∃o0,τ=[o0]) ⟨q0,rfl,Same.new hac2 _,none,rfl⟩ (by lia) ?_ ?_ ?_ ?_
  ·rintro i τ zs H' ⟨e,rfl,_⟩
   exact⟨e,by rw[List.length_map,List.length_map,List.length_take];lia⟩
  ·rintro i τ zs H' hi ⟨e,_,sm,_⟩
   exact⟨_,V.int ((ms.drop 1)[i]'(by lia)),SqL.of (sm _ _ hp'),by rw[List.getElem?_map,List.getElem?_eq_getElem (by lia)];rfl⟩
  ·rintro τ zs H8 ⟨e8,rfl,sm,_⟩
   refine⟨⟨_,SqL.of (sm _ _ hp'),by rw[List.length_map,eld];exact Nat.le_refl _⟩,?_⟩;rw[List.take_of_length_le (by lia)] at e8;have s68:=t1.trans sm;refine⟨0,true,EqD.strs (SqL.of (s68 _ _ ha)) (SqL.of e8),by decide,?_⟩;exact fin _ (sm9.trans s68)
  ·rintro i τ zs H' v H2 hi ⟨e,rfl,sm,o0,rfl⟩ ⟨rfl,y⟩
   have ey:=y _ (SqL.of (sm _ _ hp'));obtain⟨hi',rfl⟩:=q3v ey;lk;refine⟨Nat.lt_trans (q5C (show((ms.drop 1)[i]).natAbs < 10 ^ 36 from hall _ (List.mem_of_mem_drop (List.getElem_mem hi')))) (by decide),?_⟩;refine⟨e,Nx.mk hi ⟨q0,?_,sm.upd hac2,_,rfl⟩⟩;rw[List.take_succ_eq_append_getElem hi',List.map_append,List.map_append];rfl
 ·rintro i τ zs H' v H3 hi ⟨e,u,ha,rfl,sm,he',hu',hD',h1,h2,h3,h4,hs',o0,rfl⟩ ⟨rfl,rfl⟩
  obtain⟨dx',_,_,_,k1,_⟩:=id hD'.ex;have da:acc≠d:=λq=>by rw[q,k1] at ha;cases ha
  lk;refine⟨d,dx',_,rfl,k1,rfl,?_⟩;lk;refine .inl ⟨d,e,u,rndS c n i,.again,by rw[show Cmd.again.text=Str.ofString "again" from q0C _];rfl,hD',trivial,q3N (by lia),λz st' e' u' H8 he8 hu8 fr hD8 hs=>?_,λj H8 s8 hs=>?_⟩
  case refine_2=>
   obtain⟨x,ex,_⟩:=q5a (by lia) hs;cases ex
  obtain⟨x,ex,htop,rfl⟩:=q5a (by lia) hs;cases ex;have ha8:=fr acc _ da h3 h4 ha;have a3:=Ne.symm (qc (Ne.symm h3) he8 ha);have a4:=Ne.symm (qc (Ne.symm h4) hu8 ha);have em:=q2i (hsum (i+1) (ms[i+1]'(by lia)) (List.getElem?_eq_getElem (by lia))) htop;refine⟨ha8,Nx.mk hi ⟨e',u',q0,?_,(FrD.same sm fr hd he' hu').upd hacc0,q01 sm he8 he',q01 sm hu8 hu',hD8.keepL ha8 a3 a4,Ne.symm (qc (Ne.symm h1) he8 hs'),Ne.symm (qc (Ne.symm h2) hu8 hs'),a3,a4,by rw[qG sla];exact fr sl _ dsl h1 h2 hs',_,rfl⟩⟩;rw[List.take_succ_eq_append_getElem (by lia),List.map_append,List.map_append,em,List.getElem_drop];simp only[Nat.add_comm 1 i];rfl
noncomputable def SayBad(st:Dst)(z:Str)(i:Nat):Prop:=(∃c:Cmd,z=c.text/\c.ok/\∀r st',Says st c r st'->r = .ref i)\/(i=5/\q0w z/\z.length<=80000)
structure SomeAt(H:Hp)(xs:List V)(st:Dst):Prop where
 one:1<=xs.length
 few:xs.length<=1000
 at_:∀(j:Nat) (v:V),xs[j]?=some v->∃(t:Addr) (z:Str) (i:Nat),v = .ref t/\H t=some (.tup [.str z,.int (i:Int)])/\SayBad st z i
theorem laterL_len{c k:Int}:1<=(q2k c k).length/\(q2k c k).length<=1000:=by
 unfold q2k;split
 ·decide
 ·have:(lat5 k).length<=2:=by
   unfold lat5;by_cases h1:k=1
   ·rw[if_pos h1]
    decide
   ·rw[if_neg h1]
    by_cases h2:k=2
    ·rw[if_pos h2]
     decide
    ·rw[if_neg h2]
     decide
  rw[List.length_append];show 1<=13+(lat5 k).length/\13+(lat5 k).length<=1000
  lia
theorem SomeAt.later{xs:List V}{c k:Int}(k0:0<=k)(k3:k<=3)(h:LatAt H xs (q2k c k)):SomeAt H xs (q0F c k):=⟨by rw[h.len];exact laterL_len.1,by rw[h.len];exact laterL_len.2,λj v e=>by
 have hj:j < (q2k c k).length:=by rw[<-h.len];exact(List.getElem?_eq_some_iff.mp e).1
 obtain⟨t,rfl,ht⟩:=h.at_ j v _ e (List.getElem?_eq_getElem hj);have ok:=later_ok k0 k3 _ (List.getElem_mem hj)
 exact⟨t,_,_,rfl,ht,.inl ⟨_,rfl,ok.1,λr st' hs=>(hs.uniq ok.2).1⟩⟩⟩
theorem q4S(c k:Int):(q0F c k).earlier.length+(q0F c k).undone.length<=1:=by
 unfold q0F;split
 ·decide
 ·split
  ·show 0+0<=1;decide
  ·split
   ·show 1+0<=1;decide
   ·show 0+1<=1;decide
theorem DueV.eqD{K:Frag}{x y:V}{r:Rep}(h:DueV H x r)(g:DueV H y r):∃n,n<=50/\EqD K H n x y true:=by
 cases r with
 | ans z=>
  cases(show x = .str z from h);cases(show y = .str z from g);have:=EqD.flat (K:=K) (H:=H) (x:=V.str z) (y:=V.str z) rfl rfl;rw[show eqV (.str z) (.str z)=true by unfold eqV;simp] at this;exact⟨0,by decide,this⟩
 | ref i=>
  obtain⟨l,rfl,hl⟩:=h;obtain⟨m,rfl,hm⟩:=g;exact⟨1,by decide,EqD.bls (SqL.of hl) (SqL.of hm)⟩
theorem SqL.keepF{K:Frag}{xs:List V}(h:SqL K H a xs)(s:Same H H'):SqL K H' a xs:=by
 rcases h with(h|⟨o,h⟩)|h
 ·exact .inl (.inl (s _ _ h))
 ·exact .inl (.inr ⟨o,s _ _ h⟩)
 ·exact .inr h
theorem q3x:formL.length=48:=rfl
theorem row_9:Str.ofString "row 9 -9 9" = (Cmd.row [9,-9,9]).text:=by
 have e1:txt 9=Str.ofString "9":=by decide +kernel
 have e2:txt (-9)=Str.ofString "-9":=by decide +kernel
 show _=Txt.join (Str.ofString " ") [Str.ofString "row",txt 9,txt (-9),txt 9];rw[e1,e2];decide +kernel
theorem ok_law(F:Fun K "law" "law" q6S f fd)(Z:Blt mg)(DD:DC K C)
  (y4:MDef (CXE P w) P w K mg base k C "say" ["self","row"] (q2p C N cls))(yK:Def P w K mg base k "_law_made" ["first","kind"] (q4h C))(yP:Def P w K mg base k "_law_said" ["desk","row"] (q3J C))(yd:Def P w K mg base k "_law_due" ["at"] sp_due)
  (y0R:Def P w K mg base k "_law_twenty" ["first"] q5N)(y0S:Def P w K mg base k "_law_rounds" ["first"] q5Q)(y0T:Def P w K mg base k "_law_later" ["first","kind"] q75)(yr:Def P w K mg base k "_law_formless" [] q3a)
  (y0U:Def P w K mg base k "_law_spoilt" ["rest"] q3W)(yt:Def P w K mg base k "_law_seen" ["desk"] (sp_seen C)):FnOk P w K mg base CX0 (k+1) f fd ["script"] (q74 K):=by
 refine F.ok sc_law (λvs H Q E h=>?_) (λcdv A outer s H vs Q E hr h=>?_)
 ·obtain⟨a,ns,rfl,_⟩:=h
  rfl
 obtain⟨a,ns,rfl,ha,hl,fin⟩:=h;have CL:=DD.cl
 w_up
 ·apply qB
  exact(ps_set (i:=1) sc_law.nd rfl (by k_ne) (qP q7e rfl Z.abs_ PyProof.Rows.boot_abs (pa_cons (qP (call_sumK (K:=K) rfl rfl) rfl Z.sum_ PyProof.Rows.boot_sum (pa_cons (qr (q0e (K:=K) rfl) (pv 0) q05 (q04 qD)) qA)) qA)));apply qB
  ·apply qY
   exact(PW.pt (q2B (qw (q0c (qI y0R hr rfl (pa_cons (pv 1) qA)))) (q0u (qw (q0c (qI y0S hr rfl (pa_cons (pv 1) qA)))))))
   ·apply qC
    exact(qK q3n)
   exact qO
  apply qB
  ·apply q1Q PassesOwn.never rfl
   exact(qm (K:=K) rfl (qr (q0e (K:=K) rfl) (pv 0) q05 (q04 qD)));exact(qZ (i:=2) sc_law.nd rfl (by k_ne))
   ·apply qB
    exact(ps_set (i:=3) sc_law.nd rfl (by k_ne) (qT q0n (pv 2) qD));apply qB;exact(ps_set (i:=4) sc_law.nd rfl (by k_ne) (qT q1L (qP q7e rfl Z.abs_ PyProof.Rows.boot_abs (pa_cons (pv 2) qA)) qD));apply qB;exact(ps_set (i:=5) sc_law.nd rfl (by k_ne) (qI y0T hr rfl (pa_cons (pv 1) (pa_cons (pv 3) qA))));apply qB
    ·apply qY
     exact(qL q0X (qT q0n (pv 4) qD) qD (qU _))
     ·apply qC
      first|exact(ps_lc (i:=5) sc_law.nd rfl (by k_ne) (N':=["row"]) (ix:=[none]) rfl rfl (by decide +kernel) rfl rfl rfl rfl (qm (K:=K) rfl (pe_def0 yr hr rfl)) (λ_ _ _ _=>(qZ (i:=0) (show List.Nodup (["row"]:List Str) by decide +kernel) rfl (by k_ne))) (λ_ _ _ _=>qq) (λ_ _ _ _=>(qf (pa_cons (pv 0) (pa_cons qD qA)))))|exact(ps_set (i:=5) sc_law.nd rfl (by k_ne) (q18 (N':=["row"]) (ix:=[none]) rfl rfl (by decide +kernel) rfl rfl rfl rfl (qm (K:=K) rfl (pe_def0 yr hr rfl)) (λ_ _ _ _=>(qZ (i:=0) (show List.Nodup (["row"]:List Str) by decide +kernel) rfl (by k_ne))) (λ_ _ _ _=>qq) (λ_ _ _ _=>(qf (pa_cons (pv 0) (pa_cons qD qA))))))
     exact qO
    apply qB;exact(ps_asg (qM (qR (K:=K) rfl) (pv 5) (qT q0n (qT q1L (pv 4) qD) (qP (qQ (K:=K) rfl) rfl Z.len_ PySem.boot_len (pa_cons (pv 5) qA))) (λ_ _=>rfl)) (pg_tupK (K:=K) (n:=2) rfl rfl (q7O (qZ (i:=6) sc_law.nd rfl (by k_ne)) (q7O (qZ (i:=7) sc_law.nd rfl (by k_ne)) pgs_nil))));apply qB
    ·apply qY
     exact(qL q0X (qT q0n (qT q1L (pv 4) qD) qD) qD (qU _))
     ·apply qC
      exact(ps_par (i:=6) (j:=7) rfl sc_law.nd rfl rfl (by decide) rfl rfl (pa_cons (qI y0U hr rfl (pa_cons (qT q1L (pv 4) qD) qA)) (pa_cons qD qA)) rfl)
     exact qO
    apply qB;exact(ps_set (i:=8) sc_law.nd rfl (by k_ne) (qI yK hr rfl (pa_cons (pv 1) (pa_cons (pv 3) qA))));apply qB;exact(ps_set (i:=9) sc_law.nd rfl (by k_ne) (qI yK hr rfl (pa_cons (qT qo (pv 1) qD) (pa_cons qD qA))));apply qB;exact(qj (q2h y4 CL hr (q09 q0W) (pv 9) (pa_cons qE qA)));apply qB
    ·apply qY
     exact(qL (q6a (K:=K) hr rfl) (qI yP hr rfl (pa_cons (pv 8) (pa_cons (pv 6) qA))) (qI yd hr rfl (pa_cons (pv 7) qA)) (qU _))
     ·apply qC
      exact(qK q3n)
     exact qO
    apply qC;apply qY;exact(qL (op_neL hr) (qI yt hr rfl (pa_cons (pv 8) qA)) (qI yt hr rfl (pa_cons (qI yK hr rfl (pa_cons (pv 1) (pa_cons (pv 3) qA))) qA)) (qU _))
    ·apply qC
     exact(qK q3n)
    exact qO
  apply qC;exact(qK q3n)
 refine seqU (λσ' H'=>∃c:Int,SqL K H' a (ns.map V.int)/\σ'=[some (.ref a),some (.int c),none,none,none,none,none,none,none,none]) ?_ (λR hR=>?_)
 case refine_2=>
  lk;refine⟨a,_,rfl,ha,λp hp=>?_⟩;rw[show cutV (ns.map V.int) none (some 1)=(ns.take 1).map V.int from q45 (m:=1)];have s1:=Same.new hp (.lst ((ns.take 1).map V.int));lk;refine⟨p,ns.take 1,rfl,SqL.of q0,?_⟩;lk;exact hR _ _ ⟨_,SqL.keepF ha s1,rfl⟩
 rintro σ' H1 ⟨c,ha1,rfl⟩;refine seqU (λσ' H'=>SqL K H' a (ns.map V.int)/\σ'=[some (.ref a),some (.int c),none,none,none,none,none,none,none,none]) ?_ (λR hR=>?_)
 case refine_2=>
  lk;intro H2 s2;lk;intro H3 s3;lk;exact hR _ _ ⟨SqL.keepF ha1 (s2.trans s3),rfl⟩
 rintro σ' H2 ⟨ha2,rfl⟩;lk;refine⟨a,_,rfl,ha2,λp hp=>?_⟩;rw[show cutV (ns.map V.int) none (some 30)=(ns.take 30).map V.int from q45 (m:=30)];have hp0:upd H2 p (.lst ((ns.take 30).map V.int)) p=some (.lst ((ns.take 30).map V.int)):=q0;generalize upd H2 p (.lst ((ns.take 30).map V.int))=H0 at hp0;refine⟨p,rfl,⟨_,SqL.of hp0⟩,?_⟩;refine q2A (xs:=(ns.take 30).map V.int) (λi σ H'=>∃(o2 o3 o4 o5 o6 o7 o8 o9:Option V),Same H0 H'/\σ=[some (.ref a),some (.int c),o2,o3,o4,o5,o6,o7,o8,o9]) ⟨none,none,none,none,none,none,none,none,Same.refl _,rfl⟩ ?_ ?_ ?_
 ·rintro i σ H' _ ⟨_,_,_,_,_,_,_,_,sm,_⟩
  exact SqL.of (sm _ _ hp0)
 case refine_3=>
  rintro σ H' ⟨_,_,_,_,_,_,_,_,sm,rfl⟩;lk;exact fin _
 rintro i v σ H1 hv ⟨o2,o3,o4,o5,o6,o7,o8,o9,sm,rfl⟩;obtain⟨_,rfl⟩:=q3v hv;generalize (ns.take 30)[i]=x;show tSeq _ _ _ _ _;refine seqU (λσ' H'=>H1=H'/\σ'=[some (.ref a),some (.int c),some (.int x),some (.int (x%4)),o4,o5,o6,o7,o8,o9]) ?_ (λR hR=>?_)
 case refine_2=>
  lk;exact hR _ _ ⟨rfl,rfl⟩
 rintro σ' _ ⟨rfl,rfl⟩;have k0:0<=x%4:=by lia
 have k3:x%4<=3:=by lia
 generalize x%4=kd at k0 k3;refine seqU (λσ' H'=>∃rest:Int,0<=rest/\H1=H'/\σ'=[some (.ref a),some (.int c),some (.int x),some (.int kd),some (.int rest),o5,o6,o7,o8,o9]) ?_ (λR hR=>?_)
 case refine_2=>
  lk;exact hR _ _ ⟨_,by split<;>lia,rfl,rfl⟩
 rintro σ' _ ⟨rest,hr0,rfl,rfl⟩;refine seqU (λσ' H'=>∃l xs,Same H1 H'/\H' l=some (.lst xs)/\SomeAt H' xs (q0F c kd)/\σ'=[some (.ref a),some (.int c),some (.int x),some (.int kd),some (.int rest),some (.ref l),o6,o7,o8,o9]) ?_ (λR hR=>?_)
 case refine_2=>
  lk;refine⟨c,kd,rfl,k0,k3,λl xs H2 s2 hl hL=>?_⟩;exact hR _ _ ⟨l,xs,s2,hl,.later k0 k3 hL,rfl⟩
 rintro σ' H2 ⟨l,xs,s2,hl2,hS2,rfl⟩;refine seqU (λσ' H'=>∃l xs,Same H1 H'/\H' l=some (.lst xs)/\SomeAt H' xs (q0F c kd)/\σ'=[some (.ref a),some (.int c),some (.int x),some (.int kd),some (.int rest),some (.ref l),o6,o7,o8,o9]) ?_ (λR hR=>?_)
 case refine_2=>
  lk;refine ifD (λz=>?_) (λz=>hR _ _ ⟨l,xs,s2,hl2,hS2,rfl⟩);lk;intro q H3 s3 _ hq;refine⟨q,rfl,⟨_,SqL.of hq⟩,?_⟩;intro acc hacc;refine qp (n:=formL.length) (λi τ zs H'=>H' acc=some (.lst zs)/\zs.length=i/\(∀(j:Nat) (v:V),zs[j]?=some v->∃(t:Addr) (z:Str),v = .ref t/\H' t=some (.tup [.str z,.int 5])/\z∈formL)/\Same H3 H'/\∃o0,τ=[o0]) ⟨q0,rfl,λj v e=>by simp at e,Same.new hacc _,none,rfl⟩ (by rw[q3x];decide) ?_ ?_ ?_ ?_
  ·rintro i τ zs H' ⟨e,hz,_⟩
   exact⟨e,by lia⟩
  ·rintro i τ zs H' hi ⟨e,_,_,sm,_⟩
   exact⟨_,V.str formL[i],SqL.of (sm _ _ hq),by rw[List.getElem?_map,List.getElem?_eq_getElem hi];rfl⟩
  ·rintro τ zs H4 ⟨e4,hz,hall,sm4,_⟩
   refine⟨⟨_,SqL.of (sm4 _ _ hq),by rw[List.length_map];exact Nat.le_refl _⟩,?_⟩;refine hR _ _ ⟨acc,zs,s2.trans (s3.trans sm4),e4,⟨by rw[hz,q3x];decide,by rw[hz,q3x];decide,λj v e=>?_⟩,rfl⟩;obtain⟨t,z,e1,e2,e3⟩:=hall j v e;exact⟨t,z,5,e1,e2,.inr ⟨rfl,(q5x e3).1,(q5x e3).2⟩⟩
  ·rintro i τ zs H' v H4 hi ⟨e,hz,hall,sm4,o0,rfl⟩ ⟨rfl,y⟩
   have ey:=y _ (SqL.of (sm4 _ _ hq));rw[List.getElem?_map,List.getElem?_eq_getElem hi] at ey;obtain rfl:V.str formL[i]=v:=Option.some.inj ey;lk;refine⟨by show 2<=sizeLine;decide,λt ht=>?_⟩;have t1:=Same.new ht (.tup [.str formL[i],.int 5]);have ta:t≠acc:=Ne.symm (qJ e ht);have hacc0:H3 acc=none:=hacc;refine⟨t1 _ _ e,Nx.mk hi ⟨q0,by rw[List.length_append,hz];rfl,λj v ej=>?_,(sm4.trans t1).upd hacc0,_,rfl⟩⟩;by_cases hj:j < zs.length
   ·rw[List.getElem?_append_left hj] at ej
    obtain⟨t',z',e1,e2,e3⟩:=hall j v ej;exact⟨t',z',e1,by rw[qG (λq=>by rw[q,e] at e2;cases e2)];exact t1 _ _ e2,e3⟩
   ·rw[List.getElem?_append_right (by lia)] at ej
    cases hd:j-zs.length with
    | zero=>
     rw[hd] at ej;cases ej;exact⟨t,_,rfl,by rw[qG ta];exact q0,List.getElem_mem hi⟩
    |succ j'=>rw[hd] at ej;simp at ej
 rintro σ' H3 ⟨l,xs,s3,hl3,hS3,rfl⟩;refine seqU (λσ' H'=>∃(z:Str) (j:Nat),Same H1 H'/\SayBad (q0F c kd) z j/\σ'=[some (.ref a),some (.int c),some (.int x),some (.int kd),some (.int rest),some (.ref l),some (.str z),some (.int (j:Int)),o8,o9]) ?_ (λR hR=>?_)
 case refine_2=>
  lk;refine⟨l,_,rfl,.inl (SqL.of hl3),?_⟩;have h1:=hS3.one;have g0:0<=rest/10%(xs.length:Int):=Int.emod_nonneg _ (by lia);have g1:rest/10%(xs.length:Int) < (xs.length:Int):=Int.emod_lt_of_pos _ (by lia);refine⟨_,_,rfl,rfl,by lia,?_⟩;dsimp only
  obtain⟨q,eq⟩:∃q:Nat,rest/10%(xs.length:Int)=(q:Int):=⟨(rest/10%(xs.length:Int)).toNat,by lia⟩
  rw[eq] at g0 g1 ⊢;have hq:q < xs.length:=by lia
  have e:=List.getElem?_eq_getElem hq;obtain⟨t,z,j,ev,ht,hb⟩:=hS3.at_ q _ e;refine⟨l,xs,_,_,rfl,rfl,SqL.of hl3,qi e,?_⟩;rw[ev];refine⟨t,_,rfl,SqT.of ht,rfl,_,_,rfl,?_⟩;lk;exact hR _ _ ⟨z,j,s3,hb,rfl⟩
 rintro σ' H4 ⟨z,j,s4,hz,rfl⟩;refine seqU (λσ' H'=>∃(z:Str) (j:Nat),Same H1 H'/\SayBad (q0F c kd) z j/\σ'=[some (.ref a),some (.int c),some (.int x),some (.int kd),some (.int rest),some (.ref l),some (.str z),some (.int (j:Int)),o8,o9]) ?_ (λR hR=>?_)
 case refine_2=>
  lk;refine ifD (λq=>?_) (λq=>hR _ _ ⟨z,j,s4,hz,rfl⟩);lk;refine⟨by lia,λy H5 s5 hF hy=>?_⟩;lk;refine⟨_,_,rfl,?_⟩;refine hR _ _ ⟨y,5,s4.trans s5,.inr ⟨rfl,hF,hy⟩,rfl⟩
 rintro σ' H5 ⟨z,j,s5,hz,rfl⟩;refine seqU (λσ' H'=>∃d e u,Same H5 H'/\H5 d=none/\H5 e=none/\H5 u=none/\DeskAt C H' d e u (q0F c kd)/\σ'=[some (.ref a),some (.int c),some (.int x),some (.int kd),some (.int rest),some (.ref l),some (.str z),some (.int (j:Int)),some (.ref d),o9]) ?_ (λR hR=>?_)
 case refine_2=>
  lk;refine⟨c,kd,rfl,k0,k3,λd e u H6 s6 hd he hu hD=>?_⟩;exact hR _ _ ⟨d,e,u,s6,hd,he,hu,hD,rfl⟩
 rintro σ' H6 ⟨d,e,u,s6,hd,he,hu,hD6,rfl⟩;refine seqU (λσ' H'=>∃d2 e2 u2,Same H6 H'/\H6 d2=none/\H6 e2=none/\H6 u2=none/\DeskAt C H' d2 e2 u2 (q0F (c+1) 3)/\σ'=[some (.ref a),some (.int c),some (.int x),some (.int kd),some (.int rest),some (.ref l),some (.str z),some (.int (j:Int)),some (.ref d),some (.ref d2)]) ?_ (λR hR=>?_)
 case refine_2=>
  lk;refine⟨c+1,3,rfl,by decide,by decide,λd2 e2 u2 H7 s7 hd2 he2 hu2 hD2=>?_⟩;exact hR _ _ ⟨d2,e2,u2,s7,hd2,he2,hu2,hD2,rfl⟩
 rintro σ' H7 ⟨d2,e2,u2,s7,hd2,he2,hu2,hD7,rfl⟩;refine seqU (λσ' H'=>Same H6 H'/\σ'=[some (.ref a),some (.int c),some (.int x),some (.int kd),some (.int rest),some (.ref l),some (.str z),some (.int (j:Int)),some (.ref d),some (.ref d2)]) ?_ (λR hR=>?_)
 case refine_2=>
  obtain⟨dx7,_,_,_,i1,_⟩:=id hD7.ex;lk;refine⟨d2,dx7,_,rfl,i1,rfl,?_⟩;lk
  have hok:(Cmd.row [9,-9,9]).ok:=⟨by decide,by decide,by decide⟩
  have hcnt:=q4S (c+1) 3;refine .inl ⟨d2,e2,u2,_,.row [9,-9,9],by rw[<-row_9];rfl,hD7,hok,by lia,λz st' e' u' H8 he8 hu8 fr hD8 hs=>?_,λj H8 s8 hs=>?_⟩
  ·exact hR _ _ ⟨FrD.same s7 fr hd2 he2 hu2,rfl⟩
  ·cases hs with
   |none n _=>exact(n _ rfl).elim
 rintro σ' H8 ⟨s8,rfl⟩;have hD8:=hD6.keep s8;have hcnt:=q4S c kd;refine seqU (λσ' H'=>Same H8 H'/\σ'=[some (.ref a),some (.int c),some (.int x),some (.int kd),some (.int rest),some (.ref l),some (.str z),some (.int (j:Int)),some (.ref d),some (.ref d2)]) ?_ (λR hR=>?_)
 case refine_2=>
  lk;rcases hz with⟨cm,rfl,hok,hsay⟩|⟨rfl,hF,hlen⟩
  ·refine⟨d,e,u,_,_,rfl,hD8,.inl ⟨cm,rfl,hok,by lia,λz st' e' u' H9 he9 hu9 fr hD9 hs=>?_,λi l1 H9 s9 hl0 h9 hs=>?_⟩⟩
   ·cases hsay _ _ hs
   ·cases hsay _ _ hs
    lk;intro l2 H10 s10 h20 h10;refine⟨0,true,EqD.bls (SqL.of (s10 _ _ h9)) (SqL.of h10),by decide,?_⟩;lk;exact iteF (hR _ _ ⟨s9.trans s10,rfl⟩)
  ·refine⟨d,e,u,_,z,rfl,hD8,.inr ⟨hlen,hF,λl1 H9 s9 hl0 h9=>?_⟩⟩
   lk;intro l2 H10 s10 h20 h10;refine⟨0,true,EqD.bls (SqL.of (s10 _ _ h9)) (SqL.of h10),by decide,?_⟩;lk;exact iteF (hR _ _ ⟨s9.trans s10,rfl⟩)
 rintro σ' H9 ⟨s9,rfl⟩;have hD9:=hD8.keep s9;obtain⟨dx9,_,_,_,i1,_,i3,_,i5,_⟩:=id hD9.ex;lk;refine⟨d,e,u,_,rfl,hD9,by lia,λl1 xs1 rs1 st1 H10 fr10 hl1 hA1 hS1=>?_⟩;lk;refine⟨c,kd,rfl,k0,k3,λd3 e3 u3 H11 s11 hd3 he3 hu3 hD11=>?_⟩;lk;refine⟨d3,e3,u3,_,rfl,hD11,by lia,λl3 xs3 rs3 st3 H12 fr12 hl3 hA3 hS3=>?_⟩;obtain⟨rfl,_⟩:=hS1.uniq hS3;have s12:Same H10 H12:=FrD.same s11 fr12 hd3 he3 hu3;have hA12:SeenAt H12 xs1 rs1:=hA1.keep λl bs _ k=>s12 _ _ k;refine⟨l1,l3,xs1,xs3,rfl,rfl,SqL.of (s12 _ _ hl1),SqL.of hl3,by rw[hA12.len,hA3.len],λj v w e1 e2=>?_,?_⟩
 ·have hj:j < rs1.length:=by rw[<-hA12.len];exact(List.getElem?_eq_some_iff.mp e1).1
  exact(hA12.at_ j v _ e1 (List.getElem?_eq_getElem hj)).eqD (hA3.at_ j w _ e2 (List.getElem?_eq_getElem hj))
 lk;refine iteF ⟨_,_,_,_,_,_,_,_,?_,rfl⟩;have s59:Same H5 H9:=s6.trans (s8.trans s9);have s10:Same H5 H10:=FrD.same s59 fr10 hd he hu;exact sm.trans (s5.trans (s10.trans s12))
theorem of0{us:List Value}(h:us.length=0):us=[]:=List.length_eq_zero_iff.mp h
end My
end
namespace My
open PySem L2 PySem.W
theorem of1{us:List Value}(h:us.length=1):∃x0,us=[x0]:=by
 match us,h with
 |[x0],_=>exact⟨_,rfl⟩
theorem of2{us:List Value}(h:us.length=2):∃x0 x1,us=[x0,x1]:=by
 match us,h with
 |[x0,x1],_=>exact⟨_,_,rfl⟩
theorem of3{us:List Value}(h:us.length=3):∃x0 x1 x2,us=[x0,x1,x2]:=by
 match us,h with
 |[x0,x1,x2],_=>exact⟨_,_,_,rfl⟩
theorem of4{us:List Value}(h:us.length=4):∃x0 x1 x2 x3,us=[x0,x1,x2,x3]:=by
 match us,h with
 |[x0,x1,x2,x3],_=>exact⟨_,_,_,_,rfl⟩
noncomputable abbrev Tf(K:Frag)(x:Str)(st:Stmt)(f:Addr):Prop:=nsIn K mainGlobals x=some (some (.ref f))/\∃(oc:Value) (od:Option Addr) (v c p:Value) (an:Option Addr) (cd ct:Value) (sl:Array (Option Value)),K.lookup f=some ⟨oc,od,.func (fnOf x x (q0o st) (q0M st) (qF st) .none v c p an cd ct),sl⟩/\codeIn K cd x=true/\keepIn K (.ref f)=true
noncomputable abbrev Mf(K:Frag)(C:Addr)(x q:Str)(st:Stmt)(f:Addr):Prop:=findIn K (.ref C) x=some (some (.ref f))/\isFn K (.ref f)=true/\∃(oc:Value) (od:Option Addr) (v c p:Value) (an:Option Addr) (cd ct:Value) (sl:Array (Option Value)),K.lookup f=some ⟨oc,od,.func (fnOf x q (q0o st) (q0M st) (qF st) .none v c p an cd ct),sl⟩/\codeIn K cd q=true/\keepIn K (.ref f)=true
theorem tf{K:Frag}{x:Str}{st:Stmt}{f:Addr}{oc:Value}{od:Option Addr}{v c p:Value}{an:Option Addr}{cd ct:Value}{sl:Array (Option Value)}(a:nsIn K mainGlobals x=some (some (.ref f)))(l:K.lookup f=some ⟨oc,od,.func (fnOf x x (q0o st) (q0M st) (qF st) .none v c p an cd ct),sl⟩)(d:codeIn K cd x=true)(k:keepIn K (.ref f)=true):Tf K x st f:=⟨a,_,_,_,_,_,_,_,_,_,l,d,k⟩
theorem mf{K:Frag}{C:Addr}{x q:Str}{st:Stmt}{f:Addr}{oc:Value}{od:Option Addr}{v c p:Value}{an:Option Addr}{cd ct:Value}{sl:Array (Option Value)}(a:findIn K (.ref C) x=some (some (.ref f)))(n:isFn K (.ref f)=true)(l:K.lookup f=some ⟨oc,od,.func (fnOf x q (q0o st) (q0M st) (qF st) .none v c p an cd ct),sl⟩)(d:codeIn K cd q=true)(k:keepIn K (.ref f)=true):Mf K C x q st f:=⟨a,n,_,_,_,_,_,_,_,_,_,l,d,k⟩
theorem tb{K:Frag}{h:Heap}{mg:Str->Option Value}(X:K.In h)(G:h.Ns mainGlobals mg)(ps:List Str){x:Str}{st:Stmt}{f:Addr}(t:Tf K x st f)(hb:∀(v c p:Value) (an:Option Addr) (cd ct:Value) (us:List Value),us.length=ps.length->bindArgs (fnOf x x (q0o st) (q0M st) (qF st) .none v c p an cd ct) ⟨us,[]⟩=pure (ps.zip us)):∃fd,Fun K x x st f fd/\Binds K fd ps []/\keepIn K (.ref f)=true/\mg x=some (.ref f):=by
 obtain⟨a,o,d,v,c,p,n,m,y,g,l,e,k⟩:=t;exact⟨_,q4V l e k,(q4V l e k).binds hb,k,mg_of X G a⟩
theorem mb{K:Frag}(ps:List Str){C:Addr}{x q:Str}{st:Stmt}{f:Addr}(t:Mf K C x q st f)(hb:∀(v c p:Value) (an:Option Addr) (cd ct:Value) (us:List Value),us.length=ps.length->bindArgs (fnOf x q (q0o st) (q0M st) (qF st) .none v c p an cd ct) ⟨us,[]⟩=pure (ps.zip us)):∃fd,Fun K x q st f fd/\Binds K fd ps []/\Meth K C x f:=by
 obtain⟨a,i,o,d,v,c,p,n,m,y,g,l,e,k⟩:=t;exact⟨_,q4V l e k,(q4V l e k).binds hb,a,i,k⟩
theorem df{P:Program}{w:World}{K:Frag}{mg:Str->Option Value}{base:Heap}{k:Nat}{x:Str}{ps:List Str}{sp:Sp}{f:Addr}{fd:FuncData}(F:FnOk P w K mg base CX0 k f fd ps sp)(J:Binds K fd ps []/\keepIn K (.ref f)=true/\mg x=some (.ref f)):Def P w K mg base k x ps sp:=⟨⟨f,fd,F,J⟩⟩
theorem de{P:Program}{w:World}{K:Frag}{mg:Str->Option Value}{base:Heap}{k:Nat}{x:Str}{ps:List Str}{sp:Sp}{f:Addr}{fd:FuncData}(F:FnOk P w K mg base (CXE P w) k f fd ps sp)(J:Binds K fd ps []/\keepIn K (.ref f)=true/\mg x=some (.ref f)):DefE P w K mg base k x ps sp:=⟨⟨f,fd,F,J⟩⟩
theorem dx{P:Program}{w:World}{K:Frag}{mg:Str->Option Value}{base:Heap}{k:Nat}{x:Str}{ps:List Str}{sp:Sp}{f:Addr}{fd:FuncData}(F:FnOk P w K mg base (CXC P w) k f fd ps sp)(J:Binds K fd ps []/\keepIn K (.ref f)=true/\mg x=some (.ref f)):DefX (CXC P w) P w K mg base k x ps sp:=⟨⟨f,fd,F,J⟩⟩
local macro_rules | `(tactic| walk_at "b0")=>`(tactic| exact fun _ _ _ _ _ _ us hl=>by obtain e:=of0 hl;subst e;rfl)
local macro_rules | `(tactic| walk_at "b1")=>`(tactic| exact fun _ _ _ _ _ _ us hl=>by obtain ⟨_,e⟩:=of1 hl;subst e;rfl)
local macro_rules | `(tactic| walk_at "b2")=>`(tactic| exact fun _ _ _ _ _ _ us hl=>by obtain ⟨_,_,e⟩:=of2 hl;subst e;rfl)
local macro_rules | `(tactic| walk_at "b3")=>`(tactic| exact fun _ _ _ _ _ _ us hl=>by obtain ⟨_,_,_,e⟩:=of3 hl;subst e;rfl)
local macro_rules | `(tactic| walk_at "b4")=>`(tactic| exact fun _ _ _ _ _ _ us hl=>by obtain ⟨_,_,_,_,e⟩:=of4 hl;subst e;rfl)
theorem all_mk{l:OpenLaw}{w:World}{K:Frag}{h:Heap}{mg:Str->Option Value}{fa f0 f1 f2 f3 f4 f5 f6 f7 f8 f9 f10 f11 f12 f13 f14 f15 f16 f17 f18 f19 f20 f21 f22 f23 f24 f25 f26 f27 f28 f29 f30 f31 f32 f33 f34 f35 f36 f37 f38 f39 f40 f41 f42 f43 f44 f45 f46 f47 f48 f49 f50 f51 f52 f53 f54 f55 f56 f57 f58 f59 f60 f61 f62 f63 f64 f65 f66 f67 f68 f69 f70 C0 C1 C2 C3 C4 C5 C6 C7 C8:Addr}(X:K.In h)(G:h.Ns mainGlobals mg)(hfa:mg "law" = some (.ref fa))
  {y0l y0m y0n y0o y0p y0q y0r y0s y0t y0u y0v y0w y0x:Tok}
  {CD AB:Addr}{es:Array DictEntry}{nn:Nat}
  (t0:Tf K "is_whole" q30 f0)
  (t1:Tf K "is_stretch" q1h f1)
  (t2:Tf K "sums_ahead" q1d f2)
  (t3:Tf K "order_of" q2u f3)
  (t4:Tf K "better_of" q2L f4)
  (t5:Tf K "moved" q6R f5)
  (t6:Tf K "side_by_side" q0z f6)
  (t7:Tf K "joined_round" q12 f7)
  (t8:Tf K "joined" q4s f8)
  (t9:Tf K "single" q4q f9)
  (t10:Tf K "paired" q4r f10)
  (t11:Tf K "halved" q3M f11)
  (t12:Tf K "kept" s_kept f12)
  (t13:Tf K "many_of" q3g f13)
  (t14:Tf K "row_of" q3L f14)
  (t15:Tf K "refuse_place" q0T f15)
  (t16:Tf K "with_put" q20 f16)
  (t17:Tf K "changed" q2b f17)
  (t18:Tf K "known_of" q22 f18)
  (t19:Tf K "known_of_part" q0J f19)
  (t20:Tf K "best_in" q2c f20)
  (t21:Tf K "best_round" q1k f21)
  (t22:Tf K "longest_of" q0r f22)
  (t23:Tf K "enter_first" q1E f23)
  (t24:Tf K "best_sized" q0s f24)
  (t25:Tf K "refuse_counts" q0I f25)
  (t26:Tf K "room_for" q2t f26)
  (t27:Tf K "greater_of" q1i f27)
  (t28:Tf K "begun_line" q1l f28)
  (t29:Tf K "best_line" q2M f29)
  (t30:Tf K "behind_line" q1G f30)
  (t31:Tf K "lines_of" q2v f31)
  (t32:Tf K "first_from" q1j f32)
  (t33:Tf K "beyond_from" q1F f33)
  (t34:Tf K "stretches_of" q0y f34)
  (t35:Tf K "best_apart" q0t f35)
  (t36:Tf K "several_paper" q0H f36)
  (t37:Tf K "must_be" q2a f37)
  (t38:Tf K "shown_row" q2H f38)
  (t39:Tf K "are_figures" q1H f39)
  (t40:Tf K "is_number" q2K f40)
  (t41:Tf K "read_row" q21 f41)
  (t42:Tf K "read_text" q1D f42)
  (t43:Tf K "read_figures" q0U f43)
  (t44:Tf K "read_number" q0f f44)
  (t45:Tf K "read_changes" q0V f45)
  (t46:Tf K "read_behind" q0g f46)
  (t47:Tf K "with_stretches" q0a f47)
  (t48:Tf K "bars" q7G f48)
  (t49:Tf K "answer_of" q2N f49)
  (t50:Tf K "shown_answer" q10 f50)
  (t51:Tf K "best_sum" q31 f51)
  (t52:Mf K CD "__init__" "Desk.__init__" q1K f52)
  (t53:Mf K CD "lay" "Desk.lay" q32 f53)
  (t54:Mf K CD "put" "Desk.put" q24 f54)
  (t55:Mf K CD "undo" "Desk.undo" q1I f55)
  (t56:Mf K CD "redo" "Desk.redo" q1J f56)
  (t57:Mf K CD "say" "Desk.say" q23 f57)
  (t58:Tf K "_law_flags" q2J f58)
  (t59:Tf K "_law_said" q2x f59)
  (t60:Tf K "_law_due" q3h f60)
  (t61:Tf K "_law_formless" q11 f61)
  (t62:Tf K "_law_spoilt" q1f f62)
  (t63:Tf K "_law_numbers_of" q0b f63)
  (t64:Tf K "_law_made" q2z f64)
  (t65:Tf K "_law_later" q2I f65)
  (t66:Tf K "_law_seen" q2w f66)
  (t67:Tf K "_law_most" q2y f67)
  (t68:Tf K "_law_twenty" q1e f68)
  (t69:Tf K "_law_rounds" q1g f69)
  (t70:Tf K "law" q6S f70)
  (z0:nsIn K mainGlobals "len" = some none)
  (z1:nsIn K mainGlobals "range" = some none)
  (z2:nsIn K mainGlobals "isinstance" = some none)
  (z3:nsIn K mainGlobals "int" = some none)
  (z4:nsIn K mainGlobals "bool" = some none)
  (z5:nsIn K mainGlobals "tuple" = some none)
  (z6:nsIn K mainGlobals "list" = some none)
  (z7:nsIn K mainGlobals "sum" = some none)
  (z8:nsIn K mainGlobals "abs" = some none)
  (z9:nsIn K mainGlobals "min" = some none)
  (z10:nsIn K mainGlobals "max" = some none)
  (z11:nsIn K mainGlobals "zip" = some none)
  (z12:nsIn K mainGlobals "enumerate" = some none)
  (z13:nsIn K mainGlobals "all" = some none)
  (z14:nsIn K mainGlobals "str" = some none)
  (dk:nsIn K mainGlobals "Desk" = some (some (.ref CD)))
  (dk1:plainGet K CD Str.empty=true)
  (dk2:hasDictIn K CD=true)
  (dk3:plainOver K CD=true)
  (dk4:findIn K (.ref CD) "__setattr__" = some (some (.builtin "object.__setattr__")))
  (dn_held:findIn K (.ref CD) "held" = some none)
  (dn_earlier:findIn K (.ref CD) "earlier" = some none)
  (dn_undone:findIn K (.ref CD) "undone" = some none)
  (dk5:makesIn K CD=true)
  (dk6:keepIn K (.ref CD)=true)
  (nb1:nsIn K mainGlobals "NUMBERS_BEHIND" = some (some (.ref AB)))
  (nb2:K.lookup AB=some ⟨.type "dict",none,.dict es nn,#[]⟩)
  (nb3:LitD w.params es.toList nbl)
  (nb4:(AB == sysModules)=false)
  (e0:nsIn K mainGlobals "TopError" = some (some (.ref C0)))
  (e1:nsIn K mainGlobals "NoStretch" = some (some (.ref C1)))
  (e2:nsIn K mainGlobals "NoLength" = some (some (.ref C2)))
  (e3:nsIn K mainGlobals "NoCount" = some (some (.ref C3)))
  (e4:nsIn K mainGlobals "NoPlace" = some (some (.ref C4)))
  (e5:nsIn K mainGlobals "NoText" = some (some (.ref C5)))
  (e6:nsIn K mainGlobals "NoShape" = some (some (.ref C6)))
  (e7:nsIn K mainGlobals "NoneYet" = some (some (.ref C7)))
  (e8:nsIn K mainGlobals "NoRound" = some (some (.ref C8)))
  (ev:nsIn K mainGlobals "ValueError" = some none)
  (q1:excIn K C1 [.type "ValueError",.type "Exception",.type "BaseException",.type "object"] "ValueError.__new__" = true)
  (w1:Fault K C0 C1 C2 C3 C4 C5 C6 C7 C8 C1 true false false false false false false false)
  (q2:excIn K C2 [.type "ValueError",.type "Exception",.type "BaseException",.type "object"] "ValueError.__new__" = true)
  (w2:Fault K C0 C1 C2 C3 C4 C5 C6 C7 C8 C2 false true false false false false false false)
  (q3:excIn K C3 [.type "ValueError",.type "Exception",.type "BaseException",.type "object"] "ValueError.__new__" = true)
  (w3:Fault K C0 C1 C2 C3 C4 C5 C6 C7 C8 C3 false false true false false false false false)
  (q4:excIn K C4 [.type "ValueError",.type "Exception",.type "BaseException",.type "object"] "ValueError.__new__" = true)
  (w4:Fault K C0 C1 C2 C3 C4 C5 C6 C7 C8 C4 false false false true false false false false)
  (q5:excIn K C5 [.type "ValueError",.type "Exception",.type "BaseException",.type "object"] "ValueError.__new__" = true)
  (w5:Fault K C0 C1 C2 C3 C4 C5 C6 C7 C8 C5 false false false false true false false false)
  (q6:excIn K C6 [.type "ValueError",.type "Exception",.type "BaseException",.type "object"] "ValueError.__new__" = true)
  (w6:Fault K C0 C1 C2 C3 C4 C5 C6 C7 C8 C6 false false false false false true false false)
  (q7:excIn K C7 [.type "ValueError",.type "Exception",.type "BaseException",.type "object"] "ValueError.__new__" = true)
  (w7:Fault K C0 C1 C2 C3 C4 C5 C6 C7 C8 C7 false false false false false false true false)
  (q8:excIn K C8 [.type "ValueError",.type "Exception",.type "BaseException",.type "object"] "ValueError.__new__" = true)
  (w8:Fault K C0 C1 C2 C3 C4 C5 C6 C7 C8 C8 false false false false false false false true)
  (xm5:exmOne K (.ref C5) (.ref C5)=some true)
  (cc_BEST:nsIn K mainGlobals "BEST" = some (some (.int 2 y0l)))
  (cc_FIGURES:nsIn K mainGlobals "FIGURES" = some (some (.str "0123456789" y0m)))
  (cc_HEAD:nsIn K mainGlobals "HEAD" = some (some (.int 3 y0n)))
  (cc_KNOWN:nsIn K mainGlobals "KNOWN" = some (some (.int 0 y0o)))
  (cc_LEFT:nsIn K mainGlobals "LEFT" = some (some (.int 1 y0p)))
  (cc_MANY:nsIn K mainGlobals "MANY" = some (some (.int 0 y0q)))
  (cc_MOST_FIGURES_desk:nsIn K mainGlobals "MOST_FIGURES_desk" = some (some (.int 6 y0r)))
  (cc_MOST_FIGURES_texts:nsIn K mainGlobals "MOST_FIGURES_texts" = some (some (.int 30 y0s)))
  (cc_MOST_PAIRS:nsIn K mainGlobals "MOST_PAIRS" = some (some (.int 20 y0t)))
  (cc_RIGHT:nsIn K mainGlobals "RIGHT" = some (some (.int 2 y0u)))
  (cc_ROUND:nsIn K mainGlobals "ROUND" = some (some (.int 5 y0v)))
  (cc_TAIL:nsIn K mainGlobals "TAIL" = some (some (.int 4 y0w)))
  (cc_TOTAL:nsIn K mainGlobals "TOTAL" = some (some (.int 1 y0x))):
  ∃fd:FuncData,(∀(s:Shared) (v:Value),BindsTo s fd ⟨[v],[]⟩ [("script",v)])/\∀base:Heap,K.In base->base.Ns mainGlobals mg->FnOk l.prog w K mg base CX0 152 fa fd ["script"] (q74 K):=by
 have e:=hfa.symm.trans (mg_of X G t70.1);cases e
 have Z:Blt mg:=⟨mg_none_of X G z0,mg_none_of X G z1,mg_none_of X G z2,mg_none_of X G z3,mg_none_of X G z4,mg_none_of X G z5,mg_none_of X G z6,mg_none_of X G z7,mg_none_of X G z8,mg_none_of X G z9,mg_none_of X G z10,mg_none_of X G z11,mg_none_of X G z12,mg_none_of X G z13,mg_none_of X G z14⟩
 have tb:=@tb K h mg X G;obtain⟨_,F0,J0⟩:=tb ["thing"] t0 (by walk_at "b1");obtain⟨_,F1,J1⟩:=tb ["stretch","many"] t1 (by walk_at "b2");obtain⟨_,F2,J2⟩:=tb ["row"] t2 (by walk_at "b1");obtain⟨_,F3,J3⟩:=tb ["stretch"] t3 (by walk_at "b1");obtain⟨_,F4,J4⟩:=tb ["one","other"] t4 (by walk_at "b2");obtain⟨_,F5,J5⟩:=tb ["stretch","places"] t5 (by walk_at "b2");obtain⟨_,F6,J6⟩:=tb ["one","other"] t6 (by walk_at "b2");obtain⟨_,F7,J7⟩:=tb ["one","other"] t7 (by walk_at "b2");obtain⟨_,F8,J8⟩:=tb ["one","other"] t8 (by walk_at "b2");obtain⟨_,F9,J9⟩:=tb ["number"] t9 (by walk_at "b1");obtain⟨_,F10,J10⟩:=tb ["left","right"] t10 (by walk_at "b2");obtain⟨_,F11,J11⟩:=tb ["row","first","beyond"] t11 (by walk_at "b3");obtain⟨_,F12,J12⟩:=tb ["row"] t12 (by walk_at "b1");obtain⟨_,F13,J13⟩:=tb ["held"] t13 (by walk_at "b1");obtain⟨_,F14,J14⟩:=tb ["held"] t14 (by walk_at "b1");obtain⟨_,F15,J15⟩:=tb ["held","place"] t15 (by walk_at "b2");obtain⟨_,F16,J16⟩:=tb ["held","place","number"] t16 (by walk_at "b3");obtain⟨_,F17,J17⟩:=tb ["held","changes"] t17 (by walk_at "b2");obtain⟨_,F18,J18⟩:=tb ["held","first","beyond"] t18 (by walk_at "b3");obtain⟨_,F19,J19⟩:=tb ["held","stretch"] t19 (by walk_at "b2");obtain⟨_,F20,J20⟩:=tb ["held","stretch"] t20 (by walk_at "b2");obtain⟨_,F21,J21⟩:=tb ["held"] t21 (by walk_at "b1");obtain⟨_,F22,J22⟩:=tb ["many","least","most"] t22 (by walk_at "b3");obtain⟨_,F23,J23⟩:=tb ["firsts","ahead","first"] t23 (by walk_at "b3");obtain⟨_,F24,J24⟩:=tb ["row","least","most"] t24 (by walk_at "b3");obtain⟨_,F25,J25⟩:=tb ["many","least","gap"] t25 (by walk_at "b3");obtain⟨_,F26,J26⟩:=tb ["numbers","gap"] t26 (by walk_at "b2");obtain⟨_,F27,J27⟩:=tb ["one","other"] t27 (by walk_at "b2");obtain⟨_,F28,J28⟩:=tb ["row","behind"] t28 (by walk_at "b2");obtain⟨_,F29,J29⟩:=tb ["begun"] t29 (by walk_at "b1");obtain⟨_,F30,J30⟩:=tb ["best","gap"] t30 (by walk_at "b2");obtain⟨_,F31,J31⟩:=tb ["row","many","gap"] t31 (by walk_at "b3");obtain⟨_,F32,J32⟩:=tb ["line","start"] t32 (by walk_at "b2");obtain⟨_,F33,J33⟩:=tb ["row","first","total","behind"] t33 (by walk_at "b4");obtain⟨_,F34,J34⟩:=tb ["row","lines","many","gap"] t34 (by walk_at "b4");obtain⟨_,F35,J35⟩:=tb ["row","many","gap"] t35 (by walk_at "b3");obtain⟨_,F36,J36⟩:=tb ["row","many","gap"] t36 (by walk_at "b3");obtain⟨_,F37,J37⟩:=tb ["held","place"] t37 (by walk_at "b2");obtain⟨_,F38,J38⟩:=tb ["row"] t38 (by walk_at "b1");obtain⟨_,F39,J39⟩:=tb ["word","most"] t39 (by walk_at "b2");obtain⟨_,F40,J40⟩:=tb ["word"] t40 (by walk_at "b1");obtain⟨_,F41,J41⟩:=tb ["text"] t41 (by walk_at "b1");obtain⟨_,F42,J42⟩:=tb ["text"] t42 (by walk_at "b1");obtain⟨_,F43,J43⟩:=tb ["word"] t43 (by walk_at "b1");obtain⟨_,F44,J44⟩:=tb ["word"] t44 (by walk_at "b1");obtain⟨_,F45,J45⟩:=tb ["words"] t45 (by walk_at "b1");obtain⟨_,F46,J46⟩:=tb ["word","words"] t46 (by walk_at "b2");obtain⟨_,F47,J47⟩:=tb ["told"] t47 (by walk_at "b1");obtain⟨_,F48,J48⟩:=tb ["row","many","gap"] t48 (by walk_at "b3");obtain⟨_,F49,J49⟩:=tb ["held","word","numbers"] t49 (by walk_at "b3");obtain⟨_,F50,J50⟩:=tb ["answer"] t50 (by walk_at "b1");obtain⟨_,F51,J51⟩:=tb ["held"] t51 (by walk_at "b1");obtain⟨a52,fn52,o52,d52,v52,x52,p52,n52,m52,y52,g52,l52,c52,k52⟩:=t52;have F52:=q4V (st:=q1K) l52 c52 k52;have b52:=F52.binds (ps:=["self"]) λ_ _ _ _ _ _ us hl=>by obtain⟨_,rfl⟩:=of1 hl;rfl
 obtain⟨_,F53,J53⟩:=mb ["self","row"] t53 (by walk_at "b2");obtain⟨_,F54,J54⟩:=mb ["self","changes"] t54 (by walk_at "b2");obtain⟨_,F55,J55⟩:=mb ["self"] t55 (by walk_at "b1");obtain⟨_,F56,J56⟩:=mb ["self"] t56 (by walk_at "b1");obtain⟨_,F57,J57⟩:=mb ["self","row"] t57 (by walk_at "b2");obtain⟨_,F58,J58⟩:=tb ["e"] t58 (by walk_at "b1");obtain⟨_,F59,J59⟩:=tb ["desk","row"] t59 (by walk_at "b2");obtain⟨_,F60,J60⟩:=tb ["at"] t60 (by walk_at "b1");obtain⟨_,F61,J61⟩:=tb [] t61 (by walk_at "b0");obtain⟨_,F62,J62⟩:=tb ["rest"] t62 (by walk_at "b1");obtain⟨_,F63,J63⟩:=tb ["first"] t63 (by walk_at "b1");obtain⟨_,F64,J64⟩:=tb ["first","kind"] t64 (by walk_at "b2");obtain⟨_,F65,J65⟩:=tb ["first","kind"] t65 (by walk_at "b2");obtain⟨_,F66,J66⟩:=tb ["desk"] t66 (by walk_at "b1");obtain⟨_,F67,J67⟩:=tb ["row"] t67 (by walk_at "b1");obtain⟨_,F68,J68⟩:=tb ["first"] t68 (by walk_at "b1");obtain⟨_,F69,J69⟩:=tb ["first"] t69 (by walk_at "b1");obtain⟨a70,o70,d70,v70,x70,p70,n70,m70,y70,g70,l70,c70,k70⟩:=t70;have F70:=q4V (st:=q6S) l70 c70 k70;have b70:=F70.binds (ps:=["script"]) λ_ _ _ _ _ _ us hl=>by obtain⟨_,rfl⟩:=of1 hl;rfl
 refine⟨fnOf "law" "law" (q0o q6S) (q0M q6S) (qF q6S) .none v70 x70 p70 n70 m70 y70,λs v=>.of_eq rfl,λbase KB _=>?_⟩;have df:=@df l.prog w K mg base;have de:=@de l.prog w K mg base;have dx:=@dx l.prog w K mg base
 have Y:Errs mg C0 C1 C2 C3 C4 C5 C6 C7 C8:=⟨mg_of X G e0,mg_of X G e1,mg_of X G e2,mg_of X G e3,mg_of X G e4,mg_of X G e5,mg_of X G e6,mg_of X G e7,mg_of X G e8,mg_none_of X G ev⟩
 have O_NoStretch:PyProof.Rows.OwnCls "NoStretch" C1 bmV "ValueError.__new__" mg base:=q3C KB (mg_of X G e1) q1;have W_NoStretch:=w1;have O_NoLength:PyProof.Rows.OwnCls "NoLength" C2 bmV "ValueError.__new__" mg base:=q3C KB (mg_of X G e2) q2;have W_NoLength:=w2;have O_NoCount:PyProof.Rows.OwnCls "NoCount" C3 bmV "ValueError.__new__" mg base:=q3C KB (mg_of X G e3) q3;have W_NoCount:=w3;have O_NoPlace:PyProof.Rows.OwnCls "NoPlace" C4 bmV "ValueError.__new__" mg base:=q3C KB (mg_of X G e4) q4;have W_NoPlace:=w4;have O_NoText:PyProof.Rows.OwnCls "NoText" C5 bmV "ValueError.__new__" mg base:=q3C KB (mg_of X G e5) q5;have W_NoText:=w5;have O_NoShape:PyProof.Rows.OwnCls "NoShape" C6 bmV "ValueError.__new__" mg base:=q3C KB (mg_of X G e6) q6;have W_NoShape:=w6;have O_NoneYet:PyProof.Rows.OwnCls "NoneYet" C7 bmV "ValueError.__new__" mg base:=q3C KB (mg_of X G e7) q7;have W_NoneYet:=w7;have O_NoRound:PyProof.Rows.OwnCls "NoRound" C8 bmV "ValueError.__new__" mg base:=q3C KB (mg_of X G e8) q8;have W_NoRound:=w8
 have DD:DC K CD:=⟨⟨dk1,dk2,dk3,dk4⟩,dn_held,dn_earlier,dn_undone⟩
 have NB:NumD K w AB nbl:=⟨⟨es,nn,nb2,nb3⟩,nb4⟩
 have CC:Cons mg:=⟨⟨_,mg_of X G cc_BEST⟩,⟨_,mg_of X G cc_FIGURES⟩,⟨_,mg_of X G cc_HEAD⟩,⟨_,mg_of X G cc_KNOWN⟩,⟨_,mg_of X G cc_LEFT⟩,⟨_,mg_of X G cc_MANY⟩,⟨_,mg_of X G cc_MOST_FIGURES_desk⟩,⟨_,mg_of X G cc_MOST_FIGURES_texts⟩,⟨_,mg_of X G cc_MOST_PAIRS⟩,⟨_,mg_of X G cc_RIGHT⟩,⟨_,mg_of X G cc_ROUND⟩,⟨_,mg_of X G cc_TAIL⟩,⟨_,mg_of X G cc_TOTAL⟩⟩
 have yE:=df (ok_whole (k:=5) F0 Z) J0;have yU:=df (q5k (k:=6) F1 Z (yE.mono (by decide))) J1;have yg:=df (ok_ahead (k:=7) F2 Z) J2;have yy:=df (ok_order (k:=8) F3 Z) J3;have yA:=df (ok_better (k:=9) F4 Z (yy.mono (by decide))) J4;have y8:=df (ok_moved (k:=11) F5 Z) J5;have yR:=df (ok_side (k:=12) F6 Z) J6;have yz:=df (ok_jround (k:=13) F7 Z CC (yA.mono (by decide)) (y8.mono (by decide)) (yR.mono (by decide))) J7;have yN:=df (ok_joined (k:=14) F8 Z CC (yA.mono (by decide)) (y8.mono (by decide)) (yR.mono (by decide)) (yz.mono (by decide))) J8;have yC:=df (ok_single (k:=15) F9 Z) J9;have yB:=df (ok_paired (k:=16) F10 Z CC (yN.mono (by decide))) J10;have yV:=df (q4M (k:=18) F11 Z J11.1 J11.2.1 J11.2.2 (yC.mono (by decide)) (yB.mono (by decide)) 13) J11;have yo:=df (ok_kept (k:=31) F12 Z (yV.mono (by decide))) J12;have y0y:=Def.toE yo;have y0:=df (ok_many (k:=33) F13 Z CC) J13;have y0A:=Def.toE y0;have yn:=df (q5c (k:=35) F14 Z CC J14.1 J14.2.1 J14.2.2 13) J14;have ya:=Def.toE yn;have yG:=df (ok_rpl (k:=49) F15 Z (yE.mono (by decide)) (y0.mono (by decide))) J15;have yY:=de (ok_rplE (k:=50) F15 Z (yE.mono (by decide)) (y0.mono (by decide)) O_NoPlace) J15;have yM:=df (rec_put (k:=52) F16 Z CC J16.1 J16.2.1 J16.2.2 (yC.mono (by decide)) (yB.mono (by decide)) (y0.mono (by decide)) 13) J16;have yj:=df (q4Q (k:=65) F17 Z (yG.mono (by decide)) (yM.mono (by decide))) J17;have y09:=de (q6e (k:=66) F17 Z (yG.mono (by decide)) (yM.mono (by decide)) (yY.mono (by decide))) J17;have y6:=df (q5d (k:=68) F18 Z CC J18.1 J18.2.1 J18.2.2 (yN.mono (by decide)) (y0.mono (by decide)) 13) J18;have yW:=df (q7R (k:=81) F19 Z (yU.mono (by decide)) (y0.mono (by decide)) (y6.mono (by decide))) J19;have y06:=de (ok_kpartE (k:=82) F19 Z (yU.mono (by decide)) (y0.mono (by decide)) (y6.mono (by decide)) O_NoStretch) J19;have y05:=df (q5m (k:=83) F20 Z CC (y8.mono (by decide)) (yW.mono (by decide))) J20;have yq:=de (q7w (k:=84) F20 Z CC (y8.mono (by decide)) (yW.mono (by decide)) (y06.mono (by decide))) J20;have y0c:=df (ok_bround (k:=85) F21 Z CC (yA.mono (by decide)) (y0.mono (by decide))) J21;have y0C:=Def.toE y0c;have yf:=df (q4P (k:=87) F22 Z) J22;have y07:=de (q6c (k:=88) F22 Z O_NoLength) J22;have yh:=df (ok_enter (k:=89) F23 Z) J23;have y0B:=de (ok_sizedE (k:=90) F24 Z (yf.mono (by decide)) (yg.mono (by decide)) (yh.mono (by decide)) (y07.mono (by decide))) J24;have yH:=df (q5l (k:=91) F25 Z) J25;have yZ:=de (q7v (k:=92) F25 Z O_NoCount) J25;have yI:=df (ok_room (k:=93) F26 Z) J26;have yX:=df (ok_great (k:=94) F27 Z) J27;have y00:=df (ok_begun (k:=95) F28 Z (yX.mono (by decide))) J28;have y01:=df (ok_bestl (k:=96) F29 Z (yX.mono (by decide))) J29;have y02:=df (ok_behl (k:=97) F30 Z) J30;have yJ:=df (ok_lines (k:=98) F31 Z (y00.mono (by decide)) (y01.mono (by decide)) (y02.mono (by decide))) J31;have y03:=df (ok_first (k:=99) F32 Z) J32;have y04:=df (ok_beyond (k:=100) F33 Z) J33;have yi:=df (ok_strs (k:=101) F34 Z (y03.mono (by decide)) (y04.mono (by decide))) J34;have y0E:=de (ok_apartE (k:=102) F35 Z (yH.mono (by decide)) (yI.mono (by decide)) (yJ.mono (by decide)) (yi.mono (by decide)) (yZ.mono (by decide))) J35;have yk:=df (q5j (k:=103) F36 Z (yH.mono (by decide)) (yJ.mono (by decide))) J36;have y08:=de (q7u (k:=104) F36 Z (yH.mono (by decide)) (yJ.mono (by decide)) (yZ.mono (by decide))) J36;have y0G:=de (ok_mustE (k:=105) F37 Z CC (yG.mono (by decide)) (y0.mono (by decide)) (y6.mono (by decide)) (yY.mono (by decide))) J37;have yO:=df (ok_shown (k:=106) F38 Z) J38;have yQ:=df (ok_figsN (k:=107) F39 Z CC) J39;have yL:=df (ok_isnumG (k:=108) F40 Z CC (yQ.mono (by decide))) J40;have y0I:=df (ok_read (k:=109) F41 Z (Def.imp (yL.mono (by decide)) q7U)) J41;have yw:=dx (ok_readN (k:=110) F41 Z (yL.mono (by decide)) O_NoText) J41;have y0d:=df (ok_rtext (k:=111) F42 (y0I.mono (by decide))) J42;have yl:=Def.toE y0d;have y0e:=de (ok_rtextN (k:=113) F42 (mg_of X G e5) xm5 O_NoShape (yw.mono (by decide))) J42;have yb:=df (ok_rfig (k:=114) F43 Z CC (Def.imp (yQ.mono (by decide)) figsQ_of)) J43;have y0V:=de (ok_rfigE (k:=115) F43 Z CC O_NoShape (Def.toE (yQ.mono (by decide)))) J43;have y0H:=df (ok_rnum (k:=116) F44 Z (Def.imp (yL.mono (by decide)) q7U)) J44;have y0f:=de (ok_rnumE (k:=117) F44 Z O_NoShape (Def.toE (yL.mono (by decide)))) J44;have y0J:=df (ok_rchg (k:=118) F45 Z CC (yb.mono (by decide)) (y0H.mono (by decide))) J45;have y0g:=de (ok_rchgN (k:=119) F45 Z CC O_NoShape (y0V.mono (by decide)) (y0f.mono (by decide))) J45;have y0h:=df (ok_rbeh (k:=120) F46 Z NB (mg_of X G nb1) (y0J.mono (by decide)) (yb.mono (by decide))) J46;have ym:=Def.toE y0h;have y0i:=de (ok_rbehN (k:=122) F46 Z NB (mg_of X G nb1) O_NoShape (y0g.mono (by decide)) (y0V.mono (by decide))) J46;have y0j:=df (ok_withs (k:=123) F47 Z) J47;have y0D:=Def.toE y0j;have y0F:=de (ok_barsE (k:=125) F48 Z (yI.mono (by decide)) (yk.mono (by decide)) (y08.mono (by decide)) O_NoCount) J48;have y0O:=de (ok_ansE (k:=126) F49 Z (y0A.mono (by decide)) (yq.mono (by decide)) (y0B.mono (by decide)) (ya.mono (by decide)) (y0C.mono (by decide)) (y0D.mono (by decide)) (y0E.mono (by decide)) (y0F.mono (by decide)) (y0G.mono (by decide))) J49;have y0k:=df (ok_sans (k:=127) F50 Z (yO.mono (by decide))) J50;have y0N:=Def.toE y0k;have y9:=df (ok_bsum (k:=129) F51 Z (y0.mono (by decide)) (y05.mono (by decide)) (yO.mono (by decide))) J51
 have y0Q:NDef l.prog w K mg base 131 CD "Desk" ["self"] (q6L CD):=⟨_,_,ok_init (k:=130) F52 Z DD,b52,⟨dk5,a52,fn52,dk6⟩,mg_of X G dk⟩
 have yc:MDef (CXE l.prog w) l.prog w K mg base 132 CD "lay" ["self","row"] (q73 CD):=⟨_,_,(ok_lay (k:=131) F53 Z DD (yo.mono (by decide)) (yO.mono (by decide))).toE,J53⟩
 have y0K:MDef (CXE l.prog w) l.prog w K mg base 133 CD "put" ["self","changes"] (q4l CD C4):=⟨_,_,ok_dputE (k:=132) F54 Z DD (yj.mono (by decide)) (y9.mono (by decide)) (y09.mono (by decide)),J54⟩
 have y0L:MDef (CXE l.prog w) l.prog w K mg base 134 CD "undo" ["self"] (q3b CD C8):=⟨_,_,ok_dundoE (k:=133) F55 Z DD (y9.mono (by decide)) O_NoRound,J55⟩
 have y0M:MDef (CXE l.prog w) l.prog w K mg base 135 CD "redo" ["self"] (q3c CD C8):=⟨_,_,ok_dredoE (k:=134) F56 Z DD (y9.mono (by decide)) O_NoRound,J56⟩
 have y4:MDef (CXE l.prog w) l.prog w K mg base 136 CD "say" ["self","row"] (q2p CD C6 (clsD C1 C2 C3 C4 C7 C8)):=⟨_,_,(ok_say (k:=135) F57 Z DD tells_ok (yl.mono (by decide)) (ym.mono (by decide)) (yc.mono (by decide)) (y0K.mono (by decide)) (y0L.mono (by decide)) (y0M.mono (by decide)) (y0N.mono (by decide)) (y0O.mono (by decide)) O_NoneYet).two (ok_sayN (k:=135) F57 Z DD (y0e.mono (by decide)) (y0i.mono (by decide)) (yc.mono (by decide))),J57⟩
 have y0P:=df (ok_flags (k:=136) F58 Z Y) J58;have yP:=df (ok_saidA (k:=137) F59 Y ⟨W_NoStretch,W_NoLength,W_NoCount,W_NoPlace,W_NoneYet,W_NoRound⟩ W_NoShape DD (y4.mono (by decide)) (y0P.mono (by decide))) J59;have yd:=df (ok_due (k:=138) F60 Z) J60;have yr:=df (q6d (k:=139) F61) J61;have y0U:=df (q6b (k:=140) F62 Z) J62;have yD:=df (ok_numof (k:=141) F63 Z) J63;have yK:=df (ok_made (k:=142) F64 Z DD (y0Q.mono (by decide)) (y4.mono (by decide)) (yD.mono (by decide))) J64;have y0T:=df (ok_later (k:=144) F65 Z (yD.mono (by decide))) J65;have yt:=df (ok_seen (k:=145) F66 Z (yP.mono (by decide))) J66;have yS:=df (ok_most (k:=146) F67 Z) J67;have y0R:=df (ok_twenty (k:=147) F68 Z DD (y4.mono (by decide)) (yD.mono (by decide)) (yK.mono (by decide)) (yS.mono (by decide))) J68;have y0S:=df (ok_rounds (k:=148) F69 Z DD (y4.mono (by decide)) (yD.mono (by decide)) (yK.mono (by decide)) (yS.mono (by decide)) (yP.mono (by decide)) (yd.mono (by decide))) J69;exact FnOk.mono (k:=152) (ok_law (k:=149) F70 Z DD (y4.mono (by decide)) (yK.mono (by decide)) (yP.mono (by decide)) (yd.mono (by decide)) (y0R.mono (by decide)) (y0S.mono (by decide)) (y0T.mono (by decide)) (yr.mono (by decide)) (y0U.mono (by decide)) (yt.mono (by decide))) (by decide)
theorem walk{l:OpenLaw}{q:Program}{loose:List Str}{XP:(Str->Option Value)->Heap->Prop}{YP:World->Heap->Prop}{d:DefRec}{K:Params->Frag}(hn:l.most=some 63)(hdf:d.params.defaults=[])
  (hY:∀(w:World) (h:Heap),YP w h->(K w.params).In h)
  (F:∀(w:World) (mg:Str->Option Value) (fa:Addr) (h:Heap),(K w.params).In h->h.Ns mainGlobals mg->mg d.name=some (.ref fa)->
   ∃fd:FuncData,(∀(s:Shared) (u:Value),BindsTo s fd ⟨[u],[]⟩ [("script",u)])/\∀base:Heap,(K w.params).In base->base.Ns mainGlobals mg->FnOk l.prog w (K w.params) mg base CX0 152 fa fd ["script"] (q74 (K w.params))):
  WalkO q loose XP YP l.row.toRowW d [] (λf vs=>PySem.call f vs):=
 L2.walk_of (n:=63) (k:=152) (x:="script") (CX:=λ_=>CX0) (sp:=λw=>q74 (K w.params)) hn (by decide) hdf ⟨rfl,by decide,by decide⟩ hY F (λ_ _ a ns hl _ hS=>⟨a,ns,rfl,hS,hl,λ_=>rfl⟩) λ_ _ _ _ _ z=>z
end My
local macro_rules | `(tactic| walk_at "tf")=>`(tactic| (refine' My.tf ?a ?l ?c ?k;(case a=>k_is);(case l=>k_is);(case c=>k_is);(case k=>k_is)))
local macro_rules | `(tactic| walk_at "mf")=>`(tactic| (refine' My.mf ?a ?n ?l ?c ?k;(case a=>k_is);(case n=>k_is);(case l=>k_is);(case c=>k_is);(case k=>k_is)))
local macro_rules | `(tactic| walk_at "ft")=>`(tactic| (refine ⟨?_,?_,?_,?_,?_,?_,?_,?_,?_,?_,⟨?_,?_,?_,?_,?_,?_,?_,?_⟩⟩;kts_exm;kit_is;kit_is;kit_is;kit_is;kit_is;kit_is;kit_is;kit_is;kit_is;all_goals first | k_is | rfl))
open PySem PySem.W PyProof.Rows
noncomputable abbrev My.pw:Program:=PySem.Challenge.pw_topstretch_k41_rows_refused_at_a_desk
noncomputable def My.vw:Program:=PySem.W.view PySem.Challenge.pw_topstretch_k41_rows_refused_at_a_desk [1,2,3,4,5,6,7,8,9,11,12,13,15,16,17,18,19,20,21,22,23,24,25,26,27,28,29,30,31,32,33,34,35,36,37,38,39,40,41,42,44,45,46,48,49,50,51,52,53,54,55,56,57,58,60,62,64,65,66,67,68,69,71,72,73,74,75,76,77,78,79,80,81,82,83,84,86,87,88,89,90,91,92,93,94,95,96,97,98]
lay_quick L2.topRunT
theorem My.tw(w:World)(os:OsState):(L2.topRunT treeTable My.pw w 11 (some (.ref 6)) 9316 ⟨L2.bootT w.params,11,(boot_heap w.params).life,#[],boot_drawn,boot_toks,os⟩ (topStub My.pw))=(PySem.W.Fast.tw4652649595001227023 PySem.W.Fast.tw14364793385576792824 PySem.Challenge.pw_topstretch_k41_rows_refused_at_a_desk w 11 (some (.ref 6)) 9316 ⟨L2.bootT w.params,11,(boot_heap w.params).life,#[],boot_drawn,boot_toks,os⟩ (topStub PySem.Challenge.pw_topstretch_k41_rows_refused_at_a_desk)):=by rw[PySem.W.Fast.te4652649595001227023,PySem.W.Fast.te14364793385576792824]
noncomputable def My.run(w:World)(os:OsState):=(PySem.W.Fast.tw4652649595001227023 PySem.W.Fast.tw14364793385576792824 PySem.Challenge.pw_topstretch_k41_rows_refused_at_a_desk w 11 (some (.ref 6)) 9316 ⟨L2.bootT w.params,11,(boot_heap w.params).life,#[],boot_drawn,boot_toks,os⟩ (topStub PySem.Challenge.pw_topstretch_k41_rows_refused_at_a_desk))
theorem My.left{α:Type}{Yf:Shared->α}{Ya:World->α}(ra:∀(w:World) (os:OsState),(My.run w os).map (λs=>(λw s=>L2.lookA My.pw My.vw (importedModules My.pw.main.body) (λs=>xlAt My.vw [] s && recOk (RowW.records (OpenRow.toRowW (OpenLaw.row PySem.Challenge.rw_topstretch_k41_rows_refused_at_a_desk))) s) true w.params s) w s.abs)=some ((true,bltViewBooted,true)))(rb:∀(w:World) (os:OsState),(My.run w os).map (λs=>(λw s=>L2.lookB My.vw s) w s.abs)=some (expectedOf My.vw))(rc:∀(w:World) (os:OsState),(My.run w os).map (λs=>(λw s=>L2.lookC My.vw (["NUMBERS_BEHIND"]:List Str) s) w s.abs)=some (true))(rd:∀(w:World) (os:OsState),(My.run w os).map (λs=>(λw s=>tabsOk My.vw s) w s.abs)=some (true))(re:∀(w:World) (os:OsState),(My.run w os).map (λs=>(λw s=>L2.lookE My.vw (["NUMBERS_BEHIND"]:List Str) s) w s.abs)=some (L2.goodE My.vw (["NUMBERS_BEHIND"]:List Str)))(ry:∀(w:World) (os:OsState),(My.run w os).map (λs=>(λw s=>Yf s) w s.abs)=some (Ya w)):
  LeftO My.pw My.vw (["NUMBERS_BEHIND"]:List Str) (λs=>xlAt My.vw [] s && recOk (RowW.records (OpenRow.toRowW (OpenLaw.row PySem.Challenge.rw_topstretch_k41_rows_refused_at_a_desk))) s) Yf Ya 9316:=L2.LeftO.of_parts (by kernel_rfl) (by kernel_rfl) (λs=>by kernel_rfl) (L2.Ran.of (r:=My.run) My.tw ra) (L2.Ran.of (r:=My.run) My.tw rb) (L2.Ran.of (r:=My.run) My.tw rc) (L2.Ran.of (r:=My.run) My.tw rd) (L2.Ran.of (r:=My.run) My.tw re) (L2.Ran.of (r:=My.run) My.tw ry)
local macro_rules | `(tactic| o_head $H)=>`(tactic| refine PySem.W.holds_open (q:=My.vw) (loose:=(["NUMBERS_BEHIND"]:List Str)) (Xt:=(fun s=>xlAt My.vw [] s && recOk (RowW.records (OpenRow.toRowW (OpenLaw.row PySem.Challenge.rw_topstretch_k41_rows_refused_at_a_desk))) s)) (XP:=XL My.vw []) (Yf:=Hook.obs $H) (Ya:=Hook.val $H) (YP:=Hook.says $H) (N:=9316) ?hl (Hook.of $H) (Hook.keeps $H) (fun s e=>xl_of s (Bool.and_eq_true_iff.mp e).1) XL.keeps (by rfl) (by rfl) (by rfl) (fun s e=>recFacts_of (Bool.and_eq_true_iff.mp e).2) (by rfl) (by first | assumption | decide +kernel) (by decide +kernel) ⟨rfl,rfl,rfl,rfl,rfl,by decide +kernel⟩ ?hw ?hc)
theorem My.ws:PySem.Challenge.rw_topstretch_k41_rows_refused_at_a_desk.wellSaid=true:=by rw[PySem.W.Fast.te9446332074065402090];kernel_rfl
theorem My.kk(z:False):PySem.Challenge.rw_topstretch_k41_rows_refused_at_a_desk.Holds:=by
 w_on;refine PySem.W.holds_law z.elim λsaid=>?_;k_head<;>exact z.elim
noncomputable def My.ads:List Nat:=[2,3,15,22,23,24,25,28,35,36,37,40,47,48,49,52,59,60,61,64,71,72,73,76,83,84,85,88,95,96,97,100,107,108,109,112,119,120,121,124,126,127,129,130,131,133,134,136,137,138,140,141,143,144,145,147,148,150,151,152,154,155,157,158,159,161,162,164,165,166,168,169,171,172,173,175,176,178,179,180,182,183,185,186,187,189,190,192,193,194,196,197,199,200,201,203,204,206,207,208,210,211,213,214,215,217,218,220,221,222,224,225,227,228,229,231,232,234,235,236,238,239,241,242,243,245,246,248,249,250,252,253,255,256,257,259,260,262,263,264,266,267,269,270,271,273,274,276,277,278,280,281,283,284,285,287,288,290,291,292,294,295,297,298,299,301,302,304,305,306,308,309,311,312,313,315,316,318,319,320,322,323,325,326,327,329,330,332,333,334,336,337,339,340,341,343,344,346,347,348,350,351,353,354,355,357,358,360,361,362,364,365,367,368,369,371,372,374,375,376,379,380,381,383,384,386,387,388,391,392,393,396,397,398,400,401,403,404,405,408,409,410,411,413,414,416,417,418,420,421,423,424,425,427,428,430,431,432,435,436,437,440,441,442,444,445,447,448,449,451,452,454,455,456,458,459,461,462,463,465,466,468,469,470,472,473,475,476,484,486,487,489,490,491,493,494,496,497,498,500,501,503,504,505,507,508,510,511,512,514,515,517,518,519,521,522,524,525,526,527,528,529,530,533,535,536,538,539,540,542,543,545,546,547,550,551,552,554,555,557,558,559,562,563,564,567,568,569,572,573,574,577,578,579,582,583,584,586,587,589,590,591,593,594,596,597,598,601,602,603,606,607]
noncomputable abbrev My.rn(b:Bool)(w:World)(os:OsState):=PySem.W.Fast.tw4652649595001227023 PySem.W.Fast.tw14364793385576792824 PySem.Challenge.pw_topstretch_k41_rows_refused_at_a_desk (w.withFollow "special-get-raises" b) 11 (some (.ref 6)) 9316 ⟨L2.bootT (w.withFollow "special-get-raises" b).params,11,(boot_heap (w.withFollow "special-get-raises" b).params).life,#[],boot_drawn,boot_toks,os⟩ (topStub PySem.Challenge.pw_topstretch_k41_rows_refused_at_a_desk)
theorem My.aF(w:World)(os:OsState):(My.rn false w os).map (λs=>(λw s=>L2.lookA My.pw My.vw (importedModules My.pw.main.body) (λs=>xlAt My.vw [] s && recOk (RowW.records (OpenRow.toRowW (OpenLaw.row PySem.Challenge.rw_topstretch_k41_rows_refused_at_a_desk))) s) true w.params s) (w.withFollow "special-get-raises" false) s.abs)=some ((true,bltViewBooted,true)):=by kernel_rfl
theorem My.aT(w:World)(os:OsState):(My.rn true w os).map (λs=>(λw s=>L2.lookA My.pw My.vw (importedModules My.pw.main.body) (λs=>xlAt My.vw [] s && recOk (RowW.records (OpenRow.toRowW (OpenLaw.row PySem.Challenge.rw_topstretch_k41_rows_refused_at_a_desk))) s) true w.params s) (w.withFollow "special-get-raises" true) s.abs)=some ((true,bltViewBooted,true)):=by kernel_rfl
theorem My.a(w:World):∀os:OsState,(My.run w os).map (λs=>(λw s=>L2.lookA My.pw My.vw (importedModules My.pw.main.body) (λs=>xlAt My.vw [] s && recOk (RowW.records (OpenRow.toRowW (OpenLaw.row PySem.Challenge.rw_topstretch_k41_rows_refused_at_a_desk))) s) true w.params s) w s.abs)=some ((true,bltViewBooted,true)):=byRow2 "special-get-raises" (P:=λw=>∀os,(My.run w os).map (λs=>(λw s=>L2.lookA My.pw My.vw (importedModules My.pw.main.body) (λs=>xlAt My.vw [] s && recOk (RowW.records (OpenRow.toRowW (OpenLaw.row PySem.Challenge.rw_topstretch_k41_rows_refused_at_a_desk))) s) true w.params s) w s.abs)=some ((true,bltViewBooted,true))) My.aF My.aT w
theorem My.bF(w:World)(os:OsState):(My.rn false w os).map (λs=>(λw s=>L2.lookB My.vw s) (w.withFollow "special-get-raises" false) s.abs)=some (expectedOf My.vw):=by kernel_rfl
theorem My.bT(w:World)(os:OsState):(My.rn true w os).map (λs=>(λw s=>L2.lookB My.vw s) (w.withFollow "special-get-raises" true) s.abs)=some (expectedOf My.vw):=by kernel_rfl
theorem My.b(w:World):∀os:OsState,(My.run w os).map (λs=>(λw s=>L2.lookB My.vw s) w s.abs)=some (expectedOf My.vw):=byRow2 "special-get-raises" (P:=λw=>∀os,(My.run w os).map (λs=>(λw s=>L2.lookB My.vw s) w s.abs)=some (expectedOf My.vw)) My.bF My.bT w
theorem My.cF(w:World)(os:OsState):(My.rn false w os).map (λs=>(λw s=>L2.lookC My.vw (["NUMBERS_BEHIND"]:List Str) s) (w.withFollow "special-get-raises" false) s.abs)=some (true):=by kernel_rfl
theorem My.cT(w:World)(os:OsState):(My.rn true w os).map (λs=>(λw s=>L2.lookC My.vw (["NUMBERS_BEHIND"]:List Str) s) (w.withFollow "special-get-raises" true) s.abs)=some (true):=by kernel_rfl
theorem My.c(w:World):∀os:OsState,(My.run w os).map (λs=>(λw s=>L2.lookC My.vw (["NUMBERS_BEHIND"]:List Str) s) w s.abs)=some (true):=byRow2 "special-get-raises" (P:=λw=>∀os,(My.run w os).map (λs=>(λw s=>L2.lookC My.vw (["NUMBERS_BEHIND"]:List Str) s) w s.abs)=some (true)) My.cF My.cT w
theorem My.dF(w:World)(os:OsState):(My.rn false w os).map (λs=>(λw s=>tabsOk My.vw s) (w.withFollow "special-get-raises" false) s.abs)=some (true):=by kernel_rfl
theorem My.dT(w:World)(os:OsState):(My.rn true w os).map (λs=>(λw s=>tabsOk My.vw s) (w.withFollow "special-get-raises" true) s.abs)=some (true):=by kernel_rfl
theorem My.d(w:World):∀os:OsState,(My.run w os).map (λs=>(λw s=>tabsOk My.vw s) w s.abs)=some (true):=byRow2 "special-get-raises" (P:=λw=>∀os,(My.run w os).map (λs=>(λw s=>tabsOk My.vw s) w s.abs)=some (true)) My.dF My.dT w
theorem My.eF(w:World)(os:OsState):(My.rn false w os).map (λs=>(λw s=>L2.lookE My.vw (["NUMBERS_BEHIND"]:List Str) s) (w.withFollow "special-get-raises" false) s.abs)=some (L2.goodE My.vw (["NUMBERS_BEHIND"]:List Str)):=by kernel_rfl
theorem My.eT(w:World)(os:OsState):(My.rn true w os).map (λs=>(λw s=>L2.lookE My.vw (["NUMBERS_BEHIND"]:List Str) s) (w.withFollow "special-get-raises" true) s.abs)=some (L2.goodE My.vw (["NUMBERS_BEHIND"]:List Str)):=by kernel_rfl
theorem My.e(w:World):∀os:OsState,(My.run w os).map (λs=>(λw s=>L2.lookE My.vw (["NUMBERS_BEHIND"]:List Str) s) w s.abs)=some (L2.goodE My.vw (["NUMBERS_BEHIND"]:List Str)):=byRow2 "special-get-raises" (P:=λw=>∀os,(My.run w os).map (λs=>(λw s=>L2.lookE My.vw (["NUMBERS_BEHIND"]:List Str) s) w s.abs)=some (L2.goodE My.vw (["NUMBERS_BEHIND"]:List Str))) My.eF My.eT w
theorem My.yF(w:World)(os:OsState):(My.rn false w os).map (λs=>(λw s=>My.ads.map s.heap.get?) (w.withFollow "special-get-raises" false) s.abs)=some (((My.kk.heap_1 (w.withFollow "special-get-raises" false).params).map λp=>some p.2)):=by kernel_rfl
theorem My.yT(w:World)(os:OsState):(My.rn true w os).map (λs=>(λw s=>My.ads.map s.heap.get?) (w.withFollow "special-get-raises" true) s.abs)=some (((My.kk.heap_1 (w.withFollow "special-get-raises" true).params).map λp=>some p.2)):=by kernel_rfl
theorem My.y(w:World):∀os:OsState,(My.run w os).map (λs=>(λw s=>My.ads.map s.heap.get?) w s.abs)=some (((My.kk.heap_1 w.params).map λp=>some p.2)):=byRow2 "special-get-raises" (P:=λw=>∀os,(My.run w os).map (λs=>(λw s=>My.ads.map s.heap.get?) w s.abs)=some (((My.kk.heap_1 w.params).map λp=>some p.2))) My.yF My.yT w
set_option maxRecDepth 100000 in
set_option maxHeartbeats 0 in
theorem PySem.Challenge.cw_topstretch_k41_rows_refused_at_a_desk_holds : PySem.Challenge.rw_topstretch_k41_rows_refused_at_a_desk.Holds := by
 w_on;refine PySem.W.holds_law My.ws λsaid=>?_;o_head (kHook My.kk.heap_1 My.ads (λ_=>by kernel_rfl))
 case hw=>w_witness2
 case hl=>exact My.left My.a My.b My.c My.d My.e My.y
 k_fill
 refine My.walk (l:=PySem.Challenge.rw_topstretch_k41_rows_refused_at_a_desk) rfl rfl (λw h Y=>PySem.W.kIn_of Y) ?F
 case F=>
  intro w mg fa h KX G hmg;refine' My.all_mk KX G hmg ?t0 ?t1 ?t2 ?t3 ?t4 ?t5 ?t6 ?t7 ?t8 ?t9 ?t10 ?t11 ?t12 ?t13 ?t14 ?t15 ?t16 ?t17 ?t18 ?t19 ?t20 ?t21 ?t22 ?t23 ?t24 ?t25 ?t26 ?t27 ?t28 ?t29 ?t30 ?t31 ?t32 ?t33 ?t34 ?t35 ?t36 ?t37 ?t38 ?t39 ?t40 ?t41 ?t42 ?t43 ?t44 ?t45 ?t46 ?t47 ?t48 ?t49 ?t50 ?t51 ?t52 ?t53 ?t54 ?t55 ?t56 ?t57 ?t58 ?t59 ?t60 ?t61 ?t62 ?t63 ?t64 ?t65 ?t66 ?t67 ?t68 ?t69 ?t70 ?z0 ?z1 ?z2 ?z3 ?z4 ?z5 ?z6 ?z7 ?z8 ?z9 ?z10 ?z11 ?z12 ?z13 ?z14 ?dk ?dk1 ?dk2 ?dk3 ?dk4 ?dn_held ?dn_earlier ?dn_undone ?dk5 ?dk6 ?nb1 ?nb2 ?nb3 ?nb4 ?e0 ?e1 ?e2 ?e3 ?e4 ?e5 ?e6 ?e7 ?e8 ?ev ?q1 ?w1 ?q2 ?w2 ?q3 ?w3 ?q4 ?w4 ?q5 ?w5 ?q6 ?w6 ?q7 ?w7 ?q8 ?w8 ?xm5 ?cc_BEST ?cc_FIGURES ?cc_HEAD ?cc_KNOWN ?cc_LEFT ?cc_MANY ?cc_MOST_FIGURES_desk ?cc_MOST_FIGURES_texts ?cc_MOST_PAIRS ?cc_RIGHT ?cc_ROUND ?cc_TAIL ?cc_TOTAL
  (case dk=>k_is)
  (case t0=>walk_at "tf")
  (case t1=>walk_at "tf")
  (case t2=>walk_at "tf")
  (case t3=>walk_at "tf")
  (case t4=>walk_at "tf")
  (case t5=>walk_at "tf")
  (case t6=>walk_at "tf")
  (case t7=>walk_at "tf")
  (case t8=>walk_at "tf")
  (case t9=>walk_at "tf")
  (case t10=>walk_at "tf")
  (case t11=>walk_at "tf")
  (case t12=>walk_at "tf")
  (case t13=>walk_at "tf")
  (case t14=>walk_at "tf")
  (case t15=>walk_at "tf")
  (case t16=>walk_at "tf")
  (case t17=>walk_at "tf")
  (case t18=>walk_at "tf")
  (case t19=>walk_at "tf")
  (case t20=>walk_at "tf")
  (case t21=>walk_at "tf")
  (case t22=>walk_at "tf")
  (case t23=>walk_at "tf")
  (case t24=>walk_at "tf")
  (case t25=>walk_at "tf")
  (case t26=>walk_at "tf")
  (case t27=>walk_at "tf")
  (case t28=>walk_at "tf")
  (case t29=>walk_at "tf")
  (case t30=>walk_at "tf")
  (case t31=>walk_at "tf")
  (case t32=>walk_at "tf")
  (case t33=>walk_at "tf")
  (case t34=>walk_at "tf")
  (case t35=>walk_at "tf")
  (case t36=>walk_at "tf")
  (case t37=>walk_at "tf")
  (case t38=>walk_at "tf")
  (case t39=>walk_at "tf")
  (case t40=>walk_at "tf")
  (case t41=>walk_at "tf")
  (case t42=>walk_at "tf")
  (case t43=>walk_at "tf")
  (case t44=>walk_at "tf")
  (case t45=>walk_at "tf")
  (case t46=>walk_at "tf")
  (case t47=>walk_at "tf")
  (case t48=>walk_at "tf")
  (case t49=>walk_at "tf")
  (case t50=>walk_at "tf")
  (case t51=>walk_at "tf")
  (case t52=>walk_at "mf")
  (case t53=>walk_at "mf")
  (case t54=>walk_at "mf")
  (case t55=>walk_at "mf")
  (case t56=>walk_at "mf")
  (case t57=>walk_at "mf")
  (case t58=>walk_at "tf")
  (case t59=>walk_at "tf")
  (case t60=>walk_at "tf")
  (case t61=>walk_at "tf")
  (case t62=>walk_at "tf")
  (case t63=>walk_at "tf")
  (case t64=>walk_at "tf")
  (case t65=>walk_at "tf")
  (case t66=>walk_at "tf")
  (case t67=>walk_at "tf")
  (case t68=>walk_at "tf")
  (case t69=>walk_at "tf")
  (case t70=>walk_at "tf")
  (case z0=>k_is)
  (case z1=>k_is)
  (case z2=>k_is)
  (case z3=>k_is)
  (case z4=>k_is)
  (case z5=>k_is)
  (case z6=>k_is)
  (case z7=>k_is)
  (case z8=>k_is)
  (case z9=>k_is)
  (case z10=>k_is)
  (case z11=>k_is)
  (case z12=>k_is)
  (case z13=>k_is)
  (case z14=>k_is)
  (case dk1=>k_is)
  (case dk2=>k_is)
  (case dk3=>k_is)
  (case dk4=>k_is)
  (case dn_held=>k_is)
  (case dn_earlier=>k_is)
  (case dn_undone=>k_is)
  (case dk5=>k_is)
  (case dk6=>k_is)
  (case nb1=>k_is)
  (case nb2=>k_is)
  (case nb3=>exact by repeat (first|exact True.intro|refine⟨⟨_,rfl⟩,rfl,⟨_,rfl⟩,?_⟩))
  (case nb4=>rfl)
  (case e0=>k_is)
  (case e1=>k_is)
  (case e2=>k_is)
  (case e3=>k_is)
  (case e4=>k_is)
  (case e5=>k_is)
  (case e6=>k_is)
  (case e7=>k_is)
  (case e8=>k_is)
  (case ev=>k_is)
  (case q1=>k_exc)
  (case w1=>walk_at "ft")
  (case q2=>k_exc)
  (case w2=>walk_at "ft")
  (case q3=>k_exc)
  (case w3=>walk_at "ft")
  (case q4=>k_exc)
  (case w4=>walk_at "ft")
  (case q5=>k_exc)
  (case w5=>walk_at "ft")
  (case q6=>k_exc)
  (case w6=>walk_at "ft")
  (case q7=>k_exc)
  (case w7=>walk_at "ft")
  (case q8=>k_exc)
  (case w8=>walk_at "ft")
  (case xm5=>kts_exm)
  (case cc_BEST=>k_is)
  (case cc_FIGURES=>k_is)
  (case cc_HEAD=>k_is)
  (case cc_KNOWN=>k_is)
  (case cc_LEFT=>k_is)
  (case cc_MANY=>k_is)
  (case cc_MOST_FIGURES_desk=>k_is)
  (case cc_MOST_FIGURES_texts=>k_is)
  (case cc_MOST_PAIRS=>k_is)
  (case cc_RIGHT=>k_is)
  (case cc_ROUND=>k_is)
  (case cc_TAIL=>k_is)
  (case cc_TOTAL=>k_is)
