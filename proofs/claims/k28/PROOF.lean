import PyProof.Rows.All
import Wide.All
import OpenK.AllK
import Wide.FinOn
import Lean
import PyProof.EqAt
import PyProof.EqKinds
import PyProof.TupleCall
import PySem.Challenge.RW_lumprow_k28_whole_put_in_and_struck
set_option Elab.async false
set_option linter.all false
set_option maxRecDepth 100000
set_option maxHeartbeats 4000000
open PySem.W (instObj methodObj Frag lookIn InstAt plainGet hasDictIn findIn plainOver takerIn any_some makesIn emptyDict looks_findIn specialIn isFn keepIn takesIn mroIn kitOne kia_one kitx_list callWith_K cellsFrom_some fnOf codeIn notCls nsIn KdlKeysView excIn exmOne findObj clsIn kitAny mg_of mg_none_of)
noncomputable section
namespace L2
open PySem PySem.Spec PyProof.Rows

noncomputable abbrev Key:=Sum Int Str
noncomputable def Wt:Key->Value->Bool
 | .inl k,v=>Value.isInt k v
 | .inr x,v=>Value.isStrOf x v
noncomputable def JnU(w:World):Key->Int
 | .inl k=>hashInt k
 | .inr x=>hashStr w x
theorem JX:∀{k:Key} {v:Value},Wt k v=true->(∃i t,k=Sum.inl i/\v=Value.int i t)\/(∃x t,k=Sum.inr x/\v=Value.str x t)
 | .inl i,v,h=>by obtain⟨t,e⟩:=Value.isInt_shape (k:=i) (v:=v) h;exact .inl ⟨i,t,rfl,e⟩
 | .inr x,v,h=>by obtain⟨t,e⟩:=Value.isStrOf_shape (x:=x) (v:=v) h;exact .inr ⟨x,t,rfl,e⟩
theorem Je4(i:Int)(t:Tok):Wt (.inl i) (.int i t)=true:=by simp[Wt,Value.isInt]
theorem Je5(x:Str)(t:Tok):Wt (.inr x) (.str x t)=true:=by simp[Wt,Value.isStrOf]
theorem JkZ(a b:Int):decide ((Sum.inl a:Key)=Sum.inl b)=(a == b):=by
 by_cases e:a=b
 ·subst e;simp
 ·have h:¬(Sum.inl a:Key)=Sum.inl b:=fun q=>e (Sum.inl.inj q)
  rw[decide_eq_false h];exact(beq_eq_false_iff_ne.mpr e).symm
theorem Jk2(a b:Str):decide ((Sum.inr a:Key)=Sum.inr b)=decide (a=b):=by
 by_cases e:a=b
 ·subst e;simp
 ·have h:¬(Sum.inr a:Key)=Sum.inr b:=fun q=>e (Sum.inr.inj q)
  rw[decide_eq_false h,decide_eq_false e]
theorem Jk0(a:Int)(b:Str):decide ((Sum.inl a:Key)=Sum.inr b)=false:=decide_eq_false (fun q=>nomatch q)
theorem Jk1(a:Str)(b:Int):decide ((Sum.inr a:Key)=Sum.inl b)=false:=decide_eq_false (fun q=>nomatch q)

noncomputable def JC(prog:Program)(w:World):PySem.KeyKind prog w Key where
 is:=Wt
 hash:=JnU w
 inj:=fun v a b ha hb=>by
  rcases JX ha with ⟨i,t,rfl,rfl⟩|⟨x,t,rfl,rfl⟩
  ·rcases JX hb with ⟨j,u,rfl,e⟩|⟨y,u,rfl,e⟩
   ·injection e with e1 _;rw[e1]
   ·exact nomatch e
  ·rcases JX hb with ⟨j,u,rfl,e⟩|⟨y,u,rfl,e⟩
   ·exact nomatch e
   ·injection e with e1 _;rw[e1]
 byValue:=fun k v h=>by rcases JX h with ⟨i,t,rfl,rfl⟩|⟨x,t,rfl,rfl⟩ <;> rfl
 pyHash:=fun hv h=>by
  rcases JX hv with ⟨i,t,rfl,rfl⟩|⟨x,t,rfl,rfl⟩
  ·exact wpAny_pyHash_int h
  ·exact wpAny_pyHash_str h
 eqBool:=fun hu hv h=>by
  rcases JX hu with ⟨i,t,rfl,rfl⟩|⟨x,t,rfl,rfl⟩
  ·rcases JX hv with ⟨j,u,rfl,rfl⟩|⟨y,u,rfl,rfl⟩
   ·rw[JkZ] at h;exact wpAny_eqBool_int h
   ·rw[Jk0] at h;exact SeqAt.EqAt.int_str i t y u _ _ _ _ h
  ·rcases JX hv with ⟨j,u,rfl,rfl⟩|⟨y,u,rfl,rfl⟩
   ·rw[Jk1] at h;exact SeqAt.EqAt.str_int x t j u _ _ _ _ h
   ·rw[Jk2] at h;exact wpAny_eqBool_str h
 «strs»:=fun k x t v h=>by
  rcases JX h with ⟨i,u,rfl,e⟩|⟨y,u,rfl,e⟩
  ·exact nomatch e
  ·injection e with e1 _
   subst e1;cases v <;> rfl

theorem Wx(prog:Program)(w:World)(i:Int)(t:Tok):(JC prog w).is (.inl i) (.int i t)=true:=Je4 i t
theorem JbP(prog:Program)(w:World)(x:Str)(t:Tok):(JC prog w).is (.inr x) (.str x t)=true:=Je5 x t
end L2

namespace L2
open PySem PySem.Spec PyProof.Rows

inductive V where
 | non|bl (b:Bool)|int (i:Int)|str (x:Str)|byt (b:Array UInt8)|flt (b:UInt64)|ref (a:Addr)|ty (n:String)
 deriving DecidableEq

noncomputable def RelV:V->Value->Prop
 | .non,u=>u=Value.none
 | .bl b,u=>u=Value.bool b
 | .int i,u=>∃t,u=Value.int i t
 | .str x,u=>∃t,u=Value.str x t
 | .byt b,u=>∃t,u=Value.bytes b t
 | .flt b,u=>∃t,u=Value.float b t
 | .ref a,u=>u=Value.ref a
 | .ty n,u=>u=Value.type n

noncomputable abbrev Vals:List V->List Value->Prop:=Paired RelV
theorem Vals.length{xs:List V}{us:List Value}(r:Vals xs us):xs.length=us.length:=Paired.length r
theorem Vals.get:∀{xs:List V} {us:List Value} {i:Nat} {x:V},Vals xs us->xs[i]?=some x->∃u,us[i]?=some u/\RelV x u
 | _,_,_,_,.nil,e=>by simp at e
 | _,_,0,_,.cons r _,e=>by simp at e;subst e;exact⟨_,rfl,r⟩
 | _,_,i+1,x,.cons _ t,e=>by obtain⟨u,h1,h2⟩:=Vals.get (i:=i) (x:=x) t (by simpa using e);exact⟨u,by simpa using h1,h2⟩
theorem Vals.set{x:V}{u:Value}(r:RelV x u):∀{xs:List V} {us:List Value} (i:Nat),Vals xs us->Vals (xs.set i x) (us.set i u)
 | _,_,_,.nil=>.nil
 | _,_,0,.cons _ t=>.cons r t
 | _,_,i+1,.cons q t=>.cons q (Vals.set r i t)
theorem Vals.append:∀{xs ys:List V} {us ws:List Value},Vals xs us->Vals ys ws->Vals (xs++ys) (us++ws)
 | _,_,_,_,.nil,s=>s
 | _,_,_,_,.cons r t,s=>.cons r (Vals.append t s)
theorem Vals.take:∀{xs:List V} {us:List Value} (n:Nat),Vals xs us->Vals (xs.take n) (us.take n)
 | _,_,0,_=>.nil
 | _,_,_+1,.nil=>.nil
 | _,_,n+1,.cons r t=>.cons r (Vals.take n t)
theorem Vals.drop:∀{xs:List V} {us:List Value} (n:Nat),Vals xs us->Vals (xs.drop n) (us.drop n)
 | _,_,0,r=>r
 | _,_,_+1,.nil=>.nil
 | _,_,n+1,.cons _ t=>Vals.drop n t
noncomputable def RelO:Option V->Option Value->Prop
 | some v,some u=>RelV v u
 | none,none=>True
 | _,_=>False
noncomputable def KV{κ:Type}:List (κ×V)->List (κ×Value)->Prop:=Paired fun(p:κ×V) (q:κ×Value)=>p.1=q.1/\RelV p.2 q.2

noncomputable def kV:Key->V
 | .inl i=>.int i
 | .inr x=>.str x

inductive HO where
 | lst (xs:List V)
 | tup (xs:List V)
 | dK (kvs:List (Key×V))|dT (kvs:List (List Key×V))
 | set (S:Int->Bool) (n:Nat)
 | ins (C dx:Addr) (fs:List (Str×V))
 | own (x:Addr)
 | xd (fs:List (Str×V))
 | met (f x:Addr)
 | rng (lo hi:Int)
 | frz (o:Obj) (u:HO)
 | tbl (ps:Array Value)
 | ext (φ:Heap->Prop)

noncomputable abbrev Hp:=Addr->Option HO
noncomputable def upd(H:Hp)(a:Addr)(o:HO):Hp:=fun b=>if b=a then some o else H b
theorem Jw{H:Hp}{a:Addr}{o:HO}:upd H a o a=some o:=by unfold upd;rw[if_pos rfl]
theorem Ji{H:Hp}{a b:Addr}{o:HO}(h:b≠a):upd H a o b=H b:=by unfold upd;rw[if_neg h]
theorem Jaf{H:Hp}{a b:Addr}{o u:HO}(h:H a=some o)(h':H b=some u)(d:o≠u):a≠b:=by intro e;subst e;rw[h] at h';exact d (Option.some.inj h')
theorem Jy{H:Hp}{a b:Addr}{o:HO}(h:H a=some o)(h':H b=none):a≠b:=by intro e;subst e;rw[h] at h';cases h'

section
variable(P:Program)(w:World)
noncomputable def ObjOk(H:Hp)(h:Heap)(a:Addr):HO->Prop
 | .lst xs=>xs.length<=sizeLine/\∃(its:List Value) (n:Nat),Vals xs its/\h.get? a=some { cls:=.type "list",data:=.seq its.toArray n }
 | .tup xs=>xs.length<=sizeLine/\∃its:List Value,Vals xs its/\IsTup h a its.toArray
 | .dK kvs=>kvs.length<=sizeLine/\(a == sysModules)=false/\∃vs,KV kvs vs/\h.DictOf (JC P w) a vs
 | .dT kvs=>kvs.length<=sizeLine/\(a == sysModules)=false/\∃xs:List (List Key×Addr×Value),
  Paired (fun(p:List Key×V) (q:List Key×Addr×Value)=>p.1=q.1/\H q.2.1=some (.tup (p.1.map kV))/\RelV p.2 q.2.2) kvs xs ∧
  ∃o es ep,h.get? a=some o/\o.ExactDict/\o.data=.dict es ep/\es.toList=xs.map (entryOfKey (tupleKind (JC P w)))/\(xs.map (·.1)).Nodup
 | .set S n=>h.SetOf (intKind P w) a S n
 | .ins C dx fs=>H dx=some (.own a)/\fs.length<=1000/\dx≠a/\h.get? a=some (instObj C dx) ∧
  ∃mA,h.Ns1 dx mA/\(∀f,RelO (fs.lookup f) (mA f))/\PySem.Within mA (fs.map (·.1))
 | .own _=>∃o,h.get? a=some o
 | .xd fs=>∃mA,h.Ns1 a mA/\∀f,RelO (fs.lookup f) (mA f)
 | .rng lo hi=>∃t u v,h.get? a=some { cls:=.type "range",data:=.fields #[.int lo t,.int hi u,.int 1 v] }
 | .frz o u=>h.get? a=some o/\ObjOk H h a u
 | .tbl ps=>h.get? a=some { cls:=.none,data:=.fields ps }
 | .met f x=>h.get? a=some (methodObj (.ref f) (.ref x))
 | .ext φ=>φ h/\(∃o,h.get? a=some o)/\∀h1 h2:Heap,φ h1->(∀o,h1.get? a=some o->h2.get? a=some o)->φ h2
noncomputable def HOk(H:Hp)(h:Heap):Prop:=∀a o,H a=some o->ObjOk P w H h a o
end

section
variable{P:Program}{w:World}{H H':Hp}{h h':Heap}{a:Addr}{o:HO}
theorem ObjOk.lt(x:ObjOk P w H h a o):a<h.objs.size:=by
 cases o with
 | lst xs=>obtain⟨_,_,_,_,e⟩:=x;exact Heap.lt_size e
 | tup xs=>obtain⟨_,_,_,p⟩:=x;exact p.lt
 | dK kvs=>obtain⟨_,_,_,_,o,_,_,e,_⟩:=x;exact Heap.lt_size e
 | dT kvs=>obtain⟨_,_,_,_,o,_,_,e,_⟩:=x;exact Heap.lt_size e
 | set S n=>obtain⟨o,_,_,_,e,_⟩:=x;exact Heap.lt_size e
 | ins C dx fs=>obtain⟨_,_,_,e,_⟩:=x;exact Heap.lt_size e
 | own y=>obtain⟨_,e⟩:=x;exact Heap.lt_size e
 | xd fs=>obtain⟨_,⟨_,_,_,e,_⟩,_⟩:=x;exact Heap.lt_size e
 | rng lo hi=>obtain⟨_,_,_,e⟩:=x;exact Heap.lt_size e
 | frz ob u=>obtain⟨e,_⟩:=x;exact Heap.lt_size e
 | tbl ps=>exact Heap.lt_size (show h.get? a=some _ from x)
 | met f y=>exact Heap.lt_size (show h.get? a=some _ from x)
 | ext φ=>obtain⟨_,⟨_,e⟩,_⟩:=x;exact Heap.lt_size e
theorem Paired.mapP{α β:Type}{F G:α->β->Prop}:∀{l₁:List α} {l₂:List β},Paired F l₁ l₂->(∀a b,F a b->G a b)->Paired G l₁ l₂
 | _,_,.nil,_=>.nil
 | _,_,.cons r t,f=>.cons (f _ _ r) (Paired.mapP t f)
theorem ObjOk.stay(x:ObjOk P w H h a o)(k:∀b u,(b=a\/H b=some (.own a))->h.get? b=some u->h'.get? b=some u)
 (ho:∀b,H b=some (.own a)->H' b=some (.own a)) (ht:∀b xs,H b=some (.tup xs)->H' b=some (.tup xs)):ObjOk P w H' h' a o:=by
 induction o with
 | lst xs=>obtain⟨z,its,n,r,e⟩:=x;exact⟨z,its,n,r,k _ _ (.inl rfl) e⟩
 | tup xs=>obtain⟨z,its,r,ob,e,c⟩:=x;exact⟨z,its,r,ob,k _ _ (.inl rfl) e,c⟩
 | dK kvs=>obtain⟨z,y,vs,r,ob,es,ep,e,c⟩:=x;exact⟨z,y,vs,r,ob,es,ep,k _ _ (.inl rfl) e,c⟩
 | dT kvs=>obtain⟨z,y,xs,r,ob,es,ep,e,c⟩:=x;exact⟨z,y,xs,Paired.mapP r fun p q z=>⟨z.1,ht _ _ z.2.1,z.2.2⟩,ob,es,ep,k _ _ (.inl rfl) e,c⟩
 | set S n=>obtain⟨ob,es,ep,t,e,c⟩:=x;exact⟨ob,es,ep,t,k _ _ (.inl rfl) e,c⟩
 | ins C dx fs=>obtain⟨d,z,ne,e,mA,⟨od,es,ep,e2,c⟩,r⟩:=x;exact⟨ho _ d,z,ne,k _ _ (.inl rfl) e,mA,⟨od,es,ep,k _ _ (.inr d) e2,c⟩,r⟩
 | own y=>obtain⟨ob,e⟩:=x;exact⟨ob,k _ _ (.inl rfl) e⟩
 | xd fs=>obtain⟨mA,⟨od,es,ep,e,c⟩,r⟩:=x;exact⟨mA,⟨od,es,ep,k _ _ (.inl rfl) e,c⟩,r⟩
 | rng lo hi=>obtain⟨t,u,v,e⟩:=x;exact⟨t,u,v,k _ _ (.inl rfl) e⟩
 | frz ob u ih=>obtain⟨e,q⟩:=x;exact⟨k _ _ (.inl rfl) e,ih q⟩
 | tbl ps =>
  have e:h.get? a=some { cls:=.none,data:=.fields ps }:=x
  show h'.get? a=some { cls:=.none,data:=.fields ps };exact k a _ (.inl rfl) e
 | met f y =>
  have e:h.get? a=some (methodObj (.ref f) (.ref y)):=x
  show h'.get? a=some (methodObj (.ref f) (.ref y));exact k a _ (.inl rfl) e
 | ext φ=>obtain⟨p,⟨o,e⟩,st⟩:=x;exact⟨st _ _ p fun o q=>k _ _ (.inl rfl) q,⟨o,k _ _ (.inl rfl) e⟩,st⟩
theorem HOk.lt(x:HOk P w H h)(e:H a=some o):a<h.objs.size:=(x a o e).lt
theorem HOk.fresh(x:HOk P w H h)(e:h.objs.size<=a):H a=none:=by
 cases q:H a with
 | none=>rfl
 | some u=>exact absurd (Nat.lt_of_lt_of_le (x.lt q) e) (Nat.lt_irrefl _)
theorem HOk.kept(x:HOk P w H h)(k:∀b u,h.get? b=some u->h'.get? b=some u):HOk P w H h':=fun a o e=>(x a o e).stay (fun b u _ q=>k b u q) (fun _ q=>q) fun _ _ q=>q
theorem HOk.laid(x:HOk P w H h)(k:∀b u,h.get? b=some u->h'.get? b=some u)(hp:h.objs.size<=a)(new:ObjOk P w (upd H a o) h' a o):HOk P w (upd H a o) h':=fun b u e=>by
 have hn:=x.fresh hp
 by_cases hb:b=a
 ·subst hb;rw[Jw] at e;cases e;exact new
 ·rw[Ji hb] at e;exact(x b u e).stay (fun c v _ q=>k c v q) (fun c q=>by rw[Ji (Jy q hn)];exact q) fun c xs q=>by rw[Ji (Jy q hn)];exact q
end

noncomputable def Rd(H:Hp)(a:Addr)(u:HO):Prop:=H a=some u\/∃o,H a=some (.frz o u)
theorem Rd.of{H:Hp}{a:Addr}{u:HO}(h:H a=some u):Rd H a u:=.inl h
theorem Rd.ok{P:Program}{w:World}{H:Hp}{h:Heap}{a:Addr}{u:HO}(r:Rd H a u)(x:HOk P w H h):ObjOk P w H h a u:=by
 rcases r with r|⟨o,r⟩
 ·exact x a u r
 ·obtain⟨_,q⟩:=x a _ r;exact q
noncomputable def Mut:Option HO->Prop
 | some (.lst _)=>True
 | some (.dK _)=>True
 | some (.dT _)=>True
 | some (.set _ _)=>True
 | some (.ins _ _ _)=>True
 | some (.ext _)=>True
 | _=>False
section
variable{P:Program}{w:World}{H:Hp}{h h':Heap}{x e:Addr}{o':HO}
theorem HOk.write(ok:HOk P w H h)(mu:Mut (H x))(he:e=x\/H e=some (.own x))(k:∀b u,b≠e->h.get? b=some u->h'.get? b=some u)(heo:∃u,h'.get? e=some u)
 (new:ObjOk P w (upd H x o') h' x o'):HOk P w (upd H x o') h':=fun b u q=>by
 have nown:∀c y,H c=some (.own y)->c≠x:=fun c y r z=>by subst z;rw[r] at mu;exact mu
 have ntup:∀c xs,H c=some (.tup xs)->c≠x:=fun c xs r z=>by subst z;rw[r] at mu;exact mu
 by_cases hb:b=x
 ·subst hb;rw[Jw] at q;cases q;exact new
 ·rw[Ji hb] at q
  by_cases hbe:b=e
  ·have q':H b=some (.own x):=by
    rcases he with z|z
    ·exact absurd (hbe.trans z) hb
    ·rw[hbe];exact z
   rw[q] at q';cases q';obtain⟨v,hv⟩:=heo;exact⟨v,by rw[hbe];exact hv⟩
  ·refine(ok b u q).stay (fun c v hc r=>k c v ?_ r) (fun c r=>by rw[Ji (nown c b r)];exact r) fun c xs r=>by rw[Ji (ntup c xs r)];exact r
   rcases hc with rfl|hc
   ·exact hbe
   ·rintro rfl;rcases he with z|z
    ·exact nown c b hc z
    ·rw[hc] at z;cases z;exact hb rfl
end

structure Un (fs ex:List Addr) (H H':Hp) (h h':Heap):Prop where
 keep:∀b o,h.get? b=some o->H b=none->b∉fs->b∉ex->h'.get? b=some o
 slot:∀b o,h.get? b=some o->H b=none->b∈fs->b∉ex->∃sl,h'.get? b=some { o with slots:=sl }
 free:∀b o,h.get? b=some o->H b=none->b∉ex->H' b=none
 there:∀b o,h.get? b=some o->b∉ex->∃o',h'.get? b=some o'
 tups:∀b xs,H b=some (.tup xs)->H' b=some (.tup xs)
 frzs:∀b o u,H b=some (.frz o u)->H' b=some (.frz o u)
 tbls:∀b ps,H b=some (.tbl ps)->∃more,H' b=some (.tbl (ps++more))
section
variable{fs fs' ex ex':List Addr}{H H1 H2:Hp}{h h1 h2 h':Heap}{a x e:Addr}{o:HO}
theorem Un.any(u:Un fs ex H H1 h h1){b:Addr}{ob:Obj}(q:h.get? b=some ob)(n:H b=none)(hx:b∉ex):∃sl,h1.get? b=some { ob with slots:=sl }:=by
 by_cases hb:b∈fs
 ·exact u.slot b ob q n hb hx
 ·exact⟨ob.slots,u.keep b ob q n hb hx⟩
theorem Un.trans(a:Un fs ex H H1 h h1)(b:Un fs ex H1 H2 h1 h2):Un fs ex H H2 h h2 where
 keep:=fun c ob q n hc hx=>b.keep c ob (a.keep c ob q n hc hx) (a.free c ob q n hx) hc hx
 slot:=fun c ob q n hc hx=>by obtain⟨sl,e1⟩:=a.slot c ob q n hc hx;obtain⟨sl',e2⟩:=b.slot c _ e1 (a.free c ob q n hx) hc hx;exact⟨sl',e2⟩
 free:=fun c ob q n hx=>by obtain⟨o',e1⟩:=a.there c ob q hx;exact b.free c o' e1 (a.free c ob q n hx) hx
 there:=fun c ob q hx=>by obtain⟨o',e1⟩:=a.there c ob q hx;exact b.there c o' e1 hx
 tups:=fun c xs q=>b.tups c xs (a.tups c xs q)
 frzs:=fun c ob xs q=>b.frzs c ob xs (a.frzs c ob xs q)
 tbls:=fun c ps q=>by obtain⟨m1,e1⟩:=a.tbls c ps q;obtain⟨m2,e2⟩:=b.tbls c _ e1;exact⟨m1++m2,by rw[e2,Array.append_assoc]⟩
theorem Un.kept(k:∀b u,h.get? b=some u->h'.get? b=some u):Un fs ex H H h h' :=
 ⟨fun b ob q _ _ _=>k b ob q,fun b ob q _ _ _=>⟨ob.slots,k b ob q⟩,fun _ _ _ n _=>n,fun b ob q _=>⟨ob,k b ob q⟩,fun _ _ q=>q,fun _ _ _ q=>q,fun _ ps q=>⟨#[],by rw[q];simp⟩⟩
theorem Un.refl:Un fs ex H H h h:=Un.kept fun _ _ q=>q
theorem Un.laid(k:∀b u,h.get? b=some u->h'.get? b=some u)(hp:h.objs.size<=a)(hn:H a=none):Un fs ex H (upd H a o) h h' where
 keep:=fun b u q _ _ _=>k b u q
 slot:=fun b u q _ _ _=>⟨u.slots,k b u q⟩
 free:=fun b u q n _=>by rw[Ji (Nat.ne_of_lt (Nat.lt_of_lt_of_le (Heap.lt_size q) hp))];exact n
 there:=fun b u q _=>⟨u,k b u q⟩
 tups:=fun b xs q=>by rw[Ji (Jy q hn)];exact q
 frzs:=fun b u xs q=>by rw[Ji (Jy q hn)];exact q
 tbls:=fun b ps q=>⟨#[],by rw[Ji (Jy q hn),q];simp⟩
theorem Un.write(mu:Mut (H x))(he:e=x\/H e=some (.own x))(k:∀b u,b≠e->h.get? b=some u->h'.get? b=some u)(heo:∃u,h'.get? e=some u):Un fs ex H (upd H x o) h h':=by
 have hx:∀b,H b=none->b≠x:=fun b n z=>by subst z;rw[n] at mu;exact mu
 have hb:∀b,H b=none->b≠e:=fun b n z=>by
  subst z;rcases he with r|r
  ·exact hx b n r
  ·rw[n] at r;cases r
 have hm:∀b u,H b=some u->¬Mut (some u)->b≠x:=fun b u q nm z=>by subst z;rw[q] at mu;exact nm mu
 refine⟨fun b u q n _ _=>k b u (hb b n) q,fun b u q n _ _=>⟨u.slots,k b u (hb b n) q⟩,fun b u q n _=>by rw[Ji (hx b n)];exact n,fun b u q _=>?_,
  fun b xs q=>by rw[Ji (hm b _ q fun z=>z)];exact q,fun b u xs q=>by rw[Ji (hm b _ q fun z=>z)];exact q,fun b ps q=>⟨#[],by rw[Ji (hm b _ q fun z=>z),q];simp⟩⟩
 by_cases hbe:b=e
 ·subst hbe;exact heo
 ·exact⟨u,k b u hbe q⟩
theorem Un.mono(u:Un fs ex H H1 h h1)(hs:∀b∈fs,b∈fs')(hx:∀b∈ex,b∈ex'):Un fs' ex' H H1 h h1 :=
 ⟨fun b ob q n hb he=>u.keep b ob q n (fun z=>hb (hs b z)) fun z=>he (hx b z),fun _ _ q n _ he=>u.any q n fun z=>he (hx _ z),fun b ob q n he=>u.free b ob q n fun z=>he (hx b z),fun b ob q he=>u.there b ob q fun z=>he (hx b z),u.tups,u.frzs,u.tbls⟩
end

noncomputable def trk(h:Heap)(H:Hp):List Addr:=(List.range h.objs.size).filter fun a=>(H a).isSome
noncomputable def JaP(h:Heap)(H:Hp):Heap:=PySem.W.hideAll h (trk h H)
theorem JeV(h:Heap)(H:Hp):(JaP h H).objs.size=h.objs.size:=PySem.W.hideAll_size _ _
theorem Jgc{h:Heap}{H:Hp}{b:Addr}{o:Obj}(e:h.get? b=some o)(n:H b=none):(JaP h H).get? b=some o :=
 PySem.W.hideAll_get _ e fun hm=>by have q:(H b).isSome=true:=(List.mem_filter.mp hm).2;rw[n] at q;simp at q
theorem JiF{h:Heap}{H:Hp}{b:Addr}{o:Obj}(e:(JaP h H).get? b=some o):h.get? b=some o/\H b=none:=by
 have e':h.get? b=some o:=PySem.W.of_hideAll (trk h H) e;refine⟨e',?_⟩
 cases q:H b with
 | none=>rfl
 | some x =>
  have hm:b∈trk h H:=List.mem_filter.mpr ⟨List.mem_range.mpr (Heap.lt_size e'),by simp[q]⟩
  have z:(JaP h H).get? b=none:=PySem.W.hideAll_none (trk h H) hm;rw[z] at e;cases e

noncomputable def JhO(g h:Heap)(L:Addr):List (Addr×Obj):=(List.range h.objs.size).filterMap fun a=>if a=L\/(g.get? a).isSome=true then none else(h.get? a).map fun o=>(a,o)
noncomputable def rest(g h:Heap)(L d:Addr):List (Addr×Obj):=(JhO g h L).filter fun p=>decide (p.1≠d)
end L2

namespace L2
open PySem PySem.Spec PyProof.Rows

structure Mod (K:Frag) (mg:Str->Option Value) (base:Heap):Prop where
 kin:K.In base
 glob:base.Ns mainGlobals mg
 blt:∃mb,base.Ns builtinsNs mb/\∀x:Str,x≠"__name__"->mb x=bootBuiltins x
 nolimit:base.NoLimit

structure Cx where
 prog:Program
 w:World
 K:Frag
 mg:Str->Option Value
 base:Heap
 A:Around
 N:List Str
 s₀:Shared
 H₀:Hp
 env:Env
 outer:List Env
 stack:List Env
 ex:List Addr
 fn:Str->Bool
 calm:Bool
 pn:List (Addr×Obj)
 xe:Value->Shared->Prop
noncomputable def frs(l:List Env):List Addr:=l.filterMap (·.frame)
noncomputable abbrev Cx.fs(X:Cx):List Addr:=frs X.outer

noncomputable def Vis(sc:Scope)(x:Str):Prop:=sc.names.lookup x=some .local\/sc.names.lookup x=some .cell\/sc.names.lookup x=some .free
noncomputable def Loc(sc:Scope)(x:Str):Prop:=sc.names.lookup x=some .local\/sc.names.lookup x=some .cell
noncomputable def JmE(env:Env)(h:Heap)(m:Str->Option Value)(x:Str)(u:Value):Prop :=
 (env.kindOf x=some .local/\m x=some u)\/((env.kindOf x=some .cell\/env.kindOf x=some .free)/\∃c,env.cells.lookup x=some c/\h.IsCell c (some u))

structure Cx.Ok (X:Cx):Prop where
 mod:Mod X.K X.mg X.base
 kind:X.env.scope.kind=.function
 glob:X.env.globals=mainGlobals
 blt:X.env.builtins=builtinsNs
 above:X.s₀.heap.objs.size<=X.env.locals
 inj:∀x y c,X.env.cells.lookup x=some c->X.env.cells.lookup y=some c->x=y
 has:∀x,(X.env.kindOf x=some .cell\/X.env.kindOf x=some .free)->∃c,X.env.cells.lookup x=some c
 cab:∀x c,X.fn x=true->X.env.cells.lookup x=some c->X.s₀.heap.objs.size<=c
 hd:X.calm=true->X.A.handled=none
 frames:X.A.frames=some X.stack
 stk:X.stack=X.outer\/(X.stack=X.env::X.outer/\X.env.frame=some X.env.locals)
 exf:∀b∈X.ex,b≠X.env.locals/\∀x c,X.env.cells.lookup x=some c->c≠b
 bs:∀b o,X.base.get? b=some o->X.s₀.heap.get? b=some o/\X.H₀ b=none
 bsz:X.base.objs.size<=X.s₀.heap.objs.size
 noex:∀b o,X.base.get? b=some o->b∉X.ex
 exfs:∀b∈X.ex,b∉X.fs
 funs:X.s₀.heap.FunFrames X.base X.outer
 frf:∀b∈X.fs,X.H₀ b=none

structure Inv (X:Cx) (pins:List (Addr×Obj)) (σ:List (Option V)) (H:Hp) (s:Shared):Prop where
 ok:X.Ok
 os:s.os=X.s₀.os
 bare:AllBare s.gens
 base:Un X.fs X.ex X.H₀ H X.s₀.heap s.heap
 loc:∃m,s.heap.Ns X.env.locals m/\∀(i:Nat) (x:Str) (v:V),X.N[i]?=some x->σ[i]?=some (some v)->Vis X.env.scope x->∃u,RelV v u/\JmE X.env s.heap m x u
 cell:∀x c,X.env.cells.lookup x=some c->∃v,s.heap.IsCell c v
 free:H X.env.locals=none
 freeC:∀x c,X.env.cells.lookup x=some c->H c=none
 pin:∀p∈X.pn++pins,s.heap.get? p.1=some p.2/\H p.1=none/\p.1≠X.env.locals/\p.1∉X.fs/\∀v,p.2.data≠.cell v
 hok:HOk X.prog X.w H s.heap
 len:σ.length=X.N.length

section
variable{X:Cx}{pins:List (Addr×Obj)}{σ:List (Option V)}{H H':Hp}{s:Shared}{h':Heap}

theorem Cx.Ok.nofr(ok:X.Ok){b:Addr}{o:Obj}(e:X.base.get? b=some o):b∉X.fs:=fun hb=>by have:=(ok.funs.mem hb).1;rw[e] at this;cases this
theorem Inv.bs(I:Inv X pins σ H s):∀b o,X.base.get? b=some o->s.heap.get? b=some o/\H b=none:=fun b o e=>⟨I.base.keep b o (I.ok.bs b o e).1 (I.ok.bs b o e).2 (I.ok.nofr e) (I.ok.noex b o e),I.base.free b o (I.ok.bs b o e).1 (I.ok.bs b o e).2 (I.ok.noex b o e)⟩
theorem Inv.bk(I:Inv X pins σ H s):∀b o,X.base.get? b=some o->s.heap.get? b=some o:=fun b o e=>(I.bs b o e).1
theorem Inv.mod(I:Inv X pins σ H s):Mod X.K X.mg X.base:=I.ok.mod
theorem Inv.kIn(I:Inv X pins σ H s):X.K.In s.heap:=I.ok.mod.kin.keeps I.bk
theorem Inv.nolimit(I:Inv X pins σ H s):s.heap.NoLimit:=I.ok.mod.nolimit.keeps I.bk
theorem Inv.fr(I:Inv X pins σ H s):∃m,Fr X.base X.env.locals s.heap m :=
 let ⟨m,hn,_⟩:=I.loc
 ⟨m,hn,I.bk,Nat.le_trans I.ok.bsz I.ok.above⟩
theorem Inv.lt(I:Inv X pins σ H s):X.env.locals<s.heap.objs.size:=let ⟨_,hn,_⟩:=I.loc;hn.lt
theorem Inv.sz(I:Inv X pins σ H s):X.s₀.heap.objs.size<=s.heap.objs.size:=Nat.le_trans I.ok.above (Nat.le_of_lt I.lt)
theorem Inv.nofs(I:Inv X pins σ H s){a:Addr}(h:s.heap.objs.size<=a):a∉X.fs:=fun hb=>by obtain⟨_,o,ho,_⟩:=I.ok.funs.mem hb;exact absurd (Nat.lt_of_lt_of_le (Heap.lt_size ho) (Nat.le_trans I.sz h)) (Nat.lt_irrefl _)
theorem Inv.cne(I:Inv X pins σ H s):∀x c,X.env.cells.lookup x=some c->c≠X.env.locals:=fun x c e z=>by obtain⟨v,o,ho,hd⟩:=I.cell x c e;obtain⟨m,⟨o',es,ep,ho',hd',_⟩,_⟩:=I.loc;rw[z,ho'] at ho;cases ho;rw[hd'] at hd;cases hd
theorem Inv.funs(I:Inv X pins σ H s):s.heap.FunFrames X.base X.outer:=by
 have all:∀(l:List Env),(∀b∈frs l,b∈X.fs)->X.s₀.heap.FunFrames X.base l->s.heap.FunFrames X.base l:=by
  intro l
  induction l with
  | nil=>intro _ _;trivial
  | cons env r ih =>
   intro hs hl;obtain⟨hk,⟨L,o,hf,hn,ho,hd⟩,hr⟩:=hl;have hL:L∈X.fs:=hs L (by unfold frs;rw[List.filterMap_cons,hf];exact List.mem_cons_self);obtain⟨sl,e⟩:=I.base.slot L o ho (I.ok.frf L hL) hL fun z=>I.ok.exfs L z hL
   exact⟨hk,⟨L,_,hf,hn,e,hd⟩,ih (fun b hb=>hs b (by unfold frs;rw[List.filterMap_cons,hf];exact List.mem_cons_of_mem _ hb)) hr⟩
 exact all X.outer (fun _ hb=>hb) I.ok.funs

theorem Inv.stack(I:Inv X pins σ H s):s.heap.FunFrames X.base X.stack:=by
 rcases I.ok.stk with e|⟨e,hf⟩
 ·rw[e];exact I.funs
 ·rw[e];obtain⟨m,hn,_⟩:=I.loc;refine .cons (by rw[I.ok.kind];decide) hf hn ?_ I.funs;exact Heap.get?_none_of_le (Nat.le_trans I.ok.bsz I.ok.above)
theorem Inv.stkSub(I:Inv X pins σ H s):∀b∈frs X.stack,b∈X.env.locals::X.fs:=fun b hb=>by
 rcases I.ok.stk with e|⟨e,hf⟩
 ·rw[e] at hb;exact List.mem_cons_of_mem _ hb
 ·rw[e] at hb;unfold frs at hb;rw[List.filterMap_cons,hf] at hb;exact hb
theorem Inv.stkFree(I:Inv X pins σ H s):∀b∈frs X.stack,H b=none:=fun b hb=>by
 rcases List.mem_cons.mp (I.stkSub b hb) with e|hb
 ·rw[e];exact I.free
 ·obtain⟨_,o,ho,_⟩:=I.ok.funs.mem hb;exact I.base.free b o ho (I.ok.frf b hb) fun z=>I.ok.exfs b z hb

theorem Inv.step{g':Array GenState}{t':Nat}{d':Drawn}{ch:List Addr}(I:Inv X pins σ H s)
 (hch:∀b∈ch,(b∈X.ex\/X.s₀.heap.objs.size<=b)/\b≠X.env.locals/\(∀x c,X.env.cells.lookup x=some c->c≠b)/\∀p∈X.pn++pins,p.1≠b)
 (keep:∀b o,b≠X.env.locals->b∉X.fs->b∉ch->s.heap.get? b=some o->H b=none->h'.get? b=some o)
 (slot:∀b o,b≠X.env.locals->b∈X.fs->b∉ch->s.heap.get? b=some o->H b=none->∃sl,h'.get? b=some { o with slots:=sl }) (free:∀b o,b∉ch->s.heap.get? b=some o->H b=none->H' b=none)
 (there:∀b o,b∉ch->s.heap.get? b=some o->∃o',h'.get? b=some o')
 (tups:∀b xs,H b=some (.tup xs)->H' b=some (.tup xs)) (frzs:∀b o u,H b=some (.frz o u)->H' b=some (.frz o u)) (tbls:∀b ps,H b=some (.tbl ps)->∃more,H' b=some (.tbl (ps++more)))
 (ns:∀m,s.heap.Ns X.env.locals m->h'.Ns X.env.locals m) (hok:HOk X.prog X.w H' h') (hg:AllBare g') :
 Inv X pins σ H' { s with heap:=h',gens:=g',drawn:=d',toks:=t' }:=by
 have neL:∀b o,X.s₀.heap.get? b=some o->b≠X.env.locals:=fun b o e=>Nat.ne_of_lt (Nat.lt_of_lt_of_le (Heap.lt_size e) I.ok.above)
 have neC:∀b o,X.s₀.heap.get? b=some o->b∉X.ex->b∉ch:=fun b o e hx hb=>by
  rcases(hch b hb).1 with z|z
  ·exact hx z
  ·exact absurd (Nat.lt_of_lt_of_le (Heap.lt_size e) z) (Nat.lt_irrefl _)
 have cellK:∀x c,X.env.cells.lookup x=some c->∀v,s.heap.IsCell c v->h'.IsCell c v:=fun x c e v ⟨o,ho,hd⟩=>by
  have nch:c∉ch:=fun z=>(hch c z).2.2.1 x c e rfl
  by_cases hc:c∈X.fs
  ·obtain⟨sl,q⟩:=slot c o (I.cne x c e) hc nch ho (I.freeC x c e);exact⟨_,q,hd⟩
  ·exact⟨o,keep c o (I.cne x c e) hc nch ho (I.freeC x c e),hd⟩
 refine⟨I.ok,I.os,hg,⟨fun b o e n hb hx=>?_,fun b o e n hb hx=>?_,fun b o e n hx=>?_,fun b o e hx=>?_,fun b xs e=>tups b xs (I.base.tups b xs e),fun b o xs e=>frzs b o xs (I.base.frzs b o xs e),fun b ps e=>?_⟩,?_,fun x c e=>?_,?_,fun x c e=>?_,fun p hp=>?_,hok,I.len⟩
 ·exact keep b o (neL b o e) hb (neC b o e hx) (I.base.keep b o e n hb hx) (I.base.free b o e n hx)
 ·obtain⟨sl,e1⟩:=I.base.slot b o e n hb hx;obtain⟨sl',e2⟩:=slot b _ (neL b o e) hb (neC b o e hx) e1 (I.base.free b o e n hx);exact⟨sl',e2⟩
 ·obtain⟨o',e1⟩:=I.base.there b o e hx;exact free b o' (neC b o e hx) e1 (I.base.free b o e n hx)
 ·obtain⟨o',e1⟩:=I.base.there b o e hx;exact there b o' (neC b o e hx) e1
 ·obtain⟨m1,e1⟩:=I.base.tbls b ps e;obtain⟨m2,e2⟩:=tbls b _ e1;exact⟨m1++m2,by rw[e2,Array.append_assoc]⟩
 ·obtain⟨m,hn,hl⟩:=I.loc;refine⟨m,ns m hn,fun i x v e1 e2 e3=>?_⟩;obtain⟨u,r,l⟩:=hl i x v e1 e2 e3;refine⟨u,r,?_⟩;rcases l with l|⟨k,c,e,z⟩
  ·exact .inl l
  ·exact .inr ⟨k,c,e,cellK x c e _ z⟩
 ·obtain⟨v,z⟩:=I.cell x c e;exact⟨v,cellK x c e v z⟩
 ·obtain⟨m,⟨o,_,_,ho,_⟩,_⟩:=I.loc;exact free _ o (fun z=>(hch _ z).2.1 rfl) ho I.free
 ·obtain⟨v,o,ho,hd⟩:=I.cell x c e;exact free c o (fun z=>(hch c z).2.2.1 x c e rfl) ho (I.freeC x c e)
 ·obtain⟨e,n,ne,nf,d⟩:=I.pin p hp;have nch:p.1∉ch:=fun z=>(hch p.1 z).2.2.2 p hp rfl
  exact⟨keep p.1 p.2 ne nf nch e n,free p.1 p.2 nch e n,ne,nf,d⟩
theorem Inv.un{t':Nat}(I:Inv X pins σ H s)(u:Un X.fs [] H H' s.heap h')(hok:HOk X.prog X.w H' h'):Inv X pins σ H' { s with heap:=h',toks:=t' }:=by
 obtain⟨m,⟨o,es,ep,ho,r⟩,_⟩:=id I.loc;obtain⟨sl,hL⟩:=u.any ho I.free (by simp);exact I.step (g':=s.gens) (d':=s.drawn) (ch:=[]) (fun _ z=>nomatch z) (fun b o _ hb _ e n=>u.keep b o e n hb (by simp)) (fun b o _ hb _ e n=>u.slot b o e n hb (by simp)) (fun b o _ e n=>u.free b o e n (by simp)) (fun b o _ e=>u.there b o e (by simp)) u.tups u.frzs u.tbls (fun m' hm=>by obtain⟨o',es',ep',ho',r'⟩:=hm;rw[ho] at ho';cases ho';exact⟨_,es',ep',hL,r'⟩) hok I.bare
theorem Inv.call{g':Array GenState}{t':Nat}{d':Drawn}{ch:List Addr}(I:Inv X pins σ H s)(u:Un (frs X.stack) ch H H' s.heap h')(hok:HOk X.prog X.w H' h')(hg:AllBare g')
 (hch:∀b∈ch,(b∈X.ex\/X.s₀.heap.objs.size<=b)/\b≠X.env.locals/\(∀x c,X.env.cells.lookup x=some c->c≠b)/\∀p∈X.pn++pins,p.1≠b) :
 Inv X pins σ H' { s with heap:=h',gens:=g',drawn:=d',toks:=t' }:=by
 obtain⟨m,⟨o,es,ep,ho,r⟩,_⟩:=id I.loc;obtain⟨sl,hL⟩:=u.any ho I.free fun z=>(hch _ z).2.1 rfl
 exact I.step (ch:=ch) hch (fun b o hL hb hc e n=>u.keep b o e n (fun z=>(List.mem_cons.mp (I.stkSub b z)).elim hL hb) hc) (fun b o _ _ hc e n=>u.any e n hc) (fun b o hc e n=>u.free b o e n hc) (fun b o hc e=>u.there b o e hc) u.tups u.frzs u.tbls (fun m' hm=>by obtain⟨o',es',ep',ho',r'⟩:=hm;rw[ho] at ho';cases ho';exact⟨_,es',ep',hL,r'⟩) hok hg
theorem Inv.turned{t':Nat}{it:Addr}(I:Inv X pins σ H s)(k:∀b o,b≠it->s.heap.get? b=some o->h'.get? b=some o)(hn:H it=none)(hL:it≠X.env.locals)
 (h1:it∈X.ex\/X.s₀.heap.objs.size<=it) (h2:∀x c,X.env.cells.lookup x=some c->c≠it) (h3:∀p∈X.pn++pins,p.1≠it):Inv X pins σ H { s with heap:=h',toks:=t' }:=by
 have nit:∀b u,H b=some u->b≠it:=fun b u e z=>by rw[z,hn] at e;cases e
 refine I.step (g':=s.gens) (d':=s.drawn) (ch:=[it]) (fun b hb=>?_) (fun b o _ _ hc e _=>k b o (fun z=>hc (by simp[z])) e) (fun b o _ _ hc e _=>⟨o.slots,k b o (fun z=>hc (by simp[z])) e⟩) (fun _ _ _ _ n=>n)
  (fun b o hc e=>⟨o,k b o (fun z=>hc (by simp[z])) e⟩) (fun _ _ e=>e) (fun _ _ _ e=>e) (fun b ps e=>⟨#[],by rw[e];simp⟩) (fun m hm=>?_) (fun b u e=>?_) I.bare
 ·have e:b=it:=by simpa using hb
  subst e;exact⟨h1,hL,h2,h3⟩
 ·obtain⟨o,es,ep,ho,r⟩:=hm;exact⟨o,es,ep,k _ o (Ne.symm hL) ho,r⟩
 ·refine(I.hok b u e).stay (fun c v hc q=>k c v ?_ q) (fun _ q=>q) fun _ _ q=>q
  rcases hc with z|z
  ·rw[z];exact nit b u e
  ·exact nit c _ z
theorem Inv.tok(I:Inv X pins σ H s)(t:Nat):Inv X pins σ H { s with toks:=t }:=I.un (h':=s.heap) (t':=t) Un.refl I.hok
theorem Inv.kept{t':Nat}(I:Inv X pins σ H s)(k:∀b u,s.heap.get? b=some u->h'.get? b=some u):Inv X pins σ H { s with heap:=h',toks:=t' }:=I.un (Un.kept k) (I.hok.kept k)
theorem Inv.laid{a:Addr}{o:HO}{t':Nat}(I:Inv X pins σ H s)(k:∀b u,s.heap.get? b=some u->h'.get? b=some u)(hp:s.heap.objs.size<=a)(new:ObjOk X.prog X.w (upd H a o) h' a o) :
 Inv X pins σ (upd H a o) { s with heap:=h',toks:=t' }:=I.un (Un.laid k hp (I.hok.fresh hp)) (I.hok.laid k hp new)
theorem Inv.write{x e:Addr}{o:HO}{t':Nat}(I:Inv X pins σ H s)(mu:Mut (H x))(he:e=x\/H e=some (.own x))(k:∀b u,b≠e->s.heap.get? b=some u->h'.get? b=some u)(heo:∃u,h'.get? e=some u)
 (new:ObjOk X.prog X.w (upd H x o) h' x o):Inv X pins σ (upd H x o) { s with heap:=h',toks:=t' }:=I.un (Un.write mu he k heo) (I.hok.write mu he k heo new)
theorem Inv.weak{σ':List (Option V)}(I:Inv X pins σ H s)(hl:σ'.length=σ.length)(w:∀(i:Nat) v,σ'[i]?=some (some v)->σ[i]?=some (some v)):Inv X pins σ' H s :=
 ⟨I.ok,I.os,I.bare,I.base,let ⟨m,hn,hl'⟩:=I.loc;⟨m,hn,fun i x v e1 e2 e3=>hl' i x v e1 (w i v e2) e3⟩,I.cell,I.free,I.freeC,I.pin,I.hok,hl.trans I.len⟩
theorem Inv.pins_of{pins':List (Addr×Obj)}(I:Inv X pins σ H s)(h:∀p∈pins',s.heap.get? p.1=some p.2/\H p.1=none/\p.1≠X.env.locals/\p.1∉X.fs/\∀v,p.2.data≠.cell v):Inv X pins' σ H s :=
 ⟨I.ok,I.os,I.bare,I.base,I.loc,I.cell,I.free,I.freeC,fun p hp=>(List.mem_append.mp hp).elim (fun z=>I.pin p (List.mem_append_left _ z)) (h p),I.hok,I.len⟩

theorem JbR{N:List Str}(hN:N.Nodup){i j:Nat}{x:Str}(a:N[i]?=some x)(b:N[j]?=some x):i=j:=by obtain⟨h1,e1⟩:=List.getElem?_eq_some_iff.mp a;obtain⟨h2,e2⟩:=List.getElem?_eq_some_iff.mp b;exact(List.getElem_inj hN).mp (e1.trans e2.symm)

theorem Jam{M:Model}{A:Around}{E:Value->Shared->Prop}{i:Nat}{x:Str}{v:V}{u:Value}{Q:Unit->Shared->Prop}(I:Inv X pins σ H s)(hN:X.N.Nodup)(hi:X.N[i]?=some x)(hx:Loc X.env.scope x)(r:RelV v u)
 (h:∀s',Inv X pins (σ.set i (some v)) H s'->(∃a,Heap.SameBut a s.heap s'.heap/\(a=X.env.locals\/X.env.cells.lookup x=some a))->Q () s') (hf:X.fn x=true\/X.env.scope.names.lookup x=some .local:=by first|exact .inl rfl|exact .inr rfl|assumption):wpAny M A (storeName X.env x u) Q E s:=by
 obtain⟨m,hn,hl⟩:=id I.loc;have hcls:(X.env.scope.kind == .class || (X.env.scope.kind == .module && X.env.locals != X.env.globals))=false:=by rw[I.ok.kind];rfl
 have hiσ:i<σ.length:=by rw[I.len];exact(List.getElem?_eq_some_iff.mp hi).1
 have cne:=I.cne
 have tracked:∀{a:Addr} {h':Heap},(∃o,s.heap.get? a=some o/\H a=none)->Heap.SameBut a s.heap h'->HOk X.prog X.w H h':=fun {a h'} ha hs b ob e=>by
  obtain⟨_,_,hfree⟩:=ha;refine(I.hok b ob e).stay (fun c w' hc q=>(hs.2 c ?_).trans q) (fun _ q=>q) fun _ _ q=>q
  rintro rfl;rcases hc with rfl|hc
  ·rw[hfree] at e;cases e
  ·rw[hfree] at hc;cases hc
 rcases hx with hk|hk
 ·refine wpAny_storeName_local hk hn (fun h' hn' hs=>?_) hcls;obtain⟨oL,_,_,hoL,_⟩:=id hn;refine h _ ⟨I.ok,I.os,I.bare,⟨fun b o e n hb hx=>?_,fun b o e n hb hx=>?_,I.base.free,fun b o e hx=>?_,I.base.tups,I.base.frzs,I.base.tbls⟩,⟨_,hn',fun j y v' e1 e2 e3=>?_⟩,fun y c e=>?_,I.free,I.freeC,fun p hp=>?_,tracked ⟨oL,hoL,I.free⟩ hs,by simpa using I.len⟩ ⟨_,hs,.inl rfl⟩
  ·exact(hs.2 b (Nat.ne_of_lt (Nat.lt_of_lt_of_le (Heap.lt_size e) I.ok.above))).trans (I.base.keep b o e n hb hx)
  ·obtain⟨sl,e1⟩:=I.base.slot b o e n hb hx;exact⟨sl,(hs.2 b (Nat.ne_of_lt (Nat.lt_of_lt_of_le (Heap.lt_size e) I.ok.above))).trans e1⟩
  ·obtain⟨o',e1⟩:=I.base.there b o e hx;exact⟨o',(hs.2 b (Nat.ne_of_lt (Nat.lt_of_lt_of_le (Heap.lt_size e) I.ok.above))).trans e1⟩
  ·by_cases hj:j=i
   ·subst hj;rw[hi] at e1;cases e1;rw[List.getElem?_set_self hiσ] at e2;cases e2;exact⟨u,r,.inl ⟨hk,by simp⟩⟩
   ·rw[List.getElem?_set_ne (Ne.symm hj)] at e2;obtain⟨u',r',q⟩:=hl j y v' e1 e2 e3;refine⟨u',r',?_⟩;rcases q with ⟨k,e⟩|⟨k,c,e,z⟩
    ·refine .inl ⟨k,?_⟩;have:y≠x:=fun e=>hj (JbR hN e1 (e▸hi))
     simp[this,e]
    ·exact .inr ⟨k,c,e,z.sameBut hs (cne y c e)⟩
  ·obtain⟨w',z⟩:=I.cell y c e;exact⟨w',z.sameBut hs (cne y c e)⟩
  ·obtain⟨e,n,ne,nf,d⟩:=I.pin p hp;exact⟨(hs.2 p.1 ne).trans e,n,ne,nf,d⟩
 ·have hfn:X.fn x=true:=by
   rcases hf with z|z
   ·exact z
   ·rw[z] at hk;cases hk
  obtain⟨c,hc⟩:=I.ok.has x (.inl hk);obtain⟨w',z⟩:=I.cell x c hc;refine wpAny_storeName_cell I.ok.kind hk hc z (fun h' hc' hs=>?_);obtain⟨oc,hoc,hocd⟩:=id z;refine h { s with heap:=h' } ⟨I.ok,I.os,I.bare,⟨fun b o e n hb hx=>?_,fun b o e n hb hx=>?_,I.base.free,fun b o e hx=>?_,I.base.tups,I.base.frzs,I.base.tbls⟩,⟨m,hn.sameBut hs (Ne.symm (cne x c hc)),fun j y v' e1 e2 e3=>?_⟩,fun y c' e=>?_,I.free,I.freeC,fun p hp=>?_,tracked ⟨oc,hoc,I.freeC x c hc⟩ hs,by simpa using I.len⟩ ⟨c,hs,.inr hc⟩
  ·exact(hs.2 b (Nat.ne_of_lt (Nat.lt_of_lt_of_le (Heap.lt_size e) (I.ok.cab x c hfn hc)))).trans (I.base.keep b o e n hb hx)
  ·obtain⟨sl,e1⟩:=I.base.slot b o e n hb hx;exact⟨sl,(hs.2 b (Nat.ne_of_lt (Nat.lt_of_lt_of_le (Heap.lt_size e) (I.ok.cab x c hfn hc)))).trans e1⟩
  ·obtain⟨o',e1⟩:=I.base.there b o e hx;exact⟨o',(hs.2 b (Nat.ne_of_lt (Nat.lt_of_lt_of_le (Heap.lt_size e) (I.ok.cab x c hfn hc)))).trans e1⟩
  ·by_cases hj:j=i
   ·subst hj;rw[hi] at e1;cases e1;rw[List.getElem?_set_self hiσ] at e2;cases e2;exact⟨u,r,.inr ⟨.inl hk,c,hc,hc'⟩⟩
   ·rw[List.getElem?_set_ne (Ne.symm hj)] at e2;obtain⟨u',r',q⟩:=hl j y v' e1 e2 e3;refine⟨u',r',?_⟩;rcases q with q|⟨k,c',e,z'⟩
    ·exact .inl q
    ·refine .inr ⟨k,c',e,z'.sameBut hs ?_⟩;rintro rfl;exact hj (JbR hN e1 (I.ok.inj _ _ _ e hc▸hi))
  ·by_cases hcc:c'=c
   ·subst hcc;exact⟨_,hc'⟩
   ·obtain⟨w2,z2⟩:=I.cell y c' e;exact⟨w2,z2.sameBut hs hcc⟩
  ·obtain⟨e,n,ne,nf,d⟩:=I.pin p hp;refine⟨(hs.2 p.1 ?_).trans e,n,ne,nf,d⟩;intro q;rw[q,hoc] at e;have q':oc=p.2:=Option.some.inj e;exact d w' (by rw[<- q'];exact hocd)
theorem Vc{M:Model}{A:Around}{E:Value->Shared->Prop}{i:Nat}{x:Str}{v:V}{u:Value}{Q:Unit->Shared->Prop}(I:Inv X pins σ H s)(hN:X.N.Nodup)(hi:X.N[i]?=some x)(hx:Loc X.env.scope x)(r:RelV v u)
 (h:∀s',Inv X pins (σ.set i (some v)) H s'->Q () s') (hf:X.fn x=true\/X.env.scope.names.lookup x=some .local:=by first|exact .inl rfl|exact .inr rfl|assumption):wpAny M A (storeName X.env x u) Q E s :=
 Jam I hN hi hx r (fun s' I' _=>h s' I') hf
theorem Inv.call'{s':Shared}{ch:List Addr}(I:Inv X pins σ H s)(ho:s'.os=s.os)(u:Un (frs X.stack) ch H H' s.heap s'.heap)(hok:HOk X.prog X.w H' s'.heap)(hg:AllBare s'.gens)
 (hch:∀b∈ch,(b∈X.ex\/X.s₀.heap.objs.size<=b)/\b≠X.env.locals/\(∀x c,X.env.cells.lookup x=some c->c≠b)/\∀p∈X.pn++pins,p.1≠b):Inv X pins σ H' s':=by
 obtain⟨h',g',d',t',o'⟩:=s';have e:o'=s.os:=ho;subst e;exact I.call (g':=g') (t':=t') (d':=d') u hok hg hch
end

noncomputable abbrev XK:=Value->Option Addr->Hp->Prop
noncomputable abbrev St:=List (Option V)
noncomputable abbrev VK:=V->Hp->Prop
noncomputable abbrev TE:=St->Hp->VK->Prop
noncomputable abbrev TT:=St->Hp->(Bool->Hp->Prop)->Prop
noncomputable abbrev TA:=St->Hp->(List V->Hp->Prop)->Prop
structure Ends where
 nx:St->Hp->Prop
 rt:VK
 bk:St->Hp->Prop:=fun _ _=>False
 ct:St->Hp->Prop:=fun _ _=>False
noncomputable abbrev TS:=Ends->St->Hp->Prop

noncomputable def EP(X:Cx)(pins:List (Addr×Obj))(σ:St)(Q:VK)(u:Value)(s':Shared):Prop:=∃v H',Inv X pins σ H' s'/\RelV v u/\Q v H'
noncomputable def TP(X:Cx)(pins:List (Addr×Obj))(σ:St)(Q:Bool->Hp->Prop)(b:Bool)(s':Shared):Prop:=∃H',Inv X pins σ H' s'/\Q b H'
noncomputable def AP(X:Cx)(pins:List (Addr×Obj))(σ:St)(Q:List V->Hp->Prop)(us:List Value)(s':Shared):Prop:=∃vs H',Inv X pins σ H' s'/\Vals vs us/\Q vs H'
noncomputable def SP(X:Cx)(pins:List (Addr×Obj))(D:Ends)(f:Flow)(s':Shared):Prop :=
 match f with
 | .next=>∃σ' H',Inv X pins σ' H' s'/\D.nx σ' H'
 | .brk=>∃σ' H',Inv X pins σ' H' s'/\D.bk σ' H'
 | .cont=>∃σ' H',Inv X pins σ' H' s'/\D.ct σ' H'
 | .ret u=>∃v σ' H',Inv X pins σ' H' s'/\RelV v u/\D.rt v H'

noncomputable def PE(X:Cx)(e:Expr)(t:TE):Prop :=
 ∀(pins:List (Addr×Obj)) (s:Shared) (σ:St) (H:Hp) (Q:VK),Inv X pins σ H s->t σ H Q->wpAny (model X.prog X.w) X.A (eval e X.env) (EP X pins σ Q) X.xe s
noncomputable def PT(X:Cx)(e:Expr)(t:TT):Prop :=
 ∀(pins:List (Addr×Obj)) (s:Shared) (σ:St) (H:Hp) (Q:Bool->Hp->Prop),Inv X pins σ H s->t σ H Q->wpAny (model X.prog X.w) X.A (isTrue e X.env (eval e X.env)) (TP X pins σ Q) X.xe s
noncomputable def PW(X:Cx)(e:Expr)(t:TT):Prop :=
 ∀(whole:Sem Value) (pins:List (Addr×Obj)) (s:Shared) (σ:St) (H:Hp) (Q:Bool->Hp->Prop),Inv X pins σ H s->t σ H Q->wpAny (model X.prog X.w) X.A (isTrue e X.env whole) (TP X pins σ Q) X.xe s
theorem PW.pt{X:Cx}{e:Expr}{t:TT}(h:PW X e t):PT X e t:=h _
noncomputable def PA(X:Cx)(es:List Expr)(t:TA):Prop :=
 ∀(pos:Pos) (pins:List (Addr×Obj)) (s:Shared) (σ:St) (H:Hp) (Q:List V->Hp->Prop),Inv X pins σ H s->t σ H Q->wpAny (model X.prog X.w) X.A (spliced (backTo pos (starEach es X.env))) (AP X pins σ Q) X.xe s
noncomputable def PS(X:Cx)(st:Stmt)(t:TS):Prop :=
 ∀(pins:List (Addr×Obj)) (s:Shared) (σ:St) (H:Hp) (D:Ends),Inv X pins σ H s->t D σ H->wpAny (model X.prog X.w) X.A (exec st X.env) (SP X pins D) X.xe s
noncomputable def PSs(X:Cx)(st:List Stmt)(t:TS):Prop :=
 ∀(pins:List (Addr×Obj)) (s:Shared) (σ:St) (H:Hp) (D:Ends),Inv X pins σ H s->t D σ H->wpAny (model X.prog X.w) X.A (execs st X.env) (SP X pins D) X.xe s
theorem thn{α:Type}{t:Sem α}{Q Q':α->Shared->Prop}{M:Model}{A:Around}{E:Value->Shared->Prop}{s:Shared}(h:wpAny M A t Q E s)(hQ:∀a s,Q a s->Q' a s):wpAny M A t Q' E s:=wpAny_mono h hQ fun _ _ x=>x
end L2

namespace L2
open PySem PySem.Spec PyProof.Rows
section
variable{X:Cx}

noncomputable def WC(i:Nat):TE:=fun σ H Q=>∃v,σ[i]?=some (some v)/\Q v H
noncomputable def tC(v:V):TE:=fun _ H Q=>Q v H
theorem Jlx{i:Nat}{x:Str}{pos:Pos}(hN:X.N[i]?=some x)(hv:Vis X.env.scope x)(hd:(x == ("__debug__":Str))=false:=by decide)(hcd:(x == ("__classdict__":Str))=false:=by decide):PE X (.Name x pos) (WC i):=by
 intro pins s σ H Q I h;obtain⟨v,e,h⟩:=h;obtain⟨m,hn,hl⟩:=I.loc;obtain⟨u,r,l⟩:=hl i x v hN e hv;have fin:EP X pins σ Q u s:=⟨v,H,I,r,h⟩
 rcases l with ⟨hk,hm⟩|⟨hk,c,hc,hcell⟩
 ·exact wpAny_Name (wpAny_loadName_local I.ok.kind hk hn hm fin) hd
 ·rcases hk with hk|hk
  ·exact wpAny_Name (wpAny_loadName_cell I.ok.kind hk hc hcell fin) hd
  ·exact wpAny_Name (wpAny_loadName_free I.ok.kind hk hc hcell fin hcd) hd
theorem Jh{i j pos}:PE X (.Constant (.int i) j pos) (tC (.int i)):=fun _ _ _ H _ I h=>wpAny_Constant_int ⟨.int i,H,I.tok _,⟨_,rfl⟩,h⟩
theorem VU{b j pos}:PE X (.Constant (.bool b) j pos) (tC (.bl b)):=fun _ _ _ H _ I h=>Constant_bool ⟨.bl b,H,I,rfl,h⟩
theorem Ja0{j pos}:PE X (.Constant .none j pos) (tC .non):=fun _ _ _ H _ I h=>Constant_none ⟨.non,H,I,rfl,h⟩
theorem Jlw{x j pos}:PE X (.Constant (.str x) j pos) (tC (.str x)):=fun _ _ _ H _ I h=>Calls.Constant_str ⟨.str x,H,I.tok _,⟨_,rfl⟩,h⟩

noncomputable def Gl(X:Cx)(x:Str):Prop:=X.env.kindOf x=some .globalImplicit
theorem UW{E:Value->Shared->Prop}{pins:List (Addr×Obj)}{s:Shared}{σ:St}{H:Hp}{x:Str}{u:Value}{pos:Pos}{Q:Value->Shared->Prop}(I:Inv X pins σ H s)(hg:Gl X x)(hm:X.mg x=some u)(h:Q u s)
 (hd:(x == ("__debug__":Str))=false:=by decide):wpAny (model X.prog X.w) X.A (eval (.Name x pos) X.env) Q E s :=
 Calls.Name_function_global I.ok.kind hg (Calls.loadGlobal_global (by rw[I.ok.glob];exact I.mod.glob.keeps I.bk) hm h) hd
theorem U5{E:Value->Shared->Prop}{pins:List (Addr×Obj)}{s:Shared}{σ:St}{H:Hp}{x:Str}{u:Value}{pos:Pos}{Q:Value->Shared->Prop}(I:Inv X pins σ H s)(hg:Gl X x)(hm:X.mg x=none)(hv:bootBuiltins x=some u)(h:Q u s)
 (hn:x≠"__name__":=by decide) (hd:(x == ("__debug__":Str))=false:=by decide):wpAny (model X.prog X.w) X.A (eval (.Name x pos) X.env) Q E s:=by
 obtain⟨mb,h1,h2⟩:=I.mod.blt;exact Calls.Name_function_global I.ok.kind hg (Calls.loadGlobal_builtin (by rw[I.ok.glob];exact I.mod.glob.keeps I.bk) hm (by rw[I.ok.blt];exact h1.keeps I.bk) ((h2 x hn).trans hv) h) hd
theorem YR{x:Str}{v:V}{u:Value}{pos:Pos}(hg:Gl X x)(hm:X.mg x=some u)(r:RelV v u)(hd:(x == ("__debug__":Str))=false:=by decide):PE X (.Name x pos) (tC v) :=
 fun _ _ _ H _ I h=>UW I hg hm ⟨v,H,I,r,h⟩ hd
theorem VV{x:Str}{v:V}{u:Value}{pos:Pos}(hg:Gl X x)(hm:X.mg x=none)(hv:bootBuiltins x=some u)(r:RelV v u)(hn:x≠"__name__":=by decide)(hd:(x == ("__debug__":Str))=false:=by decide):PE X (.Name x pos) (tC v) :=
 fun _ _ _ H _ I h=>U5 I hg hm hv ⟨v,H,I,r,h⟩ hn hd

variable{a b:Expr}{ta tb:TE}{pos:Pos}
noncomputable def tB(t:TE):TT:=fun σ H Q=>t σ H fun x H1=>∃c,x=.bl c/\Q c H1
variable{tA tB':TT}{rest:List Expr}
noncomputable def Jmj(t u:TT):TT:=fun σ H Q=>t σ H fun c H1=>if c=true then u σ H1 Q else Q false H1
noncomputable def tOr(t u:TT):TT:=fun σ H Q=>t σ H fun c H1=>if c=true then Q true H1 else u σ H1 Q
noncomputable def Jmn(t:TT):TT:=fun σ H Q=>t σ H fun c H1=>Q (!c) H1
theorem VZ(ha:PT X a tA):PW X (.BoolOp .And [a] pos) tA:=by
 intro wh pins s σ H Q I h;refine isTrue_and (thn (ha pins s σ H Q I h) fun c s1 e=>?_)
 cases c with
 | true=>exact isTrue_and_nil e
 | false=>exact e
theorem Zs(ha:PT X a tA):PW X (.BoolOp .Or [a] pos) tA:=by
 intro wh pins s σ H Q I h;refine isTrue_or (thn (ha pins s σ H Q I h) fun c s1 e=>?_)
 cases c with
 | false=>exact isTrue_or_nil e
 | true=>exact e
theorem Wm(ha:PT X a tA)(hb:PW X (.BoolOp .And (b::rest) pos) tB'):PW X (.BoolOp .And (a::b::rest) pos) (Jmj tA tB'):=by
 intro wh pins s σ H Q I h;refine isTrue_and (thn (ha pins s σ H _ I h) fun c s1 ⟨H1,I1,q1⟩=>?_)
 cases c with
 | true=>exact hb wh pins s1 σ H1 Q I1 q1
 | false=>exact⟨H1,I1,q1⟩
theorem Zr(ha:PT X a tA)(hb:PW X (.BoolOp .Or (b::rest) pos) tB'):PW X (.BoolOp .Or (a::b::rest) pos) (tOr tA tB'):=by
 intro wh pins s σ H Q I h;refine isTrue_or (thn (ha pins s σ H _ I h) fun c s1 ⟨H1,I1,q1⟩=>?_)
 cases c with
 | true=>exact⟨H1,I1,q1⟩
 | false=>exact hb wh pins s1 σ H1 Q I1 q1
theorem Wl(ha:PT X a tA):PT X (.UnaryOp .Not a pos) (Jmn tA):=by intro pins s σ H Q I h;exact isTrue_not (ha pins s σ H (fun c H1=>Q (!c) H1) I h)
noncomputable def Jhk(ta tb:TE):TE:=fun σ H Q=>ta σ H fun x H1=>∃c,x=.bl c/\if c=true then tb σ H1 Q else Q (.bl false) H1
noncomputable def Jn3(ta tb:TE):TE:=fun σ H Q=>ta σ H fun x H1=>∃c,x=.bl c/\if c=true then Q (.bl true) H1 else tb σ H1 Q
noncomputable def JnA(ta:TE):TE:=fun σ H Q=>ta σ H fun x H1=>∃c,x=.bl c/\Q (.bl (!c)) H1
theorem Ja1{op}{t:TE}(h:PE X a t):PE X (.BoolOp op [a] pos) t:=fun pins s σ H Q I hw=>BoolOp_one (h pins s σ H Q I hw)
theorem Wk(ha:PE X a ta)(hb:PE X (.BoolOp .And (b::rest) pos) tb):PE X (.BoolOp .And (a::b::rest) pos) (Jhk ta tb):=by
 intro pins s σ H Q I h;refine BoolOp_and (thn (ha pins s σ H _ I h) fun v s1 ⟨x,H1,I1,r1,q1⟩=>?_);obtain⟨c,rfl,q1⟩:=q1;cases r1;refine wpAny_truthy_bool ?_
 cases c with
 | true=>exact hb pins s1 σ H1 Q I1 q1
 | false=>exact⟨.bl false,H1,I1,rfl,q1⟩
noncomputable def tIf(t:TT)(ta tb:TE):TE:=fun σ H Q=>t σ H fun c H1=>if c=true then ta σ H1 Q else tb σ H1 Q
theorem JgH{c:Expr}(hc:PT X c tA)(ha:PE X a ta)(hb:PE X b tb):PE X (.IfExp c a b pos) (tIf tA ta tb):=by
 intro pins s σ H Q I h;refine wpAny_IfExp (thn (hc pins s σ H _ I h) fun d s1 ⟨H1,I1,q1⟩=>?_)
 cases d with
 | true=>exact ha pins s1 σ H1 Q I1 q1
 | false=>exact hb pins s1 σ H1 Q I1 q1
end
end L2

namespace L2
open PySem PySem.Spec PyProof.Rows

noncomputable def SqL(K:Frag)(H:Hp)(a:Addr)(xs:List V):Prop :=
 Rd H a (.lst xs) ∨
  ∃(o:Obj) (its:Array Value) (n:Nat),K.lookup a=some o/\o.cls=.type "list"/\o.dict=none/\o.data=.seq its n/\its.size<=sizeLine/\Vals xs its.toList
noncomputable def SqT(K:Frag)(H:Hp)(a:Addr)(xs:List V):Prop :=
 Rd H a (.tup xs) ∨
  ∃(o:Obj) (its:Array Value) (n:Nat),K.lookup a=some o/\o.cls=.type "tuple"/\o.data=.seq its n/\its.size<=sizeLine/\Vals xs its.toList
noncomputable def JnJ:Value->Option V
 | .none=>some .non
 | .bool b=>some (.bl b)
 | .int i _=>some (.int i)
 | .str x _=>some (.str x)
 | .bytes b _=>some (.byt b)
 | .float b _=>some (.flt b)
 | .ref a=>some (.ref a)
 | .type n=>some (.ty n)
 | _=>none
theorem RelV.abs{x:V}{u:Value}(r:RelV x u):JnJ u=some x:=by
 cases x with
 | non=>cases r;rfl
 | bl _=>cases r;rfl
 | int _=>obtain⟨t,rfl⟩:=r;rfl
 | str _=>obtain⟨t,rfl⟩:=r;rfl
 | byt _=>obtain⟨t,rfl⟩:=r;rfl
 | flt _=>obtain⟨t,rfl⟩:=r;rfl
 | ref _=>cases r;rfl
 | ty _=>cases r;rfl
theorem RelV.inj{x y:V}{u:Value}(r:RelV x u)(q:RelV y u):x=y:=Option.some.inj (r.abs.symm.trans q.abs)
theorem Vals.inj:∀{xs ys:List V} {us:List Value},Vals xs us->Vals ys us->xs=ys
 | _,_,_,.nil,.nil=>rfl
 | _,_,_,.cons r t,.cons r' t'=>by rw[r.inj r',Vals.inj t t']
section
variable{X:Cx}{pins:List (Addr×Obj)}{σ:St}{H:Hp}{s:Shared}{a:Addr}{xs ys:List V}
theorem SqL.of{K:Frag}(h:H a=some (.lst xs)):SqL K H a xs:=.inl (.inl h)
theorem SqT.of{K:Frag}(h:H a=some (.tup xs)):SqT K H a xs:=.inl (.inl h)
theorem Inv.list(I:Inv X pins σ H s)(h:SqL X.K H a xs):∃its:List Value,Vals xs its/\PlainL s.heap a its.toArray/\xs.length<=sizeLine:=by
 rcases h with h|⟨o,its,n,hk,hc,hd,hs,hz,r⟩
 ·obtain⟨z,its,n,r,e⟩:=h.ok I.hok;exact⟨its,r,⟨_,n,e,rfl,rfl,rfl⟩,z⟩
 ·refine⟨its.toList,r,⟨o,n,I.kIn a o hk,hc,hd,by simpa using hs⟩,?_⟩;have e:=r.length;simp only[Array.length_toList] at e;omega
theorem Inv.tuple(I:Inv X pins σ H s)(h:SqT X.K H a xs):∃its:List Value,Vals xs its/\IsTup s.heap a its.toArray/\xs.length<=sizeLine:=by
 rcases h with h|⟨o,its,n,hk,hc,hs,hz,r⟩
 ·obtain⟨z,its,r,p⟩:=h.ok I.hok;exact⟨its,r,p,z⟩
 ·refine⟨its.toList,r,⟨o,I.kIn a o hk,hc,n,by simpa using hs⟩,?_⟩;have e:=r.length;simp only[Array.length_toList] at e;omega
theorem Inv.list_inj(I:Inv X pins σ H s)(h:SqL X.K H a xs)(h':SqL X.K H a ys):xs=ys:=by
 obtain⟨its,r,⟨o,n,e,_,_,d⟩,_⟩:=I.list h;obtain⟨its',r',⟨o',n',e',_,_,d'⟩,_⟩:=I.list h';rw[e] at e';cases e';rw[d] at d'
 injection d' with d1 _
 have:its=its':=by simpa using congrArg Array.toList d1
 subst this;exact r.inj r'
theorem Inv.tuple_inj(I:Inv X pins σ H s)(h:SqT X.K H a xs)(h':SqT X.K H a ys):xs=ys:=by
 obtain⟨its,r,⟨o,e,_,n,d⟩,_⟩:=I.tuple h;obtain⟨its',r',⟨o',e',_,n',d'⟩,_⟩:=I.tuple h';rw[e] at e';cases e';rw[d] at d'
 injection d' with d1 _
 have:its=its':=by simpa using congrArg Array.toList d1
 subst this;exact r.inj r'
end

noncomputable abbrev Cx.wish(X:Cx)(E:Value->Shared->Prop):Cx:={ X with xe:=E }
noncomputable abbrev Cx.nox(X:Cx):Cx:=X.wish fun _ _=>False
theorem Cx.Ok.wish{X:Cx}(ok:X.Ok)(E:Value->Shared->Prop):(X.wish E).Ok :=
 ⟨ok.mod,ok.kind,ok.glob,ok.blt,ok.above,ok.inj,ok.has,ok.cab,ok.hd,ok.frames,ok.stk,ok.exf,ok.bs,ok.bsz,ok.noex,ok.exfs,ok.funs,ok.frf⟩
theorem Cx.Ok.unwish{X:Cx}{E:Value->Shared->Prop}(ok:(X.wish E).Ok):X.Ok :=
 ⟨ok.mod,ok.kind,ok.glob,ok.blt,ok.above,ok.inj,ok.has,ok.cab,ok.hd,ok.frames,ok.stk,ok.exf,ok.bs,ok.bsz,ok.noex,ok.exfs,ok.funs,ok.frf⟩
section
variable{X:Cx}{pins:List (Addr×Obj)}{σ:St}{H:Hp}{s:Shared}{E:Value->Shared->Prop}
theorem Inv.wish(I:Inv X pins σ H s)(E:Value->Shared->Prop):Inv (X.wish E) pins σ H s:=⟨I.ok.wish E,I.os,I.bare,I.base,I.loc,I.cell,I.free,I.freeC,I.pin,I.hok,I.len⟩
theorem Inv.unwish(I:Inv (X.wish E) pins σ H s):Inv X pins σ H s:=⟨I.ok.unwish,I.os,I.bare,I.base,I.loc,I.cell,I.free,I.freeC,I.pin,I.hok,I.len⟩
theorem SP.unwish{D:Ends}{f:Flow}{s':Shared}(h:SP (X.wish E) pins D f s'):SP X pins D f s':=by
 cases f with
 | next=>obtain⟨σ',H',I,q⟩:=h;exact⟨σ',H',I.unwish,q⟩
 | brk=>obtain⟨σ',H',I,q⟩:=h;exact⟨σ',H',I.unwish,q⟩
 | cont=>obtain⟨σ',H',I,q⟩:=h;exact⟨σ',H',I.unwish,q⟩
 | ret u=>obtain⟨v,σ',H',I,r,q⟩:=h;exact⟨v,σ',H',I.unwish,r,q⟩
theorem PE.nox{e:Expr}{t:TE}(h:PE X.nox e t):PE X e t:=fun pins s σ H Q I hw=>wpAny_mono (h pins s σ H Q (I.wish _) hw) (fun _ _ ⟨v,H',I',r,q⟩=>⟨v,H',I'.unwish,r,q⟩) fun _ _ z=>False.elim z
theorem PT.nox{e:Expr}{t:TT}(h:PT X.nox e t):PT X e t:=fun pins s σ H Q I hw=>wpAny_mono (h pins s σ H Q (I.wish _) hw) (fun _ _ ⟨H',I',q⟩=>⟨H',I'.unwish,q⟩) fun _ _ z=>False.elim z
theorem PSs.nox{st:List Stmt}{t:TS}(h:PSs X.nox st t):PSs X st t:=fun pins s σ H D I hw=>wpAny_mono (h pins s σ H D (I.wish _) hw) (fun _ _ q=>q.unwish) fun _ _ z=>False.elim z
end

section
variable{X:Cx}{st:Stmt}{rest:List Stmt}{t u:TS}{e:Expr}{te:TE}{pos:Pos}
noncomputable def Jhn:TS:=fun D σ H=>D.nx σ H
noncomputable def JjA(t u:TS):TS:=fun D σ H=>t { D with nx:=u D } σ H
theorem Yb:PSs X [] Jhn:=fun _ _ σ H _ I h=>wpAny_execs_nil ⟨σ,H,I,h⟩
theorem Jf(h1:PS X st t)(h2:PSs X rest u):PSs X (st::rest) (JjA t u):=by
 intro pins s σ H D I h;refine wpAny_execs_cons (thn (h1 pins s σ H { D with nx:=u D } I h) fun f s1 q=>?_)
 cases f with
 | next=>obtain⟨σ',H',I',q⟩:=q;exact h2 pins s1 σ' H' D I' q
 | ret v=>exact q
 | brk=>exact q
 | cont=>exact q
theorem Jj(h1:PS X st t):PSs X [st] t:=by
 intro pins s σ H D I h;refine wpAny_execs_cons (thn (h1 pins s σ H D I h) fun f s1 q=>?_)
 cases f with
 | next=>exact wpAny_execs_nil q
 | ret v=>exact q
 | brk=>exact q
 | cont=>exact q
theorem Inv.quiet{pins:List (Addr×Obj)}{σ:St}{H:Hp}{s:Shared}(I:Inv X pins σ H s):interactive X.env=false:=by simp[interactive,I.ok.kind]
noncomputable def Jcf(te:TE):TS:=fun D σ H=>te σ H fun _ H1=>D.nx σ H1
theorem Y8(he:PE X e te)(hs:swapsWith e none pos.line X.env=pure false:=by rfl):PS X (.Expr e pos) (Jcf te):=by intro pins s σ H D I h;exact wpAny_Expr_any (thn (he pins s σ H _ I h) fun v s1 ⟨x,H1,I1,r1,q1⟩=>⟨σ,H1,I1,q1⟩) I.quiet hs
noncomputable def Jjz(te:TE):TS:=fun D σ H=>te σ H D.rt
theorem JP(he:PE X e te):PS X (.Return (some e) pos) (Jjz te):=by intro pins s σ H D I h;exact wpAny_Return_some (thn (he pins s σ H _ I h) fun v s1 ⟨x,H1,I1,r1,q1⟩=>⟨x,σ,H1,I1,r1,q1⟩)
noncomputable def Jjy(c:TT)(t u:TS):TS:=fun D σ H=>c σ H fun b H1=>if b=true then t D σ H1 else u D σ H1
theorem YS{c:Expr}{a b:List Stmt}{tc:TT}(hc:PT X c tc)(ha:PSs X a t)(hb:PSs X b u):PS X (.If c a b pos) (Jjy tc t u):=by
 intro pins s σ H D I h;refine wpAny_If (thn (hc pins s σ H _ I h) fun d s1 ⟨H1,I1,q1⟩=>?_)
 cases d with
 | true=>exact ha pins s1 σ H1 D I1 q1
 | false=>exact hb pins s1 σ H1 D I1 q1
noncomputable def Jmm:TS:=fun _ _ _=>False
theorem Zp:PS X st Jmm:=fun _ _ _ _ _ _ h=>h.elim
end

noncomputable abbrev TG:=V->St->Hp->(St->Hp->Prop)->Prop
noncomputable abbrev TGs:=List V->St->Hp->(St->Hp->Prop)->Prop
noncomputable def PG(X:Cx)(target:Expr)(t:TG):Prop :=
 ∀(pins:List (Addr×Obj)) (s:Shared) (σ:St) (H:Hp) (v:V) (u:Value) (Q:St->Hp->Prop),Inv X pins σ H s->RelV v u->t v σ H Q ->
  wpAny (model X.prog X.w) X.A (assign target X.env u) (fun _ s'=>∃σ' H',Inv X pins σ' H' s'/\Q σ' H') X.xe s
noncomputable def PGs(X:Cx)(ts:List Expr)(t:TGs):Prop :=
 ∀(pins:List (Addr×Obj)) (s:Shared) (σ:St) (H:Hp) (vs:List V) (us:List Value) (Q:St->Hp->Prop),Inv X pins σ H s->Vals vs us->t vs σ H Q ->
  wpAny (model X.prog X.w) X.A (assignInOrder ((assignEach ts X.env).map (·.2)) us) (fun _ s'=>∃σ' H',Inv X pins σ' H' s'/\Q σ' H') X.xe s
noncomputable abbrev JhN:=V->V->V->Hp->(Hp->Prop)->Prop
noncomputable def JmG(X:Cx)(t:JhN):Prop :=
 ∀(pins:List (Addr×Obj)) (s:Shared) (σ:St) (H:Hp) (o i v:V) (ov iv u:Value) (Q:Hp->Prop),Inv X pins σ H s->RelV o ov->RelV i iv->RelV v u->t o i v H Q ->
  wpAny (model X.prog X.w) X.A (setItem ov iv u) (fun _ s'=>∃H',Inv X pins σ H' s'/\Q H') X.xe s
noncomputable abbrev TIp:=V->V->Hp->VK->Prop
noncomputable def PIp(X:Cx)(op:Operator)(t:TIp):Prop :=
 ∀(pins:List (Addr×Obj)) (s:Shared) (σ:St) (H:Hp) (x y:V) (v u:Value) (Q:VK),Inv X pins σ H s->RelV x v->RelV y u->t x y H Q ->
  wpAny (model X.prog X.w) X.A (inplaceOp op v u) (EP X pins σ Q) X.xe s
section
variable{X:Cx}{pos:Pos}
noncomputable def U4(i:Nat):TG:=fun v σ H Q=>Q (σ.set i (some v)) H
theorem Jo{i:Nat}{x:Str}(hN:X.N.Nodup)(hi:X.N[i]?=some x)(hx:Loc X.env.scope x)(hf:X.fn x=true\/X.env.scope.names.lookup x=some .local:=by first|exact .inl rfl|exact .inr rfl|assumption):PG X (.Name x pos) (U4 i):=by intro pins s σ H v u Q I r h;exact wpAny_assign_Name (Vc I hN hi hx r (fun s' I'=>⟨_,H,I',h⟩) hf)
noncomputable def JkI:TGs:=fun vs σ H Q=>vs=[]/\Q σ H
noncomputable def Jf8(t:TG)(u:TGs):TGs:=fun vs σ H Q=>∃v r,vs=v::r/\t v σ H fun σ' H'=>u r σ' H' Q
theorem Yf:PGs X [] JkI:=by intro pins s σ H vs us Q I r h;obtain⟨e,h⟩:=h;subst e;cases r;exact assignInOrder_nil ⟨σ,H,I,h⟩
theorem Ju{e:Expr}{es:List Expr}{t:TG}{u:TGs}(h1:PG X e t)(h2:PGs X es u)
 (hs:(assignEach (e::es) X.env).map (·.2)=assign e X.env::(assignEach es X.env).map (·.2):=by rfl):PGs X (e::es) (Jf8 t u):=by
 intro pins s σ H vs us Q I r h;obtain⟨v,vr,e1,h⟩:=h;subst e1
 cases r with
 | cons r rr=>rw[hs];refine assignInOrder_cons (thn (h1 pins s σ H _ _ _ I r h) fun _ s1 ⟨σ1,H1,I1,q1⟩=>?_);exact h2 pins s1 σ1 H1 _ _ Q I1 rr q1
noncomputable def Jf9(K:Frag)(n:Nat)(t:TGs):TG:=fun v σ H Q=>∃a xs,v=.ref a/\SqT K H a xs/\xs.length=n/\t xs σ H Q
theorem Jly{es:List Expr}{k:Nat}{t:TGs}{n:Nat}(hc:X.calm=true)(h:PGs X es t)
 (hn:(assignEach es X.env).length=n:=by rfl) (hst:(assignEach es X.env).findIdx? (·.1)=none:=by rfl):PG X (.Tuple es k pos) (Jf9 X.K n t):=by
 intro pins s σ H v u Q I r hw;obtain⟨a,xs,e1,hq,hl,hw⟩:=hw;subst e1;cases r;obtain⟨its,rv,ht,hz⟩:=I.tuple hq;refine assign_Tuple_tuple (I.ok.hd hc) ht (by simp[hn,<- hl,rv.length]) hst fun h' hx=>?_
 have I1:Inv X pins σ H { s with heap:=h' }:=I.kept (t':=s.toks) fun b o e=>hx b o (Nat.ne_of_lt (Heap.lt_size e)) e
 exact h pins _ σ H xs _ Q I1 (by simpa using rv) hw
noncomputable def JkJ(to ti:TE)(t:JhN):TG:=fun v σ H Q=>to σ H fun o H1=>ti σ H1 fun i H2=>t o i v H2 fun H3=>Q σ H3
theorem JgJ{o i:Expr}{to ti:TE}{t:JhN}(ho:PE X o to)(hi:PE X i ti)(hs:JmG X t)
 (ha:∀v,assign (.Subscript o i pos) X.env v=(do
  let ov <- holding [v] (eval o X.env)
  let iv <- holding [v,ov] (eval i X.env)
  standAt pos
  holding [v,ov,iv] (setItem ov iv v)
  release [v,ov,iv] []):=by intro _;rfl):PG X (.Subscript o i pos) (JkJ to ti t):=by
 intro pins s σ H v u Q I r h;rw[ha];refine wpAny_bind (wpAny_holding (thn (ho pins s σ H _ I h) fun ov s1 ⟨x,H1,I1,r1,q1⟩=>?_));refine wpAny_bind (wpAny_holding (thn (hi pins s1 σ H1 _ I1 q1) fun iv s2 ⟨y,H2,I2,r2,q2⟩=>?_));refine wpAny_bind (wpAny_standAt (wpAny_bind (wpAny_holding (thn (hs pins s2 σ H2 x y v ov iv u _ I2 r1 r2 r q2) fun _ s3 ⟨H3,I3,q3⟩=>?_))));exact wpAny_release ⟨σ,H3,I3,q3⟩
noncomputable def Jbc(te:TE)(g:TG):TS:=fun D σ H=>te σ H fun x H1=>g x σ H1 D.nx
theorem Jc1{tg e:Expr}{te:TE}{g:TG}(he:PE X e te)(hg:PG X tg g)(hs:swapsWithSole [tg] e pos.line X.env=pure false:=by rfl)(hw:swappedStores [tg] e X.env=pure none:=by rfl)
 (h1:(assignEach [tg] X.env).map (·.2)=[assign tg X.env]:=by rfl):PS X (.Assign [tg] e pos) (Jbc te g):=by
 intro pins s σ H D I h;refine wpAny_Assign_stores (thn (he pins s σ H _ I h) fun v s1 ⟨x,H1,I1,r1,q1⟩=>?_) hs hw;rw[h1];exact thn (hg pins s1 σ H1 x v _ I1 r1 q1) fun _ s2 q=>q
theorem Jv{i:Nat}{x:Str}{e:Expr}{te:TE}{pos':Pos}(hN:X.N.Nodup)(hi:X.N[i]?=some x)(hx:Loc X.env.scope x)(he:PE X e te)(hs:swapsWith e (some (.Name x pos')) pos.line X.env=pure false:=by rfl)(hf:X.fn x=true\/X.env.scope.names.lookup x=some .local:=by first|exact .inl rfl|exact .inr rfl|assumption) :
 PS X (.Assign [.Name x pos'] e pos) (Jbc te (U4 i)):=by
 intro pins s σ H D I h;refine wpAny_Assign_Name (thn (he pins s σ H _ I h) fun v s1 ⟨y,H1,I1,r1,q1⟩=>?_) hs;exact Vc I1 hN hi hx r1 (fun s2 I2=>⟨_,H1,I2,q1⟩) hf
noncomputable def Jnz(i:Nat)(te:TE)(ti:TIp):TS:=fun D σ H=>∃x,σ[i]?=some (some x)/\te σ H fun y H1=>ti x y H1 fun z H2=>D.nx (σ.set i (some z)) H2
theorem JlC{i:Nat}{x:Str}{e:Expr}{te:TE}{op:Operator}{ti:TIp}{pos':Pos}(hN:X.N.Nodup)(hi:X.N[i]?=some x)(hx:Loc X.env.scope x)(he:PE X e te)(ho:PIp X op ti)(hf:X.fn x=true\/X.env.scope.names.lookup x=some .local:=by first|exact .inl rfl|exact .inr rfl|assumption) :
 PS X (.AugAssign (.Name x pos') op e pos) (Jnz i te ti):=by
 intro pins s σ H D I h;obtain⟨v,e1,h⟩:=h;obtain⟨m,hn,hl⟩:=I.loc;have vis:Vis X.env.scope x:=by rcases hx with k|k;exact .inl k;exact .inr (.inl k)
 obtain⟨u,r,l⟩:=hl i x v hi e1 vis;refine wpAny_AugAssign_Name ?_
 have go:wpAny (model X.prog X.w) X.A (eval e X.env) (fun w s₂=>wpAny (model X.prog X.w) X.A (inplaceOp op u w) (fun r s₃=>wpAny (model X.prog X.w) X.A (storeName X.env x r) (fun _=>SP X pins D .next) X.xe s₃) X.xe s₂) X.xe s:=by
  refine thn (he pins s σ H _ I h) fun w s1 ⟨y,H1,I1,r1,q1⟩=>?_
  refine thn (ho pins s1 σ H1 v y u w _ I1 r r1 q1) fun z s2 ⟨zv,H2,I2,r2,q2⟩=>?_
  exact Vc I2 hN hi hx r2 (fun s3 I3=>⟨_,H2,I3,q2⟩) hf
 rcases l with ⟨hk,hm⟩|⟨hk,c,hc,hcell⟩
 ·exact wpAny_loadName_local I.ok.kind hk hn hm go
 ·rcases hk with hk|hk
  ·exact wpAny_loadName_cell I.ok.kind hk hc hcell go
  ·rcases hx with k|k
   ·have:X.env.scope.names.lookup x=some .free:=hk;rw[k] at this;cases this
   ·have:X.env.scope.names.lookup x=some .free:=hk;rw[k] at this;cases this
noncomputable def ipI(f:Int->Int->Int):TIp:=fun x y H Q=>∃i j,x=.int i/\y=.int j/\Q (.int (f i j)) H
theorem JkQ:PIp X .Sub (ipI fun i j=>i-j):=by intro pins s σ H x y v u Q I r1 r2 h;obtain⟨i,j,e1,e2,q⟩:=h;subst e1;subst e2;obtain⟨t,rfl⟩:=r1;obtain⟨t',rfl⟩:=r2;exact isub_int ⟨.int _,H,I.tok _,⟨_,rfl⟩,q⟩
end

section
variable{X:Cx}{pos:Pos}
noncomputable def Jhp(c:TT)(tb:TS):TS:=fun D σ H=>∃W:Nat->St->Hp->Prop,(∃m,W m σ H)/\∀m σ H,W m σ H ->
 c σ H fun b H1=>if b=true then ∃N:St->Hp->Prop,(∀σ' H',N σ' H'->∃m',m'<m/\W m' σ' H')/\tb { D with nx:=N,ct:=N,bk:=D.nx } σ H1 else D.nx σ H1
theorem JgQ{c:Expr}{body:List Stmt}{tc:TT}{tb:TS}(hp:PassesOwn (model X.prog X.w) X.A X.env X.xe)(hc:PT X c tc)(hb:PSs X body tb):PS X (.While c body [] pos) (Jhp tc tb):=by
 intro pins s σ H D I h;obtain⟨W,⟨m0,w0⟩,turn⟩:=h;refine wpAny_While (codeAny_whileLoop (fun n s'=>∃σ' H',Inv X pins σ' H' s'/\W n σ' H') ?_ m0 ⟨σ,H,I,w0⟩);rintro n s1 ⟨σ1,H1,I1,w1⟩;refine wpAny_passesOwn hp (thn (hc pins s1 σ1 H1 _ I1 (turn n σ1 H1 w1)) fun b s2 ⟨H2,I2,q2⟩=>?_)
 cases b with
 | true =>
  obtain⟨N,hN,q2⟩:=q2;rw[if_pos rfl];refine wpAny_passesOwn hp (thn (hb pins s2 σ1 H2 _ I2 q2) fun f s3 q3=>?_)
  cases f with
  | next=>obtain⟨σ3,H3,I3,n3⟩:=q3;obtain⟨m',hm,w3⟩:=hN σ3 H3 n3;exact⟨m',hm,σ3,H3,I3,w3⟩
  | cont=>obtain⟨σ3,H3,I3,n3⟩:=q3;obtain⟨m',hm,w3⟩:=hN σ3 H3 n3;exact⟨m',hm,σ3,H3,I3,w3⟩
  | brk=>exact q3
  | ret v=>exact q3
 | false=>rw[if_neg Bool.false_ne_true];exact wpAny_execs_nil ⟨σ1,H2,I2,q2⟩
end

structure It where
 go:Nat->Hp->Prop
 yld:Nat->Hp->V->Hp->Prop
 stop:Nat->Hp->Prop
noncomputable def FpOk(X:Cx)(pins:List (Addr×Obj))(H:Hp)(b:Addr):Prop :=
 H b=none/\b≠X.env.locals/\b∉X.fs/\(b∈X.ex\/X.s₀.heap.objs.size<=b)/\(∀x c,X.env.cells.lookup x=some c->c≠b)/\∀p∈X.pn++pins,p.1≠b
theorem Inv.fpOk{X:Cx}{pins:List (Addr×Obj)}{σ:St}{H H':Hp}{s:Shared}{b:Addr}(I:Inv X pins σ H s)(hb:s.heap.objs.size<=b)(hn:H' b=none):FpOk X pins H' b:=by
 refine⟨hn,Nat.ne_of_gt (Nat.lt_of_lt_of_le I.lt hb),I.nofs hb,.inr (Nat.le_trans I.sz hb),fun x c e z=>?_,fun p hp z=>?_⟩
 ·obtain⟨v,q⟩:=I.cell x c e;exact absurd (Nat.lt_of_lt_of_le q.lt (by rw[z];exact hb)) (Nat.lt_irrefl _)
 ·exact absurd (Nat.lt_of_lt_of_le (Heap.lt_size (I.pin p hp).1) (by rw[z];exact hb)) (Nat.lt_irrefl _)
structure Turn (P:Program) (w:World) (K:Frag) (tg:Expr) (J:It) (fp:List Addr) (it:Addr) (tn:Nat->Heap->Prop):Prop where
 mem:it∈fp
 obj:∀i h,tn i h->∀b∈fp,∃o,h.get? b=some o/\∀v,o.data≠.cell v
 keep:∀i h h',tn i h->(∀b∈fp,∀o,h.get? b=some o->h'.get? b=some o)->tn i h'
 item:∀(X:Cx),X.prog=P->X.w=w->X.K=K->X.calm=true->∀(i:Nat) (pins:List (Addr×Obj)) (s:Shared) (σ:St) (H:Hp) (E:Value->Shared->Prop),Inv X pins σ H s->(∀b∈fp,FpOk X pins H b)->tn i s.heap->J.go i H ->
  wpAny (model P w) X.A (pyNext (.ref it)) (fun r s1=>∃u,r=some u ∧
   wpAny (model P w) X.A (letOwnedTupleGo tg (.ref it) u) (fun _ s2=>∃x H',Inv X pins σ H' s2/\RelV x u/\J.yld i H x H'/\tn (i+1) s2.heap/\∀b∈fp,H' b=none) E s1) E s
 done:∀(X:Cx),X.prog=P->X.w=w->X.K=K->X.calm=true->∀(i:Nat) (pins:List (Addr×Obj)) (s:Shared) (σ:St) (H:Hp) (E:Value->Shared->Prop),Inv X pins σ H s->(∀b∈fp,FpOk X pins H b)->tn i s.heap->J.stop i H ->
  wpAny (model P w) X.A (pyNext (.ref it)) (fun r s1=>r=none/\Inv X pins σ H s1) E s
 self:∀(A:Around) (i:Nat) (s:Shared) (Q:Value->Shared->Prop) (E:Value->Shared->Prop),tn i s.heap->Q (.ref it) s->wpAny (model P w) A (pyIter (.ref it)) Q E s
noncomputable abbrev TI:=St->Hp->(It->Hp->Prop)->Prop
noncomputable def PIE(X:Cx)(pins:List (Addr×Obj))(σ:St)(tg:Expr)(R:It->Hp->Prop)(itv:Value)(s2:Shared):Prop :=
 ∃(it:Addr) (fp:List Addr) (tn:Nat->Heap->Prop) (J:It) (H':Hp),itv=.ref it/\Inv X pins σ H' s2/\Turn X.prog X.w X.K tg J fp it tn/\tn 0 s2.heap/\(∀b∈fp,FpOk X pins H' b)/\R J H'
noncomputable def PI(X:Cx)(tg iter:Expr)(wi:TI):Prop :=
 ∀(pins:List (Addr×Obj)) (s:Shared) (σ:St) (H:Hp) (R:It->Hp->Prop),Inv X pins σ H s->wi σ H R ->
  wpAny (model X.prog X.w) X.A (eval iter X.env) (fun v s1=>wpAny (model X.prog X.w) X.A (pyIter v) (PIE X pins σ tg R) X.xe s1) X.xe s

theorem Jgb{M:Model}{A:Around}{E:Value->Shared->Prop}{s:Shared}{tg:Expr}{it:Addr}{u:Value}{o:Obj}{n:String}{vs:Array Value}{Q:Unit->Shared->Prop}(ho:s.heap.get? it=some o)(hc:o.cls=.type n)(hd:o.data=.fields vs)
 (hn:["enumerate","zip","dict_itemiterator","dict_reverseitemiterator","odict_iterator","itertools.zip_longest","itertools.pairwise"].contains n=false) (hQ:Q () s):wpAny M A (letOwnedTupleGo tg (.ref it) u) Q E s:=by
 unfold letOwnedTupleGo;cases tg <;> first
  | exact wpAny_pure hQ
  | (cases u <;> first
   | exact wpAny_pure hQ
   | (refine wpAny_bind (wpAny_load ho ?_)
      rw[hc,hd];show wpAny M A (if (["enumerate","zip","dict_itemiterator","dict_reverseitemiterator","odict_iterator","itertools.zip_longest","itertools.pairwise"].contains n && vs[0]? == some (rawInt _))=true then _ else _) Q E s;rw[if_neg (by intro h;rw[hn,Bool.false_and] at h;cases h)];exact wpAny_pure hQ))

noncomputable def Itl(K:Frag)(a:Addr):It :=
 ⟨fun i H=>∃xs x,SqL K H a xs/\xs[i]?=some x,fun i H x H'=>H'=H/\∀xs,SqL K H a xs->xs[i]?=some x,fun i H=>∃xs,SqL K H a xs/\xs.length<=i⟩
noncomputable def Itt(K:Frag)(a:Addr):It :=
 ⟨fun i H=>∃xs x,SqT K H a xs/\xs[i]?=some x,fun i H x H'=>H'=H/\∀xs,SqT K H a xs->xs[i]?=some x,fun i H=>∃xs,SqT K H a xs/\xs.length<=i⟩
noncomputable def Itr(lo:Int)(n:Nat):It:=⟨fun i _=>i<n,fun i H x H'=>H'=H/\x=.int (lo+i),fun i _=>n<=i⟩
theorem Jft{P:Program}{w:World}{K:Frag}{tg:Expr}(a it:Addr):Turn P w K tg (Itl K a) [it] it (fun i h=>h.IsListIter it a i) where
 mem:=by simp
 obj:=fun i h st b hb=>by
  have e:b=it:=by simpa using hb
  subst e;obtain⟨o,e,c,d⟩:=st;exact⟨o,e,fun v z=>by rw[d] at z;cases z⟩
 keep:=fun i h h' st k=>st.at fun o e=>k it (by simp) o e
 item:=by
  intro X hP hw hK hc i pins s σ H E I hf st hg;subst hP hw hK;obtain⟨xs,x,hq,hx⟩:=hg;obtain⟨its,rv,p,hz⟩:=I.list hq;obtain⟨u,hu,ru⟩:=rv.get hx;obtain⟨f0,f1,f2,f3,f4,f5⟩:=hf it (by simp);refine wpAny_pyNext_list_item st p.isList (x:=u) (by simpa using hu) fun h' st' sb=>?_
  have I1:Inv X pins σ H { s with heap:=h' }:=I.turned (t':=s.toks) (fun b o hb e=>(sb.2 b hb).trans e) f0 f1 f3 f4 f5;obtain⟨o,e,c,d⟩:=id st';exact⟨u,rfl,Jgb (s:={ s with heap:=h' }) e c d (by decide) ⟨x,H,I1,ru,⟨rfl,fun ys hy=>by rw[I.list_inj hy hq];exact hx⟩,st',fun b hb=>(hf b hb).1⟩⟩
 done:=by intro X hP hw hK hc i pins s σ H E I hf st hg;subst hP hw hK;obtain⟨xs,hq,hx⟩:=hg;obtain⟨its,rv,p,hz⟩:=I.list hq;obtain⟨f0,f1,f2,f3,f4,f5⟩:=hf it (by simp);have hl:=rv.length;exact wpAny_pyNext_list_end (I.ok.hd hc) st p.isList (by simp;omega) fun h' eb=>⟨rfl,I.turned (t':=s.toks) (fun b o hb e=>eb b o hb e) f0 f1 f3 f4 f5⟩
 self:=fun _ _ _ _ _ st h=>wpAny_pyIter_listiter st h
theorem Jdg{P:Program}{w:World}{K:Frag}{tg:Expr}(a it:Addr):Turn P w K tg (Itt K a) [it] it (fun i h=>h.IsTupleIter it a i) where
 mem:=by simp
 obj:=fun i h st b hb=>by
  have e:b=it:=by simpa using hb
  subst e;obtain⟨o,e,c,d⟩:=st;exact⟨o,e,fun v z=>by rw[d] at z;cases z⟩
 keep:=fun i h h' st k=>st.at fun o e=>k it (by simp) o e
 item:=by
  intro X hP hw hK hc i pins s σ H E I hf st hg;subst hP hw hK;obtain⟨xs,x,hq,hx⟩:=hg;obtain⟨its,rv,p,hz⟩:=I.tuple hq;obtain⟨u,hu,ru⟩:=rv.get hx;obtain⟨f0,f1,f2,f3,f4,f5⟩:=hf it (by simp);refine wpAny_pyNext_tuple_item st (show s.heap.IsTuple a its.toArray from p) (x:=u) (by simpa using hu) fun h' st' sb=>?_
  have I1:Inv X pins σ H { s with heap:=h' }:=I.turned (t':=s.toks) (fun b o hb e=>(sb.2 b hb).trans e) f0 f1 f3 f4 f5;obtain⟨o,e,c,d⟩:=id st';exact⟨u,rfl,Jgb (s:={ s with heap:=h' }) e c d (by decide) ⟨x,H,I1,ru,⟨rfl,fun ys hy=>by rw[I.tuple_inj hy hq];exact hx⟩,st',fun b hb=>(hf b hb).1⟩⟩
 done:=by intro X hP hw hK hc i pins s σ H E I hf st hg;subst hP hw hK;obtain⟨xs,hq,hx⟩:=hg;obtain⟨its,rv,p,hz⟩:=I.tuple hq;obtain⟨f0,f1,f2,f3,f4,f5⟩:=hf it (by simp);have hl:=rv.length;exact wpAny_pyNext_tuple_end (I.ok.hd hc) st (show s.heap.IsTuple a its.toArray from p) (by simp;omega) fun h' eb=>⟨rfl,I.turned (t':=s.toks) (fun b o hb e=>eb b o hb e) f0 f1 f3 f4 f5⟩
 self:=fun _ _ _ _ _ st h=>wpAny_pyIter_tupleiter st h
theorem Jdf{P:Program}{w:World}{K:Frag}{tg:Expr}(it:Addr)(lo:Int)(n:Nat):Turn P w K tg (Itr lo n) [it] it (fun i h=>IsRangeIter h it (lo+(i:Nat)*1) ((n:Int)-(i:Nat)) 1) where
 mem:=by simp
 obj:=fun i h st b hb=>by
  have e:b=it:=by simpa using hb
  subst e;exact⟨_,st,fun v z=>by have z':Data.fields _=Data.cell v:=z;cases z'⟩
 keep:=fun i h h' st k=>k it (by simp) _ st
 item:=by
  intro X hP hw hK hc i pins s σ H E I hf st hg;subst hP hw hK;obtain⟨f0,f1,f2,f3,f4,f5⟩:=hf it (by simp);have W:=Walks.range (prog:=X.prog) (w:=X.w) (I.ok.hd hc) it lo 1 n;refine W.item i s _ _ hg st fun v h' tk hv st' kk=>?_
  obtain⟨t,rfl⟩:=hv;have I1:Inv X pins σ H { s with heap:=h',toks:=tk }:=I.turned (fun b o hb e=>kk b o (by simpa using hb) e) f0 f1 f3 f4 f5;refine⟨_,rfl,Jgb (s:={ s with heap:=h',toks:=tk }) (n:="range_iterator") st' rfl rfl (by decide) ⟨.int (lo+i),H,I1,⟨t,?_⟩,⟨rfl,rfl⟩,st',fun b hb=>(hf b hb).1⟩⟩;rw[Int.mul_one]
 done:=by intro X hP hw hK hc i pins s σ H E I hf st hg;subst hP hw hK;obtain⟨f0,f1,f2,f3,f4,f5⟩:=hf it (by simp);exact wpAny_pyNext_range_end (I.ok.hd hc) st (by have:n<=i:=hg;omega) fun h' eb=>⟨rfl,I.turned (t':=s.toks) (fun b o hb e=>eb b o hb e) f0 f1 f3 f4 f5⟩
 self:=fun _ _ _ _ _ st h=>wpAny_pyIter_rangeiter st h
end L2

namespace L2
open PySem PySem.Spec PyProof.Rows
section
variable{X:Cx}{tg:Expr}
noncomputable def JjS(K:Frag)(tl:TE):TI:=fun σ H R=>tl σ H fun x H1=>∃a,x=.ref a/\(∃xs,SqL K H1 a xs)/\R (Itl K a) H1
noncomputable def Jm1(K:Frag)(tl:TE):TI:=fun σ H R=>tl σ H fun x H1=>∃a,x=.ref a/\(∃xs,SqT K H1 a xs)/\R (Itt K a) H1
theorem JiP{l:Expr}{tl:TE}(hl:PE X l tl):PI X tg l (JjS X.K tl):=by
 intro pins s σ H R I h;refine thn (hl pins s σ H _ I h) fun v s1 ⟨x,H1,I1,r1,q1⟩=>?_
 obtain⟨a,e,⟨xs,hq⟩,q⟩:=q1;subst e;cases r1;obtain⟨its,rv,p,hz⟩:=I1.list hq;refine wpAny_pyIter_list p.isList ?_;refine⟨s1.heap.objs.size,[s1.heap.objs.size],_,_,H1,rfl,I1.kept (t':=s1.toks) fun b o e=>Heap.get?_push_of_some _ e,Jft a _,⟨_,Heap.get?_push_size _ rfl,rfl,rfl⟩,fun b hb=>?_,q⟩;have e:b=s1.heap.objs.size:=by simpa using hb
 subst e;exact I1.fpOk (Nat.le_refl _) (I1.hok.fresh (Nat.le_refl _))
theorem JlA{l:Expr}{tl:TE}(hl:PE X l tl):PI X tg l (Jm1 X.K tl):=by
 intro pins s σ H R I h;refine thn (hl pins s σ H _ I h) fun v s1 ⟨x,H1,I1,r1,q1⟩=>?_
 obtain⟨a,e,⟨xs,hq⟩,q⟩:=q1;subst e;cases r1;obtain⟨its,rv,p,hz⟩:=I1.tuple hq;refine wpAny_pyIter_tuple (show s1.heap.IsTuple a its.toArray from p) ?_;refine⟨s1.heap.objs.size,[s1.heap.objs.size],_,_,H1,rfl,I1.kept (t':=s1.toks) fun b o e=>Heap.get?_push_of_some _ e,Jdg a _,⟨_,Heap.get?_push_size _ rfl,rfl,rfl⟩,fun b hb=>?_,q⟩;have e:b=s1.heap.objs.size:=by simpa using hb
 subst e;exact I1.fpOk (Nat.le_refl _) (I1.hok.fresh (Nat.le_refl _))
theorem Jb3{pins:List (Addr×Obj)}{σ:St}{H:Hp}{s:Shared}{R:It->Hp->Prop}{E:Value->Shared->Prop}{lo hi:Int}{t u v:Tok}{tk:Nat}(I:Inv X pins σ H s)(h1:-(2 ^ 62)<=lo)(h2:lo<2 ^ 62)(h3:-(2 ^ 62)<=hi)(h4:hi<2 ^ 62)
 (q:R (Itr lo (hi-lo).toNat) H):wpAny (model X.prog X.w) X.A (pyIter (.ref s.heap.objs.size)) (PIE X pins σ tg R) E { s with heap:=s.heap.push { cls:=.type "range",data:=.fields #[.int lo t,.int hi u,.int 1 v] },toks:=tk }:=by
 refine wpAny_pyIter_range (IsRange.new ..) (small_one h1 h2 h3 h4) ?_;have I1:Inv X pins σ H { s with heap:=s.heap.push { cls:=.type "range",data:=.fields #[.int lo t,.int hi u,.int 1 v] },toks:=tk }:=I.kept fun b o e=>Heap.get?_push_of_some _ e
 refine⟨(s.heap.push { cls:=.type "range",data:=.fields #[.int lo t,.int hi u,.int 1 v] }).objs.size,[(s.heap.push { cls:=.type "range",data:=.fields #[.int lo t,.int hi u,.int 1 v] }).objs.size],_,_,H,rfl,
  I1.kept (t':=tk) fun b o e=>Heap.get?_push_of_some _ e,Jdf _ lo (hi-lo).toNat,?_,fun b hb=>?_,q⟩
 ·have e1:lo+((0:Nat):Int)*1=lo:=by simp
  have e2:(((hi-lo).toNat:Nat):Int)-((0:Nat):Int)=Builtin.Range.rangeSize lo hi 1:=by rw[rangeSize_one];split <;> omega
  show IsRangeIter _ _ (lo+((0:Nat):Int)*1) ((((hi-lo).toNat:Nat):Int)-((0:Nat):Int)) 1;rw[e1,e2];exact Heap.get?_push_size _ rfl
 ·have e:b=(s.heap.push { cls:=.type "range",data:=.fields #[.int lo t,.int hi u,.int 1 v] }).objs.size:=by simpa using hb
  subst e;exact I1.fpOk (Nat.le_refl _) (I1.hok.fresh (Nat.le_refl _))
noncomputable def JjT(ta:TA):TI:=fun σ H R=>ta σ H fun vs H1=>∃j:Int,vs=[.int j]/\-(2 ^ 62)<=j/\j<2 ^ 62/\R (Itr 0 j.toNat) H1
noncomputable def JjU(ta:TA):TI:=fun σ H R=>ta σ H fun vs H1=>∃i j:Int,vs=[.int i,.int j]/\(-(2 ^ 62)<=i/\i<2 ^ 62/\-(2 ^ 62)<=j/\j<2 ^ 62)/\R (Itr i (j-i).toNat) H1
theorem UN{a:Expr}{ta:TA}{p pos:Pos}(hg:Gl X "range")(hm:X.mg "range"=none)(ha:PA X [a] ta)(hs:starEach [a] X.env=[(false,eval a X.env)]:=by rfl):PI X tg (.Call (.Name "range" p) [a] [] pos) (JjT ta):=by
 intro pins s σ H R I h;refine Call_ (U5 I hg hm boot_range (PyProof.Rows.callWith_type1 (thn (ha pos pins s σ H _ I h) fun us s1 ⟨vs,H1,I1,r1,q1⟩=>?_) hs rfl));obtain⟨j,e,q1,q2,q⟩:=q1;subst e
 cases r1 with
 | cons r rr=>cases rr;obtain⟨t,rfl⟩:=r;exact call_range_1 (Jb3 I1 (by omega) (by omega) q1 q2 (by simpa using q))
theorem Jah{a b:Expr}{ta:TA}{p pos:Pos}(hg:Gl X "range")(hm:X.mg "range"=none)(ha:PA X [a,b] ta)(hs:starEach [a,b] X.env=[(false,eval a X.env),(false,eval b X.env)]:=by rfl)(hs2:starEach [b] X.env=[(false,eval b X.env)]:=by rfl) :
 PI X tg (.Call (.Name "range" p) [a,b] [] pos) (JjU ta):=by
 intro pins s σ H R I h;refine Call_ (U5 I hg hm boot_range (PyProof.Rows.callWith_type1 (thn (ha pos pins s σ H _ I h) fun us s1 ⟨vs,H1,I1,r1,q1⟩=>?_) (by rw[hs,hs2]) (by rw[hs2];rfl)));obtain⟨i,j,e,⟨q1,q2,q3,q4⟩,q⟩:=q1;subst e
 cases r1 with
 | cons r rr =>
  cases rr with
  | cons r' rr=>cases rr;obtain⟨t,rfl⟩:=r;obtain⟨t',rfl⟩:=r';exact call_range_2 (Jb3 I1 q1 q2 q3 q4 q)

noncomputable def Jmk(wi:TI)(g:TG)(tb:TS):TS:=fun D σ H=>wi σ H fun J H1=>∃W:Nat->Nat->St->Hp->Prop,(∃m,W 0 m σ H1)/\∀i m σ H,W i m σ H ->
 (J.stop i H/\D.nx σ H)\/(J.go i H/\∃N:St->Hp->Prop,(∀σ' H',N σ' H'->∃m',m'<m/\W (i+1) m' σ' H')/\∀x H',J.yld i H x H'->g x σ H' fun σ2 H2=>tb { D with nx:=N,ct:=N,bk:=D.nx } σ2 H2)
noncomputable def Zo(fp:List Addr)(h:Heap):List (Addr×Obj):=fp.filterMap fun b=>(h.get? b).map fun o=>(b,o)
theorem Vz{fp:List Addr}{h:Heap}{b:Addr}{o:Obj}(hb:b∈fp)(e:h.get? b=some o):(b,o)∈Zo fp h:=List.mem_filterMap.mpr ⟨b,hb,by rw[e];rfl⟩
theorem Jfd{fp:List Addr}{h:Heap}{p:Addr×Obj}(hp:p∈Zo fp h):p.1∈fp/\h.get? p.1=some p.2:=by
 obtain⟨b,hb,e⟩:=List.mem_filterMap.mp hp
 cases q:h.get? b with
 | none=>rw[q] at e;cases e
 | some o=>rw[q] at e;have e':(b,o)=p:=Option.some.inj e;subst e';exact⟨hb,q⟩
theorem Inv.pinned{pins:List (Addr×Obj)}{σ:St}{H:Hp}{s:Shared}{fp:List Addr}(I:Inv X pins σ H s)(hf:∀b∈fp,FpOk X pins H b)(ho:∀b∈fp,∃o,s.heap.get? b=some o/\∀v,o.data≠.cell v):Inv X (pins++Zo fp s.heap) σ H s :=
 I.pins_of fun p hp=>(List.mem_append.mp hp).elim (fun z=>I.pin p (List.mem_append_right _ z)) fun z=>by obtain⟨hb,e⟩:=Jfd z;obtain⟨f0,f1,f2,_⟩:=hf p.1 hb;obtain⟨o,e',d⟩:=ho p.1 hb;rw[e] at e';cases e';exact⟨e,f0,f1,f2,d⟩
theorem Inv.unpinned{pins pl:List (Addr×Obj)}{σ:St}{H:Hp}{s:Shared}(I:Inv X (pins++pl) σ H s):Inv X pins σ H s:=I.pins_of fun p hp=>I.pin p (List.mem_append_right _ (List.mem_append_left _ hp))
theorem Y1{iter:Expr}{body:List Stmt}{wi:TI}{g:TG}{tb:TS}{pos:Pos}(hp:PassesOwn (model X.prog X.w) X.A X.env X.xe)(hc:X.calm=true)(hi:PI X tg iter wi)(hg:PG X tg g)(hb:PSs X body tb)
 (hs:∀x,foldedSetIterable iter X.env x=pure x:=by intro _;rfl):PS X (.For tg iter body [] pos) (Jmk wi g tb):=by
 intro pins s σ H D I h;refine wpAny_For (thn (hi pins s σ H _ I h) fun v s1 h1=>thn h1 fun itv s2 h2=>?_) hs;obtain⟨it,fp,tn,J,H2,e,I2,T,st2,f2,W,⟨m0,w0⟩,turn⟩:=h2;subst e
 -- what stays true of the iterator's objects through the loop
 have stat:∀{H':Hp},(∀b∈fp,H' b=none)->∀b∈fp,FpOk X pins H' b:=fun hn b hb=>⟨hn b hb,(f2 b hb).2⟩
 refine codeAny_forLoop_any (fun n s'=>∃i σ' H',Inv X pins σ' H' s'/\tn i s'.heap/\(∀b∈fp,H' b=none)/\W i n σ' H') ?_ m0 ⟨0,σ,H2,I2,st2,fun b hb=>(f2 b hb).1,w0⟩;rintro n s3 ⟨i,σ3,H3,I3,st3,fr3,w3⟩;rcases turn i n σ3 H3 w3 with ⟨stop,qn⟩|⟨go,N,hN,step⟩
 ·refine wpAny_passesOwn hp (thn (T.done X rfl rfl rfl hc i pins s3 σ3 H3 X.xe I3 (stat fr3) st3 stop) fun r s4 ⟨hr,I4⟩=>?_);subst hr;exact wpAny_execs_nil ⟨σ3,H3,I4,qn⟩
 ·refine wpAny_passesOwn hp (thn (T.item X rfl rfl rfl hc i pins s3 σ3 H3 X.xe I3 (stat fr3) st3 go) fun r s4 ⟨u,hr,h4⟩=>?_);subst hr;refine wpAny_passesOwn hp (thn h4 fun _ s5 ⟨x,H5,I5,r5,y5,st5,fr5⟩=>?_);have I5':=I5.pinned (stat fr5) (T.obj _ _ st5);refine wpAny_passesOwn hp (thn (hg _ s5 σ3 H5 x u _ I5' r5 (step x H5 y5)) fun _ s6 ⟨σ6,H6,I6,q6⟩=>?_);refine wpAny_passesOwn hp (thn (hb _ s6 σ6 H6 _ I6 q6) fun f s7 q7=>?_)
  have again:∀{σ7:St} {H7:Hp},Inv X (pins++Zo fp s5.heap) σ7 H7 s7->N σ7 H7->∃m,m<n/\∃i σ' H',Inv X pins σ' H' s7/\tn i s7.heap/\(∀b∈fp,H' b=none)/\W i m σ' H':=fun {σ7 H7} I7 n7=>by obtain⟨m',hm,w7⟩:=hN σ7 H7 n7;refine⟨m',hm,i+1,σ7,H7,I7.unpinned,T.keep _ _ _ st5 fun b hb o e=>(I7.pin (b,o) (List.mem_append_right _ (List.mem_append_right _ (Vz hb e)))).1,fun b hb=>?_,w7⟩;obtain⟨o,e,d⟩:=T.obj _ _ st5 b hb;exact(I7.pin (b,o) (List.mem_append_right _ (List.mem_append_right _ (Vz hb e)))).2.1
  cases f with
  | next=>obtain⟨σ7,H7,I7,n7⟩:=q7;exact again I7 n7
  | cont=>obtain⟨σ7,H7,I7,n7⟩:=q7;exact again I7 n7
  | brk=>obtain⟨σ7,H7,I7,q7⟩:=q7;exact⟨σ7,H7,I7.unpinned,q7⟩
  | ret v=>obtain⟨x7,σ7,H7,I7,r7,q7⟩:=q7;exact⟨x7,σ7,H7,I7.unpinned,r7,q7⟩
end

theorem Jf7{K:Frag}{a:Addr}{xs:List V}{g:TG}{tb:TS}{D:Ends}{σ:St}{H:Hp}(Pv:Nat->St->Hp->Prop)(h0:Pv 0 σ H)(hl:∀i σ H,i<=xs.length->Pv i σ H->SqL K H a xs)
 (hs:∀i x σ H,xs[i]?=some x->Pv i σ H->g x σ H fun σ2 H2=>tb { D with nx:=Pv (i+1),ct:=Pv (i+1),bk:=D.nx } σ2 H2) (hd:∀σ H,Pv xs.length σ H->D.nx σ H) :
 ∃W:Nat->Nat->St->Hp->Prop,(∃m,W 0 m σ H)/\∀i m σ H,W i m σ H ->
  ((Itl K a).stop i H/\D.nx σ H)\/((Itl K a).go i H/\∃N:St->Hp->Prop,(∀σ' H',N σ' H'->∃m',m'<m/\W (i+1) m' σ' H')/\∀x H',(Itl K a).yld i H x H'->g x σ H' fun σ2 H2=>tb { D with nx:=N,ct:=N,bk:=D.nx } σ2 H2):=by
 refine⟨fun i m σ H=>m=xs.length-i/\i<=xs.length/\Pv i σ H,⟨xs.length,by simp,Nat.zero_le _,h0⟩,?_⟩;rintro i m σ H ⟨rfl,hi,p⟩;have q:=hl i σ H hi p
 by_cases hlt:i<xs.length
 ·refine .inr ⟨⟨xs,xs[i],q,by simp[hlt]⟩,Pv (i+1),fun σ' H' p'=>⟨xs.length-(i+1),by omega,rfl,hlt,p'⟩,fun x H' y=>?_⟩;obtain⟨e,y⟩:=y;subst e;exact hs i x σ _ (y xs q) p
 ·have e:i=xs.length:=by omega
  subst e;exact .inl ⟨⟨xs,q,Nat.le_refl _⟩,hd σ H p⟩
theorem Jiq{K:Frag}{a:Addr}{xs:List V}{g:TG}{tb:TS}{D:Ends}{σ:St}{H:Hp}(Pv:Nat->St->Hp->Prop)(h0:Pv 0 σ H)(hl:∀i σ H,i<=xs.length->Pv i σ H->SqT K H a xs)
 (hs:∀i x σ H,xs[i]?=some x->Pv i σ H->g x σ H fun σ2 H2=>tb { D with nx:=Pv (i+1),ct:=Pv (i+1),bk:=D.nx } σ2 H2) (hd:∀σ H,Pv xs.length σ H->D.nx σ H) :
 ∃W:Nat->Nat->St->Hp->Prop,(∃m,W 0 m σ H)/\∀i m σ H,W i m σ H ->
  ((Itt K a).stop i H/\D.nx σ H)\/((Itt K a).go i H/\∃N:St->Hp->Prop,(∀σ' H',N σ' H'->∃m',m'<m/\W (i+1) m' σ' H')/\∀x H',(Itt K a).yld i H x H'->g x σ H' fun σ2 H2=>tb { D with nx:=N,ct:=N,bk:=D.nx } σ2 H2):=by
 refine⟨fun i m σ H=>m=xs.length-i/\i<=xs.length/\Pv i σ H,⟨xs.length,by simp,Nat.zero_le _,h0⟩,?_⟩;rintro i m σ H ⟨rfl,hi,p⟩;have q:=hl i σ H hi p
 by_cases hlt:i<xs.length
 ·refine .inr ⟨⟨xs,xs[i],q,by simp[hlt]⟩,Pv (i+1),fun σ' H' p'=>⟨xs.length-(i+1),by omega,rfl,hlt,p'⟩,fun x H' y=>?_⟩;obtain⟨e,y⟩:=y;subst e;exact hs i x σ _ (y xs q) p
 ·have e:i=xs.length:=by omega
  subst e;exact .inl ⟨⟨xs,q,Nat.le_refl _⟩,hd σ H p⟩
end L2

namespace L2
open PySem PySem.Spec PyProof.Rows

noncomputable abbrev R2:=V->V->Hp->VK->Prop
noncomputable def OpR(X:Cx)(f:Value->Value->Sem Value)(r:R2):Prop :=
 ∀(pins:List (Addr×Obj)) (s:Shared) (σ:St) (H:Hp) (x y:V) (v u:Value) (Q:VK),Inv X pins σ H s->RelV x v->RelV y u->r x y H Q ->
  wpAny (model X.prog X.w) X.A (f v u) (EP X pins σ Q) X.xe s
noncomputable def UnR(X:Cx)(f:Value->Sem Value)(r:V->Hp->VK->Prop):Prop :=
 ∀(pins:List (Addr×Obj)) (s:Shared) (σ:St) (H:Hp) (x:V) (v:Value) (Q:VK),Inv X pins σ H s->RelV x v->r x H Q ->
  wpAny (model X.prog X.w) X.A (f v) (EP X pins σ Q) X.xe s
noncomputable def CallR(X:Cx)(f:Value)(r:List V->Hp->VK->Prop):Prop :=
 ∀(pins:List (Addr×Obj)) (s:Shared) (σ:St) (H:Hp) (xs:List V) (us:List Value) (Q:VK),Inv X pins σ H s->Vals xs us->r xs H Q ->
  wpAny (model X.prog X.w) X.A (call f us) (EP X pins σ Q) X.xe s
noncomputable def JnI(X:Cx)(r:V->Hp->(Bool->Hp->Prop)->Prop):Prop :=
 ∀(pins:List (Addr×Obj)) (s:Shared) (σ:St) (H:Hp) (x:V) (v:Value) (Q:Bool->Hp->Prop),Inv X pins σ H s->RelV x v->r x H Q ->
  wpAny (model X.prog X.w) X.A (truthy v) (TP X pins σ Q) X.xe s

noncomputable def tOp(r:R2)(ta tb:TE):TE:=fun σ H Q=>ta σ H fun x H1=>tb σ H1 fun y H2=>r x y H2 Q
noncomputable def tUn(r:V->Hp->VK->Prop)(ta:TE):TE:=fun σ H Q=>ta σ H fun x H1=>r x H1 Q
noncomputable def rI(C:Int->Int->Prop)(g:Int->Int->V):R2:=fun x y H Q=>∃i j,x=.int i/\y=.int j/\C i j/\Q (g i j) H
noncomputable def rI0(g:Int->Int->V):R2:=fun x y H Q=>∃i j,x=.int i/\y=.int j/\Q (g i j) H
noncomputable def rU(g:Int->V):V->Hp->VK->Prop:=fun x H Q=>∃i,x=.int i/\Q (g i) H

section
variable{X:Cx}{a b c:Expr}{ta tb tc:TE}{pos:Pos}

theorem Jki(ha:PE X a ta)(hb:PE X b tb){pins:List (Addr×Obj)}{s:Shared}{σ:St}{H:Hp}{R:V->V->Hp->Prop}(I:Inv X pins σ H s)
 (h:ta σ H fun x H1=>tb σ H1 fun y H2=>R x y H2) {Q:Value->Shared->Prop} {f:Value->Value->Sem Value}
 (hf:∀v u s2 x y H2,Inv X pins σ H2 s2->RelV x v->RelV y u->R x y H2->wpAny (model X.prog X.w) X.A (f v u) Q X.xe s2) :
 wpAny (model X.prog X.w) X.A (eval a X.env) (fun v s₁=>wpAny (model X.prog X.w) X.A (eval b X.env) (fun u s₂=>wpAny (model X.prog X.w) X.A (f v u) Q X.xe s₂) X.xe s₁) X.xe s:=by
 refine thn (ha pins s σ H _ I h) fun v s1 ⟨x,H1,I1,r1,q1⟩=>?_
 refine thn (hb pins s1 σ H1 _ I1 q1) fun u s2 ⟨y,H2,I2,r2,q2⟩=>?_
 exact hf v u s2 x y H2 I2 r1 r2 q2

theorem Jq{op:Operator}{r:R2}(ho:OpR X (binaryOp op) r)(ha:PE X a ta)(hb:PE X b tb):PE X (.BinOp a op b pos) (tOp r ta tb):=by intro pins s σ H Q I h;exact wpAny_BinOp (Jki ha hb I h fun v u s2 x y H2 I2 rx ry q=>ho pins s2 σ H2 x y v u Q I2 rx ry q)
theorem Zm{op:UnaryOp}{r:V->Hp->VK->Prop}(ho:UnR X (unaryOp op) r)(ha:PE X a ta):PE X (.UnaryOp op a pos) (tUn r ta):=by intro pins s σ H Q I h;exact UnaryOp_ (thn (ha pins s σ H _ I h) fun v s1 ⟨x,H1,I1,r1,q1⟩=>ho pins s1 σ H1 x v Q I1 r1 q1)
theorem opI{f:Value->Value->Sem Value}{C:Int->Int->Prop}{g:Int->Int->Int}
 (rule:∀(i j:Int) (t u:Tok) (s:Shared) (Q:Value->Shared->Prop) (E:Value->Shared->Prop),C i j->Q (.int (g i j) s.toks) { s with toks:=s.toks+1 }->wpAny (model X.prog X.w) X.A (f (.int i t) (.int j u)) Q E s) :
 OpR X f (rI C fun i j=>.int (g i j)):=by
 intro pins s σ H x y v u Q I rx ry h;obtain⟨i,j,rfl,rfl,hc,q⟩:=h;obtain⟨t,rfl⟩:=rx;obtain⟨t',rfl⟩:=ry;exact rule i j t t' s _ _ hc ⟨.int (g i j),H,I.tok _,⟨_,rfl⟩,q⟩
theorem Jm8{f:Value->Value->Sem Value}{g:Int->Int->Int}
 (rule:∀(i j:Int) (t u:Tok) (s:Shared) (Q:Value->Shared->Prop) (E:Value->Shared->Prop),Q (.int (g i j) s.toks) { s with toks:=s.toks+1 }->wpAny (model X.prog X.w) X.A (f (.int i t) (.int j u)) Q E s) :
 OpR X f (rI0 fun i j=>.int (g i j)):=by
 intro pins s σ H x y v u Q I rx ry h;obtain⟨i,j,rfl,rfl,q⟩:=h;obtain⟨t,rfl⟩:=rx;obtain⟨t',rfl⟩:=ry;exact rule i j t t' s _ _ ⟨.int (g i j),H,I.tok _,⟨_,rfl⟩,q⟩
theorem Jlk{f:Value->Value->Sem Value}{g:Int->Int->Bool}
 (rule:∀(i j:Int) (t u:Tok) (s:Shared) (Q:Value->Shared->Prop) (E:Value->Shared->Prop),Q (.bool (g i j)) s->wpAny (model X.prog X.w) X.A (f (.int i t) (.int j u)) Q E s) :
 OpR X f (rI0 fun i j=>.bl (g i j)):=by
 intro pins s σ H x y v u Q I rx ry h;obtain⟨i,j,rfl,rfl,q⟩:=h;obtain⟨t,rfl⟩:=rx;obtain⟨t',rfl⟩:=ry;exact rule i j t t' s _ _ ⟨.bl (g i j),H,I,rfl,q⟩

noncomputable def JmA(i j:Int):Prop:=0<j/\j<1073741824
noncomputable def CMul(i j:Int):Prop:=(-(2 ^ 64)<i/\i<2 ^ 64)\/(-(2 ^ 64)<j/\j<2 ^ 64)
theorem CMul.ok{i j:Int}(h:CMul i j):IntMulOk i j:=by
 rcases h with ⟨h1,h2⟩|⟨h1,h2⟩
 ·exact .of_left (intBits_le_64 h1 h2)
 ·exact .of_right (intBits_le_64 h1 h2)
theorem op_add:OpR X (binaryOp .Add) (rI0 fun i j=>.int (i+j)):=Jm8 fun _ _ _ _ _ _ _ q=>add_int q
theorem Y0:OpR X (binaryOp .Sub) (rI0 fun i j=>.int (i-j)):=Jm8 fun _ _ _ _ _ _ _ q=>sub_int q
theorem Wi:OpR X (binaryOp .Mult) (rI CMul fun i j=>.int (i*j)):=opI fun _ _ _ _ _ _ _ hc q=>mul_int q hc.ok
theorem WK:OpR X (binaryOp .FloorDiv) (rI JmA fun i j=>.int (i / j)):=opI fun i j _ _ _ _ _ hc q=>by
 have h1:(0:Int)<j:=hc.1
 have h2:j<1073741824:=hc.2;exact floordiv_int (by omega) (by rw[Int.fdiv_eq_ediv_of_nonneg i (by omega)];exact q) (.inl (PyProof.noPylong_small (by omega)))
theorem UF:OpR X (binaryOp .Mod) (rI (fun _ j=>0<j) fun i j=>.int (i % j)):=opI fun i j _ _ _ _ _ hc q=>by have h1:(0:Int)<j:=hc;exact mod_int' (by omega) (by rw[Int.fmod_eq_emod_of_nonneg i (by omega)];exact q)
theorem unI{f:Value->Sem Value}{g:Int->Int}
 (rule:∀(i:Int) (t:Tok) (s:Shared) (Q:Value->Shared->Prop) (E:Value->Shared->Prop),Q (.int (g i) s.toks) { s with toks:=s.toks+1 }->wpAny (model X.prog X.w) X.A (f (.int i t)) Q E s) :
 UnR X f (rU fun i=>.int (g i)):=by
 intro pins s σ H x v Q I rx h;obtain⟨i,rfl,q⟩:=h;obtain⟨t,rfl⟩:=rx;exact rule i t s _ _ ⟨.int (g i),H,I.tok _,⟨_,rfl⟩,q⟩
theorem VC:UnR X (unaryOp .USub) (rU fun i=>.int (-i)):=unI fun _ _ _ _ _ q=>neg_int q
end

noncomputable def Jmf:V->V->Bool
 | .non,.non=>true|.non,.int _=>true|.int _,.non=>true|.non,.bl _=>true|.bl _,.non=>true|.non,.str _=>true|.str _,.non=>true
 | .int _,.int _=>true|.bl _,.bl _=>true|.str _,.str _=>true|.byt _,.byt _=>true
 | .int _,.str _=>true|.str _,.int _=>true|.bl _,.str _=>true|.str _,.bl _=>true
 | _,_=>false
noncomputable def rEq:R2:=fun x y H Q=>Jmf x y=true/\Q (.bl (decide (x=y))) H
noncomputable def rNe:R2:=fun x y H Q=>Jmf x y=true/\Q (.bl (!decide (x=y))) H

theorem Jdy{i j:Int}:decide (V.int i=V.int j)=(i == j):=by rw[Bool.eq_iff_iff];simp
theorem JfQ{i j:Bool}:decide (V.bl i=V.bl j)=(i == j):=by rw[Bool.eq_iff_iff];simp
theorem Jdz{i j:Str}:decide (V.str i=V.str j)=(i == j):=by rw[Bool.eq_iff_iff];simp
theorem Jdx{i j:Array UInt8}:decide (V.byt i=V.byt j)=(i.toList == j.toList):=by rw[Bool.eq_iff_iff];cases i;cases j;simp

section
variable{X:Cx}{a b c:Expr}{ta tb tc:TE}{pos:Pos}
theorem JK{pins:List (Addr×Obj)}{σ:St}{H:Hp}{s:Shared}{Q:VK}{k k':Bool}(I:Inv X pins σ H s)(q:Q (.bl k) H)(e:k=k'):EP X pins σ Q (.bool k') s:=by subst e;exact⟨.bl k,H,I,rfl,q⟩
theorem op_eq:OpR X (compareOp .Eq) rEq:=by
 intro pins s σ H x y v u Q I rx ry h;obtain⟨hs,q⟩:=h
 cases x with
 | non =>
  cases rx
  cases y with
  | non=>cases ry;exact PySem.EqNone.eq_none_none (JK I q (by simp))
  | bl j=>cases ry;exact PySem.EqNone.eq_none_bool (JK I q (by simp))
  | int j=>obtain⟨t',rfl⟩:=ry;exact PySem.EqNone.eq_none_int (JK I q (by simp))
  | str j=>obtain⟨t',rfl⟩:=ry;exact PySem.EqNone.eq_none_str (JK I q (by simp))
  | _=>exact absurd (show false=true from hs) Bool.false_ne_true
 | bl i =>
  cases rx
  cases y with
  | non=>cases ry;exact PySem.EqNone.eq_bool_none (JK I q (by simp))
  | bl j=>cases ry;exact eq_bool (JK I q JfQ)
  | str j=>obtain⟨t',rfl⟩:=ry;exact PySem.EqMixed.eq_bool_str (JK I q (by simp))
  | _=>exact absurd (show false=true from hs) Bool.false_ne_true
 | int i =>
  obtain⟨t,rfl⟩:=rx
  cases y with
  | non=>cases ry;exact PySem.EqNone.eq_int_none (JK I q (by simp))
  | int j=>obtain⟨t',rfl⟩:=ry;exact eq_int (JK I q Jdy)
  | str j=>obtain⟨t',rfl⟩:=ry;exact PySem.EqMixed.eq_int_str (JK I q (by simp))
  | _=>exact absurd (show false=true from hs) Bool.false_ne_true
 | str i =>
  obtain⟨t,rfl⟩:=rx
  cases y with
  | non=>cases ry;exact PySem.EqNone.eq_str_none (JK I q (by simp))
  | bl j=>cases ry;exact PySem.EqMixed.eq_str_bool (JK I q (by simp))
  | int j=>obtain⟨t',rfl⟩:=ry;exact PySem.EqMixed.eq_str_int (JK I q (by simp))
  | str j=>obtain⟨t',rfl⟩:=ry;exact eq_str (JK I q Jdz)
  | _=>exact absurd (show false=true from hs) Bool.false_ne_true
 | byt i =>
  obtain⟨t,rfl⟩:=rx
  cases y with
  | byt j=>obtain⟨t',rfl⟩:=ry;exact PySem.W.eq_bytes (JK I q Jdx)
  | _=>exact absurd (show false=true from hs) Bool.false_ne_true
 | _=>cases y <;> exact absurd (show false=true from hs) Bool.false_ne_true
theorem op_ne:OpR X (compareOp .NotEq) rNe:=by
 intro pins s σ H x y v u Q I rx ry h;obtain⟨hs,q⟩:=h
 cases x with
 | non =>
  cases rx
  cases y with
  | non=>cases ry;exact PySem.EqNone.ne_none_none (JK I q (by simp))
  | bl j=>cases ry;exact PySem.EqNone.ne_none_bool (JK I q (by simp))
  | int j=>obtain⟨t',rfl⟩:=ry;exact PySem.EqNone.ne_none_int (JK I q (by simp))
  | str j=>obtain⟨t',rfl⟩:=ry;exact PySem.EqNone.ne_none_str (JK I q (by simp))
  | _=>exact absurd (show false=true from hs) Bool.false_ne_true
 | bl i =>
  cases rx
  cases y with
  | non=>cases ry;exact PySem.EqNone.ne_bool_none (JK I q (by simp))
  | bl j=>cases ry;exact ne_bool (JK I q (congrArg not JfQ))
  | str j=>obtain⟨t',rfl⟩:=ry;exact PySem.EqMixed.ne_bool_str (JK I q (by simp))
  | _=>exact absurd (show false=true from hs) Bool.false_ne_true
 | int i =>
  obtain⟨t,rfl⟩:=rx
  cases y with
  | non=>cases ry;exact PySem.EqNone.ne_int_none (JK I q (by simp))
  | int j=>obtain⟨t',rfl⟩:=ry;exact ne_int (JK I q (congrArg not Jdy))
  | str j=>obtain⟨t',rfl⟩:=ry;exact PySem.EqMixed.ne_int_str (JK I q (by simp))
  | _=>exact absurd (show false=true from hs) Bool.false_ne_true
 | str i =>
  obtain⟨t,rfl⟩:=rx
  cases y with
  | non=>cases ry;exact PySem.EqNone.ne_str_none (JK I q (by simp))
  | bl j=>cases ry;exact PySem.EqMixed.ne_str_bool (JK I q (by simp))
  | int j=>obtain⟨t',rfl⟩:=ry;exact PySem.EqMixed.ne_str_int (JK I q (by simp))
  | str j=>obtain⟨t',rfl⟩:=ry;exact ne_str (JK I q (congrArg not Jdz))
  | _=>exact absurd (show false=true from hs) Bool.false_ne_true
 | byt i =>
  obtain⟨t,rfl⟩:=rx
  cases y with
  | byt j=>obtain⟨t',rfl⟩:=ry;exact PySem.W.ne_bytes (JK I q (congrArg not Jdx))
  | _=>exact absurd (show false=true from hs) Bool.false_ne_true
 | _=>cases y <;> exact absurd (show false=true from hs) Bool.false_ne_true

theorem Jgy:OpR X (compareOp .Lt) (rI0 fun i j=>.bl (decide (i<j))):=Jlk fun _ _ _ _ _ _ _ q=>lt_int q
theorem JjW:OpR X (compareOp .LtE) (rI0 fun i j=>.bl (decide (i<=j))):=Jlk fun _ _ _ _ _ _ _ q=>le_int q
theorem Vr:OpR X (compareOp .Gt) (rI0 fun i j=>.bl (decide (j<i))):=Jlk fun _ _ _ _ _ _ _ q=>gt_int q
theorem JiI:OpR X (compareOp .IsNot) (fun x y H Q=>y=.non/\Q (.bl (!decide (x=.non))) H):=by
 intro pins s σ H x y v u Q I rx ry h;obtain⟨rfl,q⟩:=h;cases ry;refine isnot_none_gen (JK I q ?_);cases x <;> first
  | (cases rx;rfl)
  | (obtain⟨t,rfl⟩:=rx;rfl)

theorem OpR.or{f:Value->Value->Sem Value}{r r':R2}(h:OpR X f r)(h':OpR X f r'):OpR X f (fun x y H Q=>r x y H Q\/r' x y H Q):=by
 intro pins s σ H x y v u Q I rx ry q;rcases q with q|q
 ·exact h pins s σ H x y v u Q I rx ry q
 ·exact h' pins s σ H x y v u Q I rx ry q

theorem JO(b:Expr){op:CmpOp}(h:op≠.In:=by decide)(h2:op≠.NotIn:=by decide):behindInMarks op b=false:=by
 have e1:(op == CmpOp.In)=false:=by cases op <;> first|rfl|exact absurd rfl h
 have e2:(op == CmpOp.NotIn)=false:=by cases op <;> first|rfl|exact absurd rfl h2
 cases b <;> simp[behindInMarks,e1,e2]
theorem VW{op:CmpOp}{r:R2}(ho:OpR X (compareOp op) r)(ha:PE X a ta)(hb:PE X b tb)(hm:behindInMarks op b=false):PE X (.Compare a [op] [b] pos) (tOp r ta tb):=by intro pins s σ H Q I h;exact wpAny_Compare1 (Jki ha hb I h fun v u s2 x y H2 I2 rx ry q=>ho pins s2 σ H2 x y v u Q I2 rx ry q) hm
noncomputable def Jho(t:TE):TT:=fun σ H Q=>t σ H fun x H'=>∃k,x=.bl k/\Q k H'
theorem JM{op:CmpOp}{r:R2}(ho:OpR X (compareOp op) r)(ha:PE X a ta)(hb:PE X b tb)(hm:behindInMarks op b=false):PT X (.Compare a [op] [b] pos) (Jho (tOp r ta tb)):=by
 intro pins s σ H Q I h;refine wpAny_isTrue_Compare1 (thn (ha pins s σ H _ I h) fun v s1 ⟨x,H1,I1,r1,q1⟩=>thn (hb pins s1 σ H1 _ I1 q1) fun u s2 ⟨y,H2,I2,r2,q2⟩=>thn (ho pins s2 σ H2 x y v u _ I2 r1 r2 q2) fun c s3 ⟨z,H3,I3,r3,k,e,q3⟩=>?_) hm
 subst e;cases r3;exact wpAny_truthy_bool ⟨H3,I3,q3⟩
noncomputable def Jdb(r r':R2)(ta tb tc:TE):TE:=fun σ H Q=>ta σ H fun x H1=>tb σ H1 fun y H2=>r x y H2 fun z H3=>∃k,z=.bl k ∧
 (if k=true then tc σ H3 fun w' H4=>r' y w' H4 Q else Q (.bl false) H3)
theorem JgG{op op':CmpOp}{r r':R2}(ho:OpR X (compareOp op) r)(ho':OpR X (compareOp op') r')(ha:PE X a ta)(hb:PE X b tb)(hc:PE X c tc)
 (hm:lastMarks [op,op'] [b,c]=false:=by with_unfolding_all rfl):PE X (.Compare a [op,op'] [b,c] pos) (Jdb r r' ta tb tc):=by
 intro pins s σ H Q I h;refine Compare_chain (thn (ha pins s σ H _ I h) fun v s1 ⟨x,H1,I1,r1,q1⟩=>chain_link (thn (hb pins s1 σ H1 _ I1 q1) fun u s2 ⟨y,H2,I2,r2,q2⟩=>thn (ho pins s2 σ H2 x y v u _ I2 r1 r2 q2) fun d s3 ⟨z,H3,I3,r3,k,e,q3⟩=>?_)) hm
 subst e;cases r3;refine wpAny_truthy_bool ?_
 cases k with
 | false=>exact ite_ff ⟨.bl false,H3,I3,rfl,q3⟩
 | true=>exact ite_tt (chain_last (thn (hc pins s3 σ H3 _ I3 q3) fun w' s4 ⟨z',H4,I4,r4,q4⟩=>ho' pins s4 σ H4 y z' u w' Q I4 r2 r4 q4))
noncomputable def Jeu(K:Frag)(x:V)(H:Hp)(k:Bool):Prop :=
 match x with
 | .non=>k=false
 | .bl b=>k=b
 | .int i=>k=(i != 0)
 | .str y=>y.length<=sizeLine/\k=((y.length:Int) != 0)
 | .byt y=>y.size<=sizeLine/\k=((y.size:Int) != 0)
 | .ref p=>(∃xs,SqL K H p xs/\k=!xs.isEmpty)\/(∃xs,SqT K H p xs/\k=!xs.isEmpty)\/∃kvs,H p=some (.dK kvs)/\k=!kvs.isEmpty
 | _=>False
theorem JcJ{κ:Type}{kvs:List (κ×V)}{vs:List (κ×Value)}(r:KV kvs vs):(!vs.isEmpty)=!kvs.isEmpty:=by cases r <;> rfl
theorem Za{xs:List V}{its:List Value}(r:Vals xs its):(!its.toArray.isEmpty)=!xs.isEmpty:=by cases r <;> simp
theorem Wf:(sizeLine:Nat)<2 ^ 63:=by rw[sizeLine_eq];decide
theorem Jmu:JnI X (fun x H Q=>∃k,Jeu X.K x H k/\Q k H):=by
 intro pins s σ H x v Q I rx h;obtain⟨k,e,q⟩:=h;have hl:=Wf;have hs:sizeLine=16777216:=sizeLine_eq
 cases x with
 | non=>cases rx;have e':k=false:=e;subst e';exact truthy_none ⟨H,I,q⟩
 | bl b=>cases rx;have e':k=b:=e;subst e';exact wpAny_truthy_bool ⟨H,I,q⟩
 | int i=>obtain⟨t,rfl⟩:=rx;have e':k=(i != 0):=e;subst e';exact PySem.P.truthy_int ⟨H,I,q⟩
 | str y=>obtain⟨t,rfl⟩:=rx;obtain⟨hy,e'⟩:y.length<=sizeLine/\k=((y.length:Int) != 0):=e;subst e';exact PySem.P.truthy_str (by omega) ⟨H,I.tok _,q⟩
 | byt y=>obtain⟨t,rfl⟩:=rx;obtain⟨hy,e'⟩:y.size<=sizeLine/\k=((y.size:Int) != 0):=e;subst e';exact PySem.W.truthy_bytes (by omega) ⟨H,I.tok _,q⟩
 | ref p =>
  cases rx;have e':(∃xs,SqL X.K H p xs/\k=!xs.isEmpty)\/(∃xs,SqT X.K H p xs/\k=!xs.isEmpty)\/∃kvs,H p=some (.dK kvs)/\k=!kvs.isEmpty:=e
  rcases e' with ⟨xs,hx,e'⟩|⟨xs,hx,e'⟩|⟨kvs,hx,e'⟩
  ·subst e';obtain⟨its,r,pl,hz⟩:=I.list hx;have hlen:=r.length;exact wpAny_truthy_list pl.isList (by simp only[List.size_toArray];omega) ⟨H,I.tok _,by rw[Za r];exact q⟩
  ·subst e';obtain⟨its,r,pl,hz⟩:=I.tuple hx;have hlen:=r.length;exact truthy_tuple pl (by simp only[List.size_toArray];omega) ⟨H,I.tok _,by rw[Za r];exact q⟩
  ·subst e';obtain⟨hz,hS,vs,r,m⟩:kvs.length<=sizeLine/\(p == sysModules)=false/\∃vs,KV kvs vs/\s.heap.DictOf (JC X.prog X.w) p vs:=I.hok p _ hx
   have hlen:kvs.length=vs.length:=Paired.length r;exact wpAny_truthy_dict hS m (by omega) ⟨H,I.tok _,by rw[JcJ r];exact q⟩
 | _=>exact(show False from e).elim
theorem JgR(ha:PE X a ta)(he:∀whole,isTrue a X.env whole=(do let v <- whole;standAt a.pos;holding [v] (truthy v))) :
 PT X a (fun σ H Q=>ta σ H fun x H'=>∃k,Jeu X.K x H' k/\Q k H'):=by
 intro pins s σ H Q I h;exact isTrue_plain (thn (ha pins s σ H _ I h) fun v s1 ⟨x,H1,I1,r1,q1⟩=>Jmu pins s1 σ H1 x v Q I1 r1 q1) (he _)

theorem op_add_str:OpR X (binaryOp .Add) (fun x y H Q=>∃i j,x=.str i/\y=.str j/\i.length+j.length<=sizeLine/\Q (.str (i++j)) H):=by intro pins s σ H x y v u Q I rx ry h;obtain⟨i,j,rfl,rfl,hz,q⟩:=h;obtain⟨t,rfl⟩:=rx;obtain⟨t',rfl⟩:=ry;exact add_str (fun t' tk=>⟨.str (i++j),H,I.tok _,⟨_,rfl⟩,q⟩) hz
theorem Vd{x:V}{us:List Value}(r:Vals [x] us):∃u,us=[u]/\RelV x u:=by
 cases r with
 | cons r1 r2=>cases r2;exact⟨_,rfl,r1⟩
theorem Jep{x y:V}{us:List Value}(r:Vals [x,y] us):∃u w',us=[u,w']/\RelV x u/\RelV y w':=by
 cases r with
 | cons r1 r2 =>
  cases r2 with
  | cons r3 r4=>cases r4;exact⟨_,_,rfl,r1,r3⟩
theorem JeB(hc:X.calm=true):CallR X (.builtin "max") (fun xs H Q=>∃i j,xs=[.int i,.int j]/\Q (.int (if j>i then j else i)) H):=by
 intro pins s σ H xs us Q I r h;obtain⟨i,j,rfl,q⟩:=h;obtain⟨u,w',rfl,⟨t,rfl⟩,⟨t',rfl⟩⟩:=Jep r;refine max_two_ints (I.ok.hd hc) fun h' tk k=>⟨_,H,I.kept k,?_,q⟩
 by_cases hj:j>i
 ·rw[if_pos hj,if_pos hj];exact⟨_,rfl⟩
 ·rw[if_neg hj,if_neg hj];exact⟨_,rfl⟩
theorem JeD(hc:X.calm=true):CallR X (.builtin "min") (fun xs H Q=>∃i j,xs=[.int i,.int j]/\Q (.int (if j<i then j else i)) H):=by
 intro pins s σ H xs us Q I r h;obtain⟨i,j,rfl,q⟩:=h;obtain⟨u,w',rfl,⟨t,rfl⟩,⟨t',rfl⟩⟩:=Jep r;refine min_two_ints (I.ok.hd hc) fun h' tk k=>⟨_,H,I.kept k,?_,q⟩
 by_cases hj:j<i
 ·rw[if_pos hj,if_pos hj];exact⟨_,rfl⟩
 ·rw[if_neg hj,if_neg hj];exact⟨_,rfl⟩
theorem Jez:CallR X (.type "int") (fun xs H Q=>(∃i,xs=[.int i]/\Q (.int i) H)\/∃k,xs=[.bl k]/\Q (.int (if k then 1 else 0)) H):=by
 intro pins s σ H xs us Q I r h;rcases h with ⟨i,rfl,q⟩|⟨k,rfl,q⟩
 ·obtain⟨u,rfl,t,rfl⟩:=Vd r;exact call_int_int ⟨.int i,H,I,⟨_,rfl⟩,q⟩
 ·obtain⟨u,rfl,r1⟩:=Vd r;cases r1;exact call_int_bool ⟨.int (if k then 1 else 0),H,I.tok _,⟨_,rfl⟩,q⟩
noncomputable def JmD(K:Frag)(x:V)(H:Hp)(n:Nat):Prop :=
 match x with
 | .str y=>y.length<=sizeLine/\n=y.length
 | .byt y=>y.size<=sizeLine/\n=y.size
 | .ref p=>(∃xs,SqL K H p xs/\n=xs.length)\/∃xs,SqT K H p xs/\n=xs.length
 | _=>False
theorem JfK:CallR X (.builtin "len") (fun xs H Q=>∃x n,xs=[x]/\JmD X.K x H n/\Q (.int n) H):=by
 intro pins s σ H xs us Q I r h;obtain⟨x,n,rfl,e,q⟩:=h;obtain⟨u,rfl,rx⟩:=Vd r;have hl:=Wf;have hs:sizeLine=16777216:=sizeLine_eq
 cases x with
 | str y=>obtain⟨t,rfl⟩:=rx;obtain⟨hy,e'⟩:y.length<=sizeLine/\n=y.length:=e;subst e';exact len_str (by omega) ⟨.int _,H,I.tok _,⟨_,rfl⟩,q⟩
 | byt y=>obtain⟨t,rfl⟩:=rx;obtain⟨hy,e'⟩:y.size<=sizeLine/\n=y.size:=e;subst e';exact PySem.W.len_bytes (by omega) ⟨.int _,H,I.tok _,⟨_,rfl⟩,q⟩
 | ref p =>
  cases rx;have e':(∃xs,SqL X.K H p xs/\n=xs.length)\/∃xs,SqT X.K H p xs/\n=xs.length:=e
  rcases e' with ⟨xs,hx,e'⟩|⟨xs,hx,e'⟩
  ·subst e';obtain⟨its,r',pl,hz⟩:=I.list hx;have hlen:=r'.length;exact Calls.call_len_list pl.isList (by simp only[List.size_toArray];omega) ⟨.int xs.length,H,I.tok _,⟨_,by simp only[List.size_toArray];rw[hlen]⟩,q⟩
  ·subst e';obtain⟨its,r',pl,hz⟩:=I.tuple hx;have hlen:=r'.length;exact len_tuple pl (by simp only[List.size_toArray];omega) ⟨.int xs.length,H,I.tok _,⟨_,by simp only[List.size_toArray];rw[hlen]⟩,q⟩
 | _=>exact(show False from e).elim
end
end L2

namespace L2
open PySem PySem.Spec PyProof.Rows

structure ObjM (h:Heap) (x dx C:Addr) (mA:Str->Option Value):Prop where
 obj:h.get? x=some (instObj C dx)
 ns:h.Ns1 dx mA
 ne:dx≠x

theorem Je7{h:Heap}{dx:Addr}{mA:Str->Option Value}(n:h.Ns1 dx mA):∃od,h.get? dx=some od/\∀name,lookIn name od=some (mA name):=by
 obtain⟨o,es,ep,ho,hd,hk,_,hm⟩:=n;refine⟨o,ho,fun name=>?_⟩;have e:=hm name;unfold nsFind findBy at e;rw[<- Array.find?_toList] at e;unfold lookIn;rw[hd];dsimp only;split
 ·rename_i y q;rw[q] at e;exact congrArg some e
 ·rename_i q;rw[q] at e
  have a:es.toList.any (·.refKey)=false:=by rw[List.any_eq_false];intro y hy;obtain⟨z,t,hkey⟩:=hk y (Array.mem_toList_iff.mp hy);simp[DictEntry.refKey,hkey]
  have a':¬es.toList.any (·.refKey)=true:=by rw[a];exact Bool.false_ne_true
  rw[if_neg a'];exact congrArg some e

theorem ObjM.look{h:Heap}{x dx C:Addr}{mA:Str->Option Value}(I:ObjM h x dx C mA):∃od,InstAt h x (instObj C dx) C (some od)/\∀name,lookIn name od=some (mA name) :=
 let ⟨od,ho,hl⟩:=Je7 I.ns
 ⟨od,⟨I.obj,rfl,rfl,ho⟩,hl⟩

section
variable{prog:Program}{w:World}{A:Around}{E:Value->Shared->Prop}{s:Shared}{K:Frag}{x dx C f:Addr}{mA:Str->Option Value}{name:Str}{v:Value}

theorem Jis{expr:Bool}{Q:Value->Shared->Prop}(X:K.In s.heap)(I:ObjM s.heap x dx C mA)(hg:plainGet K C name=true)(hh:hasDictIn K C=true)
 (ha:findIn K (.ref C) name=some none) (hv:mA name=some v) (hv':PySem.W.handedIn v=true) (h:Q v { s with toks:=s.toks+1 }) :
 wpAny (model prog w) A (getAttr (.ref x) name expr) Q E s:=by
 obtain⟨od,J,hl⟩:=I.look;exact PySem.W.get_value X J (PySem.W.plainGet_of hg).1 (PySem.W.findObj_own hh ha rfl (by rw[hl,hv])) hv' h

theorem Jjr{ns:List Str}{Q:Unit->Shared->Prop}(X:K.In s.heap)(I:ObjM s.heap x dx C mA)
 (hs:findIn K (.ref C) "__setattr__"=some (some (.builtin "object.__setattr__"))) (hp:plainOver K C=true) (ht:takerIn K C name=some none) (hh:hasDictIn K C=true)
 (hw:PySem.Within mA ns) (hsz:ns.length<=sizeLine)
 (h:∀h',ObjM h' x dx C (fun y=>if y=name then some v else mA y)->Heap.SameBut dx s.heap h'->Q () { s with heap:=h',toks:=s.toks+2 }) :
 wpAny (model prog w) A (setAttr (.ref x) name v) Q E s:=by
 obtain⟨od,J,hl⟩:=I.look;refine PySem.W.set_plain X J hs (PySem.W.osa_open (s:={ s with toks:=s.toks+1 }) (r:=none) X J hp ht fun b=>?_);obtain⟨cd,hc,hd'⟩:=any_some hh;have hx:s.heap.get? x=some ⟨.ref C,some dx,.plain,#[]⟩:=I.obj;refine wpAny_bind (wpAny_pure (wpAny_bind (wpAny_bind (wpAny_loadPart hx (wpAny_bind (PySem.W.Looks.here (s:={ s with toks:=s.toks+1 }) (PySem.W.looks_clsIn X hc) ?_))))));rw[hd'];refine wpAny_pure (a:=some dx) (wpAny_bind (wpAny_pure (wpAny_bind ?_)))
 refine wpAny_nsSet1 (s:={ s with toks:=s.toks+1 }) I.ns fun h' hn2 hs2=>?_
 obtain⟨oD,esD,epD,hoD,hdD,hcD⟩:=hn2.count (PySem.Within.cons name v hw);refine wpAny_bind (wpAny_lookBehind hoD (by rw[hdD];exact pastItsLine_dict (Nat.le_trans hcD (by rw[List.length_cons];omega))) ?_);exact wpAny_pure (h _ ⟨(hs2.2 _ (Ne.symm I.ne)).trans I.obj,hn2,I.ne⟩ hs2)

theorem Jgu{R:Result->Shared->Prop}{vs:List Value}{kw:List (Str×Value)}(X:K.In s.heap)(hm:makesIn K C=true)
 (hi:findIn K (.ref C) "__init__"=some (some (.ref f))) (hf:PySem.W.typeIn K (.ref f)=some (.type "function"))
 (h:codeAny (model prog w) (A.under (.builtin "type.__call__" ⟨.ref C::vs,kw⟩)) (.call (.ref f) ⟨.ref (s.heap.objs.size+1)::vs,kw⟩) (PySem.W.InitBack (s.heap.objs.size+1) R)
  { s with heap:=(s.heap.push emptyDict).push (instObj C s.heap.objs.size) }) :
 codeAny (model prog w) A (.call (.ref C) ⟨vs,kw⟩) R s:=by
 obtain⟨hh,g,d,t,os⟩:=s;exact PySem.W.make_core (PySem.W.makes_of X hm) (looks_findIn X hi) (fun self=>PySem.W.bind_fn X self hf) (.inl rfl) h
end

noncomputable def putF(f:Str)(v:V):List (Str×V)->List (Str×V)
 | []=>[(f,v)]
 | (g,x)::r=>if g=f then(g,v)::r else(g,x)::putF f v r
theorem Ww(f g:Str)(v:V):∀fs:List (Str×V),(putF f v fs).lookup g=if g=f then some v else fs.lookup g
 | []=>by
  show List.lookup g [(f,v)]=_
  by_cases h:g=f
  ·have hb:(g == f)=true:=beq_iff_eq.mpr h;simp only[List.lookup,hb,if_pos h]
  ·have hb:(g == f)=false:=beq_eq_false_iff_ne.mpr h;simp only[List.lookup,hb,if_neg h]
 | (k,x)::r=>by
  have ih:=Ww f g v r;rw[show putF f v ((k,x)::r)=(if k=f then(k,v)::r else(k,x)::putF f v r) from rfl]
  by_cases hk:k=f
  ·rw[if_pos hk]
   by_cases h:g=k
   ·have hb:(g == k)=true:=beq_iff_eq.mpr h;simp only[List.lookup,hb,if_pos (h.trans hk)]
   ·have hb:(g == k)=false:=beq_eq_false_iff_ne.mpr h;simp only[List.lookup,hb,if_neg (fun e:g=f=>h (e.trans hk.symm))]
  ·rw[if_neg hk]
   by_cases h:g=k
   ·have hb:(g == k)=true:=beq_iff_eq.mpr h;simp only[List.lookup,hb,if_neg (fun e:g=f=>hk (h.symm.trans e))]
   ·have hb:(g == k)=false:=beq_eq_false_iff_ne.mpr h;simp only[List.lookup,hb];exact ih
theorem Wd(f:Str)(v:V):∀fs:List (Str×V),f∈(putF f v fs).map (·.1)/\∀g,g∈fs.map (·.1)->g∈(putF f v fs).map (·.1)
 | []=>⟨by simp[putF],fun g h=>by simp at h⟩
 | (k,x)::r=>by
  obtain⟨i1,i2⟩:=Wd f v r;rw[show putF f v ((k,x)::r)=(if k=f then(k,v)::r else(k,x)::putF f v r) from rfl]
  by_cases hk:k=f
  ·rw[if_pos hk];subst hk;exact⟨by simp,fun g h=>by simpa using h⟩
  ·rw[if_neg hk];refine⟨?_,fun g h=>?_⟩
   ·rw[List.map_cons];exact List.mem_cons_of_mem _ i1
   ·rw[List.map_cons] at h ⊢;rcases List.mem_cons.mp h with e|e
    ·exact List.mem_cons.mpr (.inl e)
    ·exact List.mem_cons_of_mem _ (i2 g e)
theorem Wu(f:Str)(v:V):∀fs:List (Str×V),(putF f v fs).length<=fs.length+1
 | []=>by simp[putF]
 | (k,x)::r=>by
  have ih:=Wu f v r;rw[show putF f v ((k,x)::r)=(if k=f then(k,v)::r else(k,x)::putF f v r) from rfl]
  by_cases hk:k=f
  ·rw[if_pos hk,List.length_cons,List.length_cons];omega
  ·rw[if_neg hk,List.length_cons,List.length_cons];omega

theorem RelO.some_of{v:V}{o:Option Value}(r:RelO (some v) o):∃u,o=some u/\RelV v u:=by
 cases o with
 | none=>exact(show False from r).elim
 | some u=>exact⟨u,rfl,r⟩
theorem JeU{v:V}{u:Value}(r:RelV v u):PySem.W.handedIn u=true:=by
 cases v with
 | non=>cases (show u=Value.none from r);rfl
 | bl b=>cases (show u=Value.bool b from r);rfl
 | int i=>obtain⟨t,e⟩:=(show ∃t,u=Value.int i t from r);cases e;rfl
 | str x=>obtain⟨t,e⟩:=(show ∃t,u=Value.str x t from r);cases e;rfl
 | byt b=>obtain⟨t,e⟩:=(show ∃t,u=Value.bytes b t from r);cases e;rfl
 | flt b=>obtain⟨t,e⟩:=(show ∃t,u=Value.float b t from r);cases e;rfl
 | ref a=>cases (show u=Value.ref a from r);rfl
 | ty n=>cases (show u=Value.type n from r);rfl

section
variable{P:Program}{w:World}{H H':Hp}{h h':Heap}{a C dx:Addr}{fs fs':List (Str×V)}
theorem JaQ(hok:HOk P w H h)(e:H a=some (.ins C dx fs)):∃mA,ObjM h a dx C mA/\(∀f,RelO (fs.lookup f) (mA f))/\PySem.Within mA (fs.map (·.1))/\fs.length<=1000/\H dx=some (.own a):=by
 obtain⟨d,z,ne,ob,mA,n,r,q⟩:=(show ObjOk P w H h a (.ins C dx fs) from hok a _ e)
 exact⟨mA,⟨ob,n,ne⟩,r,q,z,d⟩
end

structure Cls (K:Frag) (C:Addr):Prop where
 pg:plainGet K C Str.empty=true
 hd:hasDictIn K C=true
 po:plainOver K C=true
 sa:findIn K (.ref C) "__setattr__"=some (some (.builtin "object.__setattr__"))
theorem Cls.get{K:Frag}{C:Addr}(c:Cls K C)(f:Str):plainGet K C f=true:=c.pg
noncomputable def NoAttr(K:Frag)(C:Addr)(f:Str):Prop:=findIn K (.ref C) f=some none
theorem NoAttr.taker{K:Frag}{C:Addr}{f:Str}(n:NoAttr K C f):takerIn K C f=some none:=by unfold takerIn;rw[show findIn K (.ref C) f=some none from n];rfl
structure Con (K:Frag) (C:Addr) (f:Str) (v:V) (u:Value):Prop where
 at_:findIn K (.ref C) f=some (some u)
 rel:RelV v u
 get:specialIn K u "__get__"=some none
 cp:PySem.W.copiedNames.contains f=false
structure Meth (K:Frag) (C:Addr) (m:Str) (f:Addr):Prop where
 at_:findIn K (.ref C) m=some (some (.ref f))
 fn:isFn K (.ref f)=true
 kp:keepIn K (.ref f)=true

section
variable{X:Cx}{pins:List (Addr×Obj)}{σ:St}{H:Hp}{s:Shared}{a C dx:Addr}{fs:List (Str×V)}{f:Str}{v:V}{A:Around}{E:Value->Shared->Prop}

theorem JcG{b:Bool}{Q:Value->Shared->Prop}(I:Inv X pins σ H s)(e:H a=some (.ins C dx fs))(c:Cls X.K C)(n:NoAttr X.K C f)(l:fs.lookup f=some v)
 (h:∀u s',Inv X pins σ H s'->RelV v u->Q u s'):wpAny (model X.prog X.w) A (getAttr (.ref a) f b) Q E s:=by
 obtain⟨mA,O,r,_,_,_⟩:=JaQ I.hok e;obtain⟨u,hu,ru⟩:=RelO.some_of (v:=v) (o:=mA f) (by rw[<- l];exact r f);exact Jis I.kIn O (c.get f) c.hd n hu (JeU ru) (h u _ (I.tok _) ru)

theorem Jda{y:V}{u:Value}{Q:Unit->Shared->Prop}(I:Inv X pins σ H s)(e:H a=some (.ins C dx fs))(c:Cls X.K C)(n:NoAttr X.K C f)(hl:fs.length<1000)(ry:RelV y u)
 (h:∀s',Inv X pins σ (upd H a (.ins C dx (putF f y fs))) s'->Q () s'):wpAny (model X.prog X.w) A (setAttr (.ref a) f u) Q E s:=by
 obtain⟨mA,O,r,wi,_,ho⟩:=JaQ I.hok e;have hz:(fs.map (·.1)).length<=sizeLine:=by rw[List.length_map,sizeLine_eq];omega
 refine Jjr I.kIn O c.sa c.po n.taker c.hd wi hz fun h' O' sb=>h _ ?_
 have hd:∃o,h'.get? dx=some o:=let ⟨o,_,_,e',_⟩:=O'.ns;⟨o,e'⟩
 refine I.write (x:=a) (e:=dx) (by rw[e];exact True.intro) (.inr ho) (fun b q hb z=>(sb.2 b hb).trans z) hd ?_;refine⟨by rw[Ji O.ne];exact ho,?_,O.ne,O'.obj,_,O'.ns,fun g=>?_,fun g hg=>?_⟩
 ·have:=Wu f y fs;omega
 ·show RelO ((putF f y fs).lookup g) (if g=f then some u else mA g);rw[Ww]
  by_cases q:g=f
  ·rw[if_pos q,if_pos q];exact ry
  ·rw[if_neg q,if_neg q];exact r g
 ·by_cases q:g=f
  ·rw[q];exact(Wd f y fs).1
  ·refine(Wd f y fs).2 g (wi g fun z=>hg ?_);show(if g=f then some u else mA g)=none;rw[if_neg q];exact z

theorem Inv.made(I:Inv X pins σ H s):Inv X pins σ (upd (upd H s.heap.objs.size (.own (s.heap.objs.size+1))) (s.heap.objs.size+1) (.ins C s.heap.objs.size []))
 { s with heap:=(s.heap.push emptyDict).push (instObj C s.heap.objs.size) }:=by
 have e1:(s.heap.push emptyDict).get? s.heap.objs.size=some emptyDict:=Heap.get?_push_size s.heap rfl
 have e2:((s.heap.push emptyDict).push (instObj C s.heap.objs.size)).get? (s.heap.objs.size+1)=some (instObj C s.heap.objs.size):=by
  have:=Heap.get?_push_size (s.heap.push emptyDict) (o:=instObj C s.heap.objs.size) rfl
  rwa [Heap.size_push] at this
 have e3:(s.heap.push emptyDict).Ns s.heap.objs.size (fun _=>none):=⟨emptyDict,#[],_,e1,rfl,(fun e he=>absurd he (by simp)),fun _=>rfl⟩
 have I1:=I.laid (a:=s.heap.objs.size) (o:=.own (s.heap.objs.size+1)) (h':=s.heap.push emptyDict) (t':=s.toks) (fun b u q=>Heap.get?_push_of_some _ q) (Nat.le_refl _) ⟨_,e1⟩;refine I1.laid (a:=s.heap.objs.size+1) (o:=.ins C s.heap.objs.size []) (t':=s.toks) (fun b u q=>Heap.get?_push_of_some _ q) (Nat.le_of_eq (Heap.size_push _ _)) ?_
 have ne:s.heap.objs.size≠s.heap.objs.size+1:=Nat.ne_of_lt (Nat.lt_succ_self _);refine⟨by rw[Ji ne,Jw],Nat.zero_le _,ne,e2,fun _=>none,(Heap.Ns1.of_empty e3).at fun o q=>Heap.get?_push_of_some _ q,fun _=>True.intro,fun y hy=>absurd rfl hy⟩

theorem JhP{prog:Program}{w:World}{env:Env}{e:Expr}{f:Str}{pos:Pos}{s:Shared}{Q:Value->Shared->Prop}(hb:attributeBase e f env (eval e env)=eval e env)
 (h:wpAny (model prog w) A (eval e env) (fun o s₁=>wpAny (model prog w) A (getAttr o f true) Q E s₁) E s):wpAny (model prog w) A (eval (.Attribute e f pos) env) Q E s :=
 Attribute_any_ h (by rw[arm_eval_Attribute,hb])
end

noncomputable def Jjx(K:Frag)(ta:TE)(f:Str):TE:=fun σ H Q=>ta σ H fun x H1=>∃a C dx fs v,x=.ref a/\H1 a=some (.ins C dx fs)/\Cls K C/\NoAttr K C f/\fs.lookup f=some v/\Q v H1
noncomputable def Jmb(K:Frag)(ta tv:TE)(f:Str):TS:=fun D σ H=>tv σ H fun y H1=>ta σ H1 fun x H2=>∃a C dx fs,x=.ref a/\H2 a=some (.ins C dx fs)/\Cls K C/\NoAttr K C f/\fs.length<1000 ∧
 D.nx σ (upd H2 a (.ins C dx (putF f y fs)))
section
variable{X:Cx}{o e value:Expr}{f:Str}{pos pos' tpos:Pos}{ta tv:TE}
theorem Jlv(he:PE X e ta)(hb:attributeBase e f X.env (eval e X.env)=eval e X.env):PE X (.Attribute e f pos) (Jjx X.K ta f):=by intro pins s σ H Q I h;refine JhP hb (thn (he pins s σ H _ I h) fun u s1 ⟨x,H1,I1,rx,a,C,dx,fs,v,ex,ea,c,n,l,q⟩=>?_);subst ex;obtain rfl:u=Value.ref a:=rx;exact JcG I1 ea c n l fun u' s2 I2 ru=>⟨v,H1,I2,ru,q⟩
theorem JlD(ha:PE X o ta)(hv:PE X value tv)(hs:swapsWith value (some (.Attribute o f pos')) pos.line X.env=pure false):PS X (.Assign [.Attribute o f pos'] value pos) (Jmb X.K ta tv f):=by intro pins s σ H D I h;refine plainObj_wpAny_Assign_Attribute (thn (hv pins s σ H _ I h) fun u s1 ⟨y,H1,I1,ry,q⟩=>thn (ha pins s1 σ H1 _ I1 q) fun ov s2 ⟨x,H2,I2,rx,a,C,dx,fs,ex,ea,c,n,l,q2⟩=>?_) hs;subst ex;obtain rfl:ov=Value.ref a:=rx;exact Jda I2 ea c n l ry fun s3 I3=>⟨σ,_,I3,q2⟩
end

section
variable{X:Cx}{pins:List (Addr×Obj)}{σ:St}{H:Hp}{s:Shared}{A:Around}{E:Value->Shared->Prop}{Q:Value->Shared->Prop}{c:Value}{b:Bool}
inductive TyOf (K:Frag) (H:Hp):V->Value->Prop where
 | non:TyOf K H .non (.type "NoneType")
 | bl (x:Bool):TyOf K H (.bl x) (.type "bool")
 | int (i:Int):TyOf K H (.int i) (.type "int")
 | str (x:Str):TyOf K H (.str x) (.type "str")
 | flt (x:UInt64):TyOf K H (.flt x) (.type "float")
 | lst {a:Addr} {xs:List V} (e:H a=some (.lst xs)):TyOf K H (.ref a) (.type "list")
 | frz {a:Addr} {o:Obj} {xs:List V} (e:H a=some (.frz o (.lst xs))):TyOf K H (.ref a) (.type "list")
 | tup {a:Addr} {xs:List V} (e:H a=some (.tup xs)):TyOf K H (.ref a) (.type "tuple")
 | dK {a:Addr} {kvs:List (Key×V)} (e:H a=some (.dK kvs)):TyOf K H (.ref a) (.type "dict")
 | dT {a:Addr} {kvs:List (List Key×V)} (e:H a=some (.dT kvs)):TyOf K H (.ref a) (.type "dict")
 | ins {a C dx:Addr} {fs:List (Str×V)} (e:H a=some (.ins C dx fs)) (cl:Cls K C) (ha:findIn K (.ref C) "__class__"=some (some (.builtin "object.__class__")))
  (hn:specialIn K (.builtin "object.__class__") "__get__"=some (some (.builtin "getset_descriptor.__get__"))) (htk:takesIn K (.builtin "object.__class__")=some true)
  (hm:mroIn K C (.type "object")=some true):TyOf K H (.ref a) (.ref C)
theorem Je3{x:V}{u t:Value}(I:Inv X pins σ H s)(rx:RelV x u)(ty:TyOf X.K H x t)(e:kitOne X.K t c=some b)(h:∀tk,Q (.bool b) { s with toks:=tk }) :
 wpAny (model X.prog X.w) A (call (.builtin "isinstance") [u,c]) Q E s:=by
 cases ty with
 | non=>cases (show u=Value.none from rx);exact kia_one PySem.W.kitx_none I.kIn True.intro e (fun z=>nomatch z) h
 | bl y=>cases (show u=Value.bool y from rx);exact kia_one PySem.W.kitx_bool I.kIn True.intro e (fun z=>nomatch z) h
 | int i=>obtain⟨t,q⟩:=(show ∃t,u=Value.int i t from rx);cases q;exact kia_one PySem.W.kitx_int I.kIn True.intro e (fun z=>nomatch z) h
 | str y=>obtain⟨t,q⟩:=(show ∃t,u=Value.str y t from rx);cases q;exact kia_one PySem.W.kitx_str I.kIn True.intro e (fun z=>nomatch z) h
 | flt y=>obtain⟨t,q⟩:=(show ∃t,u=Value.float y t from rx);cases q;exact kia_one PySem.W.kitx_float I.kIn True.intro e (fun z=>nomatch z) h
 | @lst a xs ea =>
  cases (show u=Value.ref a from rx);obtain⟨_,_,n,_,h1⟩:=(show ObjOk X.prog X.w H s.heap a (.lst xs) from I.hok a _ ea)
  exact kia_one kitx_list I.kIn ⟨_,h1,rfl⟩ e (fun z=>nomatch z) h
 | @frz a ob xs ea =>
  cases (show u=Value.ref a from rx);obtain⟨_,_,_,n,_,h1⟩:=(show ObjOk X.prog X.w H s.heap a (.frz ob (.lst xs)) from I.hok a _ ea)
  exact kia_one kitx_list I.kIn ⟨_,h1,rfl⟩ e (fun z=>nomatch z) h
 | @tup a xs ea =>
  cases (show u=Value.ref a from rx);obtain⟨_,_,_,p⟩:=(show ObjOk X.prog X.w H s.heap a (.tup xs) from I.hok a _ ea)
  obtain⟨o,h1,h2,_⟩:=p;exact kia_one PySem.W.kitx_tuple I.kIn ⟨o,h1,h2⟩ e (fun z=>nomatch z) h
 | @dK a kvs ea =>
  cases (show u=Value.ref a from rx);obtain⟨_,_,vs,_,p⟩:=(show ObjOk X.prog X.w H s.heap a (.dK kvs) from I.hok a _ ea)
  obtain⟨o,es,ep,h1,h2,_⟩:=p;exact kia_one PySem.W.kitx_dict I.kIn ⟨o,h1,h2.1⟩ e (fun z=>nomatch z) h
 | @dT a kvs ea =>
  cases (show u=Value.ref a from rx);obtain⟨_,_,xs,_,o,es,ep,h1,h2,_⟩:=(show ObjOk X.prog X.w H s.heap a (.dT kvs) from I.hok a _ ea)
  exact kia_one PySem.W.kitx_dict I.kIn ⟨o,h1,h2.1⟩ e (fun z=>nomatch z) h
 | @ins a C dx fs ea cl ha hn htk hm=>cases (show u=Value.ref a from rx);obtain⟨mA,O,_⟩:=JaQ I.hok ea;obtain⟨od,J,_⟩:=O.look;exact kia_one (PySem.W.kitx_own (cl.get _) cl.hd ha hn htk hm) I.kIn J e (fun z=>nomatch z) h
end
end L2

namespace L2
open PySem PySem.Spec PyProof.Rows

structure Room (k:Nat) (A:Around):Prop where
 hd:A.handled=none
 dp:A.depth+3*k+5<recursionLimit
 un:A.units+16*k+200<cLine
theorem Room.mono{j k:Nat}{A:Around}(r:Room k A)(h:j<=k):Room j A:=⟨r.hd,by have:=r.dp;omega,by have:=r.un;omega⟩
theorem Room.deeper{k:Nat}{A:Around}(r:Room (k+1) A)(env:Env):Room k (A.deeper env) :=
 ⟨r.hd,by have:=r.dp;show A.depth+1+3*k+5<_;omega,by have:=r.un;show A.units+3+16*k+200<_;omega⟩
theorem Room.in1{k:Nat}{A:Around}(r:Room (k+1) A):Room k A.in1 :=
 ⟨r.hd,by have:=r.dp;show A.depth+3*k+5<_;omega,by have:=r.un;show A.units+1+16*k+200<_;omega⟩
theorem JcR{A:Around}{C:Addr}{us:List Value}{kw:List (Str×Value)}:(A.under (.builtin "type.__call__" ⟨.ref C::us,kw⟩)).depth=A.depth+1:=by first | rfl | simp[Around.under,Code.weight,Code.isCreation,Code.isGuard,Code.isCaller,Code.frames,Code.isFrame,guardIds]
theorem JcS{A:Around}{C:Addr}{us:List Value}{kw:List (Str×Value)}:(A.under (.builtin "type.__call__" ⟨.ref C::us,kw⟩)).units=A.units+1:=by first | rfl | simp[Around.under,Code.cUnits,Code.frames,Code.isFrame]
theorem Room.make{k:Nat}{A:Around}(r:Room (k+1) A)(C:Addr)(us:List Value)(kw:List (Str×Value)):Room k (A.under (.builtin "type.__call__" ⟨.ref C::us,kw⟩)) :=
 ⟨r.hd,by have:=r.dp;rw[JcR];omega,by have:=r.un;rw[JcS];omega⟩
theorem Room.depth{k:Nat}{A:Around}(r:Room k A):A.depth<recursionLimit:=by have:=r.dp;omega
theorem Room.units{k:Nat}{A:Around}(r:Room k A):A.units+64<cLine:=by have:=r.un;omega
noncomputable def Wp:TA:=fun _ H Q=>Q [] H
noncomputable def Ub(ta:TE)(tr:TA):TA:=fun σ H Q=>ta σ H fun x H1=>tr σ H1 fun xs H2=>Q (x::xs) H2
section
variable{X:Cx}{e:Expr}{es:List Expr}{te:TE}{t:TA}{pos:Pos}
theorem Je:PA X [] Wp:=fun _ _ _ _ H Q I h=>Calls.spliced_nil ⟨[],H,I,.nil,h⟩
theorem Ja(ha:PE X e te)(hr:PA X es t)(hs:starEach (e::es) X.env=(false,eval e X.env)::starEach es X.env:=by rfl):PA X (e::es) (Ub te t):=by intro pos pins s σ H Q I h;rw[hs];show wpAny _ _ (spliced ((false,eval e X.env)::backTo pos (starEach es X.env))) _ _ s;refine Calls.spliced_cons (thn (ha pins s σ H _ I h) fun u s1 ⟨x,H1,I1,r1,q1⟩=>?_);exact thn (hr pos pins s1 σ H1 _ I1 q1) fun us s2 ⟨xs,H2,I2,r2,q2⟩=>⟨x::xs,H2,I2,.cons r1 r2,q2⟩

noncomputable def Jmp(t:TA):TE:=fun σ H Q=>t σ H fun xs H1=>xs.length<=sizeLine/\∀p,H1 p=none->Q (.ref p) (upd H1 p (.tup xs))
noncomputable def Jml(t:TA):TE:=fun σ H Q=>t σ H fun xs H1=>xs.length<=sizeLine/\∀p,H1 p=none->Q (.ref p) (upd H1 p (.lst xs))
theorem Uf{x1}(h:PA X es t):PE X (.Tuple es x1 pos) (Jmp t):=by intro pins s σ H Q I hq;refine wpAny_Tuple_spliced (thn (h pos pins s σ H _ I hq) fun us s1 ⟨xs,H1,I1,r,z,q⟩=>⟨by rw[<- r.length];exact z,?_⟩);have hf:H1 s1.heap.objs.size=none:=I1.hok.fresh (Nat.le_refl _);refine⟨.ref s1.heap.objs.size,upd H1 s1.heap.objs.size (.tup xs),I1.laid (t':=s1.toks) (fun b u e=>Heap.get?_push_of_some _ e) (Nat.le_refl _) ?_,rfl,q _ hf⟩;exact⟨z,us,r,⟨_,Heap.get?_push_size _ rfl,rfl,_,rfl⟩⟩
theorem Ue(h:PA X es t):PE X (.List es pos) (Jml t):=by intro pins s σ H Q I hq;refine wpAny_List_spliced (thn (h pos pins s σ H _ I hq) fun us s1 ⟨xs,H1,I1,r,z,q⟩=>⟨by rw[<- r.length];exact z,?_⟩);have hf:H1 s1.heap.objs.size=none:=I1.hok.fresh (Nat.le_refl _);refine⟨.ref s1.heap.objs.size,upd H1 s1.heap.objs.size (.lst xs),I1.laid (t':=s1.toks) (fun b u e=>Heap.get?_push_of_some _ e) (Nat.le_refl _) ?_,rfl,q _ hf⟩;exact⟨z,us,0,r,Heap.get?_push_size _ rfl⟩
end

noncomputable abbrev Sp:=List V->Hp->VK->XK->Prop
noncomputable abbrev CXT:=List Env->Hp->Shared->XK->Value->Shared->Prop

structure Env0 (P:Program) (w:World) (K:Frag) (mg:Str->Option Value) (base:Heap) (A:Around) (outer:List Env) (s:Shared) (H:Hp):Prop where
 frames:A.frames=some outer
 mod:Mod K mg base
 bs:∀b o,base.get? b=some o->s.heap.get? b=some o/\H b=none
 bsz:base.objs.size<=s.heap.objs.size
 funs:s.heap.FunFrames base outer
 frf:∀b∈frs outer,H b=none
 hok:HOk P w H s.heap
 bare:AllBare s.gens
noncomputable def CE(outer:List Env)(P:Program)(w:World)(H:Hp)(s:Shared)(Q:VK)(u:Value)(s':Shared):Prop :=
 ∃v H',s'.os=s.os/\AllBare s'.gens/\Un (frs outer) [] H H' s.heap s'.heap/\HOk P w H' s'.heap/\RelV v u/\Q v H'
noncomputable def CR(CX:CXT)(outer:List Env)(P:Program)(w:World)(H:Hp)(s:Shared)(Q:VK)(E:XK)(r:Result)(s':Shared):Prop :=
 match r with
 | .ok (.ret u)=>CE outer P w H s Q u s'
 | .ok _=>False
 | .error e=>CX outer H s E e s'
structure FnOk (P:Program) (w:World) (K:Frag) (mg:Str->Option Value) (base:Heap) (CX:CXT) (k:Nat) (f:Addr) (fd:FuncData) (ps:List Str) (sp:Sp):Prop where
 len:∀vs H Q E,sp vs H Q E->vs.length=ps.length
 run:∀(A:Around) (outer:List Env) (s:Shared) (H:Hp) (args:Args) (us:List Value) (vs:List V) (Q:VK) (E:XK),Room k A->Env0 P w K mg base A outer s H->BindsTo s fd args (ps.zip us)->Vals vs us->sp vs H Q E ->
  codeAny (model P w) A (.call (.ref f) args) (CR CX outer P w H s Q E) s
theorem FnOk.mono{P:Program}{w:World}{K:Frag}{mg:Str->Option Value}{base:Heap}{CX:CXT}{j k:Nat}{f:Addr}{fd:FuncData}{ps:List Str}{sp:Sp}(F:FnOk P w K mg base CX j f fd ps sp)(h:j<=k) :
 FnOk P w K mg base CX k f fd ps sp:=⟨F.len,fun A outer s H args us vs Q E hr=>F.run A outer s H args us vs Q E (hr.mono h)⟩
theorem FnOk.imp{P:Program}{w:World}{K:Frag}{mg:Str->Option Value}{base:Heap}{CX:CXT}{k:Nat}{f:Addr}{fd:FuncData}{ps:List Str}{sp sp':Sp}(F:FnOk P w K mg base CX k f fd ps sp)
 (h:∀vs H Q E,sp' vs H Q E->sp vs H Q E):FnOk P w K mg base CX k f fd ps sp' :=
 ⟨fun vs H Q E q=>F.len vs H Q E (h _ _ _ _ q),fun A outer s H args us vs Q E hr he hb hv hs=>F.run A outer s H args us vs Q E hr he hb hv (h _ _ _ _ hs)⟩

theorem Env0.make{P:Program}{w:World}{K:Frag}{mg:Str->Option Value}{base:Heap}{A:Around}{outer:List Env}{s:Shared}{H:Hp}(e:Env0 P w K mg base A outer s H)(C:Addr)(us:List Value)(kw:List (Str×Value)) :
 Env0 P w K mg base (A.under (.builtin "type.__call__" ⟨.ref C::us,kw⟩)) outer s H:=⟨by first | exact e.frames | (simpa [Around.under,Code.envs,Code.isFrame,pushEnvs] using e.frames),e.mod,e.bs,e.bsz,e.funs,e.frf,e.hok,e.bare⟩
theorem Env0.in1{P:Program}{w:World}{K:Frag}{mg:Str->Option Value}{base:Heap}{A:Around}{outer:List Env}{s:Shared}{H:Hp}(e:Env0 P w K mg base A outer s H) :
 Env0 P w K mg base A.in1 outer s H:=⟨e.frames,e.mod,e.bs,e.bsz,e.funs,e.frf,e.hok,e.bare⟩

section
variable{X:Cx}{pins:List (Addr×Obj)}{σ:St}{H:Hp}{s s':Shared}
theorem Inv.env0(I:Inv X pins σ H s):Env0 X.prog X.w X.K X.mg X.base X.A X.stack s H :=
 ⟨I.ok.frames,I.ok.mod,I.bs,Nat.le_trans I.ok.bsz I.sz,I.stack,I.stkFree,I.hok,I.bare⟩
theorem Inv.after{Q:VK}{u:Value}(I:Inv X pins σ H s)(h:CE X.stack X.prog X.w H s Q u s'):EP X pins σ Q u s':=by obtain⟨v,H',os,bare,un,hok,r,q⟩:=h;obtain⟨hh,g,d,t,os'⟩:=s';obtain rfl:os'=s.os:=os;exact⟨v,H',I.call (h':=hh) (g':=g) (d':=d) (t':=t) (ch:=[]) un hok bare (fun b z=>absurd z (by simp)),r,q⟩
end

noncomputable def Wz(sp:Sp)(dvs:List V)(E:XK)(t:TA):TE:=fun σ H Q=>t σ H fun vs H1=>sp (vs++dvs) H1 Q E
noncomputable def Jel(C:Addr)(sp:Sp)(dvs:List V)(E:XK)(t:TA):TE:=fun σ H Q=>t σ H fun vs H1=>∀x dx,H1 x=none->H1 dx=none->dx≠x ->
 sp (.ref x::(vs++dvs)) (upd (upd H1 dx (.own x)) x (.ins C dx [])) (fun v H2=>v=.non/\Q (.ref x) H2) E

noncomputable def Binds(K:Frag)(fd:FuncData)(ps:List Str)(ds:List Value):Prop :=
 ∀(s:Shared) (us:List Value),K.In s.heap->(us++ds).length=ps.length->BindsTo s fd ⟨us,[]⟩ (ps.zip (us++ds))
theorem Binds.all{K:Frag}{fd:FuncData}{ps:List Str}(h:∀us:List Value,us.length=ps.length->bindArgs fd ⟨us,[]⟩=pure (ps.zip us)):Binds K fd ps []:=fun s us _ hl=>by rw[List.append_nil] at hl ⊢;exact .of_eq (h us hl)

noncomputable def WP(CX:CXT)(X:Cx)(E:XK):Prop:=∀(pins:List (Addr×Obj)) (σ:St) (H:Hp) (s:Shared) (e:Value) (s':Shared),Inv X pins σ H s->CX X.stack H s E e s'->X.xe e s'

section
variable{X:Cx}{CX:CXT}{k:Nat}{f C:Addr}{fd:FuncData}{ps:List Str}{sp:Sp}{dvs:List V}{ds:List Value}{E:XK}{x m:Str}{p pos apos:Pos}{e o:Expr}{es:List Expr}{ta:TE}{t:TA}

theorem Jma{pins:List (Addr×Obj)}{σ:St}{H:Hp}{s:Shared}{Q:VK}{us:List Value}{vs:List V}(F:FnOk X.prog X.w X.K X.mg X.base CX k f fd ps sp)(hr:Room k X.A)(hb:Binds X.K fd ps ds)(hd:Vals dvs ds)(hx:WP CX X E)
 (I:Inv X pins σ H s) (r:Vals vs us) (h:sp (vs++dvs) H Q E):wpAny (model X.prog X.w) X.A (call (.ref f) us) (EP X pins σ Q) X.xe s:=by
 have r2:Vals (vs++dvs) (us++ds):=r.append hd
 have hl:(us++ds).length=ps.length:=by rw[<- r2.length];exact F.len _ _ _ _ h
 refine wpAny_call (codeAny_mono (F.run X.A X.stack s H ⟨us,[]⟩ (us++ds) (vs++dvs) Q E hr I.env0 (hb s us I.kIn hl) r2 h) fun r s' hq=>?_)
 cases r with
 | error e=>exact hx pins σ H s e s' I hq
 | ok fl =>
  cases fl with
  | ret u=>exact I.after hq
  | next=>exact False.elim hq
  | brk=>exact False.elim hq
  | cont=>exact False.elim hq

theorem JiL(F:FnOk X.prog X.w X.K X.mg X.base CX k f fd ps sp)(hr:Room k X.A)(hg:Gl X x)(hm:X.mg x=some (.ref f))(hk:keepIn X.K (.ref f)=true)(hb:Binds X.K fd ps ds)(hd:Vals dvs ds)(hx:WP CX X E)
 (ha:PA X (e::es) t) (hdb:(x == ("__debug__":Str))=false:=by decide) (he:starEach (e::es) X.env=(false,eval e X.env)::starEach es X.env:=by rfl) (hpl:(backTo pos (starEach es X.env)).any (·.1)=false:=by rfl) :
 PE X (.Call (.Name x p) (e::es) [] pos) (Wz sp dvs E t):=by
 intro pins s σ H Q I h;refine wpAny_Call_Name_kw (UW I hg hm ?_ hdb);refine callWith_K (h₀:=X.base) I.ok.mod.kin hk (thn (ha pos pins s σ H _ I h) fun us s1 ⟨vs,H1,I1,r,q⟩=>⟨I1.kIn,?_⟩) he hpl;exact Jma F hr hb hd hx I1 r q
structure Mk (K:Frag) (C f:Addr):Prop where
 makes:makesIn K C=true
 init:findIn K (.ref C) "__init__"=some (some (.ref f))
 fn:isFn K (.ref f)=true
 kp:keepIn K (.ref C)=true

theorem Jhb{pins:List (Addr×Obj)}{σ:St}{H:Hp}{s:Shared}{Q:VK}{us:List Value}{vs:List V}(M:Mk X.K C f)(F:FnOk X.prog X.w X.K X.mg X.base CX k f fd ps sp)(hr:Room (k+1) X.A)(hb:Binds X.K fd ps ds)(hd:Vals dvs ds)
 (hx:WP CX X E) (I:Inv X pins σ H s) (r:Vals vs us)
 (h:∀x dx,H x=none->H dx=none->dx≠x->sp (.ref x::(vs++dvs)) (upd (upd H dx (.own x)) x (.ins C dx [])) (fun v H2=>v=.non/\Q (.ref x) H2) E) :
 wpAny (model X.prog X.w) X.A (call (.ref C) us) (EP X pins σ Q) X.xe s:=by
 have hq:=h (s.heap.objs.size+1) s.heap.objs.size (I.hok.fresh (Nat.le_succ _)) (I.hok.fresh (Nat.le_refl _)) (Nat.ne_of_lt (Nat.lt_succ_self _))
 have I2:=Inv.made (C:=C) I
 have r2:Vals (V.ref (s.heap.objs.size+1)::(vs++dvs)) (Value.ref (s.heap.objs.size+1)::(us++ds)):=.cons rfl (r.append hd)
 have hl:(Value.ref (s.heap.objs.size+1)::us++ds).length=ps.length:=by have e:=r2.length;rw[F.len _ _ _ _ hq] at e;exact e.symm
 refine wpAny_call (Jgu (f:=f) I.kIn M.makes M.init (beq_iff_eq.mp M.fn) (codeAny_mono (F.run _ X.stack _ _ ⟨Value.ref (s.heap.objs.size+1)::us,[]⟩ (Value.ref (s.heap.objs.size+1)::(us++ds)) _ _ E (hr.make C us [])
  (I2.env0.make C us []) (hb _ (Value.ref (s.heap.objs.size+1)::us) I2.kIn hl) r2 hq) fun r s' hq'=>?_))
 cases r with
 | error e=>exact hx pins σ _ _ e s' I2 hq'
 | ok fl =>
  cases fl with
  | ret u=>obtain⟨v,H',I3,rv,ev,q3⟩:=I2.after hq';subst ev;exact⟨rv,⟨V.ref (s.heap.objs.size+1),H',I3,rfl,q3⟩⟩
  | next=>exact False.elim hq'
  | brk=>exact False.elim hq'
  | cont=>exact False.elim hq'
theorem JiO(M:Mk X.K C f)(F:FnOk X.prog X.w X.K X.mg X.base CX k f fd ps sp)(hr:Room (k+1) X.A)(hg:Gl X x)(hm:X.mg x=some (.ref C))(hb:Binds X.K fd ps ds)(hd:Vals dvs ds)(hx:WP CX X E)
 (ha:PA X (e::es) t) (hdb:(x == ("__debug__":Str))=false:=by decide) (he:starEach (e::es) X.env=(false,eval e X.env)::starEach es X.env:=by rfl) (hpl:(backTo pos (starEach es X.env)).any (·.1)=false:=by rfl) :
 PE X (.Call (.Name x p) (e::es) [] pos) (Jel C sp dvs E t):=by
 intro pins s σ H Q I h;refine wpAny_Call_Name_kw (UW I hg hm ?_ hdb);refine callWith_K (h₀:=X.base) I.ok.mod.kin M.kp (thn (ha pos pins s σ H _ I h) fun us s1 ⟨vs,H1,I1,r,q⟩=>⟨I1.kIn,?_⟩) he hpl;exact Jhb M F hr hb hd hx I1 r q
end

section
variable{X:Cx}{CX:CXT}{k:Nat}{f C:Addr}{fd:FuncData}{ps ks:List Str}{sp:Sp}{E:XK}{x m:Str}{p pos apos kpos:Pos}{e o:Expr}{es:List Expr}{kws:List Keyword}{te ta:TE}{t tk:TA}{nm:Option Str}
structure KBinds (K:Frag) (fd:FuncData) (ps ks:List Str) (g:List Value->List Value->List Value) (gV:List V->List V->List V):Prop where
 to:∀(s:Shared) (us ws:List Value),K.In s.heap->(g us ws).length=ps.length->BindsTo s fd ⟨us,ks.zip ws⟩ (ps.zip (g us ws))
 rel:∀{vs:List V} {us:List Value} {zs:List V} {ws:List Value},Vals vs us->Vals zs ws->Vals (gV vs zs) (g us ws)
variable{g:List Value->List Value->List Value}{gV:List V->List V->List V}
end

structure FnScope (N P:List Str) (sc:Scope):Prop where
 kind:sc.kind=.function
 co:sc.isCoroutine=false
 gen:sc.isGenerator=false
 nd:N.Nodup
 pre:N.take P.length=P
 par:∀x∈P,sc.names.lookup x=some .local\/sc.names.lookup x=some .cell
 nofree:∀y∈sc.names,y.2≠.free

theorem ZO{kindOf:Str->Option NameKind}{x:Str}:∀{binds:List (Str×Value)} {m:Str->Option Value},(∀v,(x,v)∉binds)->bindL kindOf binds m x=m x
 | [],_,_=>rfl
 | (n,v)::r,m,h=>by
  unfold bindL;rw[ZO fun w hw=>h w (List.mem_cons_of_mem _ hw)];split
  ·have:x≠n:=by rintro rfl;exact h v List.mem_cons_self
   simp[this]
  ·rfl
theorem ZM{kindOf:Str->Option NameKind}{x:Str}:∀{binds:List (Str×Value)} {m:Str->Option Value},(∀v,(x,v)∉binds)->bindC kindOf binds m x=m x
 | [],_,_=>rfl
 | (n,v)::r,m,h=>by
  unfold bindC;rw[ZM fun w hw=>h w (List.mem_cons_of_mem _ hw)];split
  ·rfl
  ·have:x≠n:=by rintro rfl;exact h v List.mem_cons_self
   simp[this]
theorem ZN{kindOf:Str->Option NameKind}{x:Str}{v:Value}:∀{P:List Str} {vs:List Value} {i:Nat} {m:Str->Option Value},P.Nodup->P[i]?=some x->vs[i]?=some v->kindOf x=some .local ->
 bindL kindOf (P.zip vs) m x=some v
 | [],_,_,_,_,h,_,_=>by simp at h
 | _::_,[],_,_,_,_,h,_=>by simp at h
 | p::P,w::vs,0,m,nd,h1,h2,hk=>by simp at h1 h2;subst h1;subst h2;show bindL kindOf ((p,w)::P.zip vs) m p=_;unfold bindL;rw[ZO fun v hv=>(List.nodup_cons.mp nd).1 (List.of_mem_zip hv).1,if_pos hk];simp
 | p::P,w::vs,i+1,m,nd,h1,h2,hk=>by show bindL kindOf ((p,w)::P.zip vs) m x=_;unfold bindL;exact ZN (i:=i) (List.nodup_cons.mp nd).2 (by simpa using h1) (by simpa using h2) hk
theorem ZL{kindOf:Str->Option NameKind}{x:Str}{v:Value}:∀{P:List Str} {vs:List Value} {i:Nat} {m:Str->Option Value},P.Nodup->P[i]?=some x->vs[i]?=some v->kindOf x≠some .local ->
 bindC kindOf (P.zip vs) m x=some v
 | [],_,_,_,_,h,_,_=>by simp at h
 | _::_,[],_,_,_,_,h,_=>by simp at h
 | p::P,w::vs,0,m,nd,h1,h2,hk=>by simp at h1 h2;subst h1;subst h2;show bindC kindOf ((p,w)::P.zip vs) m p=_;unfold bindC;rw[ZM fun v hv=>(List.nodup_cons.mp nd).1 (List.of_mem_zip hv).1,if_neg hk];simp
 | p::P,w::vs,i+1,m,nd,h1,h2,hk=>by show bindC kindOf ((p,w)::P.zip vs) m x=_;unfold bindC;exact ZL (i:=i) (List.nodup_cons.mp nd).2 (by simpa using h1) (by simpa using h2) hk

noncomputable def YB(N:List Str)(vs:List V):St:=vs.map some++List.replicate (N.length-vs.length) none

noncomputable def WX(CX:CXT)(P:Program)(w:World)(K:Frag)(mg:Str->Option Value)(base:Heap)(N:List Str)(qual:Str)(scope:Scope)(f:Addr)(cd:Value)(A:Around)(outer:List Env)(s:Shared)(H:Hp)(E:XK):Cx where
 prog:=P
 w:=w
 K:=K
 mg:=mg
 base:=base
 A:=A.deeper (envOfC qual scope s.heap.objs.size f cd)
 N:=N
 s₀:=s
 H₀:=H
 env:=envOfC qual scope s.heap.objs.size f cd
 outer:=outer
 stack:=envOfC qual scope s.heap.objs.size f cd::outer
 ex:=[]
 calm:=true
 fn:=fun _=>true
 pn:=[]
 xe:=fun e s'=>wpAny (model P w) (A.deeper (envOfC qual scope s.heap.objs.size f cd)) (leaving (envOfC qual scope s.heap.objs.size f cd) e) (fun _ s''=>CX outer H s E e s'') (fun e' s''=>CX outer H s E e' s'') s'

theorem Jbr{sc:Scope}{n:Nat}{x:Str}(h:sc.names.lookup x=some .cell):∃c,(cellsFrom n sc.names []).lookup x=some c:=by have q:=cellsFrom_some sc.names n [] (.inl h);exact Option.isSome_iff_exists.mp q

theorem Z1{CX:CXT}{P:Program}{w:World}{K:Frag}{mg:Str->Option Value}{base:Heap}{N ps:List Str}{qual:Str}{scope:Scope}{f:Addr}{cd:Value}{A:Around}{outer:List Env}{s s1:Shared}{H:Hp}{E:XK}{us:List Value}{vs:List V}
 (S:FnScope N ps scope) (hd:A.handled=none) (e0:Env0 P w K mg base A outer s H) (hl:vs.length=ps.length) (r:Vals vs us)
 (x:InCallC s s.heap.objs.size (bindL (envOfC qual scope s.heap.objs.size f cd).kindOf (ps.zip us) fun _=>none) (cellsFrom (s.heap.objs.size+1) scope.names []) (bindC (envOfC qual scope s.heap.objs.size f cd).kindOf (ps.zip us) fun _=>none) s1) :
 Inv (WX CX P w K mg base N qual scope f cd A outer s H E) [] (YB N vs) H s1:=by
 have hpl:ps.length<=N.length:=by have:=congrArg List.length S.pre;rw[List.length_take] at this;omega
 obtain⟨h1,tk,rfl,hk⟩:=x.done;have noA:∀b:Addr,b∉(WX CX P w K mg base N qual scope f cd A outer s H E).ex:=fun b z=>absurd (show b∈([]:List Addr) from z) (by simp)
 refine⟨⟨e0.mod,S.kind,rfl,rfl,Nat.le_refl _,fun y z c h1 h2=>?_,fun y hy=>?_,fun y c _ h=>?_,fun _=>hd,Around.frames_deeper e0.frames,.inr ⟨rfl,rfl⟩,fun b z=>absurd z (noA b),e0.bs,e0.bsz,fun b _ _=>noA b,fun b z=>absurd z (noA b),e0.funs,e0.frf⟩,
  rfl,e0.bare,Un.kept hk,⟨_,x.toInCall.ns,fun i y v h1 h2 h3=>?_⟩,fun y c h=>⟨_,x.cell y c h⟩,e0.hok.fresh (Nat.le_refl _),fun y c h=>?_,fun p hp=>absurd (show p∈([]:List (Addr×Obj)) from hp) (by simp),e0.hok.kept hk,?_⟩
 ·exact name_of_addr x.apart (PySem.mem_of_lookup h1) (PySem.mem_of_lookup h2)
 ·have hy:scope.names.lookup y=some .cell\/scope.names.lookup y=some .free:=hy;rcases hy with hy|hy
  ·exact Jbr hy
  ·exact absurd rfl (S.nofree _ (PySem.mem_of_lookup hy))
 ·exact Nat.le_of_lt (x.above y c (PySem.mem_of_lookup h))
 ·have hi:i<vs.length:=by
   unfold YB at h2
   by_cases hi:i<vs.length
   ·exact hi
   ·rw[List.getElem?_append_right (by simpa using hi)] at h2;rw[List.getElem?_replicate] at h2;split at h2 <;> cases h2
  have ha:vs[i]?=some v:=by
   unfold YB at h2;rw[List.getElem?_append_left (by simpa using hi),List.getElem?_map] at h2
   cases e:vs[i]? with
   | none=>rw[e] at h2;cases h2
   | some a=>rw[e] at h2;cases h2;rfl
  obtain⟨u,hu,rv⟩:=r.get ha
  have hp:ps[i]?=some y:=by rw[<- S.pre,List.getElem?_take_of_lt (by omega)];exact h1
  have ndP:ps.Nodup:=by rw[<- S.pre];exact S.nd.sublist (List.take_sublist _ _)
  refine⟨u,rv,?_⟩;rcases S.par y (List.mem_of_getElem? hp) with k|k
  ·exact .inl ⟨k,ZN ndP hp hu k⟩
  ·obtain⟨c,e⟩:=Jbr (n:=s.heap.objs.size+1) k;refine .inr ⟨.inl k,c,e,?_⟩;have q:=x.cell y c e;rw[ZL ndP hp hu (by show scope.names.lookup y≠_;rw[k];decide)] at q;exact q
 ·exact e0.hok.fresh (Nat.le_of_lt (x.above y c (PySem.mem_of_lookup h)))
 ·unfold YB;show _=N.length;rw[List.length_append,List.length_map,List.length_replicate];omega

theorem JjR{CX:CXT}{P:Program}{w:World}{K:Frag}{mg:Str->Option Value}{base:Heap}{k:Nat}{f:Addr}{name qual:Str}{params:Arguments}{body:List Stmt}{scope:Scope}{dV kV doc pm cdv ct oc:Value}{an od:Option Addr}
 {osl:Array (Option Value)} {N ps:List Str} {sp:Sp} (lk:K.lookup f=some ⟨oc,od,.func (fnOf name qual params body scope dV kV doc pm an cdv ct),osl⟩) (hcd:codeIn K cdv qual=true) (S:FnScope N ps scope)
 (len:∀vs H Q E,sp vs H Q E->vs.length=ps.length)
 (hbody:∀(A:Around) (outer:List Env) (s:Shared) (H:Hp) (vs:List V) (Q:VK) (E:XK),Room k (A.deeper (envOfC qual scope s.heap.objs.size f cdv))->sp vs H Q E ->
  ∃t,PSs (WX CX P w K mg base N qual scope f cdv A outer s H E) body t/\t { nx:=fun _ H'=>Q .non H',rt:=Q } (YB N vs) H) :
 FnOk P w K mg base CX (k+1) f (fnOf name qual params body scope dV kV doc pm an cdv ct) ps sp:=by
 refine⟨len,fun A outer s H args us vs Q E hr e0 hb r hsp=>?_⟩;have hl:=len _ _ _ _ hsp;have KX:K.In s.heap:=e0.mod.kin.keeps fun b o e=>(e0.bs b o e).1
 have lim:s.heap.NoLimit:=e0.mod.nolimit.keeps fun b o e=>(e0.bs b o e).1
 have hkind:∀y∈ps.zip us,scope.names.lookup y.1=some .local\/(scope.names.lookup y.1=some .cell/\((cellsFrom (s.heap.objs.size+1) scope.names []).lookup y.1).isSome=true):=fun⟨n,v⟩ hy=>by
  rcases S.par n (List.of_mem_zip hy).1 with q|q
  ·exact .inl q
  ·exact .inr ⟨q,cellsFrom_some _ _ _ (.inl q)⟩
 refine codeAny_call_function hr.depth (KX _ _ lk) rfl S.co S.gen rfl (PySem.W.codeRec_of KX hcd) (hb _ _ _ _ ?_);refine wpAny_newFunctionEnv_cells S.kind hkind fun env he s1 x=>?_
 subst he;refine⟨lim.keeps x.toInCall.keep,codeAny_func ?_⟩;obtain⟨t,ht,hq⟩:=hbody A outer s H vs Q E (hr.deeper _) hsp;have I:Inv (WX CX P w K mg base N qual scope f cdv A outer s H E) [] (YB N vs) H s1:=Z1 S hr.hd e0 hl r x;refine wpAny_mono (ht [] s1 (YB N vs) H _ I hq) (fun fl s' hs=>?_) fun e s' hs=>hs
 have fin:∀{σ':St} {H':Hp} {v:V} {u:Value},Inv (WX CX P w K mg base N qual scope f cdv A outer s H E) [] σ' H' s'->RelV v u->Q v H'->CE outer P w H s Q u s' :=
  fun {σ' H' v u} J rv q=>⟨v,H',J.os,J.bare,J.base,J.hok,rv,q⟩
 cases fl with
 | ret u=>obtain⟨v,σ',H',J,rv,q⟩:=hs;exact fin J rv q
 | next=>obtain⟨σ',H',J,q⟩:=hs;exact fin (v:=V.non) (u:=Value.none) J rfl q
 | brk=>obtain⟨_,_,_,q⟩:=hs;exact False.elim q
 | cont=>obtain⟨_,_,_,q⟩:=hs;exact False.elim q
end L2

namespace L2
open PySem PySem.Spec PyProof.Rows
section
variable{X:Cx}{x:Str}{p pos:Pos}{e:Expr}{es:List Expr}{t:TA}{id T:String}{r:List V->Hp->VK->Prop}

noncomputable def tCB(r:List V->Hp->VK->Prop)(t:TA):TE:=fun σ H Q=>t σ H fun vs H1=>r vs H1 Q
theorem Jn(hc:CallR X (.builtin id) r)(hg:Gl X x)(hm:X.mg x=none)(hv:bootBuiltins x=some (.builtin id))(ha:PA X (e::es) t)(hn:x≠"__name__":=by decide)(hdb:(x == ("__debug__":Str))=false:=by decide)
 (he:starEach (e::es) X.env=(false,eval e X.env)::starEach es X.env:=by rfl) (hpl:(backTo pos (starEach es X.env)).any (·.1)=false:=by rfl):PE X (.Call (.Name x p) (e::es) [] pos) (tCB r t):=by
 intro pins s σ H Q I h;refine wpAny_Call_Name_kw (U5 I hg hm hv ?_ hn hdb);exact PyProof.Rows.callWith_builtin1 (thn (ha pos pins s σ H _ I h) fun us s1 ⟨vs,H1,I1,r1,q1⟩=>hc pins s1 σ H1 vs us Q I1 r1 q1) he hpl
theorem UM(hc:CallR X (.type T) r)(hg:Gl X x)(hm:X.mg x=none)(hv:bootBuiltins x=some (.type T))(ha:PA X (e::es) t)(hn:x≠"__name__":=by decide)(hdb:(x == ("__debug__":Str))=false:=by decide)
 (he:starEach (e::es) X.env=(false,eval e X.env)::starEach es X.env:=by rfl) (hpl:(backTo pos (starEach es X.env)).any (·.1)=false:=by rfl):PE X (.Call (.Name x p) (e::es) [] pos) (tCB r t):=by
 intro pins s σ H Q I h;refine wpAny_Call_Name_kw (U5 I hg hm hv ?_ hn hdb);exact PyProof.Rows.callWith_type1 (thn (ha pos pins s σ H _ I h) fun us s1 ⟨vs,H1,I1,r1,q1⟩=>hc pins s1 σ H1 vs us Q I1 r1 q1) he hpl
end
end L2

namespace HT
open PySem PyProof.Rows

section
open PySem.SeqAt
open PySem.AutoSeq1 (wpAny_loadPart')
open PySem.MeetsSeq PySem.MeetsSeq2 PySem.MeetsSeq3

end

section
variable{prog:Program}{w:World}{A:Around}{E:Value->Shared->Prop}{s:Shared}

theorem JhU{t b:Addr}{vs ws:List Value}{Q:Value->Shared->Prop}(ht:IsTup s.heap t vs.toArray)(hb:IsTup s.heap b ws.toArray)(hv:vs≠[])
 (h1:ws=[]->Q (.ref t) s) (h2:ws≠[]->Q (.ref s.heap.objs.size) { s with heap:=s.heap.push { cls:=.type "tuple",data:=.seq (vs++ws).toArray } })
 (hsz:vs.length+ws.length<=sizeLine):wpAny (model prog w) A (binaryOp .Add (.ref t) (.ref b)) Q E s:=by
 obtain⟨⟨cls,dd,data,sl⟩,ho,hc,n,hd⟩:=id ht;obtain⟨⟨cls2,dd2,data2,sl2⟩,ho2,hc2,n2,hd2⟩:=id hb;simp only at hc hd hc2 hd2;subst hc hd hc2 hd2;have e:vs.toArray++ws.toArray=(vs++ws).toArray:=by simp
 by_cases hw:ws=[]
 ·exact concat_meets ⟨_,ho,rfl⟩ ⟨_,ho2,rfl⟩ noFill_tuple_add seq_tuple_add PySem.F.slot_tuple_add PySem.F.entry_tuple_add (PySem.F.args_tuple_add_2 _ _)
   (tuple_addW1 t b vs.toArray ws.toArray n n2 dd dd2 sl sl2 (by simpa using hv) (by simp[hw])) ⟨ho,ho2,h1 hw⟩
 ·refine concat_meets ⟨_,ho,rfl⟩ ⟨_,ho2,rfl⟩ noFill_tuple_add seq_tuple_add PySem.F.slot_tuple_add PySem.F.entry_tuple_add (PySem.F.args_tuple_add_2 _ _)
   (tuple_addW2 t b vs.toArray ws.toArray n n2 dd dd2 sl sl2 (by simpa using hv) (by simpa using hw) (by rw[List.size_toArray,List.size_toArray];exact hsz)) ⟨ho,ho2,?_⟩
  rw[e];exact h2 hw

noncomputable def sIx(n d:Nat):Option Int->Nat
 | none=>d
 | some v=>if v<0 then(v+(n:Int)).toNat else min v.toNat n
theorem Jmc(n d:Nat)(hd:d<=n)(o:Option Int):sIx n d o<=n:=by
 cases o with
 | none=>exact hd
 | some v =>
  show(if v<0 then(v+(n:Int)).toNat else min v.toNat n)<=n
  by_cases hv:v<0
  ·rw[if_pos hv];omega
  ·rw[if_neg hv];exact Nat.min_le_right _ _
theorem Jdt(v:Int)(n d:Nat):(if v<0 then max (v+(n:Int)) 0 else min v (n:Int))=((sIx n d (some v):Nat):Int):=by
 show(if v<0 then max (v+(n:Int)) 0 else min v (n:Int))=(((if v<0 then(v+(n:Int)).toNat else min v.toNat n):Nat):Int)
 by_cases hv:v<0
 ·simp only[if_pos hv];omega
 ·simp only[if_neg hv];omega
theorem Jcn(lo hi:Option Int)(n:Nat):Builtin.Slice.sliceAdjust lo hi 1 (n:Int)=(((sIx n 0 lo:Nat):Int),((sIx n n hi:Nat):Int)):=by
 have h1:¬((1:Int)<0):=by omega
 unfold Builtin.Slice.sliceAdjust;simp only[h1,if_false];refine Prod.ext ?_ ?_
 ·cases lo with
  | none=>rfl
  | some v=>exact Jdt v n 0
 ·cases hi with
  | none=>rfl
  | some v=>exact Jdt v n n
theorem Jc0(i j:Nat):Builtin.Slice.slicePlaces (i:Int) (j:Int) 1=j-i:=by
 unfold Builtin.Slice.slicePlaces;have h1:(1:Int)>0:=by omega
 simp only[h1,if_true,Int.ediv_one];split <;> omega
theorem Zx{v:Value}{o:Option Int}{Q:Option Int->Shared->Prop}(p:IsPart v o)(h:Q o s):wpAny (model prog w) A (Builtin.Slice.slicePartIndex v) Q E s:=by
 cases p with
 | none=>exact slicePart_none h
 | int i t=>exact slicePart_int h
theorem UR{sl:Addr}{vl vu:Value}{lo hi:Option Int}{n:Nat}{Q:Int×Int×Nat->Shared->Prop}(hs:s.heap.IsSliceOf sl vl vu .none)(pl:IsPart vl lo)(pu:IsPart vu hi)
 (h:Q (((sIx n 0 lo:Nat):Int),1,sIx n n hi-sIx n 0 lo) s):wpAny (model prog w) A (Builtin.Slice.sliceApplied (.ref sl) (pure (n:Int))) Q E s:=by
 obtain⟨os,hos,hcs,hds⟩:=id hs;unfold Builtin.Slice.sliceApplied Builtin.Slice.sliceFields;refine wpAny_bind (wpAny_bind (wpAny_field hos hds (x:=vl) rfl (wpAny_bind (wpAny_field hos hds (x:=vu) rfl (wpAny_bind (wpAny_field hos hds (x:=.none) rfl (wpAny_pure ?_)))))));refine wpAny_bind (slicePart_none ?_);show wpAny _ _ (if ((1:Int) == 0)=true then _ else _) _ _ s;rw[if_neg (by decide)];refine wpAny_bind (Zx pl (wpAny_bind (Zx pu (wpAny_bind (wpAny_pure ?_)))))
 show wpAny _ _ (match Builtin.Slice.sliceAdjust lo hi 1 (n:Int) with|(lo,hi)=>pure (lo,(1:Int),Builtin.Slice.slicePlaces lo hi 1)) _ _ s;rw[Jcn lo hi n]
 show wpAny _ _ (pure (((sIx n 0 lo:Nat):Int),(1:Int),Builtin.Slice.slicePlaces ((sIx n 0 lo:Nat):Int) ((sIx n n hi:Nat):Int) 1)) _ _ s;rw[Jc0];exact wpAny_pure h
theorem JgM(xs:Array Value)(i k:Nat):((List.range k).filterMap fun(m:Nat)=>xs[((i:Int)+(m:Int)*1).toNat]?).toArray=((xs.toList.drop i).take k).toArray:=by
 have e:(fun(m:Nat)=>xs[((i:Int)+(m:Int)*1).toNat]?)=fun m=>xs[i+m]?:=by
  funext m
  have:((i:Int)+(m:Int)*1).toNat=i+m:=by omega
  rw[this]
 rw[e];have:=pick_run xs i k;rw[List.filterMap_map] at this;have e2:((fun x=>xs[x]?) ∘ fun x=>i+x)=fun m=>xs[i+m]?:=rfl
 rw[e2] at this;rw[this]

theorem VN{t sl:Addr}{items:Array Value}{vl vu:Value}{lo hi:Option Int}{Q:Value->Shared->Prop}(ht:IsTup s.heap t items)(hs:s.heap.IsSliceOf sl vl vu .none)(pl:IsPart vl lo)(pu:IsPart vu hi)
 (hw:¬(sIx items.size 0 lo=0/\sIx items.size items.size hi=items.size))
 (h:Q (.ref s.heap.objs.size) { s with heap:=s.heap.push { cls:=.type "tuple",data:=.seq ((items.toList.drop (sIx items.size 0 lo)).take (sIx items.size items.size hi-sIx items.size 0 lo)).toArray } })
 (hsz:items.size<=sizeLine):wpAny (model prog w) A (getItem (.ref t) (.ref sl)) Q E s:=by
 have htake:sizeOk (.seq ((items.toList.drop (sIx items.size 0 lo)).take (sIx items.size items.size hi-sIx items.size 0 lo)).toArray):=by show((items.toList.drop (sIx items.size 0 lo)).take (sIx items.size items.size hi-sIx items.size 0 lo)).toArray.size<=sizeLine;rw[List.size_toArray,List.length_take,List.length_drop,Array.length_toList];omega
 have hj:sIx items.size items.size hi<=items.size:=Jmc _ _ (Nat.le_refl _) hi;obtain⟨os,hos,hcs,hds⟩:=id hs
 have hTs:s.TypeIs (.ref sl) "slice":=⟨os,hos,hcs⟩
 unfold getItem
 try with_reducible refine wpAny_holding ?_
 first|refine wpAny_bind (wpAny_pure ?_)|skip
 refine wpAny_bind (wpAny_sequenceKey ht.typeIs (by decide) ?_);refine wpAny_bind (wpAny_callSpecial?_slot (name:=Str.ofString "__getitem__") ht.typeIs PyProof.Rows.slot_tuple_getitem
  (wpAny_call_entry PyProof.Rows.slot_tuple_getitem ht.typeIs entry_tuple_getitem ?_ (args_tuple_getitem _ _)))
 show wpAny _ _ (Builtin.Tuple.tupleItemsOf (.ref t) >>= _) _ _ s;refine wpAny_bind (tupleItemsOf_ ht ?_);refine wpAny_bind (wpAny_typeOf hTs ?_);rw[if_pos (by decide)];refine wpAny_bind (UR hs pl pu ?_)
 have hno:¬((((sIx items.size 0 lo:Nat):Int) == 0 && (1:Int) == 1 && (sIx items.size items.size hi-sIx items.size 0 lo) == items.size)=true):=by intro q;rw[Bool.and_eq_true,Bool.and_eq_true] at q;have q1:((sIx items.size 0 lo:Nat):Int)=0:=eq_of_beq q.1.1;have q2:sIx items.size items.size hi-sIx items.size 0 lo=items.size:=eq_of_beq q.2;exact hw ⟨by omega,by omega⟩
 show wpAny _ _ (if (((sIx items.size 0 lo:Nat):Int) == 0 && (1:Int) == 1 && (sIx items.size items.size hi-sIx items.size 0 lo) == items.size)=true then _ else _) _ _ s;rw[if_neg hno,JgM]
 first
  | exact wpAny_bind (m:=Builtin.Tuple.tupleExact _) (wpAny_newObj_type (wpAny_pure ⟨_,rfl,wpAny_pure h⟩) htake)
  | exact wpAny_bind (m:=Builtin.Tuple.tupleExact _) (wpAny_newObj_type (wpAny_bind (wpAny_pure (wpAny_pure ⟨_,rfl,wpAny_pure h⟩))) htake)
  | exact wpAny_bind (wpAny_bind (m:=Builtin.Tuple.tupleExact _) (wpAny_newObj_type (wpAny_pure (wpAny_pure ⟨_,rfl,wpAny_pure h⟩)) htake))
  | exact wpAny_bind (wpAny_bind (m:=Builtin.Tuple.tupleExact _) (wpAny_newObj_type (wpAny_pure ⟨_,rfl,wpAny_pure h⟩) htake))
end
end HT

namespace L2
open PySem PySem.Spec PyProof.Rows

noncomputable abbrev TO:=St->Hp->(Option Int->Hp->Prop)->Prop
noncomputable def PO(X:Cx)(e:Option Expr)(t:TO):Prop :=
 ∀(pins:List (Addr×Obj)) (s:Shared) (σ:St) (H:Hp) (Q:Option Int->Hp->Prop),Inv X pins σ H s->t σ H Q ->
  wpAny (model X.prog X.w) X.A (evalPart e X.env) (fun u s'=>∃o H',Inv X pins σ H' s'/\IsPart u o/\Q o H') X.xe s
noncomputable def Jem:TO:=fun _ H Q=>Q none H
noncomputable def Jj8(t:TE):TO:=fun σ H Q=>t σ H fun x H1=>∃i,x=.int i/\Q (some i) H1

theorem Vx{ns:List Int}:∀{us:List Value},Vals (ns.map V.int) us->IntsAre us ns:=by
 induction ns with
 | nil=>intro us r;rw[List.map_nil] at r;cases r;exact .nil
 | cons n ns ih =>
  intro us r;rw[List.map_cons] at r
  cases r with
  | cons r1 r2=>obtain⟨t,e⟩:=r1;subst e;exact .cons n t (ih r2)

section
variable{X:Cx}{e:Expr}{te:TE}{lo hi:Option Expr}{tl th:TO}{pos p2:Pos}

theorem JiR:PO X none Jem:=by intro pins s σ H Q I h;rw[evalPart_none];exact wpAny_pure ⟨none,H,I,.none,h⟩
theorem JiS(h:PE X e te):PO X (some e) (Jj8 te):=by
 intro pins s σ H Q I hw;rw[evalPart_some];refine thn (h pins s σ H _ I hw) fun u s1 ⟨x,H1,I1,r1,q1⟩=>?_
 obtain⟨i,rfl,q⟩:=q1;obtain⟨t,rfl⟩:=r1;exact⟨some i,H1,I1,.int i t,q⟩

noncomputable def SlR(X:Cx)(r:V->Option Int->Option Int->Hp->VK->Prop):Prop :=
 ∀(pins:List (Addr×Obj)) (s:Shared) (σ:St) (H:Hp) (x:V) (v vl vu:Value) (lo hi:Option Int) (sl:Addr) (Q:VK),Inv X pins σ H s->RelV x v->s.heap.IsSliceOf sl vl vu .none->IsPart vl lo->IsPart vu hi->r x lo hi H Q ->
  ∃T id,typeLookup (.type T) "__getitem__"=pure (some (.builtin id))/\s.TypeIs v T/\wpAny (model X.prog X.w) X.A (getItem v (.ref sl)) (EP X pins σ Q) X.xe s
theorem SlR.or{r r':V->Option Int->Option Int->Hp->VK->Prop}(h:SlR X r)(h':SlR X r'):SlR X (fun x lo hi H Q=>r x lo hi H Q\/r' x lo hi H Q):=by
 intro pins s σ H x v vl vu lo hi sl Q I rx hs pl pu q;rcases q with q|q
 ·exact h pins s σ H x v vl vu lo hi sl Q I rx hs pl pu q
 ·exact h' pins s σ H x v vl vu lo hi sl Q I rx hs pl pu q
noncomputable def tSl(r:V->Option Int->Option Int->Hp->VK->Prop)(te:TE)(tl th:TO):TE:=fun σ H Q=>te σ H fun x H1=>tl σ H1 fun l H2=>th σ H2 fun u H3=>r x l u H3 Q
theorem JgI{r:V->Option Int->Option Int->Hp->VK->Prop}(hr:SlR X r)(he:PE X e te)(hl:PO X lo tl)(hu:PO X hi th):PE X (.Subscript e (.Slice lo hi none p2) pos) (tSl r te tl th):=by
 intro pins s σ H Q I h;refine Subscript_ (thn (he pins s σ H _ I h) fun v s1 ⟨x,H1,I1,r1,q1⟩=>?_);refine wpAny_Slice (thn (hl pins s1 σ H1 _ I1 q1) fun vl s2 ⟨l,H2,I2,pl,q2⟩=>thn (hu pins s2 σ H2 _ I2 q2) fun vu s3 ⟨u,H3,I3,pu,q3⟩=>?_);rw[evalPart_none];refine wpAny_pure ?_;have I4:Inv X pins σ H3 { s3 with heap:=s3.heap.push { cls:=.type "slice",data:=.fields #[vl,vu,.none] } }:=I3.kept (t':=s3.toks) fun b ob q=>Heap.get?_push_of_some _ q
 obtain⟨T,id,hT,ht,hg⟩:=hr pins { s3 with heap:=s3.heap.push { cls:=.type "slice",data:=.fields #[vl,vu,.none] } } σ H3 x v vl vu l u s3.heap.objs.size Q I4 r1 (Heap.IsSliceOf.new ..) pl pu q3;show wpAny (model X.prog X.w) X.A (subscriptTail e (.Slice lo hi none p2) v (.ref s3.heap.objs.size)) (EP X pins σ Q) X.xe { s3 with heap:=s3.heap.push { cls:=.type "slice",data:=.fields #[vl,vu,.none] } };exact tail_any (ops:=[.ref s3.heap.objs.size,v]) ht hT hg (by with_unfolding_all rfl)

noncomputable def ZG(xs:List V)(lo hi:Option Int):List V:=(xs.drop (HT.sIx xs.length 0 lo)).take (HT.sIx xs.length xs.length hi-HT.sIx xs.length 0 lo)
theorem Wr(xs:List V)(lo hi:Option Int):(ZG xs lo hi).length<=xs.length:=by unfold ZG;rw[List.length_take,List.length_drop];omega
noncomputable def Jnk(K:Frag):V->Option Int->Option Int->Hp->VK->Prop:=fun x lo hi H Q=>∃a xs,x=.ref a/\SqT K H a xs ∧
 ¬(HT.sIx xs.length 0 lo=0/\HT.sIx xs.length xs.length hi=xs.length)/\∀p,H p=none->Q (.ref p) (upd H p (.tup (ZG xs lo hi)))
theorem sl_tup:SlR X (Jnk X.K):=by
 intro pins s σ H x v vl vu lo hi sl Q I rx hs pl pu h;obtain⟨a,xs,rfl,hx,hw,q⟩:=h;cases rx;obtain⟨its,r,ht,hz⟩:=I.tuple hx;have hlen:its.toArray.size=xs.length:=by rw[List.size_toArray];exact r.length.symm
 refine⟨"tuple",_,PyProof.Rows.slot_tuple_getitem.lookup,ht.typeIs,?_⟩;refine HT.VN ht hs pl pu (by rw[hlen];exact hw) ?_ (by rw[hlen];exact hz);rw[hlen];refine⟨.ref s.heap.objs.size,_,I.laid (t':=s.toks) (o:=.tup (ZG xs lo hi)) (fun b ob q=>Heap.get?_push_of_some _ q) (Nat.le_refl _) ?_,rfl,q _ (I.hok.fresh (Nat.le_refl _))⟩;exact⟨Nat.le_trans (Wr xs lo hi) hz,_,(r.drop (HT.sIx xs.length 0 lo)).take (HT.sIx xs.length xs.length hi-HT.sIx xs.length 0 lo),IsTup.new _ _⟩

noncomputable def JjY(K:Frag):R2:=fun x y H Q=>∃a b xs ys,x=.ref a/\y=.ref b/\SqT K H a xs/\SqT K H b ys/\xs≠[]/\xs.length+ys.length<=sizeLine ∧
 (ys=[]->Q (.ref a) H)/\(ys≠[]->∀p,H p=none->Q (.ref p) (upd H p (.tup (xs++ys))))
theorem Vals.nil_iff{xs:List V}{us:List Value}(r:Vals xs us):us=[]↔xs=[]:=by
 cases r with
 | nil=>simp
 | cons _ _=>simp
theorem JiH:OpR X (binaryOp .Add) (JjY X.K):=by
 intro pins s σ H x y v u Q I rx ry h;obtain⟨a,b,xs,ys,rfl,rfl,ha,hb,hx,hz,q1,q2⟩:=h;cases rx;cases ry;obtain⟨its,r1,p1,_⟩:=I.tuple ha;obtain⟨its2,r2,p2,_⟩:=I.tuple hb;refine HT.JhU p1 p2 (fun z=>hx (r1.nil_iff.mp z)) (fun z=>⟨.ref a,H,I,rfl,q1 (r2.nil_iff.mp z)⟩) (fun z=>?_) (by rw[<- r1.length,<- r2.length];exact hz);refine⟨.ref s.heap.objs.size,_,I.laid (t':=s.toks) (o:=.tup (xs++ys)) (fun b ob q=>Heap.get?_push_of_some _ q) (Nat.le_refl _) ?_,rfl,q2 (fun w=>z (r2.nil_iff.mpr w)) _ (I.hok.fresh (Nat.le_refl _))⟩
 exact⟨by rw[List.length_append];exact hz,_,r1.append r2,IsTup.new _ _⟩
end
end L2

namespace L2
open PySem PySem.Spec PyProof.Rows

noncomputable def ixN(n:Nat)(i:Int):Option Nat:=if 0<=i then(if i<n then some i.toNat else none) else if -(n:Int)<=i then some (i+n).toNat else none
noncomputable def atI{α:Type}(xs:List α)(i:Int):Option α:=(ixN xs.length i).bind fun j=>xs[j]?
theorem JdQ{n:Nat}{i:Int}{j:Nat}(h:ixN n i=some j):seqIndex? i n=some j/\j<n/\-(n:Int)<=i/\i<n:=by
 unfold ixN at h
 by_cases h0:0<=i
 ·rw[if_pos h0] at h
  by_cases h1:i<n
  ·rw[if_pos h1] at h;have e:i.toNat=j:=Option.some.inj h;exact⟨by rw[seqIndex_of h0 h1,e],by omega,by omega,h1⟩
  ·rw[if_neg h1] at h;cases h
 ·rw[if_neg h0] at h
  by_cases h1:-(n:Int)<=i
  ·rw[if_pos h1] at h;have e:(i+n).toNat=j:=Option.some.inj h;exact⟨by rw[seqIndex_neg (by omega) h1,e],by omega,h1,by omega⟩
  ·rw[if_neg h1] at h;cases h
theorem Jau{α:Type}{xs:List α}{i:Int}{v:α}(h:atI xs i=some v):∃j,seqIndex? i xs.length=some j/\xs[j]?=some v/\j<xs.length/\-(xs.length:Int)<=i/\i<xs.length:=by
 unfold atI at h
 cases e:ixN xs.length i with
 | none=>rw[e] at h;cases h
 | some j=>rw[e] at h;obtain⟨h1,h2,h3,h4⟩:=JdQ e;exact⟨j,h1,h,h2,h3,h4⟩
noncomputable def JhK(b:Expr):Prop:=∀o i,subscripted b false o i=operate [o,i] (getItem o i)
noncomputable def IxR(X:Cx)(r:R2):Prop :=
 ∀(value slice:Expr) (pins:List (Addr×Obj)) (s:Shared) (σ:St) (H:Hp) (x y:V) (v u:Value) (Q:VK),Inv X pins σ H s->RelV x v->RelV y u->r x y H Q ->
  subscripted slice false v u=operate [v,u] (getItem v u)->wpAny (model X.prog X.w) X.A (subscriptTail value slice v u) (EP X pins σ Q) X.xe s
noncomputable def MtR(X:Cx)(id:String)(r:V->List V->Hp->VK->Prop):Prop :=
 ∀(pins:List (Addr×Obj)) (s:Shared) (σ:St) (H:Hp) (x:V) (xs:List V) (v:Value) (us:List Value) (Q:VK),Inv X pins σ H s->RelV x v->Vals xs us->r x xs H Q ->
  wpAny (model X.prog X.w) X.A (call (.builtin id) (v::us)) (EP X pins σ Q) X.xe s
section
variable{X:Cx}{a b:Expr}{ta tb:TE}{pos:Pos}
theorem IxR.or{r r':R2}(h:IxR X r)(h':IxR X r'):IxR X (fun x y H Q=>r x y H Q\/r' x y H Q):=by
 intro value slice pins s σ H x y v u Q I rx ry q hs;rcases q with q|q
 ·exact h value slice pins s σ H x y v u Q I rx ry q hs
 ·exact h' value slice pins s σ H x y v u Q I rx ry q hs
theorem MtR.or{id:String}{r r':V->List V->Hp->VK->Prop}(h:MtR X id r)(h':MtR X id r'):MtR X id (fun x xs H Q=>r x xs H Q\/r' x xs H Q):=by
 intro pins s σ H x xs v us Q I rx rs q;rcases q with q|q
 ·exact h pins s σ H x xs v us Q I rx rs q
 ·exact h' pins s σ H x xs v us Q I rx rs q
theorem Yw{r:R2}(hr:IxR X r)(ha:PE X a ta)(hb:PE X b tb)(hs:JhK b):PE X (.Subscript a b pos) (tOp r ta tb):=by intro pins s σ H Q I h;exact Subscript_ (Jki ha hb I h fun v u s2 x y H2 I2 rx ry q=>hr a b pins s2 σ H2 x y v u Q I2 rx ry q (hs _ _))

noncomputable def Jnd(K:Frag):R2:=fun x y H Q=>∃p xs i v,x=.ref p/\y=.int i/\SqL K H p xs/\atI xs i=some v/\Q v H
noncomputable def Jnf(K:Frag):R2:=fun x y H Q=>∃p xs i v,x=.ref p/\y=.int i/\SqT K H p xs/\atI xs i=some v/\Q v H
noncomputable def Jne:R2:=fun x y H Q=>∃z i c,x=.str z/\y=.int i/\z.length<=sizeLine/\atI z.cps.toList i=some c/\Q (.str ⟨#[c]⟩) H
theorem ix_list:IxR X (Jnd X.K):=by
 intro value slice pins s σ H x y v u Q I rx ry h hs;obtain⟨p,xs,i,z,rfl,rfl,hq,he,q⟩:=h;cases rx;obtain⟨t,rfl⟩:=ry;obtain⟨its,r,pl,hz⟩:=I.list hq;obtain⟨j,h1,h2,h3,h4,h5⟩:=Jau he;obtain⟨w,ew,rw'⟩:=r.get h2;have hl:=r.length;have hn:=Wf;have fin:EP X pins σ Q w s:=⟨z,H,I,rw',q⟩
 by_cases h0:0<=i
 ·have hj:i.toNat=j:=by rw[seqIndex_of h0 h5] at h1;exact Option.some.inj h1
  exact item_listR pl.isList h0 (by omega) (by rw[hj];simpa using ew) fin hs
 ·have hj:(i+(its.toArray.size:Int)).toNat=j:=by rw[seqIndex_neg (by omega) h4] at h1;rw[List.size_toArray,<- hl];exact Option.some.inj h1
  exact subscriptTail_builtinR (x:=w) pl.isList.typeIs slot_list_getitem.lookup
   (wpAny_getItem_list_neg (Q:=fun r s'=>r=w/\EP X pins σ Q r s') pl.isList (by omega) (by rw[List.size_toArray] <;> omega) (by omega) (by rw[hj];simpa using ew) ⟨rfl,fin⟩) hs
theorem ix_tup:IxR X (Jnf X.K):=by
 intro value slice pins s σ H x y v u Q I rx ry h hs;obtain⟨p,xs,i,z,rfl,rfl,hq,he,q⟩:=h;cases rx;obtain⟨t,rfl⟩:=ry;obtain⟨its,r,pl,hz⟩:=I.tuple hq;obtain⟨j,h1,h2,h3,h4,h5⟩:=Jau he;obtain⟨w,ew,rw'⟩:=r.get h2;have hl:=r.length;have hn:=Wf;have fin:EP X pins σ Q w s:=⟨z,H,I,rw',q⟩
 exact subscriptTail_builtinR (x:=w) pl.typeIs slot_tuple_getitem.lookup
  (getItem_tuple (j:=j) (Q:=fun r s'=>r=w/\EP X pins σ Q r s') pl (by omega) (by omega) (by rw[List.size_toArray,<- hl];exact h1) (by simpa using ew) ⟨rfl,fin⟩) hs
theorem JkV:IxR X Jne:=by
 intro value slice pins s σ H x y v u Q I rx ry h hs;obtain⟨z,i,c,rfl,rfl,hz,he,q⟩:=h;obtain⟨t,rfl⟩:=rx;obtain⟨t',rfl⟩:=ry;obtain⟨j,h1,h2,h3,h4,h5⟩:=Jau he;have hl:z.cps.toList.length=z.length:=by simp[Str.length]
 rw[hl] at h1 h4 h5;have hn:=Wf;exact tail_any (typeIs_str s z t) slot_str_getitem.lookup (getItem_str (c:=c) (by
  have e1:decide (i < -(2 ^ 63:Int))=false:=decide_eq_false (by omega)
  have e2:decide (i ≥ 2 ^ 63)=false:=decide_eq_false (by omega);rw[e1,e2,Bool.or_false]) (by rw[h1];simpa using h2) ⟨.str ⟨#[c]⟩,H,I.tok _,⟨_,rfl⟩,q⟩) hs
noncomputable def rIx(K:Frag):R2:=fun x y H Q=>Jnd K x y H Q\/Jnf K x y H Q\/Jne x y H Q
theorem JkU:IxR X (rIx X.K):=ix_list.or (ix_tup.or JkV)

theorem JcT(its:List Value)(n j:Nat)(u:Value):Obj.mapSeq (·.setIfInBounds j u) { cls:=.type "list",data:=.seq its.toArray n }={ cls:=.type "list",data:=.seq (its.set j u).toArray n }:=by simp[Obj.mapSeq]
theorem Inv.lst{pins:List (Addr×Obj)}{σ:St}{H:Hp}{s:Shared}{p:Addr}{xs:List V}(I:Inv X pins σ H s)(h:H p=some (.lst xs)) :
 ∃(its:List Value) (n:Nat),Vals xs its/\s.heap.get? p=some { cls:=.type "list",data:=.seq its.toArray n }/\xs.length<=sizeLine:=by
 obtain⟨z,its,n,r,e⟩:=I.hok p _ h;exact⟨its,n,r,e,z⟩
theorem Inv.lstUpd{pins:List (Addr×Obj)}{σ:St}{H:Hp}{s:Shared}{p:Addr}{xs ys:List V}{its its':List Value}{n n':Nat}{f:Obj->Obj}(I:Inv X pins σ H s)(h:H p=some (.lst xs))
 (ho:s.heap.get? p=some { cls:=.type "list",data:=.seq its.toArray n }) (hf:f { cls:=.type "list",data:=.seq its.toArray n }={ cls:=.type "list",data:=.seq its'.toArray n' }) (r:Vals ys its') (hz:ys.length<=sizeLine) (t:Nat) :
 Inv X pins σ (upd H p (.lst ys)) { s with heap:=s.heap.update p f,toks:=t }:=by
 have e:(s.heap.update p f).get? p=some { cls:=.type "list",data:=.seq its'.toArray n' }:=by rw[Heap.get?_update_self f ho (by rw[hf] <;> rfl),hf]
 refine I.write (x:=p) (e:=p) (by rw[h];trivial) (.inl rfl) (fun b u hb q=>(Heap.get?_update_other _ _ (Ne.symm hb)).trans q) ⟨_,e⟩ ?_;exact⟨hz,its',n',r,e⟩
noncomputable def Jj0:V->V->V->Hp->(Hp->Prop)->Prop:=fun o i v H Q=>∃p xs k j,o=.ref p/\i=.int k/\H p=some (.lst xs)/\ixN xs.length k=some j/\Q (upd H p (.lst (xs.set j v)))
theorem Jcd:JmG X Jj0:=by
 intro pins s σ H o i v ov iv u Q I ro ri rv h;obtain⟨p,xs,k,j,rfl,rfl,hp,hj,q⟩:=h;cases ro;obtain⟨t,rfl⟩:=ri;obtain⟨its,n,r,ho,hz⟩:=I.lst hp;obtain⟨h1,h2,h3,h4⟩:=JdQ hj;have hl:=r.length;have hn:=Wf
 have I':Inv X pins σ (upd H p (.lst (xs.set j v))) { s with heap:=s.heap.update p (Obj.mapSeq (·.setIfInBounds j u)) } :=
  I.lstUpd hp ho (JcT its n j u) (r.set rv j) (by rw[List.length_set];exact hz) s.toks
 by_cases h0:0<=k
 ·have hk:k.toNat=j:=by rw[seqIndex_of h0 h4] at h1;exact Option.some.inj h1
  exact PySem.W.ki_setAt ho h0 (by omega) (by rw[List.size_toArray,<- hl];exact h4) (by rw[hk];exact⟨_,I',q⟩)
 ·have hk:(k+(its.toArray.size:Int)).toNat=j:=by rw[seqIndex_neg (by omega) h3] at h1;rw[List.size_toArray,<- hl];exact Option.some.inj h1
  exact PySem.W.ki_setBack ho (by omega) (by rw[List.size_toArray,<- hl];exact h3) (by omega) (by rw[hk];exact⟨_,I',q⟩)

theorem Jba(lo hi:Option Int)(n:Nat):(sliceBounds lo hi none n).1=((HT.sIx n 0 lo:Nat):Int)/\(sliceBounds lo hi none n).2.1=((HT.sIx n n hi:Nat):Int)/\(sliceBounds lo hi none n).2.2=1:=by
 refine⟨?_,?_,rfl⟩
 ·cases lo with
  | none=>simp[sliceBounds,HT.sIx]
  | some i =>
   simp only[sliceBounds,HT.sIx,Option.getD_none,show(1:Int)>0 by decide,if_true]
   by_cases h:i<0
   ·simp only[h,if_true] <;> omega
   ·simp only[h,if_false] <;> omega
 ·cases hi with
  | none=>simp[sliceBounds,HT.sIx]
  | some i =>
   simp only[sliceBounds,HT.sIx,Option.getD_none,show(1:Int)>0 by decide,if_true]
   by_cases h:i<0
   ·simp only[h,if_true] <;> omega
   ·simp only[h,if_false] <;> omega
theorem ZK(its:List Value)(lo hi:Option Int):slicePick its.toArray lo hi none=((its.drop (HT.sIx its.length 0 lo)).take (HT.sIx its.length its.length hi-HT.sIx its.length 0 lo)).toArray:=by obtain⟨h1,h2,h3⟩:=Jba lo hi its.toArray.size;unfold slicePick;rw[h1,h2,h3];simp only[sliceRange_one,pick_run,List.size_toArray] <;> rfl
noncomputable def Jnj(K:Frag):V->Option Int->Option Int->Hp->VK->Prop:=fun x lo hi H Q=>∃a xs,x=.ref a/\SqL K H a xs/\∀p,H p=none->Q (.ref p) (upd H p (.lst (ZG xs lo hi)))
theorem sl_list:SlR X (Jnj X.K):=by
 intro pins s σ H x v vl vu lo hi sl Q I rx hs pl pu h;obtain⟨a,xs,rfl,hx,q⟩:=h;cases rx;obtain⟨its,r,ht,hz⟩:=I.list hx;have hlen:=r.length;refine⟨"list",_,slot_list_getitem.lookup,ht.isList.typeIs,?_⟩;refine wpAny_getItem_list_slice ht.isList hs pl pu .none (by simp) ?_ (by rw[List.size_toArray] <;> omega);rw[ZK,<- hlen];refine⟨.ref s.heap.objs.size,_,I.laid (t':=s.toks) (o:=.lst (ZG xs lo hi)) (fun b ob q=>Heap.get?_push_of_some _ q) (Nat.le_refl _) ?_,rfl,q _ (I.hok.fresh (Nat.le_refl _))⟩
 exact⟨Nat.le_trans (Wr xs lo hi) hz,_,0,(r.drop (HT.sIx xs.length 0 lo)).take (HT.sIx xs.length xs.length hi-HT.sIx xs.length 0 lo),Heap.get?_push_size _ rfl⟩

theorem CallR.or{f:Value}{r r':List V->Hp->VK->Prop}(h:CallR X f r)(h':CallR X f r'):CallR X f (fun xs H Q=>r xs H Q\/r' xs H Q):=by
 intro pins s σ H xs us Q I rs q;rcases q with q|q
 ·exact h pins s σ H xs us Q I rs q
 ·exact h' pins s σ H xs us Q I rs q
theorem Jaz:CallR X (.type "list") (fun xs H Q=>∃p ys,xs=[.ref p]/\(SqL X.K H p ys\/SqT X.K H p ys)/\∀l,H l=none->Q (.ref l) (upd H l (.lst ys))):=by
 intro pins s σ H xs us Q I r h;obtain⟨p,ys,rfl,hq,q⟩:=h;obtain⟨u,rfl,rx⟩:=Vd r;cases rx
 have fin:∀(its:List Value),Vals ys its->ys.length<=sizeLine->∀(h':Heap) (c':Nat),(∀b o',s.heap.get? b=some o'->h'.get? b=some o') ->
  h'.get? s.heap.objs.size=some { cls:=.type "list",dict:=none,data:=.seq its.toArray c',slots:=#[] }->EP X pins σ Q (.ref s.heap.objs.size) { s with heap:=h' }:=fun its r' hz h' c' kp e =>
  ⟨.ref s.heap.objs.size,_,I.laid (t':=s.toks) kp (Nat.le_refl _) (show ObjOk X.prog X.w _ h' _ (.lst ys) from⟨hz,its,c',r',e⟩),rfl,q _ (I.hok.fresh (Nat.le_refl _))⟩
 rcases hq with hq|hq
 ·obtain⟨its,r',pl,hz⟩:=I.list hq;have hlen:=r'.length;obtain⟨o,ho,hc,n,hd⟩:=pl.isList;exact call_list_seq p (.inl rfl) ho hc hd (fun h' c' kp e=>fin its r' hz h' c' kp e) (by simp only[List.size_toArray] <;> omega)
 ·obtain⟨its,r',pl,hz⟩:=I.tuple hq;have hlen:=r'.length;obtain⟨o,ho,hc,n,hd⟩:=pl;exact call_list_seq p (.inr rfl) ho hc hd (fun h' c' kp e=>fin its r' hz h' c' kp e) (by simp only[List.size_toArray] <;> omega)
theorem ZF:CallR X (.type "tuple") (fun xs H Q=>∃p ys,xs=[.ref p]/\((SqL X.K H p ys/\∀l,H l=none->Q (.ref l) (upd H l (.tup ys)))\/(SqT X.K H p ys/\Q (.ref p) H))):=by
 intro pins s σ H xs us Q I r h;obtain⟨p,ys,rfl,h⟩:=h;obtain⟨u,rfl,rx⟩:=Vd r;cases rx;rcases h with ⟨hq,q⟩|⟨hq,q⟩
 ·obtain⟨its,r',pl,hz⟩:=I.list hq;have hlen:=r'.length;refine call_tuple_list pl.isList (fun h' kp=>?_) (by simp only[List.size_toArray] <;> omega);have I1:Inv X pins σ H { s with heap:=h' }:=I.kept (t':=s.toks) kp
  have I2:Inv X pins σ (upd H h'.objs.size (.tup ys)) { s with heap:=h'.push { cls:=.type "tuple",data:=.seq its.toArray } } :=
   I1.laid (t':=s.toks) (fun b o e=>Heap.get?_push_of_some _ e) (Nat.le_refl _) (show ObjOk X.prog X.w _ _ _ (.tup ys) from⟨hz,its,r',IsTup.new _ _⟩)
  exact⟨.ref h'.objs.size,_,I2,rfl,q _ (I1.hok.fresh (Nat.le_refl _))⟩
 ·obtain⟨its,r',pl,hz⟩:=I.tuple hq;exact call_tuple_same pl ⟨.ref p,H,I,rfl,q⟩

noncomputable def tyV(K:Frag)(T:String)(x:V)(H:Hp):Prop:=match x with
 | .str _=>T="str"
 | .int _=>T="int"
 | .ref p=>(T="list"/\∃xs,SqL K H p xs)\/(T="tuple"/\∃o,K.lookup p=some o/\o.cls=.type "tuple"/\o.dict=none) ∨
  (T="dict"/\((∃kvs,H p=some (.dK kvs))\/∃kvs,H p=some (.dT kvs)))\/(T="set"/\∃S n,H p=some (.set S n))
 | _=>False
theorem Jhy{pins:List (Addr×Obj)}{σ:St}{H:Hp}{s:Shared}{T:String}{x:V}{v:Value}(I:Inv X pins σ H s)(r:RelV x v)(ty:tyV X.K T x H) :
 s.TypeIs v T/\∀a,v=.ref a->∃ob,s.heap.get? a=some ob/\ob.dict=none:=by
 cases x with
 | str z=>obtain⟨t,rfl⟩:=r;cases (show T="str" from ty);exact⟨typeIs_str s z t,fun _ e=>nomatch e⟩
 | int i=>obtain⟨t,rfl⟩:=r;cases (show T="int" from ty);exact⟨typeIs_int s i t,fun _ e=>nomatch e⟩
 | ref p =>
  cases r;rcases ty with ⟨rfl,xs,hq⟩|⟨rfl,o,hk,hc,hd⟩|⟨rfl,hk⟩|⟨rfl,S,n,hk⟩
  ·obtain⟨its,_,pl,_⟩:=I.list hq;refine⟨pl.isList.typeIs,fun a e=>?_⟩;cases e;obtain⟨o,n,e,c,hd,_⟩:=pl;exact⟨o,e,hd⟩
  ·refine⟨⟨o,I.kIn p o hk,hc⟩,fun a e=>?_⟩;cases e;exact⟨o,I.kIn _ o hk,hd⟩
  ·have z:∃o,s.heap.get? p=some o/\o.ExactDict:=by
    rcases hk with ⟨kvs,hk⟩|⟨kvs,hk⟩
    ·obtain⟨_,_,_,_,o,_,_,e,ex,_⟩:=I.hok p _ hk;exact⟨o,e,ex⟩
    ·obtain⟨_,_,_,_,o,_,_,e,ex,_⟩:=I.hok p _ hk;exact⟨o,e,ex⟩
   obtain⟨o,e,ex⟩:=z;refine⟨⟨o,e,ex.1⟩,fun a e2=>?_⟩;cases e2;exact⟨o,e,ex.2.1⟩
  ·obtain⟨o,_,_,_,e,ex,_⟩:=I.hok p _ hk;refine⟨⟨o,e,ex.1⟩,fun a e2=>?_⟩;cases e2;exact⟨o,e,ex.2.1⟩
 | _=>exact False.elim ty
noncomputable def Jjw(K:Frag)(T:String)(r:V->List V->Hp->VK->Prop)(to:TE):TE:=fun σ H Q=>to σ H fun x H1=>tyV K T x H1/\r x [] H1 Q
noncomputable def tBM(K:Frag)(T:String)(r:V->List V->Hp->VK->Prop)(to:TE)(t:TA):TE:=fun σ H Q=>to σ H fun x H1=>tyV K T x H1/\t σ H1 fun xs H2=>r x xs H2 Q
variable{o e:Expr}{es:List Expr}{to:TE}{t:TA}{name:Str}{apos cpos:Pos}{T id:String}{r:V->List V->Hp->VK->Prop}
theorem Jlu(pa:PlainAttrs T)(slot:Slot T name id)(hty:typeOf (.builtin id)=pure (.type "method_descriptor"))(hm:MtR X id r)(ho:PE X o to)
 (hbase:attributeBase o name X.env (eval o X.env)=eval o X.env:=by rfl) (hline:(apos.endLine == cpos.line)=true:=by rfl):PE X (.Call (.Attribute o name apos) [] [] cpos) (Jjw X.K T r to):=by
 intro pins s σ H Q I h;refine wpAny_Call_method0_late hbase hline (thn (ho pins s σ H _ I h) fun v s1 ⟨x,H1,I1,r1,ty,q1⟩=>?_);obtain⟨h1,h2⟩:=Jhy I1 r1 ty;exact⟨T,id,pa,slot,hty,h1,h2,Calls.callWith_builtin rfl (PySem.evalArgs_none (hm pins s1 σ H1 x [] v [] Q I1 r1 .nil q1))⟩
theorem Jm9(pa:PlainAttrs T)(slot:Slot T name id)(hty:typeOf (.builtin id)=pure (.type "method_descriptor"))(hm:MtR X id r)(ho:PE X o to)(ha:PA X (e::es) t)
 (hbase:attributeBase o name X.env (eval o X.env)=eval o X.env:=by rfl)
 (hfew:((backTo cpos (starEach (e::es) X.env)).all (fun x=>!x.1) && (backToKw cpos (keywordEach [] X.env)).all (fun x=>x.1.isSome)
  && decide ((e::es).length+([]:List Keyword).length+(if ([]:List Keyword).isEmpty then 0 else 1)<30))=true:=by rfl)
 (hline:(apos.endLine == cpos.line)=true:=by rfl) (hs:starEach (e::es) X.env=(false,eval e X.env)::starEach es X.env:=by rfl) (hplain:(backTo cpos (starEach es X.env)).any (·.1)=false:=by rfl) :
 PE X (.Call (.Attribute o name apos) (e::es) [] cpos) (tBM X.K T r to t):=by
 intro pins s σ H Q I h;refine wpAny_Call_method_late hbase hfew hline rfl (thn (ho pins s σ H _ I h) fun v s1 ⟨x,H1,I1,r1,ty,q1⟩=>?_);obtain⟨h1,h2⟩:=Jhy I1 r1 ty;refine⟨T,id,pa,slot,hty,h1,h2,?_⟩;have hA:=ha cpos pins s1 σ H1 _ I1 q1;rw[hs] at hA ⊢;refine Calls.callWith_builtin (by show(false || (backTo cpos (starEach es X.env)).any (·.1))=false;rw[hplain] <;> rfl) (Calls.evalArgs_plain ?_);exact thn hA fun us s2 ⟨vs,H2,I2,r2,q2⟩=>hm pins s2 σ H2 x vs v us Q I2 r1 r2 q2
/- xs.append(e),list.index on a module's tuple .. are MtR facts of 06m -/
end
end L2

namespace L2
open PySem PySem.Spec PyProof.Rows

noncomputable def MtM(X:Cx)(id:String)(r:V->List V->Hp->VK->Prop):Prop :=
 ∀(pins:List (Addr×Obj)) (s:Shared) (σ:St) (H:Hp) (x:V) (xs:List V) (v:Value) (us:List Value) (Q:VK),Inv X pins σ H s->RelV x v->Vals xs us->r x xs H Q ->
  wpAny (model X.prog X.w) X.A (call (.builtin id) (v::us)) (EP X pins σ Q) X.xe s

theorem Vals.one:∀{x:V} {us:List Value},Vals [x] us->∃u,us=[u]/\RelV x u
 | _,_,.cons r .nil=>⟨_,rfl,r⟩
theorem Vals.two:∀{x y:V} {us:List Value},Vals [x,y] us->∃u v,us=[u,v]/\RelV x u/\RelV y v
 | _,_,_,.cons r (.cons q .nil)=>⟨_,_,rfl,r,q⟩
theorem Vals.zero:∀{us:List Value},Vals [] us->us=[]
 | _,.nil=>rfl
theorem Vals.dropLast{xs:List V}{us:List Value}(h:Vals xs us):Vals xs.dropLast us.dropLast:=by
 induction h with
 | nil=>exact .nil
 | cons r t ih =>
  cases t with
  | nil=>exact .nil
  | cons q t'=>exact .cons r ih
theorem Vals.eraseIdx:∀{xs:List V} {us:List Value} (i:Nat),Vals xs us->Vals (xs.eraseIdx i) (us.eraseIdx i)
 | _,_,_,.nil=>.nil
 | _,_,0,.cons _ t=>t
 | _,_,i+1,.cons r t=>.cons r (Vals.eraseIdx i t)
theorem Vals.rep{xs:List V}{us:List Value}(h:Vals xs us):∀k:Nat,Vals (List.replicate k xs).flatten (List.replicate k us).flatten
 | 0=>.nil
 | k+1=>by rw[List.replicate_succ,List.replicate_succ,List.flatten_cons,List.flatten_cons];exact Vals.append h (Vals.rep h k)
theorem JcD{α:Type}(l:List α):l.eraseIdx (l.length-1)=l.dropLast:=by
 induction l with
 | nil=>rfl
 | cons a r ih =>
  cases r with
  | nil=>rfl
  | cons b r =>
   have e:(a::b::r).length-1=((b::r).length-1)+1:=by
    have h1:(a::b::r).length=r.length+2:=rfl
    have h2:(b::r).length=r.length+1:=rfl;omega
   rw[e,List.eraseIdx_cons_succ,ih]
   all_goals rfl
theorem ZX(its:List Value):∀(k:Nat) (acc:List Value),
 List.foldl (fun x1 x2=>x1++x2) acc.toArray (List.replicate k its.toArray)=(acc++(List.replicate k its).flatten).toArray
 | 0,acc=>by simp
 | k+1,acc=>by
  have e:acc.toArray++its.toArray=(acc++its).toArray:=by simp
  have e2:(acc++its)++(List.replicate k its).flatten=acc++(List.replicate (k+1) its).flatten:=by rw[List.replicate_succ,List.flatten_cons,List.append_assoc]
  rw[<- e2,<- ZX its k (acc++its),<- e,List.replicate_succ,List.foldl_cons]

section
variable{X:Cx}{pins:List (Addr×Obj)}{σ:St}{H:Hp}{s:Shared}{l b:Addr}{xs ys zs:List V}

theorem Inv.lset{its its':List Value}{n:Nat}{f:Array Value->Array Value}{t':Nat}(I:Inv X pins σ H s)(hH:H l=some (.lst xs))
 (e:s.heap.get? l=some { cls:=.type "list",data:=.seq its.toArray n }) (hf:f its.toArray=its'.toArray) (hv:Vals ys its') (hz:ys.length<=sizeLine) :
 Inv X pins σ (upd H l (.lst ys)) { s with heap:=s.heap.update l (Obj.mapSeq f),toks:=t' }:=by
 have q:=PySem.IsL.update e f;rw[hf] at q;refine I.write (x:=l) (e:=l) (by rw[hH];exact trivial) (.inl rfl) (fun b' u hb hu=>(Heap.get?_update_other s.heap (Obj.mapSeq f) (Ne.symm hb)).trans hu) ⟨_,q⟩ ?_;exact⟨hz,its',_,hv,q⟩
theorem Inv.lnew{its:List Value}{t':Nat}(I:Inv X pins σ H s)(hv:Vals ys its)(hz:ys.length<=sizeLine) :
 Inv X pins σ (upd H s.heap.objs.size (.lst ys)) { s with heap:=s.heap.push { cls:=.type "list",data:=.seq its.toArray },toks:=t' } :=
 I.laid (fun _ _ q=>Heap.get?_push_of_some _ q) (Nat.le_refl _) ⟨hz,its,0,hv,Heap.get?_push_size _ rfl⟩
theorem Inv.fresh(I:Inv X pins σ H s):H s.heap.objs.size=none:=I.hok.fresh (Nat.le_refl _)
theorem Inv.lstM(I:Inv X pins σ H s)(hH:H l=some (.lst xs)):xs.length<=sizeLine/\∃(its:List Value) (n:Nat),Vals xs its/\xs.length=its.length/\s.heap.get? l=some { cls:=.type "list",data:=.seq its.toArray n }:=by obtain⟨z,its,n,r,e⟩:=I.hok l _ hH;exact⟨z,its,n,r,r.length,e⟩

theorem JbS{n:Nat}(h:n<=sizeLine):Builtin.List.listTooLong n=false:=by unfold Builtin.List.listTooLong;exact decide_eq_false (by omega)
end

section
variable{X:Cx}

noncomputable def Jea:V->List V->Hp->VK->Prop:=fun x vs H Q=>∃l xs y,x=.ref l/\vs=[y]/\H l=some (.lst xs)/\xs.length<sizeLine/\Q .non (upd H l (.lst (xs++[y])))
theorem Up:MtM X "list.append" Jea:=by intro pins s σ H x vs v us Q I rx rv h;obtain⟨l,xs,y,rfl,rfl,hH,hz,q⟩:=h;cases rx;obtain⟨u,rfl,ru⟩:=rv.one;obtain⟨z,its,n,r,hl,e⟩:=I.lstM hH;refine call_meets F.slot_list_append ⟨_,e,rfl⟩ F.entry_list_append (F.args_list_append_2 _ _) (PySem.list_append l its.toArray n u (by rw[List.size_toArray];omega)) ⟨e,?_⟩;refine⟨.non,_,I.lset (its':=its++[u]) hH e (by simp) (r.append (.cons ru .nil)) ?_,rfl,q⟩;rw[List.length_append,List.length_singleton];omega

noncomputable def Jec:V->List V->Hp->VK->Prop:=fun x vs H Q=>∃l b xs zs,x=.ref l/\vs=[.ref b]/\H l=some (.lst xs)/\H b=some (.lst zs)/\xs.length+zs.length<=sizeLine/\Q .non (upd H l (.lst (xs++zs)))
theorem Jae:MtM X "list.extend" Jec:=by
 intro pins s σ H x vs v us Q I rx rv h;obtain⟨l,b,xs,zs,rfl,rfl,hH,hB,hz,q⟩:=h;cases rx;obtain⟨u,rfl,ru⟩:=rv.one;cases ru;obtain⟨z,its,n,r,hl,e⟩:=I.lstM hH;obtain⟨z2,its2,n2,r2,hl2,e2⟩:=I.lstM hB;have hsz:its.toArray.size+its2.toArray.size<=sizeLine:=by rw[List.size_toArray,List.size_toArray];omega
 have hlong:¬(!its.toArray.isEmpty && Builtin.List.listTooLong (its.toArray.size+its2.toArray.size))=true:=by rw[JbS hsz,Bool.and_false];exact Bool.false_ne_true
 refine call_meets F.slot_list_extend ⟨_,e,rfl⟩ F.entry_list_extend (F.args_list_extend_2 _ _)
  (AutoSeq1.list_extend_list_list_0 l its.toArray n b its2.toArray n2 hlong (by rw[List.size_toArray];omega) (by omega)) ⟨e,e2,?_⟩
 refine⟨.non,_,I.lset (its':=its++its2) hH e (by simp) (r.append r2) ?_,rfl,q⟩;rw[List.length_append];omega

noncomputable def Jnh:V->List V->Hp->VK->Prop:=fun x vs H Q=>∃l xs y,x=.ref l/\vs=[]/\H l=some (.lst xs)/\xs[xs.length-1]?=some y/\Q y (upd H l (.lst xs.dropLast))
theorem Jle:MtM X "list.pop" Jnh:=by
 intro pins s σ H x vs v us Q I rx rv h;obtain⟨l,xs,y,rfl,rfl,hH,hy,q⟩:=h;cases rx;have hus:=rv.zero;subst hus;obtain⟨z,its,n,r,hl,e⟩:=I.lstM hH;obtain⟨u,hu,ru⟩:=r.get hy
 have hy':its.toArray[its.toArray.size-1]?=some u:=by show its.toArray[its.length-1]?=some u;rw[<- Array.getElem?_toList,<- hl];exact hu
 refine call_meets F.slot_list_pop ⟨_,e,rfl⟩ F.entry_list_pop (F.args_list_pop_1 _) (MeetsSeq.list_pop_last l its.toArray n u hy' (by rw[List.size_toArray];omega)) ⟨e,?_⟩;refine⟨y,_,I.lset (its':=its.dropLast) hH e ?_ r.dropLast ?_,ru,q⟩
 ·show its.toArray.eraseIdxIfInBounds (its.toArray.size-1)=its.dropLast.toArray;rw[List.size_toArray,List.eraseIdxIfInBounds_toArray,JcD]
 ·rw[List.length_dropLast];omega

noncomputable def JgY:V->List V->Hp->VK->Prop:=fun x vs H Q=>∃l xs,x=.ref l/\vs=[]/\H l=some (.lst xs)/\Q .non (upd H l (.lst []))
theorem Jgv:MtM X "list.clear" JgY:=by intro pins s σ H x vs v us Q I rx rv h;obtain⟨l,xs,rfl,rfl,hH,q⟩:=h;cases rx;have hus:=rv.zero;subst hus;obtain⟨z,its,n,r,hl,e⟩:=I.lstM hH;refine call_meets F.slot_list_clear ⟨_,e,rfl⟩ F.entry_list_clear (F.args_list_clear_1 _) (AutoSeq1.list_clear_list_0 l its.toArray n (by rw[List.size_toArray];omega)) ⟨e,?_⟩;exact⟨.non,_,I.lset (its':=[]) (ys:=[]) hH e rfl .nil (Nat.zero_le _),rfl,q⟩

noncomputable def Jnb:R2:=fun x y H Q=>∃l b xs zs,x=.ref l/\y=.ref b/\H l=some (.lst xs)/\H b=some (.lst zs)/\xs.length+zs.length<=sizeLine/\∀p,H p=none->Q (.ref p) (upd H p (.lst (xs++zs)))
theorem Jll:OpR X (binaryOp .Add) Jnb:=by
 intro pins s σ H x y v u Q I rx ry h;obtain⟨l,b,xs,zs,rfl,rfl,hH,hB,hz,q⟩:=h;cases rx;cases ry;obtain⟨z,its,n,r,hl,e⟩:=I.lstM hH;obtain⟨z2,its2,n2,r2,hl2,e2⟩:=I.lstM hB;refine PySem.P.add_list e e2 ?_ (by rw[List.size_toArray,List.size_toArray];omega);have ea:its.toArray++its2.toArray=(its++its2).toArray:=by simp
 rw[ea];exact⟨.ref _,_,I.lnew (t':=s.toks) (r.append r2) (by rw[List.length_append];omega),rfl,q _ I.fresh⟩
noncomputable def Jni:R2:=fun x y H Q=>∃l k xs,x=.ref l/\y=.int k/\H l=some (.lst xs)/\-(2 ^ 63)<=k/\k<2 ^ 63/\xs.length*k.toNat<=sizeLine ∧
 ∀p,H p=none->Q (.ref p) (upd H p (.lst (List.replicate k.toNat xs).flatten))
theorem Jiz{α:Type}(xs:List α)(k:Nat):(List.replicate k xs).flatten.length=k*xs.length:=by
 induction k with
 | zero=>simp
 | succ k ih=>rw[List.replicate_succ,List.flatten_cons,List.length_append,ih,Nat.succ_mul,Nat.add_comm]
theorem JgA:OpR X (binaryOp .Mult) Jni:=by
 intro pins s σ H x y v u Q I rx ry h;obtain⟨l,k,xs,rfl,rfl,hH,h1,h2,hz,q⟩:=h;cases rx;obtain⟨t,rfl⟩:=ry;obtain⟨z,its,n,r,hl,e⟩:=I.lstM hH;have hlen:its.toArray.size*k.toNat<=sizeLine:=by rw[List.size_toArray,<- hl];exact hz
 have hcap:¬its.toArray.size*k.toNat>(2 ^ 63-1) / 8:=by
  have:(sizeLine:Nat)<=(2 ^ 63-1) / 8:=by decide
  omega
 have hfit:¬(!Builtin.List.listFitsIndex k)=true:=by rw[fitsIndex_both h1 h2];exact Bool.false_ne_true
 have hlong:¬Builtin.List.listTooLong (its.toArray.size*k.toNat)=true:=by rw[JbS hlen];exact Bool.false_ne_true
 have hnew:List.foldl (fun x1 x2=>x1++x2) #[] (List.replicate (if its.toArray.isEmpty=true then 0 else k.toNat) its.toArray)=(List.replicate k.toNat its).flatten.toArray:=by
  have f0:∀m:Nat,List.foldl (fun x1 x2=>x1++x2) #[] (List.replicate m its.toArray)=(List.replicate m its).flatten.toArray:=fun m=>by have:=ZX its m [];rw[List.nil_append] at this;exact this
  rw[f0]
  cases its with
  | nil=>simp
  | cons a r'=>rw[if_neg (by simp)]
 refine wpAny_binaryOp_repeat_ref (T:="list") (U:="int") (by decide) ⟨_,e,rfl⟩ (fun s'=>typeIs_int s' k t) noFill_list_mul F.fills_int_mul F.slot_int_rmul repeat_list F.slot_int_index.lookup
  (call_meets F.slot_int_rmul (typeIs_int s k t) F.entry_int_rmul (F.args_int_rmul_2 _ _) (int___rmul___int_list k t l its.toArray n)
   ⟨e,rfl,⟨_,e,rfl⟩,call_meets F.slot_list_mul ⟨_,e,rfl⟩ F.entry_list_mul (F.args_list_mul_2 _ _) (AutoListH.list___mul___list_int_3 l its.toArray n k t hfit hcap hlong) ⟨e,?_⟩⟩)
 rw[hnew];exact⟨.ref _,_,I.lnew (t':=s.toks) (r.rep k.toNat) (by rw[Jiz,Nat.mul_comm];exact hz),rfl,q _ I.fresh⟩

end

section
variable{prog:Program}{w:World}{A:Around}{E:Value->Shared->Prop}{s:Shared}
end

section
variable{X:Cx}
end
end L2

namespace Att
open PySem PySem.W PySem.Calls PyProof.Rows

theorem WB{P:Params}{h:Heap}:∀(ns:List Int) (vs:List Value),WellAll P h vs (ns.map WData.int)->IntsAre vs ns:=by
 intro ns
 induction ns with
 | nil=>intro vs w;rw[List.map_nil] at w;cases w;exact .nil
 | cons n ns ih =>
  intro vs w;rw[List.map_cons] at w
  cases w with
  | cons a b=>cases a;exact .cons _ _ (ih _ b)

theorem Jfp{l:OpenLaw}{n:Nat}(hn:l.most=some n){P:Params}{h:Heap}{args:List WData}{vals:List Value}
 (hpre:l.row.toRowW.claim.pre args=true) (hwl:WellAll P h vals args) :
 ∃a vs ns,vals=[Value.ref a]/\args=[WData.list (ns.map WData.int)]/\h.get? a=some { cls:=.type "list",data:=.seq vs.toArray }/\IntsAre vs ns/\ns.length<=n:=by
 have hsh:WShape.hasAll [] args [.list .int]=true:=(pre_splitW hpre).1
 have hc:l.pre.holds [] { args:=args }=true:=(pre_splitW hpre).2;obtain⟨d,r,rfl,h1,h2⟩:=hasAllW_cons hsh;obtain rfl:=hasAllW_nil h2;obtain⟨xs,rfl,h3⟩:=hasW_list h1;obtain⟨ns,rfl⟩:=items_int h3
 have hlen:ns.length<=n:=by
  unfold OpenLaw.pre at hc
  have h4:(WTm.not (.lt (.lit (.int (n:Int))) (.len (.arg 0)))).holds [] { args:=[.list (ns.map .int)] }=true:=by have h4:=(holds_andW hc).1;rw[hn] at h4;exact h4
  have h5:=condW_of h4 (w_not (w_lt w_lit (w_len_list (w_arg rfl))));rw[List.length_map] at h5;refine Nat.le_of_not_lt fun q=>?_
  have q':(n:Int)<((ns.length:Nat):Int):=by omega
  first
   | (rw[decide_eq_true q'] at h5;exact absurd h5 (by decide))
   | (simp at h5;omega)
 cases hwl with
 | cons w1 w2 =>
  cases w2
  cases w1 with
  | list ho hall=>exact⟨_,_,ns,rfl,rfl,ho,WB ns _ hall,hlen⟩

theorem Jfi(l:OpenLaw)(args:List WData):l.row.toRowW.claim.post args (.bool true) args=true :=
 postW_of (r:=l.row.toRowW) (X:=(true == true))
  (show WShape.has [] (.bool true) .bool=true by first|rfl|decide|simp[WShape.has,WShape.arms,WShape.armsAll])
  (show(WTm.eq .res (.lit (.bool true))).value [] { args:=args,res:=some (.bool true),after:=args }=some (.bool (true == true)) from w_eq_bool (w_res rfl) w_lit) rfl

theorem attach_call{l:OpenLaw}{n:Nat}{q:Program}{loose:List Str}{XP:(Str->Option Value)->Heap->Prop}{YP:World->Heap->Prop}{d:DefRec}
 (hn:l.most=some n) (hdf:d.params.defaults=[])
 (call:∀(w:World) (s₀ s₁:Shared) (mg mb:Str->Option Value) (fa:Addr) (o:Obj) (pm cd doc:Value) (a:Addr) (vs:List Value) (ns:List Int),
  Ground q loose [] XP w s₀ mg mb s₁.heap->YP w s₁.heap ->
  s₁.heap.get? fa=some o->o.data=.func (docDef d.name d.params d.body d.scope pm cd doc)->s₁.heap.CodeRec cd d.name->mg d.name=some (.ref fa) ->
  s₁.heap.get? a=some { cls:=.type "list",data:=.seq vs.toArray }->IntsAre vs ns->ns.length<=n->s₁.gens=#[] ->
  codeAny (model l.prog w) callerA (.call (.ref fa) ⟨[.ref a],[]⟩) (fun r s'=>r=.ok (.ret (.bool true))/\OldK s₁.heap s'.heap/\s'.os=s₁.os/\AllBare s'.gens) s₁) :
 WalkO q loose XP YP l.row.toRowW d [] (fun f vs=>PySem.call f vs):=by
 intro w s₀ s₁ mg mb G Y fa o pm cd doc dV kV ho hd hcd hD hmg hg args vals as hpre hlay hrd hwl hlo;obtain rfl:dV=.none:=Dflts.none hD hdf;obtain rfl:kV=.none:=Dflts.noKw hD;obtain⟨a,vs,ns,rfl,rfl,hobj,hints,hlen⟩:=Jfp hn hpre hwl;refine enter_call (codeAny_mono (call w s₀ s₁ mg mb fa o pm cd doc a vs ns G Y ho (fd_plain hd) hcd hmg hobj hints hlen hg) fun r s' hq=>?_);obtain⟨rfl,h2,h3,h4⟩:=hq;exact⟨.inl ⟨.bool true,.bool true,[],rfl,fun _=>rfl,.bool true,Jfi l _,fun _=>⟨List.Pairwise.nil,fun _ hm=>(nomatch hm)⟩⟩,h2,h3,h4⟩

section
variable{prog:Program}{w:World}{A:Around}{E:Value->Shared->Prop}{s:Shared}{K:Frag}

end
end Att

namespace L2
open PySem PySem.Spec PyProof.Rows

theorem Jaq:∀{vs:List Value} {ns:List Int},IntsAre vs ns->Vals (ns.map V.int) vs
 | _,_,.nil=>.nil
 | _,_,.cons n t h=>.cons ⟨t,rfl⟩ (Jaq h)

noncomputable def Jke(H:Hp):Prop:=∀b,H b=none\/∃o xs,H b=some (.frz o (.lst xs))

theorem Jgm{P:Program}{w:World}{K:Frag}{mg mb:Str->Option Value}{CX:CXT}{k:Nat}{fa a:Addr}{fd:FuncData}{x:Str}{sp:Sp}{s₁:Shared}{vs:List Value}{ns:List Int}
 (KX:K.In s₁.heap) (hns:s₁.heap.Ns mainGlobals mg) (hb:s₁.heap.Ns builtinsNs mb) (hbb:∀x:Str,x≠"__name__"->mb x=bootBuiltins x) (hlim:s₁.heap.NoLimit) (hg:s₁.gens=#[])
 (ha:s₁.heap.get? a=some { cls:=.type "list",data:=.seq vs.toArray }) (hi:IntsAre vs ns) (hl:ns.length<=sizeLine) (hr:Room k callerA)
 (F:∀base:Heap,K.In base->base.Ns mainGlobals mg->FnOk P w K mg base CX k fa fd [x] sp) (hbind:∀(s:Shared) (u:Value),BindsTo s fd ⟨[u],[]⟩ [(x,u)])
 (hsp:∀H:Hp,Jke H->SqL K H a (ns.map V.int)->sp [.ref a] H (fun v _=>v=.bl true) fun _ _ _=>False)
 (hCX:∀H e s',CX [] H s₁ (fun _ _ _=>False) e s'->False) :
 codeAny (model P w) callerA (.call (.ref fa) ⟨[.ref a],[]⟩) (fun r s'=>r=.ok (.ret (.bool true))/\OldK s₁.heap s'.heap/\s'.os=s₁.os/\AllBare s'.gens) s₁:=by
 have rv:=Jaq hi
 have lenV:=hi.length
 -- from an abstract heap in which nothing but the script may be tracked
 have core:∀H:Hp,Jke H->SqL K H a (ns.map V.int)->HOk P w H s₁.heap->(∀b,H b≠none->b=a)->(H a≠none->K.lookup a=none) ->
  codeAny (model P w) callerA (.call (.ref fa) ⟨[.ref a],[]⟩) (fun r s'=>r=.ok (.ret (.bool true))/\OldK s₁.heap s'.heap/\s'.os=s₁.os/\AllBare s'.gens) s₁:=by
  intro H hO hS hok hA hK;have base_of:∀{b:Addr} {o:Obj},s₁.heap.get? b=some o->H b=none->(JaP s₁.heap H).get? b=some o:=fun e n=>Jgc e n
  have noA:∀{b:Addr} {o:Obj} {es:Array DictEntry} {ep:Nat},s₁.heap.get? b=some o->o.data=.dict es ep->H b=none:=fun {b o es ep} e d=>by
   cases q:H b with
   | none=>rfl
   | some u =>
    have e':b=a:=hA b (by rw[q];simp);subst e';rw[ha] at e;cases e
    have d':Data.seq vs.toArray _=Data.dict es ep:=d;cases d'
  have nsK:∀{b:Addr} {m:Str->Option Value},s₁.heap.Ns b m->(JaP s₁.heap H).Ns b m:=fun {b m} ⟨o,es,ep,e,d,r⟩=>⟨o,es,ep,base_of e (noA e d),d,r⟩
  have hKb:K.In (JaP s₁.heap H):=fun b o e=>base_of (KX b o e) (by
   cases q:H b with
   | none=>rfl
   | some u=>have e':b=a:=hA b (by rw[q];simp);subst e';rw[hK (by rw[q];simp)] at e;cases e)
  have hM:Mod K mg (JaP s₁.heap H):=⟨hKb,nsK hns,⟨mb,nsK hb,hbb⟩,let ⟨mc,h1,h2⟩:=hlim;⟨mc,nsK h1,h2⟩⟩
  have e0:Env0 P w K mg (JaP s₁.heap H) callerA [] s₁ H:=⟨rfl,hM,fun b o e=>JiF e,Nat.le_of_eq (JeV _ _),trivial,fun b hb=>absurd (show b∈([]:List Addr) from hb) (by simp),hok,.of_eq hg⟩
  refine codeAny_mono ((F _ hKb (nsK hns)).run callerA [] s₁ H ⟨[.ref a],[]⟩ [.ref a] [.ref a] _ _ hr e0 (hbind s₁ (.ref a)) (.cons rfl .nil) (hsp H hO hS)) fun r s' h=>?_
  cases r with
  | error e=>exact(hCX H e s' h).elim
  | ok fl =>
   cases fl with
   | next=>exact False.elim h
   | brk=>exact False.elim h
   | cont=>exact False.elim h
   | ret u =>
    obtain⟨v,H',os,bare,un,hok',r',q⟩:=h;have q':v=.bl true:=q;subst q';obtain rfl:u=Value.bool true:=r';refine⟨rfl,OldK.of_keep fun b o e=>?_,os,bare⟩
    cases q:H b with
    | none=>exact un.keep b o e q (by intro z;exact absurd (show b∈([]:List Addr) from z) (by simp)) (by simp)
    | some u =>
     rcases hO b with z|⟨ob,xs,z⟩
     ·rw[q] at z;cases z
     ·have z2:=un.frzs b ob _ z;obtain⟨e1,_⟩:=hok b _ z;obtain⟨e2,_⟩:=hok' b _ z2;rw[e] at e1;cases e1;exact e2
 cases hk:K.lookup a with
 | some o =>
  -- the script is one of the module's own objects
  have e:=KX a o hk;rw[ha] at e;cases e;refine core (fun _=>none) (fun _=>.inl rfl) (.inr ⟨_,vs.toArray,_,hk,rfl,rfl,rfl,by rw[List.size_toArray,lenV];exact hl,by simpa using rv⟩) (fun b u z=>by have z':(none:Option HO)=some u:=z;cases z') (fun b z=>absurd rfl z) fun z=>absurd rfl z
 | none =>
  refine core (fun b=>if b=a then some (.frz { cls:=.type "list",data:=.seq vs.toArray } (.lst (ns.map V.int))) else none) (fun b=>?_) (.inl (.inr ⟨{ cls:=.type "list",data:=.seq vs.toArray },if_pos rfl⟩)) (fun b u z=>?_) (fun b z=>?_) fun _=>hk
  ·by_cases hb:b=a
   ·exact .inr ⟨_,_,if_pos hb⟩
   ·exact .inl (if_neg hb)
  ·by_cases hb:b=a
   ·have z':=(if_pos hb).symm.trans z;cases z';subst hb;exact⟨ha,by rw[List.length_map];exact hl,vs,_,rv,ha⟩
   ·have z':=(if_neg hb).symm.trans z;cases z'
  ·by_cases hb:b=a
   ·exact hb
   ·exact absurd (if_neg hb) z
end L2

namespace L2
open PySem PySem.Spec PyProof.Rows

theorem JjG{l:PySem.W.OpenLaw}{n k:Nat}{q:Program}{loose:List Str}{XP:(Str->Option Value)->Heap->Prop}{YP:World->Heap->Prop}{d:DefRec}{K:Params->Frag}{CX:World->CXT}{sp:World->Sp}{x:Str}
 (hn:l.most=some n) (hn2:n<=sizeLine) (hdf:d.params.defaults=[]) (hr:Room k callerA)
 (hY:∀(w:World) (h:Heap),YP w h->(K w.params).In h)
 (F:∀(w:World) (mg:Str->Option Value) (fa:Addr) (h:Heap),(K w.params).In h->h.Ns mainGlobals mg->mg d.name=some (.ref fa) ->
  ∃fd:FuncData,(∀(s:Shared) (u:Value),BindsTo s fd ⟨[u],[]⟩ [(x,u)]) ∧
   ∀base:Heap,(K w.params).In base->base.Ns mainGlobals mg->FnOk l.prog w (K w.params) mg base (CX w) k fa fd [x] (sp w))
 (hsp:∀(w:World) (H:Hp) (a:Addr) (ns:List Int),ns.length<=n->Jke H->SqL (K w.params) H a (ns.map V.int)->sp w [.ref a] H (fun v _=>v=.bl true) fun _ _ _=>False)
 (hCX:∀(w:World) (H:Hp) (s:Shared) (e:Value) (s':Shared),CX w [] H s (fun _ _ _=>False) e s'->False) :
 PySem.W.WalkO q loose XP YP l.row.toRowW d [] (fun f vs=>PySem.call f vs):=by
 refine Att.attach_call hn hdf fun w s₀ s₁ mg mb fa o pm cd doc a vs ns G Y ho hd hcd hmg hobj hints hlen hg=>?_
 have KX:=hY w _ Y;obtain⟨fd,hb,hF⟩:=F w mg fa _ KX G.T.g hmg;exact Jgm KX G.T.g G.T.b G.T.builtins G.T.nolimit hg hobj hints (Nat.le_trans hlen hn2) hr hF hb (fun H hO hS=>hsp w H a ns hlen hO hS) fun H e s'=>hCX w H s₁ e s'
end L2

namespace L2
open PySem PySem.Spec PyProof.Rows

noncomputable def Jit(s:Stmt)(j:Nat):Stmt:=match s with
 | .ClassDef _ _ _ body _ _ _ _ _ _ _=>body.getD j (.Pass ⟨0,0,0,0⟩)
 | _=>.Pass ⟨0,0,0,0⟩
noncomputable def JI(s:Stmt):Arguments:=match s with
 | .FunctionDef _ a _ _ _ _ _ _ _ _=>a
 | _=>{ posonlyargs:=[],args:=[],vararg:=none,kwonlyargs:=[],kw_defaults:=[],kwarg:=none,defaults:=[] }
noncomputable def JE(s:Stmt):List Stmt:=match s with
 | .FunctionDef _ _ b _ _ _ _ _ _ _=>b
 | _=>[]
noncomputable def Jg(s:Stmt):Scope:=match s with
 | .FunctionDef _ _ _ _ _ _ sc _ _ _=>sc
 | _=>{ kind:=.function,names:=[],isGenerator:=false,isCoroutine:=false }

noncomputable abbrev CX0:CXT:=fun _ _ _ _ _ _=>False
noncomputable abbrev E0:XK:=fun _ _ _=>False
theorem JjX{X:Cx}:WP CX0 X E0:=fun _ _ _ _ _ _ _ h=>h.elim

structure Fun (K:Frag) (x qual:Str) (st:Stmt) (f:Addr) (fd:FuncData):Prop where
 ex:∃(oc:Value) (od:Option Addr) (kV doc pm:Value) (an:Option Addr) (cdv ct:Value) (osl:Array (Option Value)),
  fd=fnOf x qual (JI st) (JE st) (Jg st) .none kV doc pm an cdv ct/\K.lookup f=some ⟨oc,od,.func fd,osl⟩/\codeIn K cdv qual=true
 kp:keepIn K (.ref f)=true
section
variable{P:Program}{w:World}{K:Frag}{mg:Str->Option Value}{base:Heap}
theorem Fun.ok{x qual:Str}{st:Stmt}{f:Addr}{fd:FuncData}{N ps:List Str}{k:Nat}{sp:Sp}(F:Fun K x qual st f fd)(S:FnScope N ps (Jg st))(len:∀vs H Q E,sp vs H Q E->vs.length=ps.length)
 (hbody:∀(cdv:Value) (A:Around) (outer:List Env) (s:Shared) (H:Hp) (vs:List V) (Q:VK) (E:XK),Room k (A.deeper (envOfC qual (Jg st) s.heap.objs.size f cdv))->sp vs H Q E ->
  ∃t,PSs (WX CX0 P w K mg base N qual (Jg st) f cdv A outer s H E).nox (JE st) t/\t { nx:=fun _ H'=>Q .non H',rt:=Q } (YB N vs) H):FnOk P w K mg base CX0 (k+1) f fd ps sp:=by
 obtain⟨oc,od,kV,doc,pm,an,cdv,ct,osl,rfl,lk,hcd⟩:=F.ex;refine JjR lk hcd S len fun A outer s H vs Q E hr hsp=>?_
 obtain⟨t,h,q⟩:=hbody cdv A outer s H vs Q E hr hsp;exact⟨t,h.nox,q⟩
theorem Fun.binds{x qual:Str}{st:Stmt}{f:Addr}{fd:FuncData}{ps:List Str}(F:Fun K x qual st f fd)
 (h:∀(kV doc pm:Value) (an:Option Addr) (cdv ct:Value) (us:List Value),us.length=ps.length->bindArgs (fnOf x qual (JI st) (JE st) (Jg st) .none kV doc pm an cdv ct) ⟨us,[]⟩=pure (ps.zip us)):Binds K fd ps []:=by
 obtain⟨oc,od,kV,doc,pm,an,cdv,ct,osl,rfl,lk,hcd⟩:=F.ex;exact .all (h kV doc pm an cdv ct)
theorem J8{x qual:Str}{st:Stmt}{f:Addr}{oc:Value}{od an:Option Addr}{osl:Array (Option Value)}{kV doc pm cdv ct:Value}(l:K.lookup f=some ⟨oc,od,.func (fnOf x qual (JI st) (JE st) (Jg st) .none kV doc pm an cdv ct),osl⟩)
 (c:codeIn K cdv qual=true) (k:keepIn K (.ref f)=true):Fun K x qual st f (fnOf x qual (JI st) (JE st) (Jg st) .none kV doc pm an cdv ct):=⟨⟨oc,od,kV,doc,pm,an,cdv,ct,osl,rfl,l,c⟩,k⟩
end
theorem JbD{A:Around}{k:Nat}(hr:Room k A):A.units+1<cLine:=Nat.lt_of_le_of_lt (Nat.add_le_add_left (by decide:1<=64) _) hr.units
theorem Jfq{n:Nat}(h:n<=1000):n<sizeLine:=Nat.lt_of_le_of_lt h (by decide)

section
variable{X:Cx}
theorem pv(i:Nat){x:Str}{pos:Pos}(hN:X.N[i]?=some x:=by rfl)(hv:Vis X.env.scope x:=by first | exact Or.inl rfl | exact Or.inr (.inl rfl) | exact Or.inr (.inr rfl))(hd:(x == ("__debug__":Str))=false:=by decide)
 (hcd:(x == ("__classdict__":Str))=false:=by decide):PE X (.Name x pos) (WC i):=Jlx hN hv hd hcd
end

noncomputable def Same(H H':Hp):Prop:=∀b o,H b=some o->H' b=some o
theorem Same.refl(H:Hp):Same H H:=fun _ _ h=>h
theorem Same.trans{H H1 H2:Hp}(a:Same H H1)(b:Same H1 H2):Same H H2:=fun c o h=>b c o (a c o h)
theorem Same.free{H H':Hp}(e:Same H H'){l:Addr}(h:H' l=Option.none):H l=Option.none:=by
 cases q:H l with
 | none=>rfl
 | some o=>rw[e l o q] at h;cases h
theorem Same.seq{K:Frag}{H H':Hp}{a:Addr}{xs:List V}(e:Same H H')(h:SqL K H a xs):SqL K H' a xs:=by
 rcases h with (h|⟨o,h⟩)|h
 ·exact .inl (.inl (e _ _ h))
 ·exact .inl (.inr ⟨o,e _ _ h⟩)
 ·exact .inr h

end L2

namespace L2
open PySem PySem.Spec PyProof.Rows

section
variable{κ:Type}[DecidableEq κ]
noncomputable def V2(kvs:List (κ×V))(k:κ):Option V:=(kvs.find? fun kv=>decide (kv.1=k)).map (·.2)
noncomputable def VY(kvs:List (κ×V))(k:κ)(v:V):List (κ×V) :=
 if (kvs.any fun kv=>decide (kv.1=k))=true then kvs.map (fun kv=>if kv.1=k then(kv.1,v) else kv) else kvs++[(k,v)]
noncomputable def JjO(kvs:List (κ×V))(k:κ):List (κ×V):=kvs.filter fun kv=>decide (kv.1≠k)

theorem V4{p:κ×V}{r:List (κ×V)}{k:κ}(e:p.1=k):V2 (p::r) k=some p.2:=by simp[V2,List.find?_cons,e]
theorem V3{p:κ×V}{r:List (κ×V)}{k:κ}(e:¬p.1=k):V2 (p::r) k=V2 r k:=by simp[V2,List.find?_cons,e]
theorem Jcj(k:κ):∀kvs:List (κ×V),(kvs.any fun kv=>decide (kv.1=k))=(V2 kvs k).isSome
 | []=>rfl
 | p::r=>by
  rw[List.any_cons]
  by_cases e:p.1=k
  ·simp only[V4 e,decide_eq_true e,Bool.true_or,Option.isSome_some]
  ·rw[V3 e,decide_eq_false e,Bool.false_or];exact Jcj k r
theorem Wv(kvs:List (κ×V))(k:κ)(v:V):(VY kvs k v).length<=kvs.length+1:=by
 unfold VY;split
 ·rw[List.length_map];omega
 ·rw[List.length_append,List.length_cons,List.length_nil];omega
theorem RelO.isSome_eq{o:Option V}{u:Option Value}(r:RelO o u):o.isSome=u.isSome:=by
 cases o with
 | none=>cases u with
  | none=>rfl
  | some _=>exact(show False from r).elim
 | some _=>cases u with
  | none=>exact(show False from r).elim
  | some _=>rfl
theorem RelO.getD{o:Option V}{u:Option Value}{d:V}{d':Value}(r:RelO o u)(rd:RelV d d'):RelV (o.getD d) (u.getD d'):=by
 cases o with
 | none=>cases u with
  | none=>exact rd
  | some _=>exact(show False from r).elim
 | some _=>cases u with
  | none=>exact(show False from r).elim
  | some _=>exact r

theorem KV.val{kvs:List (κ×V)}{vs:List (κ×Value)}(r:KV kvs vs)(k:κ):RelO (V2 kvs k) (valueAt vs k):=by
 unfold KV at r
 induction r with
 | nil=>exact True.intro
 | @cons p q ps qs h t ih =>
  obtain⟨h1,h2⟩:=h
  by_cases e:p.1=k
  ·have e':q.1=k:=h1.symm.trans e
   have b:valueAt (q::qs) k=some q.2:=by simp[valueAt,List.find?_cons,e']
   rw[V4 e,b];exact h2
  ·have e':¬q.1=k:=fun z=>e (h1.trans z)
   have b:valueAt (q::qs) k=valueAt qs k:=by simp[valueAt,List.find?_cons,e']
   rw[V3 e,b];exact ih
theorem KV.any{kvs:List (κ×V)}{vs:List (κ×Value)}(r:KV kvs vs)(k:κ):(kvs.any fun kv=>decide (kv.1=k))=vs.any fun kv=>decide (kv.1=k):=by
 unfold KV at r
 induction r with
 | nil=>rfl
 | cons h t ih=>rw[List.any_cons,List.any_cons,ih,h.1]
theorem KV.repl{kvs:List (κ×V)}{vs:List (κ×Value)}(r:KV kvs vs)(k:κ){y:V}{u:Value}(ry:RelV y u) :
 KV (kvs.map fun kv=>if kv.1=k then(kv.1,y) else kv) (vs.map fun kv=>if kv.1=k then(kv.1,u) else kv):=by
 unfold KV at r ⊢
 induction r with
 | nil=>exact .nil
 | @cons p q ps qs h t ih =>
  rw[List.map_cons,List.map_cons];refine .cons ?_ ih;obtain⟨h1,h2⟩:=h
  by_cases e:p.1=k
  ·rw[if_pos e,if_pos (h1.symm.trans e)];exact⟨h1,ry⟩
  ·rw[if_neg e,if_neg (fun z=>e (h1.trans z))];exact⟨h1,h2⟩
theorem KV.put{kvs:List (κ×V)}{vs:List (κ×Value)}(r:KV kvs vs)(k:κ){y:V}{u:Value}(ry:RelV y u):KV (VY kvs k y) (stored vs k u):=by
 unfold VY stored;rw[r.any k]
 by_cases e:(vs.any fun kv=>decide (kv.1=k))=true
 ·rw[if_pos e,if_pos e];exact r.repl k ry
 ·rw[if_neg e,if_neg e];exact Paired.snoc r ⟨rfl,ry⟩
theorem KV.drop{kvs:List (κ×V)}{vs:List (κ×Value)}(r:KV kvs vs)(k:κ):KV (JjO kvs k) (without vs k):=by
 unfold KV at r ⊢;unfold JjO without
 induction r with
 | nil=>exact .nil
 | @cons p q ps qs h t ih =>
  obtain⟨h1,h2⟩:=h;rw[List.filter_cons,List.filter_cons]
  by_cases e:p.1=k
  ·have a:¬decide (p.1≠k)=true:=by simp[e]
   have b:¬decide (q.1≠k)=true:=by simp[h1.symm.trans e]
   rw[if_neg a,if_neg b];exact ih
  ·have e':¬q.1=k:=fun z=>e (h1.trans z)
   have a:decide (p.1≠k)=true:=by simp[e]
   have b:decide (q.1≠k)=true:=by simp[e']
   rw[if_pos a,if_pos b];exact .cons ⟨h1,h2⟩ ih
theorem KV.keys{kvs:List (κ×V)}{vs:List (κ×Value)}(r:KV kvs vs):kvs.map (·.1)=vs.map (·.1):=by
 unfold KV at r
 induction r with
 | nil=>rfl
 | cons h t ih=>rw[List.map_cons,List.map_cons,ih,h.1]
theorem KV.length{kvs:List (κ×V)}{vs:List (κ×Value)}(r:KV kvs vs):kvs.length=vs.length:=Paired.length r
end

theorem JdR{P:Program}{w:World}{k:Key}{u:Value}(r:RelV (kV k) u):(JC P w).is k u=true:=by
 cases k with
 | inl i=>obtain⟨t,e⟩:=(show ∃t,u=Value.int i t from r);subst e;exact Wx P w i t
 | inr x=>obtain⟨t,e⟩:=(show ∃t,u=Value.str x t from r);subst e;exact JbP P w x t
theorem Z3{P:Program}{w:World}:∀{ks:List Key} {us:List Value},Vals (ks.map kV) us->ItemsAre (JC P w) ks us
 | [],_,r=>by rw[List.map_nil] at r;cases r;exact .nil
 | k::ks,_,r=>by
  rw[List.map_cons] at r
  cases r with
  | cons h t=>exact .cons (JdR h) (Z3 t)

noncomputable abbrev KT(H:Hp):List (List Key×V)->List (List Key×Addr×Value)->Prop:=Paired fun p q=>p.1=q.1/\H q.2.1=some (.tup (p.1.map kV))/\RelV p.2 q.2.2
theorem KT.val{H:Hp}{kvs:List (List Key×V)}{xs:List (List Key×Addr×Value)}(r:KT H kvs xs)(k:List Key):RelO (V2 kvs k) ((atKey xs k).map (·.2)):=by
 induction r with
 | nil=>exact True.intro
 | @cons p q ps qs h t ih =>
  obtain⟨h1,_,h2⟩:=h
  by_cases e:p.1=k
  ·have e':q.1=k:=h1.symm.trans e
   have b:atKey (q::qs) k=some q.2:=by simp[atKey,List.find?_cons,e']
   rw[V4 e,b];exact h2
  ·have e':¬q.1=k:=fun z=>e (h1.trans z)
   have b:atKey (q::qs) k=atKey qs k:=by simp[atKey,List.find?_cons,e']
   rw[V3 e,b];exact ih
theorem KT.repl{H:Hp}{kvs:List (List Key×V)}{xs:List (List Key×Addr×Value)}(r:KT H kvs xs)(k:List Key){y:V}{u:Value}(ry:RelV y u) :
 KT H (kvs.map fun kv=>if kv.1=k then(kv.1,y) else kv) (xs.map (putAt k u)):=by
 induction r with
 | nil=>exact .nil
 | @cons p q ps qs h t ih =>
  rw[List.map_cons,List.map_cons];refine .cons ?_ ih;obtain⟨h1,h2,h3⟩:=h;unfold putAt
  by_cases e:p.1=k
  ·rw[if_pos e,if_pos (h1.symm.trans e)];exact⟨h1,h2,ry⟩
  ·rw[if_neg e,if_neg (fun z=>e (h1.trans z))];exact⟨h1,h2,h3⟩
theorem KT.put{H:Hp}{kvs:List (List Key×V)}{xs:List (List Key×Addr×Value)}(r:KT H kvs xs)(k:List Key){b:Addr}{y:V}{u:Value}(hb:H b=some (.tup (k.map kV)))(ry:RelV y u) :
 KT H (VY kvs k y) (storedH xs k b u):=by
 have e:(kvs.any fun kv=>decide (kv.1=k))=(atKey xs k).isSome:=by rw[Jcj,(r.val k).isSome_eq,Option.isSome_map]
 unfold VY storedH;rw[e]
 by_cases q:(atKey xs k).isSome=true
 ·rw[if_pos q,if_pos q];exact r.repl k ry
 ·rw[if_neg q,if_neg q];exact Paired.snoc r ⟨rfl,hb,ry⟩
theorem KT.keeps{H H':Hp}{kvs:List (List Key×V)}{xs:List (List Key×Addr×Value)}(r:KT H kvs xs)(ht:∀b ys,H b=some (.tup ys)->H' b=some (.tup ys)):KT H' kvs xs :=
 Paired.mapP r fun _ _ z=>⟨z.1,ht _ _ z.2.1,z.2.2⟩

section
variable{P:Program}{w:World}{H:Hp}{h:Heap}{a:Addr}
theorem Jj1{u:HO}(ok:HOk P w H h)(e:Rd H a u):ObjOk P w H h a u:=e.ok ok
theorem Jbv{kvs:List (Key×V)}(ok:HOk P w H h)(e:Rd H a (.dK kvs)):kvs.length<=sizeLine/\(a == sysModules)=false/\∃vs,KV kvs vs/\h.DictOf (JC P w) a vs :=
 show ObjOk P w H h a (.dK kvs) from Jj1 ok e
theorem JmP{kvs:List (Key×V)}(ok:HOk P w H h)(e:H a=some (.dK kvs)):kvs.length<=sizeLine/\(a == sysModules)=false/\∃vs,KV kvs vs/\h.DictOf (JC P w) a vs:=Jbv ok (.inl e)
theorem JaR{ks:List Key}(ok:HOk P w H h)(e:H a=some (.tup (ks.map kV))):(tupleKind (JC P w)).is h ks a:=by
 obtain⟨_,its,r,o,h1,h2,n,h3⟩:=(show ObjOk P w H h a (.tup (ks.map kV)) from ok a _ e)
 exact⟨o,its.toArray,n,h1,h2,h3,by simpa using Z3 r⟩
theorem Jbw{kvs:List (List Key×V)}(ok:HOk P w H h)(e:Rd H a (.dT kvs)):kvs.length<=sizeLine/\(a == sysModules)=false ∧
 ∃xs,KT H kvs xs/\h.DictOfH (tupleKind (JC P w)) a xs:=by
 obtain⟨z,y,xs,r,o,es,ep,h1,h2,h3,h4,h5⟩:=(show ObjOk P w H h a (.dT kvs) from Jj1 ok e)
 refine⟨z,y,xs,r,o,es,ep,h1,h2,h3,h4,fun x hx=>?_,h5⟩
 have all:∀{l:List (List Key×V)} {m:List (List Key×Addr×Value)},KT H l m->∀x∈m,(tupleKind (JC P w)).is h x.1 x.2.1:=by
  intro l m q
  induction q with
  | nil=>intro x hx;exact nomatch hx
  | @cons p q ps qs hq t ih =>
   intro x hx;rcases List.mem_cons.mp hx with e|hx
   ·subst e;exact JaR ok (by rw[<- hq.1];exact hq.2.1)
   ·exact ih x hx
 exact all r x hx
theorem JmQ{kvs:List (List Key×V)}(ok:HOk P w H h)(e:H a=some (.dT kvs)):kvs.length<=sizeLine/\(a == sysModules)=false ∧
 ∃xs,KT H kvs xs/\h.DictOfH (tupleKind (JC P w)) a xs:=Jbw ok (.inl e)
end

noncomputable def DGet(H:Hp)(a:Addr)(y:V)(r:Option V):Prop :=
 (∃kvs k,Rd H a (.dK kvs)/\y=kV k/\r=V2 kvs k)\/∃kvs k b,Rd H a (.dT kvs)/\y=.ref b/\H b=some (.tup (k.map kV))/\r=V2 kvs k
noncomputable def DPut(H:Hp)(a:Addr)(y v:V)(H':Hp):Prop :=
 (∃kvs k,H a=some (.dK kvs)/\y=kV k/\kvs.length<sizeLine/\H'=upd H a (.dK (VY kvs k v))) ∨
 ∃kvs k b,H a=some (.dT kvs)/\y=.ref b/\H b=some (.tup (k.map kV))/\kvs.length<sizeLine/\H'=upd H a (.dT (VY kvs k v))
theorem DGet.k{H:Hp}{a:Addr}{kvs:List (Key×V)}{k:Key}(e:H a=some (.dK kvs)):DGet H a (kV k) (V2 kvs k):=.inl ⟨kvs,k,.inl e,rfl,rfl⟩
theorem DGet.t{H:Hp}{a b:Addr}{kvs:List (List Key×V)}{k:List Key}(e:H a=some (.dT kvs))(eb:H b=some (.tup (k.map kV))):DGet H a (.ref b) (V2 kvs k):=.inr ⟨kvs,k,b,.inl e,rfl,eb,rfl⟩
theorem DPut.k{H:Hp}{a:Addr}{kvs:List (Key×V)}{k:Key}{v:V}(e:H a=some (.dK kvs))(hl:kvs.length<sizeLine):DPut H a (kV k) v (upd H a (.dK (VY kvs k v))):=.inl ⟨kvs,k,e,rfl,hl,rfl⟩
theorem DPut.t{H:Hp}{a b:Addr}{kvs:List (List Key×V)}{k:List Key}{v:V}(e:H a=some (.dT kvs))(eb:H b=some (.tup (k.map kV)))(hl:kvs.length<sizeLine) :
 DPut H a (.ref b) v (upd H a (.dT (VY kvs k v))):=.inr ⟨kvs,k,b,e,rfl,eb,hl,rfl⟩

section
variable{X:Cx}{pins:List (Addr×Obj)}{σ:St}{H:Hp}{s:Shared}{a:Addr}{y v:V}{u r:Value}{o:Option V}{A:Around}{E:Value->Shared->Prop}

theorem Inv.big(I:Inv X pins σ H s):sysModules<s.heap.objs.size:=by have h:mainGlobals<s.heap.objs.size:=(I.mod.glob.keeps I.bk).lt;exact Nat.lt_trans (by decide) h

theorem JeH{Q:Value->Shared->Prop}(hu:A.units+1<cLine)(I:Inv X pins σ H s)(g:DGet H a y (some v))(ry:RelV y u)(h:∀w' s',Inv X pins σ H s'->RelV v w'->Q w' s') :
 wpAny (model X.prog X.w) A (getItem (.ref a) u) Q E s:=by
 rcases g with ⟨kvs,k,e,ey,l⟩|⟨kvs,k,b,e,ey,eb,l⟩
 ·subst ey;obtain⟨z,hd,vs,rel,dd⟩:=Jbv I.hok e;obtain⟨w',hw,rw'⟩:=RelO.some_of (v:=v) (o:=valueAt vs k) (by rw[l];exact rel.val k);exact wpAny_getItem_of (JdR ry) dd.mapOf hw (h w' _ (I.tok _) rw')
 ·subst ey;cases (show u=Value.ref b from ry);obtain⟨z,hd,xs,rel,dd⟩:=Jbw I.hok e;obtain⟨w',hw,rw'⟩:=RelO.some_of (v:=v) (o:=(atKey xs k).map (·.2)) (by rw[l];exact rel.val k);obtain⟨p,hp,hp2⟩:=Option.map_eq_some_iff.mp hw;refine wpAny_getItem_heap (tupleKind_room_in1 hu) (JaR I.hok eb) dd hp ?_;rw[hp2];exact h w' _ (I.tok _) rw'
theorem Jdw{h':Heap}{t':Nat}{ob:HO}(I:Inv X pins σ H s)(mu:Mut (H a))(hs:Heap.SameBut a s.heap h')(he:∃q,h'.get? a=some q)(new:ObjOk X.prog X.w (upd H a ob) h' a ob) :
 Inv X pins σ (upd H a ob) { s with heap:=h',toks:=t' } :=
 I.write (x:=a) (e:=a) mu (.inl rfl) (fun b q hb z=>(hs.2 b hb).trans z) he new
theorem Jkp{P:Program}{w:World}{H':Hp}{h':Heap}{kvs:List (Key×V)}{vs:List (Key×Value)}(z:kvs.length<=sizeLine)(hd:(a == sysModules)=false)(rel:KV kvs vs)(dd:h'.DictOf (JC P w) a vs) :
 ObjOk P w H' h' a (.dK kvs):=⟨z,hd,vs,rel,dd⟩
theorem JeI{H':Hp}{Q:Unit->Shared->Prop}(hu:A.units+1<cLine)(I:Inv X pins σ H s)(g:DPut H a y v H')(ry:RelV y u)(rv:RelV v r)(h:∀s',Inv X pins σ H' s'->Q () s') :
 wpAny (model X.prog X.w) A (setItem (.ref a) u r) Q E s:=by
 rcases g with ⟨kvs,k,e,ey,l,eH⟩|⟨kvs,k,b,e,ey,eb,l,eH⟩
 ·subst ey eH;obtain⟨z,hd,vs,rel,dd⟩:=JmP I.hok e;have hz:vs.length<=sizeLine:=by rw[<- rel.length];exact z
  have hl:(VY kvs k v).length<=sizeLine:=by have:=Wv kvs k v;omega
  refine wpAny_setItem_pairs (hsz:=hz) (JdR ry) dd fun h' dd' hs=>h _ ?_
  have he:∃q,h'.get? a=some q:=let ⟨q,_,_,hq,_⟩:=dd';⟨q,hq⟩
  exact Jdw I (by rw[e];exact True.intro) hs he (Jkp hl hd (rel.put k rv) dd')
 ·subst ey eH;cases (show u=Value.ref b from ry);obtain⟨z,hd,xs,rel,dd⟩:=JmQ I.hok e;have hz:xs.length<=sizeLine:=by rw[<- Paired.length rel];exact z
  have hl:(VY kvs k v).length<=sizeLine:=by have:=Wv kvs k v;omega
  refine wpAny_setItem_heap (hsz:=hz) (tupleKind_room_in1 hu) (JaR I.hok eb) dd fun h' dd' hs=>h _ ?_
  obtain⟨q,es,ep,hq,h2,h3,h4,_,h5⟩:=dd';refine Jdw I (by rw[e];exact True.intro) hs ⟨q,hq⟩ ⟨hl,hd,_,(rel.put k eb rv).keeps fun c ys ec=>?_,q,es,ep,hq,h2,h3,h4,h5⟩;rw[Ji (Jaf ec e (fun z=>nomatch z))];exact ec
end

section
variable{X:Cx}{pins:List (Addr×Obj)}{σ:St}{H:Hp}{s:Shared}{a:Addr}{kvs:List (Key×V)}{k:Key}{u:Value}{A:Around}{E:Value->Shared->Prop}
end

noncomputable def JmF(i:Expr):Prop:=∀ov iv,subscripted i false ov iv=operate [ov,iv] (getItem ov iv)
theorem Jjv{prog:Program}{w:World}{A:Around}{E:Value->Shared->Prop}{s:Shared}{env:Env}{value slice:Expr}{pos:Pos}{T id:String}{Q:Value->Shared->Prop}
 (hl:typeLookup (.type T) "__getitem__"=pure (some (.builtin id))) (hs:JmF slice)
 (h:wpAny (model prog w) A (eval value env) (fun o s₁=>wpAny (model prog w) A (eval slice env) (fun i s₂=>s₂.TypeIs o T/\wpAny (model prog w) A (getItem o i) Q E s₂) E s₁) E s) :
 wpAny (model prog w) A (eval (.Subscript value slice pos) env) Q E s:=by
 refine Subscript_ (wpAny_mono h (fun o s₁ h₁=>wpAny_mono h₁ (fun i s₂ h₂=>?_) fun _ _ x=>x) fun _ _ x=>x);obtain⟨hT,h₂⟩:=h₂;unfold subscriptTail;refine wpAny_bind ?_;rw[getitemInPython_of_ne hT.not_modules];refine wpAny_bind (wpAny_specialOf hT hl ?_)
 have fin:wpAny (model prog w) A (subscripted slice false o i) (fun r s₃=>wpAny (model prog w) A (letTemporaryGo value o r >>= fun _=>pure r) Q E s₃) E s₂:=by rw[hs o i];exact wpAny_operating (wpAny_mono h₂ (fun r s₃ h₃=>wpAny_bind (wpAny_letTemporaryGo (wpAny_pure h₃))) fun _ _ x=>x)
 first
  | exact wpAny_pure (wpAny_bind fin)
  | exact wpAny_bind (wpAny_pure (wpAny_bind fin))
  | exact wpAny_bind fin

theorem Jbu{X:Cx}{pins:List (Addr×Obj)}{σ:St}{H:Hp}{s:Shared}{a:Addr}{y:V}{o:Option V}(I:Inv X pins σ H s)(g:DGet H a y o):s.TypeIs (.ref a) "dict":=by
 rcases g with ⟨kvs,k,e,_,_⟩|⟨kvs,k,b,e,_,_,_⟩
 ·obtain⟨_,_,vs,_,dd⟩:=Jbv I.hok e;exact dd.typeIs
 ·obtain⟨_,_,xs,_,dd⟩:=Jbw I.hok e;exact dd.typeIs
noncomputable def Jj5(td ty:TE):TE:=fun σ H Q=>td σ H fun x H1=>ty σ H1 fun y H2=>∃a v,x=.ref a/\DGet H2 a y (some v)/\Q v H2
noncomputable def Jj3(td ty tv:TE):TS:=fun D σ H=>tv σ H fun v H1=>td σ H1 fun x H2=>ty σ H2 fun y H3=>∃a H4,x=.ref a/\DPut H3 a y v H4/\D.nx σ H4
section
variable{X:Cx}{o i e value:Expr}{pos pos' tpos:Pos}{td ty tv:TE}
theorem JiM(hu:X.A.units+1<cLine)(ho:PE X o td)(hi:PE X i ty)(hs:JmF i):PE X (.Subscript o i pos) (Jj5 td ty):=by intro pins s σ H Q I h;refine Jjv PySem.F.slot_dict_getitem.lookup hs (thn (ho pins s σ H _ I h) fun u s1 ⟨x,H1,I1,rx,q1⟩=>thn (hi pins s1 σ H1 _ I1 q1) fun iv s2 ⟨y,H2,I2,ry,a,v,ex,g,q2⟩=>?_);subst ex;obtain rfl:u=Value.ref a:=rx;exact⟨Jbu I2 g,JeH hu I2 g ry fun w' s3 I3 rw'=>⟨v,H2,I3,rw',q2⟩⟩
theorem Jd7(hu:X.A.units+1<cLine)(ho:PE X o td)(hi:PE X i ty)(hv:PE X value tv)(hs:swapsWith value (some (.Subscript o i pos')) pos.line X.env=pure false) :
 PS X (.Assign [.Subscript o i pos'] value pos) (Jj3 td ty tv):=by
 intro pins s σ H D I h;refine wpAny_Assign_Subscript (thn (hv pins s σ H _ I h) fun r s1 ⟨v,H1,I1,rv,q1⟩=>thn (ho pins s1 σ H1 _ I1 q1) fun u s2 ⟨x,H2,I2,rx,q2⟩=>thn (hi pins s2 σ H2 _ I2 q2) fun iv s3 ⟨y,H3,I3,ry,a,H4,ex,g,q3⟩=>?_) hs;subst ex;obtain rfl:u=Value.ref a:=rx;exact JeI hu I3 g ry rv fun s4 I4=>⟨σ,H4,I4,q3⟩
end

theorem JfR{P:Program}{w:World}{H:Hp}(h:Heap)(hb:sysModules<h.objs.size):ObjOk P w H (h.push { cls:=.type "dict",data:=.dict #[] }) h.objs.size (.dK []) :=
 ⟨Nat.zero_le _,beq_eq_false_iff_ne.mpr (Ne.symm (Nat.ne_of_lt hb)),[],.nil,Heap.DictOf.new h⟩
noncomputable def Jhm:TE:=fun _ H Q=>∀p,H p=none->Q (.ref p) (upd H p (.dK []))
section
variable{X:Cx}{pos:Pos}
theorem Jb0:PE X (.Dict [] [] pos) Jhm:=fun pins s σ H Q I h=>wpAny_Dict_empty ⟨.ref s.heap.objs.size,_,I.laid (a:=s.heap.objs.size) (o:=.dK []) (t':=s.toks) (fun _ _ q=>Heap.get?_push_of_some _ q) (Nat.le_refl _) (JfR s.heap I.big),rfl,h _ (I.hok.fresh (Nat.le_refl _))⟩
end

structure M1 (X:Cx) (o:Expr) (m:Str) (apos:Pos) (e:Expr) (cpos:Pos):Prop where
 base:attributeBase o m X.env (eval o X.env)=eval o X.env
 few:((backTo cpos (starEach [e] X.env)).all (fun x=>!x.1) && (backToKw cpos (keywordEach [] X.env)).all (fun x=>x.1.isSome)
  && decide (([e]:List Expr).length+([]:List Keyword).length+(if ([]:List Keyword).isEmpty then 0 else 1)<30))=true
 line:(apos.endLine == cpos.line)=true
 trees:backTo cpos (starEach [e] X.env)=[(false,eval e X.env)]
structure M2 (X:Cx) (o:Expr) (m:Str) (apos:Pos) (e f:Expr) (cpos:Pos):Prop where
 base:attributeBase o m X.env (eval o X.env)=eval o X.env
 few:((backTo cpos (starEach [e,f] X.env)).all (fun x=>!x.1) && (backToKw cpos (keywordEach [] X.env)).all (fun x=>x.1.isSome)
  && decide (([e,f]:List Expr).length+([]:List Keyword).length+(if ([]:List Keyword).isEmpty then 0 else 1)<30))=true
 line:(apos.endLine == cpos.line)=true
 trees:backTo cpos (starEach [e,f] X.env)=[(false,eval e X.env),(false,eval f X.env)]

noncomputable def IsD(H:Hp)(a:Addr):Prop:=(∃kvs,Rd H a (.dK kvs))\/∃kvs,Rd H a (.dT kvs)
theorem JcI{X:Cx}{pins:List (Addr×Obj)}{σ:St}{H:Hp}{s:Shared}{a:Addr}(I:Inv X pins σ H s)(d:IsD H a) :
 s.TypeIs (.ref a) "dict"/\(∀b,Value.ref a=.ref b->∃ob,s.heap.get? b=some ob/\ob.dict=none)/\(a == sysModules)=false:=by
 rcases d with ⟨kvs,e⟩|⟨kvs,e⟩
 ·obtain⟨_,hd,vs,_,dd⟩:=Jbv I.hok e;refine⟨dd.typeIs,fun b q=>?_,hd⟩;cases q;obtain⟨ob,_,_,h1,h2,_⟩:=dd;exact⟨ob,h1,h2.2.1⟩
 ·obtain⟨_,hd,xs,_,dd⟩:=Jbw I.hok e;refine⟨dd.typeIs,fun b q=>?_,hd⟩;cases q;obtain⟨ob,_,_,h1,h2,_⟩:=dd;exact⟨ob,h1,h2.2.1⟩

section
variable{X:Cx}{pins:List (Addr×Obj)}{σ:St}{H:Hp}{s:Shared}{a:Addr}{y d:V}{u r:Value}{o:Option V}{A:Around}{E:Value->Shared->Prop}
theorem Jko{Q:Value->Shared->Prop}(hu:A.units+1<cLine)(I:Inv X pins σ H s)(g:DGet H a y o)(ry:RelV y u)(rd:RelV d r)(h:∀w' s',Inv X pins σ H s'->RelV (o.getD d) w'->Q w' s') :
 wpAny (model X.prog X.w) A (call (.builtin "dict.get") [.ref a,u,r]) Q E s:=by
 rcases g with ⟨kvs,k,e,ey,l⟩|⟨kvs,k,b,e,ey,eb,l⟩
 ·subst ey;obtain⟨z,hd,vs,rel,dd⟩:=Jbv I.hok e;refine call_meetsIn PySem.F.slot_dict_get dd.typeIs PySem.F.entry_dict_get (PySem.F.args_dict_get_3 _ _ _) (meets_dict_get_default (JC X.prog X.w) a (JdR ry) hd r) ⟨_,dd.mapOf,h _ _ (I.tok _) ?_⟩;rw[l];exact(rel.val k).getD rd
 ·subst ey;cases (show u=Value.ref b from ry);obtain⟨z,hd,xs,rel,dd⟩:=Jbw I.hok e;refine call_meetsIn PySem.F.slot_dict_get dd.typeIs PySem.F.entry_dict_get (PySem.F.args_dict_get_3 _ _ _) (meetsH_dict_get_default (tupleKind (JC X.prog X.w)) a b hd r) ⟨tupleKind_room_in1 hu,k,xs,JaR I.hok eb,dd,h _ _ (I.tok _) ?_⟩;rw[l];exact(rel.val k).getD rd
end

noncomputable def Jhl(td ty tx:TE):TE:=fun σ H Q=>td σ H fun x H1=>∃a,x=.ref a/\IsD H1 a/\ty σ H1 fun y H2=>tx σ H2 fun z H3=>∃o,DGet H3 a y o/\Q (o.getD z) H3
section
variable{X:Cx}{o e f:Expr}{apos cpos:Pos}{td ty tx:TE}
theorem JbZ(hu:X.A.units+1<cLine)(ho:PE X o td)(he:PE X e ty)(hf:PE X f tx)(m:M2 X o "get" apos e f cpos):PE X (.Call (.Attribute o "get" apos) [e,f] [] cpos) (Jhl td ty tx):=by
 intro pins s σ H Q I h;refine wpAny_Call_method m.base m.few m.line PySem.F.plainAttrs_dict PySem.F.slot_dict_get PySem.F.type_dict_get (thn (ho pins s σ H _ I h) fun u s1 ⟨x,H1,I1,rx,a,ex,d,q1⟩=>?_);subst ex;obtain rfl:u=Value.ref a:=rx;obtain⟨t1,t2,_⟩:=JcI I1 d;refine⟨t1,t2,?_⟩;rw[m.trees];refine Calls.callWith_builtin rfl (Calls.evalArgs_plain (Calls.spliced_cons (thn (he pins s1 σ H1 _ I1 q1) fun iv s2 ⟨y,H2,I2,ry,q2⟩=>Calls.spliced_cons (thn (hf pins s2 σ H2 _ I2 q2) fun fv s3 ⟨z,H3,I3,rz,ov,g,q3⟩=>Calls.spliced_nil ?_))))
 exact Jko hu I3 g ry rz fun w' s4 I4 rw'=>⟨_,H3,I4,rw',q3⟩
end

section
variable{X:Cx}{pins:List (Addr×Obj)}{σ:St}{H:Hp}{s:Shared}{a:Addr}{kvs:List (Key×V)}{A:Around}{E:Value->Shared->Prop}
end

section
variable{X:Cx}{pins:List (Addr×Obj)}{σ:St}{H:Hp}{s:Shared}{a:Addr}{y:V}{u:Value}{A:Around}{E:Value->Shared->Prop}
end
end L2
namespace L2
open PySem PySem.Spec PyProof.Rows

noncomputable def JhJ(X:Cx)(ifs:List Expr)(t:TT):Prop :=
 ∀(pins:List (Addr×Obj)) (s:Shared) (σ:St) (H:Hp) (Q:Bool->Hp->Prop),Inv X pins σ H s->t σ H Q ->
  wpAny (model X.prog X.w) X.A (forIn ifs true fun c r=>if r=true then do let ok <- isTrue c X.env (eval c X.env);pure (ForInStep.yield ok) else pure (ForInStep.yield r)) (TP X pins σ Q) X.xe s
noncomputable def Jmq:TT:=fun _ H Q=>Q true H
theorem Yy{X:Cx}:JhJ X [] Jmq:=fun _ _ _ H _ I h=>wpAny_tests_nil ⟨H,I,h⟩
noncomputable def blk(X:Cx)(sc:Scope)(cl:List (Str×Addr))(N':List Str)(C:Addr)(s:Shared)(H:Hp)(fp:List Addr):Cx where
 prog:=X.prog
 w:=X.w
 K:=X.K
 mg:=X.mg
 base:=X.base
 A:=X.A
 N:=N'
 s₀:=s
 H₀:=H
 env:=compEnvC sc cl C X.env
 outer:=X.stack
 stack:=X.stack
 ex:=fp
 fn:=fun _=>false
 calm:=X.calm
 pn:=[]
 xe:=fun _ _=>False

noncomputable def W8(imp:List (Option Nat))(σ:St):St:=imp.map fun o=>match o with
 | none=>none
 | some k=>(σ[k]?).join

structure Blk (X:Cx) (sc:Scope) (cl:List (Str×Addr)) (N':List Str) (imp:List (Option Nat)):Prop where
 clos:closureFor sc X.env=pure cl
 kind:sc.kind=.function
 nocell:∀y∈sc.names,y.2≠.cell
 names:∀y∈sc.names,y.2=.local->sc.names.lookup y.1=some .local
 sub:∀p∈cl,X.env.cells.lookup p.1=some p.2
 has:∀y∈(relabel sc X.env).names,(y.2=.cell\/y.2=.free)->(cl.lookup y.1).isSome=true
 len:imp.length=N'.length
 im:∀p∈imp.zip N',∀k,p.1=some k->X.N[k]?=some p.2/\(X.env.scope.names.lookup p.2=some .cell\/X.env.scope.names.lookup p.2=some .free)/\((relabel sc X.env).names.lookup p.2=some .cell\/(relabel sc X.env).names.lookup p.2=some .free)

noncomputable def Jek(wi:TI)(g:TG)(tt:TT)(te:TE)(imp:List (Option Nat)):TE:=fun σ H Q=>wi σ H fun J H1=>∃W:Nat->Nat->List V->St->Hp->Prop,(∃m,W 0 m [] (W8 imp σ) H1)/\∀i m ys σ' H',W i m ys σ' H' ->
 (J.stop i H'/\ys.length<=sizeLine/\∀D,H' D=none->Q (.ref D) (upd H' D (.lst ys))) ∨
 (J.go i H'/\ys.length<sizeLine/\∃N:List V->St->Hp->Prop,(∀ys' σ2 H2,N ys' σ2 H2->∃m',m'<m/\W (i+1) m' ys' σ2 H2) ∧
  ∀x H2,J.yld i H' x H2->g x σ' H2 fun σ2 H3=>tt σ2 H3 fun b H4=>if b=true then te σ2 H4 fun y H5=>N (ys++[y]) σ2 H5 else N ys σ2 H4)

section
variable{P:Program}{w:World}{H:Hp}{h h':Heap}
theorem HOk.sameBut{C:Addr}(x:HOk P w H h)(hC:H C=none)(k:∀b o,b≠C->h.get? b=some o->h'.get? b=some o):HOk P w H h':=fun a o e =>
 (x a o e).stay (fun b u hb q=>k b u (by
  rintro rfl;rcases hb with z|z
  ·rw[<- z,hC] at e;cases e
  ·rw[hC] at z;cases z) q) (fun _ q=>q) fun _ _ q=>q
theorem HOk.track{D:Addr}{o:HO}(x:HOk P w H h)(hD:H D=none)(new:ObjOk P w (upd H D o) h D o):HOk P w (upd H D o) h:=fun b u e=>by
 by_cases hb:b=D
 ·subst hb;rw[Jw] at e;cases e;exact new
 ·rw[Ji hb] at e;exact(x b u e).stay (fun c v _ q=>q) (fun c q=>by rw[Ji (Jy q hD)];exact q) fun c xs q=>by rw[Ji (Jy q hD)];exact q
end

theorem UX{α:Type}{x:Str}{c:α}:∀{l:List (Str×α)},l.lookup x=some c->(x,c)∈l:=fun h=>PySem.mem_of_lookup h

section
variable{X:Cx}{tg iter elt:Expr}{ifs:List Expr}{sc:Scope}{cl:List (Str×Addr)}{N':List Str}{imp:List (Option Nat)}{pos:Pos}{wi:TI}{g:TG}{tt:TT}{te:TE}

theorem Blk.subL(B:Blk X sc cl N' imp):∀x c,cl.lookup x=some c->X.env.cells.lookup x=some c:=fun x c e=>B.sub (x,c) (UX e)

theorem JhR{pins:List (Addr×Obj)}{σ:St}{H:Hp}{s:Shared}{fp:List Addr}{h₁:Heap}{C:Addr}(B:Blk X sc cl N' imp)(I:Inv X pins σ H s)(hf:∀b∈fp,FpOk X pins H b)(hfo:∀b∈fp,∃o,s.heap.get? b=some o)
 (hC:s.heap.objs.size<C) (old:∀b o,s.heap.get? b=some o->h₁.get? b=some o) (ns:h₁.Ns C fun _=>none) :
 Inv (blk X sc cl N' C s H fp) [] (W8 imp σ) H { s with heap:=h₁,toks:=s.toks }:=by
 have hlt:∀b∈fp,b<s.heap.objs.size:=fun b hb=>let ⟨_,e⟩:=hfo b hb;Heap.lt_size e
 have clt:∀x c,X.env.cells.lookup x=some c->c<s.heap.objs.size:=fun x c e=>let ⟨_,q⟩:=I.cell x c e;q.lt
 have ok:(blk X sc cl N' C s H fp).Ok:={
  mod:=I.ok.mod
  kind:=B.kind
  glob:=I.ok.glob
  blt:=I.ok.blt
  above:=Nat.le_of_lt hC
  inj:=fun x y c h1 h2=>I.ok.inj x y c (B.subL x c h1) (B.subL y c h2)
  has:=fun x hx=>by
   have hx':(relabel sc X.env).names.lookup x=some .cell\/(relabel sc X.env).names.lookup x=some .free:=hx
   have:(cl.lookup x).isSome=true:=by
    rcases hx' with z|z
    ·exact B.has (x,.cell) (UX z) (.inl rfl)
    ·exact B.has (x,.free) (UX z) (.inr rfl)
   exact Option.isSome_iff_exists.mp this
  cab:=fun x c z=>nomatch z
  hd:=I.ok.hd
  frames:=I.ok.frames
  stk:=.inl rfl
  exf:=fun b hb=>⟨Nat.ne_of_lt (Nat.lt_trans (hlt b hb) hC),fun x c e=>(hf b hb).2.2.2.2.1 x c (B.subL x c e)⟩
  bs:=I.bs
  bsz:=Nat.le_trans I.ok.bsz I.sz
  noex:=fun b o e hb=>by
   rcases(hf b hb).2.2.2.1 with z|z
   ·exact I.ok.noex b o e z
   ·exact absurd (Nat.lt_of_lt_of_le (Heap.lt_size e) (Nat.le_trans I.ok.bsz z)) (Nat.lt_irrefl _)
  exfs:=fun b hb z=>by
   rcases List.mem_cons.mp (I.stkSub b z) with q|q
   ·exact(hf b hb).2.1 q
   ·exact(hf b hb).2.2.1 q
  funs:=I.stack
  frf:=I.stkFree }
 refine⟨ok,rfl,I.bare,Un.kept old,⟨_,ns,fun i x v h1 h2 h3=>?_⟩,fun x c e=>?_,I.hok.fresh (Nat.le_of_lt hC),fun x c e=>I.freeC x c (B.subL x c e),fun p hp=>absurd (show p∈([]:List (Addr×Obj)) from hp) (by simp),I.hok.kept old,?_⟩
 ·have h1':N'[i]?=some x:=h1
  have h2':(imp.map fun o=>match o with|none=>none|some k=>(σ[k]?).join)[i]?=some (some v):=h2;rw[List.getElem?_map] at h2'
  cases e:imp[i]? with
  | none=>rw[e] at h2';cases h2'
  | some q =>
   rw[e] at h2'
   cases q with
   | none=>cases h2'
   | some k =>
    have h2'':(σ[k]?).join=some v:=Option.some.inj h2'
    have hk:σ[k]?=some (some v):=by
     cases e':σ[k]? with
     | none=>rw[e'] at h2'';cases h2''
     | some z=>rw[e'] at h2'';cases z with
      | none=>cases h2''
      | some z=>cases h2'';rfl
    have hm:(some k,x)∈imp.zip N':=by refine List.mem_of_getElem? (i:=i) ?_;rw[List.getElem?_zip_eq_some];exact⟨e,h1'⟩
    obtain⟨b1,b2,b3⟩:=B.im _ hm k rfl;obtain⟨m,hn,hl⟩:=I.loc;obtain⟨u,r,l⟩:=hl k x v b1 hk (b2.elim (fun z=>.inr (.inl z)) fun z=>.inr (.inr z));refine⟨u,r,.inr ⟨b3,?_⟩⟩
    have hc:∃c,X.env.cells.lookup x=some c/\s.heap.IsCell c (some u):=by
     rcases l with ⟨z,_⟩|⟨_,z⟩
     ·have z':X.env.scope.names.lookup x=some .local:=z;rcases b2 with y|y <;> rw[y] at z' <;> cases z'
     ·exact z
    obtain⟨c,hc,oc,ho,hd⟩:=hc;obtain⟨c',hc'⟩:=ok.has x b3;have e2:=B.subL x c' hc';rw[hc] at e2;cases e2;exact⟨c,hc',oc,old c oc ho,hd⟩
 ·obtain⟨v,o,ho,hd⟩:=I.cell x c (B.subL x c e);exact⟨v,o,old c o ho,hd⟩
 ·show(imp.map _).length=N'.length;rw[List.length_map];exact B.len

theorem JhQ{pins pn:List (Addr×Obj)}{σ σ':St}{H2 H':Hp}{s2 s4:Shared}{fp:List Addr}{C D:Addr}{Cs:Addr}{ys:List V}{its:List Value}{k:Nat}{h':Heap}(I2:Inv X pins σ H2 s2)(f2:∀b∈fp,FpOk X pins H2 b)
 (I5:Inv (blk X sc cl N' C s2 H2 fp) pn σ' H' s4) (hC:s2.heap.objs.size<C) (hD:H' D=none) (hDs:s2.heap.objs.size<=D) (hDC:D≠C) (eD:s4.heap.get? D=some { cls:=.type "list",data:=.seq its.toArray k })
 (rv:Vals ys its) (hz:ys.length<=sizeLine) (hsb:Heap.SameBut C s4.heap h'):Inv X pins σ (upd H' D (.lst ys)) { s4 with heap:=h' }:=by
 have U:Un (frs X.stack) fp H2 H' s2.heap s4.heap:=I5.base
 have kk:∀b o,b≠C->s4.heap.get? b=some o->h'.get? b=some o:=hsb.extBut
 have hC':H' C=none:=I5.free
 have ok1:HOk X.prog X.w H' h':=HOk.sameBut (C:=C) I5.hok hC' kk
 have ok2:HOk X.prog X.w (upd H' D (.lst ys)) h':=ok1.track hD ⟨hz,its,k,rv,kk _ _ hDC eD⟩
 have lt:∀b o,s2.heap.get? b=some o->b≠C/\b≠D:=fun b o e=>⟨Nat.ne_of_lt (Nat.lt_trans (Heap.lt_size e) hC),Nat.ne_of_lt (Nat.lt_of_lt_of_le (Heap.lt_size e) hDs)⟩
 refine I2.call' (s':={ s4 with heap:=h' }) (ch:=fp) I5.os ⟨fun b o e n hb hx=>kk b o (lt b o e).1 (U.keep b o e n hb hx),fun b o e n hb hx=>?_,fun b o e n hx=>?_,fun b o e hx=>?_,fun b xs e=>?_,fun b o u e=>?_,fun b ps e=>?_⟩ ok2 I5.bare
  fun b hb=>⟨(f2 b hb).2.2.2.1,(f2 b hb).2.1,(f2 b hb).2.2.2.2.1,(f2 b hb).2.2.2.2.2⟩
 ·obtain⟨sl,q⟩:=U.slot b o e n hb hx;exact⟨sl,kk b _ (lt b o e).1 q⟩
 ·rw[Ji (lt b o e).2];exact U.free b o e n hx
 ·obtain⟨o',q⟩:=U.there b o e hx;exact⟨o',kk b o' (lt b o e).1 q⟩
 ·have q:=U.tups b xs e;rw[Ji (Jy q hD)];exact q
 ·have q:=U.frzs b o u e;rw[Ji (Jy q hD)];exact q
 ·obtain⟨more,q⟩:=U.tbls b ps e;exact⟨more,by rw[Ji (Jy q hD)];exact q⟩

noncomputable def JmB(g:TG)(tt:TT)(te:TE)(imp:List (Option Nat))(σ:St)(Q:VK)(J:It)(H1:Hp):Prop:=∃W:Nat->Nat->List V->St->Hp->Prop,(∃m,W 0 m [] (W8 imp σ) H1)/\∀i m ys σ' H',W i m ys σ' H' ->
 (J.stop i H'/\ys.length<=sizeLine/\∀D,H' D=none->Q (.ref D) (upd H' D (.lst ys))) ∨
 (J.go i H'/\ys.length<sizeLine/\∃N:List V->St->Hp->Prop,(∀ys' σ2 H2,N ys' σ2 H2->∃m',m'<m/\W (i+1) m' ys' σ2 H2) ∧
  ∀x H2,J.yld i H' x H2->g x σ' H2 fun σ2 H3=>tt σ2 H3 fun b H4=>if b=true then te σ2 H4 fun y H5=>N (ys++[y]) σ2 H5 else N ys σ2 H4)
theorem ZS{pins:List (Addr×Obj)}{σ:St}{Q:VK}{itv:Value}{s2:Shared}{RR:Value->Addr->Result->Shared->Prop}{E:Value->Shared->Prop}(hc:X.calm=true)(B:Blk X sc cl N' imp)
 (hg:∀C s H fp,PG (blk X sc cl N' C s H fp) tg g) (ht:∀C s H fp,JhJ (blk X sc cl N' C s H fp) ifs tt) (he:∀C s H fp,PE (blk X sc cl N' C s H fp) elt te)
 (h2:PIE X pins σ tg (JmB g tt te imp σ Q) itv s2)
 (fin:∀(C D:Addr) (s4:Shared) (H':Hp) (ys:List V) (m:Str->Option Value),s2.heap.objs.size<C->s4.heap.Ns C m->H' C=none->(∀h',Heap.SameBut C s4.heap h'->Inv X pins σ H' { s4 with heap:=h' })->Q (.ref D) H'->RR (.ref D) C (.ok .next) s4) :
 wpAny (model X.prog X.w) X.A (newList []) (fun acc s₃=>wpAny (model X.prog X.w) X.A (newFunctionEnv sc X.env.globals cl [] X.env.qual none .none (some X.env)) (fun cenv s₄=>codeAny (model X.prog X.w) X.A (.compStart (.ListComp elt [⟨tg,iter,ifs,0⟩] sc pos) 0 itv acc { cenv with scope:=relabel sc X.env }) (RR acc cenv.locals) s₄) E s₃) E s2:=by
 obtain⟨it,fp,tn,J,H2,e,I2,T,st2,f2,W,⟨m0,w0⟩,turn⟩:=h2;subst e;refine wpAny_newObj_type (wpAny_newFunctionEnv B.nocell (by intro y hy;simp at hy) (fun h₁ hns₁ hsb₁=>?_) B.kind);dsimp only at hns₁ hsb₁ ⊢
 generalize hG:s2.heap.push { cls:=.type "list",dict:=none,data:=.seq ([]:List Value).toArray }=G at hns₁ hsb₁ ⊢
 have hCs:G.objs.size=s2.heap.objs.size+1:=by rw[<- hG,Heap.size_push]
 have hC:s2.heap.objs.size<G.objs.size:=by rw[hCs];exact Nat.lt_succ_self _
 have JH:∀b,b<s2.heap.objs.size->b≠G.objs.size:=fun b hb=>Nat.ne_of_lt (Nat.lt_trans hb hC)
 have old:∀b o,s2.heap.get? b=some o->h₁.get? b=some o:=fun b o e=>hsb₁.extBut b o (JH b (Heap.lt_size e)) (Heap.get?_push_of_some _ (hG▸Heap.get?_push_of_some _ e))
 have hD1:h₁.get? s2.heap.objs.size=some { cls:=.type "list",data:=.seq ([]:List Value).toArray }:=hsb₁.extBut _ _ (Nat.ne_of_lt hC) (Heap.get?_push_of_some _ (hG▸Heap.get?_push_size _ rfl))
 have fpo:∀b∈fp,∃o,s2.heap.get? b=some o:=fun b hb=>let ⟨o,e,_⟩:=T.obj 0 _ st2 b hb;⟨o,e⟩
 have I4:=JhR B I2 f2 fpo hC old (show h₁.Ns G.objs.size fun _=>none from hns₁)
 -- the records of the block: the list that grows,the iterator's
 have stD:∀{H':Hp} {pn:List (Addr×Obj)},(∀b∈s2.heap.objs.size::fp,H' b=none)->(∀p∈pn,p.1∉s2.heap.objs.size::fp)->∀b∈s2.heap.objs.size::fp,FpOk (blk X sc cl N' G.objs.size s2 H2 fp) pn H' b:=fun {H' pn} hn hp b hb=>by
  have hp':∀p∈([]++pn:List (Addr×Obj)),p.1≠b:=fun p z q=>hp p (by simpa using z) (q▸hb)
  rcases List.mem_cons.mp hb with z|z
  ·subst z;refine⟨hn _ hb,Nat.ne_of_lt hC,fun q=>?_,.inr (Nat.le_refl _),fun x c e q=>?_,hp'⟩
   ·rcases List.mem_cons.mp (I2.stkSub _ q) with q|q
    ·exact absurd I2.lt (by rw[<- q];exact Nat.lt_irrefl _)
    ·exact I2.nofs (Nat.le_refl _) q
   ·obtain⟨v,qc⟩:=I2.cell x c (B.subL x c e);exact absurd qc.lt (by rw[q];exact Nat.lt_irrefl _)
  ·refine⟨hn _ hb,JH b (let ⟨_,e⟩:=fpo b z;Heap.lt_size e),fun q=>?_,.inl z,fun x c e=>(f2 b z).2.2.2.2.1 x c (B.subL x c e),hp'⟩;rcases List.mem_cons.mp (I2.stkSub b q) with q|q
   ·exact(f2 b z).2.1 q
   ·exact(f2 b z).2.2.1 q
 have nDf:s2.heap.objs.size∉fp:=fun z=>let ⟨_,e⟩:=fpo _ z;absurd (Heap.lt_size e) (Nat.lt_irrefl _)
 have loop:codeAny (model X.prog X.w) X.A (.compLoop (.ListComp elt [⟨tg,iter,ifs,0⟩] sc pos) 0 (.ref it) (.ref s2.heap.objs.size) (compEnvC sc cl G.objs.size X.env))
  (RR (.ref s2.heap.objs.size) G.objs.size) { s2 with heap:=h₁,toks:=s2.toks }:=by
  refine codeAny_loop rfl (fun n s'=>∃i ys its k σ' H',Inv (blk X sc cl N' G.objs.size s2 H2 fp) [] σ' H' s'/\tn i s'.heap/\(∀b∈s2.heap.objs.size::fp,H' b=none)/\Vals ys its/\s'.heap.get? s2.heap.objs.size=some { cls:=.type "list",data:=.seq its.toArray k }/\W i n ys σ' H') ?_ m0
   ⟨0,[],[],0,_,H2,I4,T.keep _ _ _ st2 (fun b _ o e=>old b o e),fun b hb=>?_,.nil,hD1,w0⟩
  ·rintro n s3 ⟨i,ys,its,k,σ3,H3,I3,st3,fr3,rv3,hD3,w3⟩;have fr3':∀b∈fp,FpOk (blk X sc cl N' G.objs.size s2 H2 fp) [] H3 b:=fun b hb=>stD (pn:=[]) fr3 (fun p z=>nomatch z) b (List.mem_cons_of_mem _ hb)
   show wpAny _ X.A ((compTurn (.ListComp elt [⟨tg,iter,ifs,0⟩] sc pos) 0 (.ref it) (.ref s2.heap.objs.size) (compEnvC sc cl G.objs.size X.env)).onRaise (fun x=>do noteFrame x (compEnvC sc cl G.objs.size X.env);theTreesLotGoes x)) _ _ s3;refine wpAny_noted (wpAny_noRaise ?_);rw[compTurn_list];refine wpAny_bind (wpAny_standAt (wpAny_bind ?_))
   have fD:=stD (pn:=[]) fr3 (fun p z=>nomatch z) s2.heap.objs.size List.mem_cons_self
   have hDH:H3 s2.heap.objs.size=none:=fr3 _ List.mem_cons_self
   have I3p:Inv (blk X sc cl N' G.objs.size s2 H2 fp) [(s2.heap.objs.size,{ cls:=.type "list",data:=.seq its.toArray k })] σ3 H3 s3:=I3.pins_of fun p hp=>by
    have e:p=(s2.heap.objs.size,{ cls:=.type "list",data:=.seq its.toArray k }):=by simpa using hp
    subst e;exact⟨hD3,hDH,fD.2.1,fD.2.2.1,fun v z=>by cases z⟩
   have pfp:∀p∈[(s2.heap.objs.size,({ cls:=.type "list",data:=.seq its.toArray k }:Obj))],p.1∉fp:=fun p hp=>by
    have e:p=(s2.heap.objs.size,{ cls:=.type "list",data:=.seq its.toArray k }):=by simpa using hp
    subst e;exact nDf
   have fpP:∀{H':Hp},(∀b∈fp,H' b=none)->∀b∈fp,FpOk (blk X sc cl N' G.objs.size s2 H2 fp) [(s2.heap.objs.size,({ cls:=.type "list",data:=.seq its.toArray k }:Obj))] H' b:=fun {H'} hn b hb =>
    have f:=stD (pn:=[]) fr3 (fun p z=>nomatch z) b (List.mem_cons_of_mem _ hb)
    ⟨hn b hb,f.2.1,f.2.2.1,f.2.2.2.1,f.2.2.2.2.1,fun p hp q=>pfp p ((List.mem_append.mp hp).elim (fun z=>nomatch (show p∈([]:List (Addr×Obj)) from z)) id) (q▸hb)⟩
   rcases turn i n ys σ3 H3 w3 with ⟨stop,hz,q⟩|⟨go,hz,N,hN,step⟩
   ·refine thn (T.done (blk X sc cl N' G.objs.size s2 H2 fp) rfl rfl rfl hc i _ s3 σ3 H3 _ I3p (fpP fun b hb=>fr3 b (List.mem_cons_of_mem _ hb)) st3 stop) fun r s4 ⟨hr,I5⟩=>?_
    subst hr;refine wpAny_pure ?_;obtain⟨m,hn,_⟩:=I5.loc;have eD:=(I5.pin (s2.heap.objs.size,{ cls:=.type "list",data:=.seq its.toArray k }) (by simp)).1;have hCf:H3 G.objs.size=none:=I5.free;exact fin G.objs.size s2.heap.objs.size s4 _ ys m hC hn (by rw[Ji (Nat.ne_of_gt hC)];exact hCf) (fun h' hsb=>JhQ (Cs:=0) I2 f2 I5 hC hDH (Nat.le_refl _) (Nat.ne_of_lt hC) eD rv3 hz hsb) (q _ hDH)
   ·refine thn (T.item (blk X sc cl N' G.objs.size s2 H2 fp) rfl rfl rfl hc i _ s3 σ3 H3 _ I3p (fpP fun b hb=>fr3 b (List.mem_cons_of_mem _ hb)) st3 go) fun r s4 ⟨u,hr,h4⟩=>?_
    subst hr;refine wpAny_bind (thn h4 fun _ s5 ⟨x,H5,I5,r5,y5,st5,fr5⟩=>?_);have I5':=I5.pinned (fpP fr5) (T.obj _ _ st5);refine wpAny_bind (thn (hg G.objs.size s2 H2 fp _ s5 σ3 H5 x u _ I5' r5 (step x H5 y5)) fun _ s6 ⟨σ6,H6,I6,q6⟩=>?_);refine wpAny_bind (thn (ht G.objs.size s2 H2 fp _ s6 σ6 H6 _ I6 q6) fun ok s7 ⟨H7,I7,q7⟩=>?_)
    -- what stays of the records
    have recs:∀{σ':St} {H':Hp} {s':Shared},Inv (blk X sc cl N' G.objs.size s2 H2 fp) ([(s2.heap.objs.size,({ cls:=.type "list",data:=.seq its.toArray k }:Obj))]++Zo fp s5.heap) σ' H' s' ->
     tn (i+1) s'.heap/\(∀b∈s2.heap.objs.size::fp,H' b=none)/\s'.heap.get? s2.heap.objs.size=some { cls:=.type "list",data:=.seq its.toArray k }:=fun {σ' H' s'} I'=>by
     have pd:=I'.pin (s2.heap.objs.size,{ cls:=.type "list",data:=.seq its.toArray k }) (by simp)
     have pf:∀b∈fp,∀o,s5.heap.get? b=some o->s'.heap.get? b=some o/\H' b=none:=fun b hb o e=>by have z:=I'.pin (b,o) (List.mem_append_right _ (List.mem_append_right _ (Vz hb e)));exact⟨z.1,z.2.1⟩
     refine⟨T.keep _ _ _ st5 fun b hb o e=>(pf b hb o e).1,fun b hb=>?_,pd.1⟩;rcases List.mem_cons.mp hb with z|z
     ·subst z;exact pd.2.1
     ·obtain⟨o,e,d⟩:=T.obj _ _ st5 b z;exact(pf b z o e).2
    cases ok with
    | false=>obtain⟨m',hm,w7⟩:=hN _ _ _ (show N ys σ6 H7 from by simpa using q7);obtain⟨r1,r2,r3⟩:=recs I7;exact wpAny_pure ⟨rfl,m',hm,i+1,ys,its,k,σ6,H7,I7.pins_of (fun p hp=>nomatch hp),r1,r2,rv3,r3,w7⟩
    | true =>
     have q7':te σ6 H7 fun y H5=>N (ys++[y]) σ6 H5:=by simpa using q7
     refine wpAny_bind (wpAny_bind (thn (he G.objs.size s2 H2 fp _ s7 σ6 H7 _ I7 q7') fun y s8 ⟨y8,H8,I8,ry,q8⟩=>wpAny_bind ?_));obtain⟨r1,r2,r3⟩:=recs I8;have hl:=rv3.length;refine wpAny_list_append_plain (hsz:=by rw[List.size_toArray];omega) ⟨k,r3⟩ fun h9 ⟨k9,hl9⟩ hs9=>wpAny_pure (wpAny_pure ?_)
     have hD8:H8 s2.heap.objs.size=none:=r2 _ List.mem_cons_self
     have f8:=stD (pn:=[]) r2 (fun p z=>nomatch z) s2.heap.objs.size List.mem_cons_self
     have I8':Inv (blk X sc cl N' G.objs.size s2 H2 fp) [] σ6 H8 s8:=I8.pins_of (fun p hp=>nomatch hp)
     have I9:Inv (blk X sc cl N' G.objs.size s2 H2 fp) [] σ6 H8 { s8 with heap:=h9 }:=I8'.turned (t':=s8.toks) (it:=s2.heap.objs.size) (fun b o hb e=>hs9.extBut b o hb e) hD8 f8.2.1 f8.2.2.2.1 f8.2.2.2.2.1 f8.2.2.2.2.2;obtain⟨m',hm,w8⟩:=hN _ _ _ q8;refine⟨rfl,m',hm,i+1,ys++[y8],its++[y],k9,σ6,H8,I9,?_,r2,rv3.append (.cons ry .nil),?_,w8⟩
     ·exact T.keep _ _ _ r1 fun b hb o e=>hs9.extBut b o (fun z=>nDf (z▸hb)) e
     ·rw[hl9];simp
  ·rcases List.mem_cons.mp hb with z|z
   ·subst z;exact I2.hok.fresh (Nat.le_refl _)
   ·exact(f2 b z).1
 exact codeAny_compStart_list loop (T.self _ 0 _ _ _ (T.keep _ _ _ st2 fun b _ o e=>old b o e) loop)

theorem Uo(hc:X.calm=true)(hi:PI X tg iter wi)(B:Blk X sc cl N' imp)
 (hg:∀C s H fp,PG (blk X sc cl N' C s H fp) tg g) (ht:∀C s H fp,JhJ (blk X sc cl N' C s H fp) ifs tt) (he:∀C s H fp,PE (blk X sc cl N' C s H fp) elt te)
 (hs:∀x,foldedSetIterable iter X.env x=pure x:=by intro _;rfl):PE X (.ListComp elt [⟨tg,iter,ifs,0⟩] sc pos) (Jek wi g tt te imp):=by
 intro pins s σ H Q I h;rw[eval_ListComp];refine wpAny_comprehension_free (use:=none) rfl hs B.clos B.kind B.names (thn (hi pins s σ H _ I h) fun v s1 h1=>thn h1 fun itv s2 h2=>?_);refine ZS (RR:=fun acc C=>compPost (model X.prog X.w) X.A X.xe none (EP X pins σ Q) acc C) hc B hg ht he h2 fun C D s4 H' ys m hC hn hCf hI q=>?_
 exact⟨m,hn,fun h' hsb=>⟨.ref D,H',hI h' hsb,rfl,q⟩⟩
theorem Zq{i:Nat}{x:Str}{pos' spos:Pos}(hN:X.N.Nodup)(hx1:X.N[i]?=some x)(hx2:Loc X.env.scope x)(hc:X.calm=true)(hi:PI X tg iter wi)(B:Blk X sc cl N' imp)
 (hg:∀C s H fp,PG (blk X sc cl N' C s H fp) tg g) (ht:∀C s H fp,JhJ (blk X sc cl N' C s H fp) ifs tt) (he:∀C s H fp,PE (blk X sc cl N' C s H fp) elt te)
 (hsw:swapsWith (.ListComp elt [⟨tg,iter,ifs,0⟩] sc pos) (some (.Name x pos')) spos.line X.env=pure true) (hf:X.fn x=true\/X.env.scope.names.lookup x=some .local)
 (hs:∀x,foldedSetIterable iter X.env x=pure x:=by intro _;rfl):PS X (.Assign [.Name x pos'] (.ListComp elt [⟨tg,iter,ifs,0⟩] sc pos) spos) (Jbc (Jek wi g tt te imp) (U4 i)):=by
 intro pins s σ H D I h;rw[exec_Assign_Name_used _ _ _ _ hsw];refine wpAny_bind (wpAny_standAt (wpAny_bind ?_));show wpAny _ X.A (do let _ <- comprehension (.ListComp elt [⟨tg,iter,ifs,0⟩] sc pos) sc X.env _ (newList []) false (eval iter X.env) (some (assign (.Name x pos') X.env))) _ _ s;refine wpAny_bind (wpAny_mono (wpAny_comprehension_free (use:=some (assign (.Name x pos') X.env)) (Q:=fun _ s'=>SP X pins D .next s') rfl hs B.clos B.kind B.names
  (thn (hi pins s σ H _ I h) fun v s1 h1=>thn h1 fun itv s2 h2=>?_)) (fun _ s' hq=>wpAny_pure (wpAny_pure hq)) fun _ _ e=>e)
 refine ZS (Q:=fun y H1=>U4 i y σ H1 D.nx) (RR:=fun acc C=>compPost (model X.prog X.w) X.A X.xe (some (assign (.Name x pos') X.env)) (fun _ s'=>SP X pins D .next s') acc C) hc B hg ht he h2 fun C Dl s4 H' ys m hC hn hCf hI q=>?_
 obtain⟨it,fp,tn,J,H2,e,I2,_⟩:=h2;have I4:Inv X pins σ H' s4:=hI s4.heap (.refl ..);have neC:X.env.locals≠C:=Nat.ne_of_lt (Nat.lt_trans I2.lt hC)
 have neCc:∀y c,X.env.cells.lookup y=some c->c≠C:=fun y c e=>by obtain⟨v,qc⟩:=I2.cell y c e;exact Nat.ne_of_lt (Nat.lt_trans qc.lt hC)
 show wpAny _ X.A (assign (.Name x pos') X.env (.ref Dl)) _ _ s4;refine wpAny_assign_Name (Jam I4 hN hx1 hx2 (v:=.ref Dl) rfl (fun s5 I5 ⟨c0,hs5,hc0⟩=>?_) hf)
 have ne0:C≠c0:=by
  rcases hc0 with z|z
  ·rw[z];exact Ne.symm neC
  ·exact Ne.symm (neCc _ _ z)
 refine⟨m,hn.sameBut hs5 ne0,fun h' hsb=>⟨_,H',?_,q⟩⟩;refine I5.turned (t':=s5.toks) (it:=C) (fun b o hb e=>hsb.extBut b o hb e) hCf (Ne.symm neC) (.inr (Nat.le_of_lt (Nat.lt_of_le_of_lt I2.sz hC))) neCc fun p hp z=>?_
 have:=Heap.lt_size (I2.pin p hp).1;rw[z] at this;exact absurd (Nat.lt_trans this hC) (Nat.lt_irrefl _)
end
end L2

namespace L2
open PySem PySem.Spec PyProof.Rows

inductive Rep (K:Frag) (H:Hp):V->PyData->Prop
 | non:Rep K H .non .none
 | bl (b:Bool):Rep K H (.bl b) (.bool b)
 | int (i:Int):Rep K H (.int i) (.int i)
 | str (x:Str):Rep K H (.str x) (.str x)
 | tup {a:Addr} {xs:List V} {ds:List PyData}:SqT K H a xs->xs.length=ds.length->(∀(i:Nat) (x:V) (d:PyData),xs[i]?=some x->ds[i]?=some d->Rep K H x d)->Rep K H (.ref a) (.tuple ds)
 | lst {a:Addr} {xs:List V} {ds:List PyData}:SqL K H a xs->xs.length=ds.length->(∀(i:Nat) (x:V) (d:PyData),xs[i]?=some x->ds[i]?=some d->Rep K H x d)->Rep K H (.ref a) (.list ds)

noncomputable def RepL(K:Frag)(H:Hp)(xs:List V)(ds:List PyData):Prop :=
 xs.length=ds.length/\∀(i:Nat) (x:V) (d:PyData),xs[i]?=some x->ds[i]?=some d->Rep K H x d

section
variable{K:Frag}{H H':Hp}
theorem RepL.nil:RepL K H [] []:=⟨rfl,fun i x d e=>by simp at e⟩
theorem RepL.cons{x:V}{d:PyData}{xs:List V}{ds:List PyData}(h:Rep K H x d)(r:RepL K H xs ds):RepL K H (x::xs) (d::ds):=by
 refine⟨by simp[r.1],fun i y e h1 h2=>?_⟩
 cases i with
 | zero=>simp at h1 h2;subst h1 h2;exact h
 | succ i=>exact r.2 i y e (by simpa using h1) (by simpa using h2)
theorem RepL.append{xs ys:List V}{ds es:List PyData}(r:RepL K H xs ds)(q:RepL K H ys es):RepL K H (xs++ys) (ds++es):=by
 refine⟨by simp[r.1,q.1],fun i x d h1 h2=>?_⟩
 by_cases hi:i<xs.length
 ·rw[List.getElem?_append_left hi] at h1;rw[List.getElem?_append_left (by rw[<- r.1];exact hi)] at h2;exact r.2 i x d h1 h2
 ·rw[List.getElem?_append_right (by omega)] at h1;rw[List.getElem?_append_right (by rw[<- r.1];omega)] at h2;rw[<- r.1] at h2;exact q.2 _ x d h1 h2
theorem RepL.snoc{xs:List V}{ds:List PyData}{x:V}{d:PyData}(r:RepL K H xs ds)(h:Rep K H x d):RepL K H (xs++[x]) (ds++[d]):=r.append (.cons h .nil)
theorem RepL.get{xs:List V}{ds:List PyData}{i:Nat}{d:PyData}(r:RepL K H xs ds)(e:ds[i]?=some d):∃x,xs[i]?=some x/\Rep K H x d:=by
 have hi:=(List.getElem?_eq_some_iff.mp e).1
 have hx:i<xs.length:=by rw[r.1];exact hi
 exact⟨xs[i],by simp[hx],r.2 i _ d (by simp[hx]) e⟩
theorem RepL.get'{xs:List V}{ds:List PyData}{i:Nat}{x:V}(r:RepL K H xs ds)(e:xs[i]?=some x):∃d,ds[i]?=some d/\Rep K H x d:=by
 have hi:=(List.getElem?_eq_some_iff.mp e).1
 have hx:i<ds.length:=by rw[<- r.1];exact hi
 exact⟨ds[i],by simp[hx],r.2 i x _ e (by simp[hx])⟩
theorem Rep.tupL{a:Addr}{xs:List V}{ds:List PyData}(h:SqT K H a xs)(r:RepL K H xs ds):Rep K H (.ref a) (.tuple ds):=.tup h r.1 r.2
theorem Rep.lstL{a:Addr}{xs:List V}{ds:List PyData}(h:SqL K H a xs)(r:RepL K H xs ds):Rep K H (.ref a) (.list ds):=.lst h r.1 r.2
theorem Rep.tupI{v:V}{ds:List PyData}(r:Rep K H v (.tuple ds)):∃a xs,v=.ref a/\SqT K H a xs/\RepL K H xs ds:=by
 cases r with
 | tup h l q=>exact⟨_,_,rfl,h,l,q⟩
theorem Rep.lstI{v:V}{ds:List PyData}(r:Rep K H v (.list ds)):∃a xs,v=.ref a/\SqL K H a xs/\RepL K H xs ds:=by
 cases r with
 | lst h l q=>exact⟨_,_,rfl,h,l,q⟩
theorem Rep.intI{v:V}{i:Int}(r:Rep K H v (.int i)):v=.int i:=by cases r;rfl
theorem Rep.strI{v:V}{i:Str}(r:Rep K H v (.str i)):v=.str i:=by cases r;rfl
theorem Rep.blI{v:V}{i:Bool}(r:Rep K H v (.bool i)):v=.bl i:=by cases r;rfl
theorem Same.seqT{a:Addr}{xs:List V}(e:Same H H')(h:SqT K H a xs):SqT K H' a xs:=by
 rcases h with (h|⟨o,h⟩)|h
 ·exact .inl (.inl (e _ _ h))
 ·exact .inl (.inr ⟨o,e _ _ h⟩)
 ·exact .inr h
theorem Rep.mono{v:V}{d:PyData}(e:Same H H')(r:Rep K H v d):Rep K H' v d:=by
 induction r with
 | non=>exact .non
 | bl b=>exact .bl b
 | int i=>exact .int i
 | str x=>exact .str x
 | tup h l _ ih=>exact .tup (e.seqT h) l ih
 | lst h l _ ih=>exact .lst (e.seq h) l ih
theorem RepL.mono{xs:List V}{ds:List PyData}(e:Same H H')(r:RepL K H xs ds):RepL K H' xs ds:=⟨r.1,fun i x d h1 h2=>(r.2 i x d h1 h2).mono e⟩

noncomputable def SameEx(l:Addr)(H H':Hp):Prop:=∀b o,b≠l->H b=some o->H' b=some o
theorem SameEx.upd{l:Addr}{o:HO}:SameEx l H (upd H l o):=fun b o' hb e=>by rw[Ji hb];exact e
theorem Same.ex{H0:Hp}{l:Addr}(s:Same H0 H)(hn:H0 l=none)(e:SameEx l H H'):Same H0 H':=fun b o h=>e b o (Jy h hn) (s b o h)
theorem Same.new{p:Addr}{o:HO}(hn:H p=none):Same H (upd H p o):=fun b o' e=>by rw[Ji (Jy e hn)];exact e
theorem SameEx.sqT{l a:Addr}{ys xs:List V}(e:SameEx l H H')(hl:H l=some (.lst ys))(h:SqT K H a xs):SqT K H' a xs:=by
 rcases h with (h|⟨o,h⟩)|h
 ·exact .inl (.inl (e _ _ (Jaf h hl (by intro z;cases z)) h))
 ·exact .inl (.inr ⟨o,e _ _ (Jaf h hl (by intro z;cases z)) h⟩)
 ·exact .inr h
theorem Same.ex_trans{l:Addr}{H2:Hp}(s:Same H H')(e:SameEx l H' H2):SameEx l H H2:=fun b o hb h=>e b o hb (s b o h)
inductive NoLst:PyData->Prop
 | non:NoLst .none
 | bl (b:Bool):NoLst (.bool b)
 | int (i:Int):NoLst (.int i)
 | str (x:Str):NoLst (.str x)
 | tup {ds:List PyData}:(∀d∈ds,NoLst d)->NoLst (.tuple ds)
end

theorem Vals.get':∀{xs:List V} {us:List Value} {i:Nat} {u:Value},Vals xs us->us[i]?=some u->∃x,xs[i]?=some x/\RelV x u
 | _,_,_,_,.nil,e=>by simp at e
 | _,_,0,_,.cons r _,e=>by simp at e;subst e;exact⟨_,rfl,r⟩
 | _,_,i+1,u,.cons _ t,e=>by obtain⟨x,h1,h2⟩:=Vals.get' (i:=i) (u:=u) t (by simpa using e);exact⟨x,by simpa using h1,h2⟩
theorem U9{h:Heap}:∀(us:List Value) (ds:List PyData),us.length=ds.length->(∀(i:Nat) (u:Value) (d:PyData),us[i]?=some u->ds[i]?=some d->∃as,Reads h u d as)->∃as,ReadsAll h us ds as
 | [],[],_,_=>⟨_,.nil⟩
 | [],_::_,e,_=>by simp at e
 | _::_,[],e,_=>by simp at e
 | u::us,d::ds,e,f=>by
  obtain⟨as,h1⟩:=f 0 u d rfl rfl;obtain⟨bs,h2⟩:=U9 us ds (by simpa using e) fun i v c q1 q2=>f (i+1) v c (by simpa using q1) (by simpa using q2)
  exact⟨_,.cons h1 h2⟩
section
variable{X:Cx}{pins:List (Addr×Obj)}{σ:St}{H:Hp}{s:Shared}
theorem Rep.reads{v:V}{d:PyData}(I:Inv X pins σ H s)(r:Rep X.K H v d):∀u,RelV v u->∃as,Reads s.heap u d as:=by
 induction r with
 | non=>intro u r;cases r;exact⟨_,.none⟩
 | bl b=>intro u r;cases r;exact⟨_,.bool b⟩
 | int i=>intro u r;obtain⟨t,rfl⟩:=r;exact⟨_,.int i t⟩
 | str x=>intro u r;obtain⟨t,rfl⟩:=r;exact⟨_,.str x t⟩
 | tup h l _ ih =>
  intro u r;cases r;obtain⟨its,rv,p,hz⟩:=I.tuple h;obtain⟨o,ho,hc,n,hd⟩:=p
  obtain⟨as,q⟩:=U9 (h:=s.heap) its _ (rv.length.symm.trans l) fun i u d h1 h2=>by obtain⟨x,e1,e2⟩:=rv.get' h1;exact ih i x d e1 h2 u e2
  exact⟨_,.tuple ho hc hd q⟩
 | lst h l _ ih =>
  intro u r;cases r;obtain⟨its,rv,p,hz⟩:=I.list h;obtain⟨o,ho,hc,n,hd⟩:=p.isList
  obtain⟨as,q⟩:=U9 (h:=s.heap) its _ (rv.length.symm.trans l) fun i u d h1 h2=>by obtain⟨x,e1,e2⟩:=rv.get' h1;exact ih i x d e1 h2 u e2
  exact⟨_,.list ho hc hd q⟩
end

section
variable{X:Cx}
noncomputable def Jd9(K:Frag):R2:=fun x y H Q=>rI0 (fun i j=>.int (i+j)) x y H Q\/(∃i j,x=.str i/\y=.str j/\i.length+j.length<=sizeLine/\Q (.str (i++j)) H)\/Jnb x y H Q
theorem JiG:OpR X (binaryOp .Add) (Jd9 X.K):=op_add.or (op_add_str.or Jll)
noncomputable def Jnc(K:Frag):R2:=fun x y H Q=>∃d e,Rep K H x d/\Rep K H y e/\d.canLay0=true/\e.canLay0=true/\min d.depth e.depth<=60/\Q (.bl (PyData.eqv d e)) H
noncomputable def Jng(K:Frag):R2:=fun x y H Q=>∃d e,Rep K H x d/\Rep K H y e/\d.canLay0=true/\e.canLay0=true/\min d.depth e.depth<=60/\Q (.bl (!PyData.eqv d e)) H
theorem Jln(hu:X.A.units+64<cLine):OpR X (compareOp .Eq) (Jnc X.K):=by intro pins s σ H x y v u Q I rx ry h;obtain⟨d,e,h1,h2,c1,c2,hd,q⟩:=h;obtain⟨as,r1⟩:=h1.reads I v rx;obtain⟨bs,r2⟩:=h2.reads I u ry;exact SeqAt.compareEq_reads r1 r2 c1 c2 (by omega) ⟨.bl _,H,I,rfl,q⟩
theorem Jlp(hu:X.A.units+64<cLine):OpR X (compareOp .NotEq) (Jng X.K):=by intro pins s σ H x y v u Q I rx ry h;obtain⟨d,e,h1,h2,c1,c2,hd,q⟩:=h;obtain⟨as,r1⟩:=h1.reads I v rx;obtain⟨bs,r2⟩:=h2.reads I u ry;exact SeqAt.compareNe_reads r1 r2 c1 c2 (by omega) ⟨.bl _,H,I,rfl,q⟩
noncomputable def Jg0(K:Frag):R2:=fun x y H Q=>rEq x y H Q\/Jnc K x y H Q
noncomputable def Jg2(K:Frag):R2:=fun x y H Q=>rNe x y H Q\/Jng K x y H Q
theorem Jlm(hu:X.A.units+64<cLine):OpR X (compareOp .Eq) (Jg0 X.K):=op_eq.or (Jln hu)
theorem Jlo(hu:X.A.units+64<cLine):OpR X (compareOp .NotEq) (Jg2 X.K):=op_ne.or (Jlp hu)
noncomputable def Jc2(K:Frag):List V->Hp->VK->Prop:=fun xs H Q=>∃x n,xs=[x]/\JmD K x H n/\Q (.int n) H
theorem JeA:CallR X (.builtin "len") (Jc2 X.K):=JfK
noncomputable def Zt(K:Frag):List V->Hp->VK->Prop:=fun xs H Q=>∃p ys,xs=[.ref p]/\((SqL K H p ys/\∀l,H l=none->Q (.ref l) (upd H l (.tup ys)))\/(SqT K H p ys/\Q (.ref p) H))
theorem Jbq:CallR X (.type "tuple") (Zt X.K):=ZF
noncomputable def Ja3(K:Frag):List V->Hp->VK->Prop:=fun xs H Q=>∃p ys,xs=[.ref p]/\(SqL K H p ys\/SqT K H p ys)/\∀l,H l=none->Q (.ref l) (upd H l (.lst ys))
theorem Jct:CallR X (.type "list") (Ja3 X.K):=Jaz
inductive TyS (K:Frag) (H:Hp):V->Value->Prop where
 | of {x:V} {t:Value} (h:TyOf K H x t):TyS K H x t
 | sqT {a:Addr} {xs:List V} (h:SqT K H a xs):TyS K H (.ref a) (.type "tuple")
 | sqL {a:Addr} {xs:List V} (h:SqL K H a xs):TyS K H (.ref a) (.type "list")
theorem Zb{pins:List (Addr×Obj)}{σ:St}{H:Hp}{s:Shared}{A:Around}{E:Value->Shared->Prop}{Q:Value->Shared->Prop}{c:Value}{b:Bool}{x:V}{u t:Value}(I:Inv X pins σ H s)(rx:RelV x u)(ty:TyS X.K H x t)(e:kitOne X.K t c=some b)(h:∀tk,Q (.bool b) { s with toks:=tk }) :
 wpAny (model X.prog X.w) A (call (.builtin "isinstance") [u,c]) Q E s:=by
 cases ty with
 | of z=>exact Je3 I rx z e h
 | @sqT a xs z=>cases (show u=Value.ref a from rx);obtain⟨its,_,p,_⟩:=I.tuple z;obtain⟨o,h1,h2,_⟩:=p;exact kia_one PySem.W.kitx_tuple I.kIn ⟨o,h1,h2⟩ e (fun z=>nomatch z) h
 | @sqL a xs z=>cases (show u=Value.ref a from rx);obtain⟨its,_,p,_⟩:=I.list z;obtain⟨o,h1,h2,_⟩:=p.isList;exact kia_one kitx_list I.kIn ⟨o,h1,h2⟩ e (fun z=>nomatch z) h
noncomputable def Jfk(K:Frag):List V->Hp->VK->Prop:=fun vs H Q=>∃x c t tc b,vs=[x,c]/\TyS K H x t/\(∀u,RelV c u->u=tc)/\kitOne K t tc=some b/\Q (.bl b) H
theorem JfJ:CallR X (.builtin "isinstance") (Jfk X.K):=by intro pins s σ H xs us Q I r h;obtain⟨x,c,t,tc,b,rfl,ty,hc,e,q⟩:=h;obtain⟨u,w',rfl,r1,r2⟩:=Jep r;cases hc w' r2;exact Zb I r1 ty e fun tk=>⟨.bl b,H,I.tok tk,rfl,q⟩
noncomputable def JnX:R2:=fun x y H Q=>y=.non/\Q (.bl (decide (x=.non))) H
noncomputable def JjZ:R2:=fun x y H Q=>y=.non/\Q (.bl (!decide (x=.non))) H
theorem Jgz:OpR X (compareOp .IsNot) JjZ:=JiI
noncomputable def JlI:List V->Hp->VK->Prop:=fun xs H Q=>∃i j,xs=[.int i,.int j]/\Q (.int (if j>i then j else i)) H
noncomputable def JlJ:List V->Hp->VK->Prop:=fun xs H Q=>∃i j,xs=[.int i,.int j]/\Q (.int (if j<i then j else i)) H
theorem JeC(hc:X.calm=true):CallR X (.builtin "max") JlI:=JeB hc
theorem ZQ(hc:X.calm=true):CallR X (.builtin "min") JlJ:=JeD hc
noncomputable def JjB(K:Frag)(ta:TE):TT:=fun σ H Q=>ta σ H fun x H1=>∃k,Jeu K x H1 k/\Q k H1
theorem JlF{a:Expr}{ta:TE}(ha:PE X a ta)(he:∀whole,isTrue a X.env whole=(do let v <- whole;standAt a.pos;holding [v] (truthy v))):PT X a (JjB X.K ta):=JgR ha he
noncomputable def GV(mg:Str->Option Value)(x:Str)(v:V):Prop:=∃u,mg x=some u/\RelV v u
theorem Jb1{x:Str}{v:V}{pos:Pos}(hg:Gl X x)(hm:GV X.mg x v)(hd:(x == ("__debug__":Str))=false:=by decide):PE X (.Name x pos) (tC v):=by obtain⟨u,h1,h2⟩:=hm;exact YR hg h1 h2 hd
end
theorem Uv:bootBuiltins "len"=some (.builtin "len"):=by decide +kernel
theorem Jx:bootBuiltins "isinstance"=some (.builtin "isinstance"):=by decide +kernel
theorem Jkk:bootBuiltins "max"=some (.builtin "max"):=by decide +kernel
theorem Jcq:bootBuiltins "min"=some (.builtin "min"):=by decide +kernel
theorem WT:bootBuiltins "sum"=some (.builtin "sum"):=by decide +kernel
theorem Jkj:bootBuiltins "any"=some (.builtin "any"):=by decide +kernel
theorem ZP:bootBuiltins "sorted"=some (.builtin "sorted"):=by decide +kernel
theorem JfE:bootBuiltins "int"=some (.type "int"):=by decide +kernel
theorem JhS:bootBuiltins "bool"=some (.type "bool"):=by decide +kernel
theorem Jdn:bootBuiltins "list"=some (.type "list"):=by decide +kernel
theorem WU:bootBuiltins "tuple"=some (.type "tuple"):=by decide +kernel
theorem Jkl:bootBuiltins "zip"=some (.type "zip"):=by decide +kernel
theorem Jaw:bootBuiltins "enumerate"=some (.type "enumerate"):=by decide +kernel
structure Cal (P:Program) (w:World) (K:Frag) (mg:Str->Option Value) (base:Heap) (x:Str) (k:Nat) (ps:List Str) (sp:Sp):Prop where
 ex:∃(f:Addr) (fd:FuncData),FnOk P w K mg base CX0 k f fd ps sp/\mg x=some (.ref f)/\keepIn K (.ref f)=true/\Binds K fd ps []
structure CalM (P:Program) (w:World) (K:Frag) (mg:Str->Option Value) (base:Heap) (x:Str) (C:Addr) (k:Nat) (ps:List Str) (sp:Sp):Prop where
 ex:∃(f:Addr) (fd:FuncData),Mk K C f/\FnOk P w K mg base CX0 k f fd ps sp/\mg x=some (.ref C)/\Binds K fd ps []
section
variable{X:Cx}{k:Nat}{C:Addr}{ps:List Str}{sp:Sp}{x:Str}{p pos:Pos}{e:Expr}{es:List Expr}{t:TA}
theorem JA(c:Cal X.prog X.w X.K X.mg X.base x k ps sp)(hr:Room k X.A)(hg:Gl X x)(ha:PA X (e::es) t)(hdb:(x == ("__debug__":Str))=false:=by decide)
 (he:starEach (e::es) X.env=(false,eval e X.env)::starEach es X.env:=by rfl) (hpl:(backTo pos (starEach es X.env)).any (·.1)=false:=by rfl):PE X (.Call (.Name x p) (e::es) [] pos) (Wz sp [] E0 t):=by
 obtain⟨f,fd,F,h1,h2,h3⟩:=c.ex;exact JiL F hr hg h1 h2 h3 .nil JjX ha hdb he hpl
theorem VX(c:CalM X.prog X.w X.K X.mg X.base x C k ps sp)(hr:Room (k+1) X.A)(hg:Gl X x)(ha:PA X (e::es) t)(hdb:(x == ("__debug__":Str))=false:=by decide)
 (he:starEach (e::es) X.env=(false,eval e X.env)::starEach es X.env:=by rfl) (hpl:(backTo pos (starEach es X.env)).any (·.1)=false:=by rfl):PE X (.Call (.Name x p) (e::es) [] pos) (Jel C sp [] E0 t):=by
 obtain⟨f,fd,M,F,h1,h3⟩:=c.ex;exact JiO M F hr hg h1 h3 .nil JjX ha hdb he hpl
end

noncomputable def JeW(K:Frag)(tl:TE):TI:=fun σ H R=>JjS K tl σ H R\/Jm1 K tl σ H R
theorem Jlz{X:Cx}{tg l:Expr}{tl:TE}(hl:PE X l tl):PI X tg l (JeW X.K tl):=by
 intro pins s σ H R I h;rcases h with h|h
 ·exact JiP hl pins s σ H R I h
 ·exact JlA hl pins s σ H R I h

theorem Jew{X:Cx}{sc:Scope}{N':List Str}{imp:List (Option Nat)}(h1:sc.kind=.function)
 (h2:(sc.names.all (fun y=>y.2 != .free && y.2 != .cell && (y.2 != .local || sc.names.lookup y.1 == some .local)) && imp.all (·.isNone) && (imp.length == N'.length))=true):Blk X sc [] N' imp:=by
 simp only[Bool.and_eq_true,List.all_eq_true] at h2;obtain⟨⟨h2,h3⟩,h4⟩:=h2
 have nofree:∀y∈sc.names,y.2≠.free:=fun y hy=>by
  have:=(h2 y hy).1.1
  simpa using this
 have nocell:∀y∈sc.names,y.2≠.cell:=fun y hy=>by
  have:=(h2 y hy).1.2
  simpa using this
 refine⟨closureFor_none nofree,h1,nocell,fun y hy hl=>?_,(fun p hp=>nomatch hp),fun y hy hk=>?_,by simpa using h4,fun p hp k e=>?_⟩
 ·have:=(h2 y hy).2;rw[hl] at this
  simpa using this
 ·have:(relabel sc X.env).names=sc.names:=by
   unfold relabel;refine map_eq_self fun x hx=>?_
   obtain⟨n,q⟩:=x;have:(q == NameKind.free)=false:=by simpa using nofree _ hx
   simp[this]
  rw[this] at hy;rcases hk with z|z
  ·exact absurd z (nocell y hy)
  ·exact absurd z (nofree y hy)
 ·have:=h3 p.1 (List.of_mem_zip hp).1;rw[e] at this;cases this

section
variable{K:Frag}{σ:St}{H H1:Hp}{Q:VK}{i:Nat}{v:V}{ta tb te:TE}{r:R2}{D:Ends}{t u:TS}{c:TT}
theorem Jl8(h:σ[i]?=some (some v))(q:Q v H):WC i σ H Q:=⟨v,h,q⟩
theorem JnY(q:Q v H):tC v σ H Q:=q
theorem Jnp(q:ta σ H fun x H1=>tb σ H1 fun y H2=>r x y H2 Q):tOp r ta tb σ H Q:=q
theorem Jns{r:V->Hp->VK->Prop}(q:ta σ H fun x H1=>r x H1 Q):tUn r ta σ H Q:=q
theorem Jnn{g:Int->Int->V}{a b:Int}(q:Q (g a b) H):rI0 g (.int a) (.int b) H Q:=⟨a,b,rfl,rfl,q⟩
theorem JnZ{C:Int->Int->Prop}{g:Int->Int->V}{a b:Int}(h:C a b)(q:Q (g a b) H):rI C g (.int a) (.int b) H Q:=⟨a,b,rfl,rfl,h,q⟩
theorem Jn0{g:Int->V}{a:Int}(q:Q (g a) H):rU g (.int a) H Q:=⟨a,rfl,q⟩
theorem Ji0{a b:Int}(q:Q (.int (a+b)) H):Jd9 K (.int a) (.int b) H Q:=.inl ⟨a,b,rfl,rfl,q⟩
theorem JlO{a b:Int}(q:Q (.bl (decide (a=b))) H):Jg0 K (.int a) (.int b) H Q:=.inl ⟨rfl,by
 have:decide (V.int a=V.int b)=decide (a=b):=by simp
 rw[this];exact q⟩
theorem JlZ{a b:Int}(q:Q (.bl (!decide (a=b))) H):Jg2 K (.int a) (.int b) H Q:=.inl ⟨rfl,by
 have:decide (V.int a=V.int b)=decide (a=b):=by simp
 rw[this];exact q⟩
theorem JlP{a b:Str}(q:Q (.bl (decide (a=b))) H):Jg0 K (.str a) (.str b) H Q:=.inl ⟨rfl,by
 have:decide (V.str a=V.str b)=decide (a=b):=by simp
 rw[this];exact q⟩
theorem Jl0{a b:Str}(q:Q (.bl (!decide (a=b))) H):Jg2 K (.str a) (.str b) H Q:=.inl ⟨rfl,by
 have:decide (V.str a=V.str b)=decide (a=b):=by simp
 rw[this];exact q⟩
theorem JlT{x:V}(q:Q (.bl (decide (x=.non))) H):JnX x .non H Q:=⟨rfl,q⟩
theorem Jjb{x:V}(q:Q (.bl (!decide (x=.non))) H):JjZ x .non H Q:=⟨rfl,q⟩
theorem Jg7{a b:Int}(q:Q (.int (max a b)) H):JlI [.int a,.int b] H Q:=⟨a,b,rfl,by
 have e:(if b>a then b else a)=max a b:=by rw[Int.max_def];split <;> split <;> omega
 rw[e];exact q⟩
theorem Jg8{a b:Int}(q:Q (.int (min a b)) H):JlJ [.int a,.int b] H Q:=⟨a,b,rfl,by
 have e:(if b<a then b else a)=min a b:=by rw[Int.min_def];split <;> split <;> omega
 rw[e];exact q⟩
theorem Jjf{Qb:Bool->Hp->Prop}(q:ta σ H fun x H1=>∃k,Jeu K x H1 k/\Qb k H1):JjB K ta σ H Qb:=q
theorem JlQ{f:Str}(q:ta σ H fun x H1=>∃a C dx fs v,x=.ref a/\H1 a=some (.ins C dx fs)/\Cls K C/\NoAttr K C f/\fs.lookup f=some v/\Q v H1):Jjx K ta f σ H Q:=q
theorem Jje{Qb:Bool->Hp->Prop}(q:te σ H fun x H'=>∃k,x=.bl k/\Qb k H'):Jho te σ H Qb:=q
theorem Jnr{Qb:Bool->Hp->Prop}(q:te σ H fun x H'=>∃k,x=.bl k/\Qb k H'):tB te σ H Qb:=q
theorem JlM{c':TT}{Qb:Bool->Hp->Prop}(q:c σ H fun b H1=>if b=true then c' σ H1 Qb else Qb false H1):Jmj c c' σ H Qb:=q
theorem Jnq{c':TT}{Qb:Bool->Hp->Prop}(q:c σ H fun b H1=>if b=true then Qb true H1 else c' σ H1 Qb):tOr c c' σ H Qb:=q
theorem Jl2{Qb:Bool->Hp->Prop}(q:c σ H fun b H1=>Qb (!b) H1):Jmn c σ H Qb:=q
theorem Jjc(q:te σ H fun x H1=>∃b,x=.bl b/\Q (.bl (!b)) H1):JnA te σ H Q:=q
theorem Ji1(q:ta σ H fun x H1=>∃b,x=.bl b/\if b=true then tb σ H1 Q else Q (.bl false) H1):Jhk ta tb σ H Q:=q
theorem Jl3(q:ta σ H fun x H1=>∃b,x=.bl b/\if b=true then Q (.bl true) H1 else tb σ H1 Q):Jn3 ta tb σ H Q:=q
theorem JlR(q:c σ H fun b H1=>if b=true then ta σ H1 Q else tb σ H1 Q):tIf c ta tb σ H Q:=q
theorem Jl6(q:t { D with nx:=u D } σ H):JjA t u D σ H:=q
theorem JlN{g:TG}(q:te σ H fun x H1=>g x σ H1 D.nx):Jbc te g D σ H:=q
theorem Jg6{Qs:St->Hp->Prop}(q:Qs (σ.set i (some v)) H):U4 i v σ H Qs:=q
theorem JlS(q:c σ H fun b H1=>if b=true then t D σ H1 else u D σ H1):Jjy c t u D σ H:=q
theorem Jl4(q:te σ H D.rt):Jjz te D σ H:=q
theorem Ji3(q:te σ H fun _ H1=>D.nx σ H1):Jcf te D σ H:=q
theorem Jja(q:D.nx σ H):Jhn D σ H:=q
theorem Ji2{tr:TA}{Ql:List V->Hp->Prop}(q:ta σ H fun x H1=>tr σ H1 fun xs H2=>Ql (x::xs) H2):Ub ta tr σ H Ql:=q
theorem Jl1{Ql:List V->Hp->Prop}(q:Ql [] H):Wp σ H Ql:=q
theorem Jnm{r:List V->Hp->VK->Prop}{ts:TA}(q:ts σ H fun vs H1=>r vs H1 Q):tCB r ts σ H Q:=q
theorem WL{sp:Sp}{E:XK}{ts:TA}(q:ts σ H fun vs H1=>sp vs H1 Q E):Wz sp [] E ts σ H Q:=by
 have e:(fun vs H1=>sp (vs++[]) H1 Q E)=fun vs H1=>sp vs H1 Q E:=by funext vs H1;rw[List.append_nil]
 show ts σ H fun vs H1=>sp (vs++[]) H1 Q E
 rw[e];exact q
noncomputable def Jfx(xs:List V)(H:Hp)(Q:VK):Prop:=xs.length<=sizeLine/\∀p,H p=none->Q (.ref p) (upd H p (.tup xs))
noncomputable def Jkd(xs:List V)(H:Hp)(Q:VK):Prop:=xs.length<=sizeLine/\∀p,H p=none->Q (.ref p) (upd H p (.lst xs))
theorem Jl7{ts:TA}(q:ts σ H fun xs H1=>Jfx xs H1 Q):Jmp ts σ H Q:=q
theorem JlY{ts:TA}(q:ts σ H fun xs H1=>Jkd xs H1 Q):Jml ts σ H Q:=q
theorem Jkh{xs:List V}(hl:xs.length<=sizeLine)(q:∀p H',H p=none->Same H H'->H' p=some (.tup xs)->Q (.ref p) H'):Jfx xs H Q:=⟨hl,fun p hp=>q p _ hp (.new hp) Jw⟩
theorem Ji7{a:Addr}{xs:List V}(h:SqL K H a xs)(q:Q (.int xs.length) H):Jc2 K [.ref a] H Q:=⟨_,_,rfl,.inl ⟨xs,h,rfl⟩,q⟩
theorem Ji9{a:Addr}{xs:List V}(h:SqT K H a xs)(q:Q (.int xs.length) H):Jc2 K [.ref a] H Q:=⟨_,_,rfl,.inr ⟨xs,h,rfl⟩,q⟩
theorem Ji8{x:Str}(h:x.length<=sizeLine)(q:Q (.int x.length) H):Jc2 K [.str x] H Q:=⟨_,_,rfl,⟨h,rfl⟩,q⟩
theorem Jfn{a:Addr}{xs:List V}(h:SqL K H a xs)(q:∀p H',H p=none->Same H H'->H' p=some (.tup xs)->Q (.ref p) H'):Zt K [.ref a] H Q:=⟨a,xs,rfl,.inl ⟨h,fun p hp=>q p _ hp (.new hp) Jw⟩⟩
theorem JlV{a:Addr}{xs:List V}{j:Int}{v:V}(h:SqL K H a xs)(e:atI xs j=some v)(q:Q v H):rIx K (.ref a) (.int j) H Q:=.inl ⟨a,xs,j,v,rfl,rfl,h,e,q⟩
theorem JlX{a:Addr}{xs:List V}{j:Int}{v:V}(h:SqT K H a xs)(e:atI xs j=some v)(q:Q v H):rIx K (.ref a) (.int j) H Q:=.inr (.inl ⟨a,xs,j,v,rfl,rfl,h,e,q⟩)
theorem JlW{z:Str}{j:Int}{c:Nat}(hz:z.length<=sizeLine)(e:atI z.cps.toList j=some c)(q:Q (.str ⟨#[c]⟩) H):rIx K (.str z) (.int j) H Q:=.inr (.inr ⟨z,j,c,rfl,rfl,hz,e,q⟩)
theorem JlU{x:V}{n:String}{t:Value}{b:Bool}(ty:TyS K H x t)(e:kitOne K t (.type n)=some b)(q:Q (.bl b) H):Jfk K [x,.ty n] H Q:=⟨x,_,t,_,b,rfl,ty,fun _ r=>r,e,q⟩
theorem Ji6{x:V}{C:Addr}{t:Value}{b:Bool}(ty:TyS K H x t)(e:kitOne K t (.ref C)=some b)(q:Q (.bl b) H):Jfk K [x,.ref C] H Q:=⟨x,_,t,_,b,rfl,ty,fun _ r=>r,e,q⟩
theorem Jno{T:String}{rm:V->List V->Hp->VK->Prop}{to:TE}{ts:TA}(q:to σ H fun x H1=>tyV K T x H1/\ts σ H1 fun xs H2=>rm x xs H2 Q):tBM K T rm to ts σ H Q:=q
theorem Ji5{to ti:TE}{ts:JhN}{Qs:St->Hp->Prop}(q:to σ H fun o H1=>ti σ H1 fun i H2=>ts o i v H2 fun H3=>Qs σ H3):JkJ to ti ts v σ H Qs:=q
theorem Jed{a:Addr}{xs:List V}{n:Nat}{ts:TGs}{Qs:St->Hp->Prop}(h:SqT K H a xs)(hl:xs.length=n)(q:ts xs σ H Qs):Jf9 K n ts (.ref a) σ H Qs:=⟨a,xs,rfl,h,hl,q⟩
theorem Jg5{t:TG}{u:TGs}{x:V}{xs:List V}{Qs:St->Hp->Prop}(q:t x σ H fun σ' H'=>u xs σ' H' Qs):Jf8 t u (x::xs) σ H Qs:=⟨x,xs,rfl,q⟩
theorem Ji4{Qs:St->Hp->Prop}(q:Qs σ H):JkI [] σ H Qs:=⟨rfl,q⟩
theorem Jjd{f:Str}{tv:TE}(q:tv σ H fun y H1=>ta σ H1 fun x H2=>∃a C dx fs,x=.ref a/\H2 a=some (.ins C dx fs)/\Cls K C/\NoAttr K C f/\fs.length<1000/\D.nx σ (upd H2 a (.ins C dx (putF f y fs)))):Jmb K ta tv f D σ H:=q
theorem Jg4{r':R2}{tc:TE}(q:ta σ H fun x H1=>tb σ H1 fun y H2=>r x y H2 fun z H3=>∃k,z=.bl k/\(if k=true then tc σ H3 fun w' H4=>r' y w' H4 Q else Q (.bl false) H3)):Jdb r r' ta tb tc σ H Q:=q
theorem Jl9{Qb:Bool->Hp->Prop}(q:Qb true H):Jmq σ H Qb:=q
theorem ifd{c A B:Prop}[Decidable c](h1:c->A)(h2:¬c->B):if decide c=true then A else B:=by
 by_cases h:c
 ·rw[if_pos (decide_eq_true h)];exact h1 h
 ·rw[if_neg (by simpa using h)];exact h2 h
theorem ifT{b:Bool}{A B:Prop}(e:b=true)(h:A):if b=true then A else B:=by rw[if_pos e];exact h
theorem ifF{b:Bool}{A B:Prop}(e:b=false)(h:B):if b=true then A else B:=by rw[if_neg (by rw[e];exact Bool.false_ne_true)];exact h

theorem Jfm{tl:TE}{g:TG}{a:Addr}{xs:List V}(hx:∀R:VK,R (.ref a) H1->tl σ H R)(hq:SqL K H1 a xs\/SqT K H1 a xs)(Pv:Nat->St->Hp->Prop)(h0:Pv 0 σ H1)(hS:∀i σ' H',Pv i σ' H'->Same H1 H')
 (hs:∀i x σ' H',xs[i]?=some x->Pv i σ' H'->g x σ' H' fun σ2 H2=>t { D with nx:=Pv (i+1),ct:=Pv (i+1),bk:=D.nx } σ2 H2) (hd:∀σ' H',Pv xs.length σ' H'->D.nx σ' H'):Jmk (JeW K tl) g t D σ H:=by
 rcases hq with hq|hq
 ·exact .inl (hx _ ⟨a,rfl,⟨xs,hq⟩,Jf7 (xs:=xs) Pv h0 (fun i σ' H' _ p=>(hS i σ' H' p).seq hq) hs hd⟩)
 ·exact .inr (hx _ ⟨a,rfl,⟨xs,hq⟩,Jiq (xs:=xs) Pv h0 (fun i σ' H' _ p=>(hS i σ' H' p).seqT hq) hs hd⟩)
theorem Jdu{J:It}{g:TG}{tt:TT}{imp:List (Option Nat)}{n:Nat}(hn:n<=sizeLine)(Pv:Nat->List V->St->Hp->Prop)(h0:Pv 0 [] (W8 imp σ) H1)(hy:∀i ys σ' H',Pv i ys σ' H'->ys.length<=i)
 (hstop:∀ys σ' H',Pv n ys σ' H'->J.stop n H') (hgo:∀i ys σ' H',i<n->Pv i ys σ' H'->J.go i H')
 (hs:∀i ys x σ' H' H2,i<n->J.yld i H' x H2->Pv i ys σ' H'->g x σ' H2 fun σ2 H3=>tt σ2 H3 fun b H4=>if b=true then te σ2 H4 fun y H5=>Pv (i+1) (ys++[y]) σ2 H5 else Pv (i+1) ys σ2 H4)
 (hd:∀ys σ' H',Pv n ys σ' H'->∀p H2,H' p=none->Same H' H2->H2 p=some (.lst ys)->Q (.ref p) H2) :
 ∃W:Nat->Nat->List V->St->Hp->Prop,(∃m,W 0 m [] (W8 imp σ) H1)/\∀i m ys σ' H',W i m ys σ' H' ->
  (J.stop i H'/\ys.length<=sizeLine/\∀D,H' D=none->Q (.ref D) (upd H' D (.lst ys))) ∨
  (J.go i H'/\ys.length<sizeLine/\∃N:List V->St->Hp->Prop,(∀ys' σ2 H2,N ys' σ2 H2->∃m',m'<m/\W (i+1) m' ys' σ2 H2) ∧
   ∀x H2,J.yld i H' x H2->g x σ' H2 fun σ2 H3=>tt σ2 H3 fun b H4=>if b=true then te σ2 H4 fun y H5=>N (ys++[y]) σ2 H5 else N ys σ2 H4):=by
 refine⟨fun i m ys σ' H'=>m=n-i/\i<=n/\Pv i ys σ' H',⟨n,by simp,Nat.zero_le _,h0⟩,?_⟩;rintro i m ys σ' H' ⟨rfl,hi,p⟩;have hl:=hy i ys σ' H' p
 by_cases hlt:i<n
 ·exact .inr ⟨hgo i ys σ' H' hlt p,by omega,fun ys' σ2 H2=>Pv (i+1) ys' σ2 H2,fun ys' σ2 H2 p'=>⟨n-(i+1),by omega,rfl,hlt,p'⟩,fun x H2 y=>hs i ys x σ' H' H2 hlt y p⟩
 ·have e:i=n:=by omega
  subst e;exact .inl ⟨hstop ys σ' H' p,by omega,fun q hq=>hd ys σ' H' p q _ hq (.new hq) Jw⟩
theorem Jc3{tl:TE}{g:TG}{tt:TT}{imp:List (Option Nat)}{a:Addr}{xs:List V}(hx:∀R:VK,R (.ref a) H1->tl σ H R)(hq:SqL K H1 a xs\/SqT K H1 a xs)(hn:xs.length<=sizeLine)(Pv:Nat->List V->St->Hp->Prop)
 (h0:Pv 0 [] (W8 imp σ) H1) (hy:∀i ys σ' H',Pv i ys σ' H'->ys.length<=i) (hS:∀i ys σ' H',Pv i ys σ' H'->Same H1 H')
 (hs:∀i ys x σ' H',xs[i]?=some x->Pv i ys σ' H'->g x σ' H' fun σ2 H3=>tt σ2 H3 fun b H4=>if b=true then te σ2 H4 fun y H5=>Pv (i+1) (ys++[y]) σ2 H5 else Pv (i+1) ys σ2 H4)
 (hd:∀ys σ' H',Pv xs.length ys σ' H'->∀p H2,H' p=none->Same H' H2->H2 p=some (.lst ys)->Q (.ref p) H2):Jek (JeW K tl) g tt te imp σ H Q:=by
 rcases hq with hq|hq
 ·refine .inl (hx _ ⟨a,rfl,⟨xs,hq⟩,Jdu (n:=xs.length) hn Pv h0 hy (fun ys σ' H' p=>⟨xs,(hS _ _ _ _ p).seq hq,Nat.le_refl _⟩) (fun i ys σ' H' hi p=>⟨xs,xs[i],(hS _ _ _ _ p).seq hq,by simp[hi]⟩) (fun i ys x σ' H' H2 hi y p=>?_) hd⟩);obtain⟨e,y⟩:=y;subst e;exact hs i ys x σ' _ (y xs ((hS _ _ _ _ p).seq hq)) p
 ·refine .inr (hx _ ⟨a,rfl,⟨xs,hq⟩,Jdu (n:=xs.length) hn Pv h0 hy (fun ys σ' H' p=>⟨xs,(hS _ _ _ _ p).seqT hq,Nat.le_refl _⟩) (fun i ys σ' H' hi p=>⟨xs,xs[i],(hS _ _ _ _ p).seqT hq,by simp[hi]⟩) (fun i ys x σ' H' H2 hi y p=>?_) hd⟩);obtain⟨e,y⟩:=y;subst e;exact hs i ys x σ' _ (y xs ((hS _ _ _ _ p).seqT hq)) p
end
end L2
namespace L2
open PySem PySem.Spec PyProof.Rows
section
variable{X:Cx}{K:Frag}{pos:Pos}
theorem Jd2(hK:X.K=K):OpR X (binaryOp .Add) (Jd9 K):=hK▸JiG
theorem U7(hK:X.K=K)(hu:X.A.units+64<cLine):OpR X (compareOp .Eq) (Jg0 K):=hK▸Jlm hu
theorem Wj(hK:X.K=K)(hu:X.A.units+64<cLine):OpR X (compareOp .NotEq) (Jg2 K):=hK▸Jlo hu
theorem Yg(hK:X.K=K):CallR X (.builtin "len") (Jc2 K):=hK▸JeA
theorem Jbp(hK:X.K=K):CallR X (.type "tuple") (Zt K):=hK▸Jbq
theorem WW(hK:X.K=K):CallR X (.type "list") (Ja3 K):=hK▸Jct
theorem UH(hK:X.K=K):CallR X (.builtin "isinstance") (Jfk K):=hK▸JfJ
theorem JL(hK:X.K=K):IxR X (rIx K):=hK▸JkU
theorem Yv{e:Expr}{ta:TE}{f:Str}(hK:X.K=K)(he:PE X e ta)(hb:attributeBase e f X.env (eval e X.env)=eval e X.env):PE X (.Attribute e f pos) (Jjx K ta f):=hK▸Jlv he hb
theorem JiV{o value:Expr}{f:Str}{pos':Pos}{ta tv:TE}(hK:X.K=K)(ha:PE X o ta)(hv:PE X value tv)(hs:swapsWith value (some (.Attribute o f pos')) pos.line X.env=pure false):PS X (.Assign [.Attribute o f pos'] value pos) (Jmb K ta tv f):=hK▸JlD ha hv hs
theorem YE{tg l:Expr}{tl:TE}(hK:X.K=K)(hl:PE X l tl):PI X tg l (JeW K tl):=hK▸Jlz hl
theorem Ye{es:List Expr}{k:Nat}{t:TGs}{n:Nat}(hK:X.K=K)(hc:X.calm=true)(h:PGs X es t)(hn:(assignEach es X.env).length=n)(hst:(assignEach es X.env).findIdx? (·.1)=none):PG X (.Tuple es k pos) (Jf9 K n t):=hK▸Jly hc h hn hst
theorem YT{a:Expr}{ta:TE}(hK:X.K=K)(ha:PE X a ta)(he:∀whole,isTrue a X.env whole=(do let v <- whole;standAt a.pos;holding [v] (truthy v))):PT X a (JjB K ta):=hK▸JlF ha he
theorem UY{o e:Expr}{es:List Expr}{to:TE}{t:TA}{name:Str}{apos cpos:Pos}{T id:String}{r:V->List V->Hp->VK->Prop}(hK:X.K=K)(pa:PlainAttrs T)(slot:Slot T name id)(hty:typeOf (.builtin id)=pure (.type "method_descriptor"))(hm:MtR X id r)(ho:PE X o to)(ha:PA X (e::es) t)
 (hbase:attributeBase o name X.env (eval o X.env)=eval o X.env:=by rfl)
 (hfew:((backTo cpos (starEach (e::es) X.env)).all (fun x=>!x.1) && (backToKw cpos (keywordEach [] X.env)).all (fun x=>x.1.isSome)
  && decide ((e::es).length+([]:List Keyword).length+(if ([]:List Keyword).isEmpty then 0 else 1)<30))=true:=by rfl)
 (hline:(apos.endLine == cpos.line)=true:=by rfl) (hs:starEach (e::es) X.env=(false,eval e X.env)::starEach es X.env:=by rfl) (hplain:(backTo cpos (starEach es X.env)).any (·.1)=false:=by rfl) :
 PE X (.Call (.Attribute o name apos) (e::es) [] cpos) (tBM K T r to t):=hK▸Jm9 pa slot hty hm ho ha hbase hfew hline hs hplain
theorem Jd4{o:Expr}{to:TE}{name:Str}{apos cpos:Pos}{T id:String}{r:V->List V->Hp->VK->Prop}(hK:X.K=K)(pa:PlainAttrs T)(slot:Slot T name id)(hty:typeOf (.builtin id)=pure (.type "method_descriptor"))(hm:MtR X id r)(ho:PE X o to)
 (hbase:attributeBase o name X.env (eval o X.env)=eval o X.env:=by rfl) (hline:(apos.endLine == cpos.line)=true:=by rfl):PE X (.Call (.Attribute o name apos) [] [] cpos) (Jjw K T r to):=hK▸Jlu pa slot hty hm ho hbase hline
end
end L2

namespace LR
open PySem L2

theorem sz2{a b:V}:[a,b].length<=sizeLine:=by show 2<=sizeLine;decide
theorem Jmt(K:Frag)(H:Hp)(k:Bool):Jeu K (.bl k) H k:=rfl
noncomputable abbrev Pr:=Int×Int
noncomputable def prD(p:Pr):PyData:=.tuple [.int p.1,.int p.2]
section
variable{K:Frag}{H H':Hp}
theorem JiT{v:V}{p:Pr}(r:Rep K H v (prD p)):∃a,v=.ref a/\SqT K H a [.int p.1,.int p.2]:=by
 obtain⟨a,xs,rfl,h,l,q⟩:=r.tupI
 match xs,l,q,h with
 | [x,y],_,q,h =>
  have e1:=(q 0 x (.int p.1) rfl rfl).intI
  have e2:=(q 1 y (.int p.2) rfl rfl).intI;subst e1 e2;exact⟨a,rfl,h⟩
theorem JgN{a:Addr}{b n:Int}(h:SqT K H a [.int b,.int n]):Rep K H (.ref a) (prD (b,n)):=.tupL h (.cons (.int b) (.cons (.int n) .nil))
theorem JiU{a:Addr}{b n:Int}(h:H a=some (.tup [.int b,.int n])):Rep K H (.ref a) (prD (b,n)):=JgN (.of h)
noncomputable abbrev Prs(K:Frag)(H:Hp)(vs:List V)(ps:List Pr):Prop:=RepL K H vs (ps.map prD)
theorem Prs.len{vs:List V}{ps:List Pr}(r:Prs K H vs ps):vs.length=ps.length:=by have:=r.1;rwa [List.length_map] at this
theorem Prs.at{vs:List V}{ps:List Pr}{i:Nat}{v:V}(r:Prs K H vs ps)(e:vs[i]?=some v):∃p a,ps[i]?=some p/\v=.ref a/\SqT K H a [.int p.1,.int p.2]:=by
 obtain⟨d,h1,h2⟩:=r.get' e;rw[List.getElem?_map] at h1
 cases hp:ps[i]? with
 | none=>rw[hp] at h1;cases h1
 | some p=>rw[hp] at h1;cases h1;obtain⟨a,e1,e2⟩:=JiT h2;exact⟨p,a,rfl,e1,e2⟩
theorem Prs.snoc{vs:List V}{ps:List Pr}{v:V}{p:Pr}(r:Prs K H vs ps)(h:Rep K H v (prD p)):Prs K H (vs++[v]) (ps++[p]):=by show RepL K H _ _;rw[List.map_append];exact RepL.snoc r h
noncomputable def JhM(K:Frag)(H:Hp)(v:V)(ps:List Pr):Prop:=∃a vs,v=.ref a/\(SqL K H a vs\/SqT K H a vs)/\Prs K H vs ps
end

structure Good (ps:List Pr):Prop where
 one:∀(i:Nat) (p:Pr),ps[i]?=some p->1<=p.2
 gap:∀(i:Nat) (p q:Pr),ps[i]?=some p->ps[i+1]?=some q->p.1+p.2<q.1
theorem Good.nil:Good []:=⟨fun i p e=>by simp at e,fun i p q e=>by simp at e⟩
theorem Good.snoc{ps:List Pr}{p:Pr}(g:Good ps)(h1:1<=p.2)(h2:∀q,ps[ps.length-1]?=some q->q.1+q.2<p.1):Good (ps++[p]):=by
 refine⟨fun i q e=>?_,fun i q r e1 e2=>?_⟩
 ·by_cases hi:i<ps.length
  ·rw[List.getElem?_append_left hi] at e;exact g.one i q e
  ·rw[List.getElem?_append_right (by omega)] at e;obtain⟨h3,h4⟩:=List.getElem?_eq_some_iff.mp e;have:i-ps.length=0:=by simp at h3;omega
   rw[this] at e;simp at e;subst e;exact h1
 ·by_cases hi:i+1<ps.length
  ·rw[List.getElem?_append_left (by omega)] at e1;rw[List.getElem?_append_left hi] at e2;exact g.gap i q r e1 e2
  ·rw[List.getElem?_append_right (by omega)] at e2;obtain⟨h3,h4⟩:=List.getElem?_eq_some_iff.mp e2;have h5:i+1-ps.length=0:=by simp at h3;omega
   rw[h5] at e2;simp at e2;subst e2;have h6:i=ps.length-1:=by omega
   have h7:i<ps.length:=by omega
   rw[List.getElem?_append_left h7] at e1;rw[h6] at e1;exact h2 q e1

noncomputable def Jc4(t:Addr):List (Str×V):=[("stretches",.ref t)]
noncomputable def RowAt(C:Addr)(K:Frag)(H:Hp)(v:V)(ps:List Pr):Prop :=
 ∃x dx t ts,v=.ref x/\H x=some (.ins C dx (Jc4 t))/\H t=some (.tup ts)/\Prs K H ts ps
theorem RowAt.mono{C:Addr}{K:Frag}{H H':Hp}{v:V}{ps:List Pr}(e:Same H H')(r:RowAt C K H v ps):RowAt C K H' v ps:=by obtain⟨x,dx,t,ts,h0,h1,h2,h3⟩:=r;exact⟨x,dx,t,ts,h0,e _ _ h1,e _ _ h2,RepL.mono e h3⟩
structure RowC (K:Frag) (C:Addr):Prop where
 cl:Cls K C
 ns:NoAttr K C "stretches"
theorem Jfo(t:Addr):(Jc4 t).lookup ("stretches":Str)=some (.ref t):=by
 unfold Jc4;rw[List.lookup_cons];have:(("stretches":Str) == ("stretches":Str))=true:=by decide +kernel
 rw[this]
theorem JgS(t:Addr):putF "stretches" (.ref t) []=Jc4 t:=rfl

noncomputable def WO(K:Frag):Sp:=fun vs H Q _=>∃v ps,vs=[v]/\JhM K H v ps/\Good ps/\∀H',Same H H'->Q .non H'
noncomputable def VB(C:Addr)(K:Frag):Sp:=fun vs H Q _=>∃x dx v ps,vs=[.ref x,v]/\H x=some (.ins C dx [])/\JhM K H v ps/\Good ps/\ps.length<=30 ∧
 ∀H' t ts,SameEx x H H'->H' x=some (.ins C dx (Jc4 t))->H' t=some (.tup ts)->Prs K H' ts ps->Q .non H'
noncomputable def Jfy(C:Addr)(sp:Sp)(E:XK)(vs:List V)(H1:Hp)(Q:VK):Prop:=∀x dx,H1 x=none->H1 dx=none->dx≠x ->
 sp (.ref x::vs) (upd (upd H1 dx (.own x)) x (.ins C dx [])) (fun v H2=>v=.non/\Q (.ref x) H2) E
theorem Jee{C:Addr}{sp:Sp}{E:XK}{ts:TA}{σ:St}{H:Hp}{Q:VK}(q:ts σ H fun vs H1=>Jfy C sp E vs H1 Q):Jel C sp [] E ts σ H Q:=by
 have e:(fun vs H1=>Jfy C sp E vs H1 Q)=fun vs H1=>∀x dx,H1 x=none->H1 dx=none->dx≠x->sp (.ref x::(vs++[])) (upd (upd H1 dx (.own x)) x (.ins C dx [])) (fun v H2=>v=.non/\Q (.ref x) H2) E:=by funext vs H1;rw[List.append_nil];rfl
 show ts σ H _;rw[<- e];exact q
theorem Jl5{C:Addr}{K:Frag}{H:Hp}{Q:VK}{v:V}{ps:List Pr}{E:XK}(h:JhM K H v ps)(g:Good ps)(hl:ps.length<=30)(q:∀x H',H x=none->Same H H'->RowAt C K H' (.ref x) ps->Q (.ref x) H'):Jfy C (VB C K) E [v] H Q:=by
 intro x dx nx ndx nex
 have s0:Same H (upd (upd H dx (.own x)) x (.ins C dx [])):=fun b o e=>by rw[Ji (Jy e nx),Ji (Jy e ndx)];exact e
 obtain⟨a,vs,rfl,hq,hp⟩:=h;refine⟨x,dx,_,ps,rfl,Jw,⟨a,vs,rfl,hq.imp s0.seq s0.seqT,RepL.mono s0 hp⟩,g,hl,fun H' t ts e h1 h2 h3=>⟨rfl,q x H' nx (fun b o h=>e b o (Jy h nx) (s0 b o h)) ⟨x,dx,t,ts,rfl,h1,h2,h3⟩⟩⟩

noncomputable def cell(ns:List Int)(k:Int):Int:=ns.getD k.toNat 0
end LR

namespace LR
open PySem L2

theorem JfL{ns:List Int}{k:Int}(h:¬k<(ns.length:Int)):cell ns k=0:=by unfold cell;rw[List.getD_eq_getElem?_getD,List.getElem?_eq_none (by omega)];rfl
noncomputable def spr(ns:List Int)(at' span p0:Int):Nat->Int×List Pr
 | 0=>(p0,[])
 | i+1=>((spr ns at' span p0 i).1+(1+cell ns (at'+1+2*i) % span)+1+cell ns (at'+2+2*i) % span,(spr ns at' span p0 i).2++[((spr ns at' span p0 i).1,1+cell ns (at'+1+2*i) % span)])
theorem Vl(ns:List Int)(at' span p0:Int):∀i,(spr ns at' span p0 i).2.length=i
 | 0=>rfl
 | i+1=>by show(_++[_]).length=_;rw[List.length_append,Vl ns at' span p0 i];rfl
theorem Jce(ns:List Int)(at' span p0:Int)(hs:0<span):∀i,Good (spr ns at' span p0 i).2/\∀q,(spr ns at' span p0 i).2[i-1]?=some q->q.1+q.2<(spr ns at' span p0 i).1
 | 0=>⟨Good.nil,fun q e=>by simp[spr] at e⟩
 | i+1=>by
  obtain⟨g,h⟩:=Jce ns at' span p0 hs i;have m1:=Int.emod_nonneg (cell ns (at'+1+2*i)) (b:=span) (by omega);have m2:=Int.emod_nonneg (cell ns (at'+2+2*i)) (b:=span) (by omega);refine⟨g.snoc (by show 1<=1+_;omega) (by rw[Vl];exact h),fun q e=>?_⟩;have e':((spr ns at' span p0 i).2++[((spr ns at' span p0 i).1,1+cell ns (at'+1+2*i) % span)])[i]?=some q:=e;rw[List.getElem?_append_right (by rw[Vl];exact Nat.le_refl _),Vl] at e'
  simp at e';subst e';show _+(1+_)<_+(1+_)+1+_;omega
noncomputable def Jfh(l:List Int)(k:Int):Int:=l.getD k.toNat 0
theorem JgL{l:List Int}{k:Int}{P:Int->Prop}(h0:0<=k)(h1:k<(l.length:Int))(h:∀x∈l,P x):P (Jfh l k):=by
 unfold Jfh;have:k.toNat<l.length:=by omega
 rw[List.getD_eq_getElem?_getD,List.getElem?_eq_getElem this];exact h _ (List.getElem_mem this)
noncomputable def Jdk(ps:List Pr):Nat->V
 | 0=>.non
 | i+1=>match ps[i]? with
  | some p=>.int (p.1+p.2)
  | none=>.non
theorem U3{ps:List Pr}{i:Nat}{p:Pr}(e:ps[i]?=some p):Jdk ps (i+1)=.int (p.1+p.2):=by show(match ps[i]? with|some p=>V.int (p.1+p.2)|none=>V.non)=_;rw[e]
theorem JfO{K:Frag}{v:V}{ps:List Pr}{H:Hp}{Q:VK}{E:XK}(h:JhM K H v ps)(g:Good ps)(q:∀H',Same H H'->Q .non H'):WO K [v] H Q E:=⟨v,ps,rfl,h,g,q⟩
theorem Jb4{K:Frag}{a:Addr}{xs:List V}{H:Hp}{Q:VK}(h:SqL K H a xs\/SqT K H a xs)(q:Q (.int xs.length) H):Jc2 K [.ref a] H Q:=by
 rcases h with h|h
 ·exact Ji7 h q
 ·exact Ji9 h q
theorem SameEx.sqT'{K:Frag}{H H':Hp}{x a C dx:Addr}{fs:List (Str×V)}{xs:List V}(e:SameEx x H H')(hx:H x=some (.ins C dx fs))(h:SqT K H a xs):SqT K H' a xs:=by
 rcases h with (h|⟨o,h⟩)|h
 ·exact .inl (.inl (e _ _ (Jaf h hx (by intro z;cases z)) h))
 ·exact .inl (.inr ⟨o,e _ _ (Jaf h hx (by intro z;cases z)) h⟩)
 ·exact .inr h
theorem Prs.monoIns{K:Frag}{H H':Hp}{x C dx:Addr}{fs:List (Str×V)}{vs:List V}{ps:List Pr}(e:SameEx x H H')(hx:H x=some (.ins C dx fs))(r:Prs K H vs ps):Prs K H' vs ps:=by refine⟨r.1,fun i v d h1 h2=>?_⟩;obtain⟨p,a,e1,e2,e3⟩:=r.at h1;rw[List.getElem?_map,e1] at h2;cases h2;subst e2;exact JgN (SameEx.sqT' e hx e3)
noncomputable def Jei(K:Frag):Sp:=fun vs H Q _=>∃(a:Addr) (ns:List Int),vs=[.ref a]/\SqL K H a (ns.map V.int)/\ns.length<=63/\∀H',Q (.bl true) H'
end LR
namespace LR
open PySem L2
end LR

namespace L2
open PySem PySem.Spec PyProof.Rows

section
variable{X:Cx}{pins:List (Addr×Obj)}{σ:St}{H:Hp}{s:Shared}
theorem Z9{A':Around}{E:Value->Shared->Prop}{Q:Value->Shared->Prop}{a:Addr}{vs:List V}(hh:A'.handled=none)(I:Inv X pins σ H s)(hq:SqL X.K H a vs\/SqT X.K H a vs)
 (h:∀(its:List Value) (J:Addr) (fp wr:List Addr) (Sx:Nat->Heap->Prop) (s2:Shared),Vals vs its->Walks X.prog X.w A' J fp wr its.toArray.size (fun i v=>its.toArray[i]?=some v) Sx->Sx 0 s2.heap->(∀b∈fp,b<s2.heap.objs.size) ->
  (∀h' tk,(∀b o,b∉wr->s2.heap.get? b=some o->h'.get? b=some o)->Inv X pins σ H { s2 with heap:=h',toks:=tk })->Q (.ref J) s2):wpAny (model X.prog X.w) A' (pyIter (.ref a)) Q E s:=by
 have nin:∀b o,s.heap.get? b=some o->b∉[s.heap.objs.size]:=fun b o e z=>by
  have:b=s.heap.objs.size:=by simpa using z
  exact absurd (Heap.lt_size e) (by rw[this];exact Nat.lt_irrefl _)
 rcases hq with hq|hq
 ·obtain⟨its,rv,p,hz⟩:=I.list hq;have hlt:a<s.heap.objs.size:=by obtain⟨_,e,_⟩:=p.isList;exact Heap.lt_size e
  refine wpAny_pyIter_list p.isList ?_;refine h its _ _ _ _ _ rv (Walks.list hh _ a (Nat.ne_of_lt hlt) its.toArray) ⟨⟨_,Heap.get?_push_size _ rfl,rfl,rfl⟩,p.isList.push _⟩ (fun b hb=>?_) fun h' tk hk=>I.kept fun b o e=>hk b o (nin b o e) (Heap.get?_push_of_some _ e)
  show b<(s.heap.push _).objs.size;rw[Heap.size_push];rcases List.mem_cons.mp hb with z|z
  ·rw[z];exact Nat.lt_succ_self _
  ·have:b=a:=by simpa using z
   rw[this];exact Nat.lt_succ_of_lt hlt
 ·obtain⟨its,rv,p,hz⟩:=I.tuple hq;have ht:s.heap.IsTuple a its.toArray:=p;have hlt:a<s.heap.objs.size:=by obtain⟨_,e,_⟩:=ht;exact Heap.lt_size e
  refine wpAny_pyIter_tuple ht ?_;refine h its _ _ _ _ _ rv (Walks.tuple hh _ a (Nat.ne_of_lt hlt) its.toArray) ⟨⟨_,Heap.get?_push_size _ rfl,rfl,rfl⟩,?_⟩ (fun b hb=>?_) fun h' tk hk=>I.kept fun b o e=>hk b o (nin b o e) (Heap.get?_push_of_some _ e)
  ·obtain⟨o,e,c⟩:=ht;exact⟨o,Heap.get?_push_of_some _ e,c⟩
  ·show b<(s.heap.push _).objs.size;rw[Heap.size_push];rcases List.mem_cons.mp hb with z|z
   ·rw[z];exact Nat.lt_succ_self _
   ·have:b=a:=by simpa using z
    rw[this];exact Nat.lt_succ_of_lt hlt
end

theorem Wy(l:List Int):∀j,j<=l.length->preSum (fun i=>l.getD i 0) j=(l.take j).sum
 | 0,_=>by simp[preSum]
 | j+1,h=>by
  rw[preSum,Wy l j (by omega)];have hj:j<l.length:=by omega
  rw[List.take_add_one,List.sum_append];simp[hj]
section
variable{X:Cx}
noncomputable def JlL(K:Frag):List V->Hp->VK->Prop:=fun xs H Q=>∃(a:Addr) (ns:List Int),xs=[.ref a]/\(SqL K H a (ns.map V.int)\/SqT K H a (ns.map V.int))/\Q (.int ns.sum) H
theorem JeF(hc:X.calm=true):CallR X (.builtin "sum") (JlL X.K):=by
 intro pins s σ H xs us Q I r h;obtain⟨a,ns,rfl,hq,q⟩:=h;obtain⟨u,rfl,rx⟩:=Vd r;cases rx;refine call_sum_walkG (Z9 (A':=X.A.in1) (I.ok.hd hc) I hq fun its J fp wr Sx s2 rv W st hfp hI=>?_);have hi:=Vx rv;have hl:=rv.length;rw[List.length_map] at hl;refine⟨J,fp,wr,_,_,Sx,fun i=>ns.getD i 0,rfl,W,st,hfp,fun i v e=>?_,fun h' tk t' hk=>?_⟩
 ·have e':its[i]?=some v:=by simpa using e
  obtain⟨x,e1,e2⟩:=rv.get' e';rw[List.getElem?_map] at e1
  cases hn:ns[i]? with
  | none=>rw[hn] at e1;cases e1
  | some n=>rw[hn] at e1;cases e1;obtain⟨t,rfl⟩:=e2;exact⟨t,by simp[List.getD_eq_getElem?_getD,hn]⟩
 ·refine⟨.int ns.sum,H,hI h' tk hk,⟨t',?_⟩,q⟩;rw[show its.toArray.size=ns.length by simp[hl],Wy ns _ (Nat.le_refl _),List.take_length]
noncomputable def JlH(K:Frag):List V->Hp->VK->Prop:=fun xs H Q=>∃(a:Addr) (bs:List Bool),xs=[.ref a]/\(SqL K H a (bs.map V.bl)\/SqT K H a (bs.map V.bl))/\Q (.bl (bs.any id)) H
theorem Jfl(bs:List Bool):(List.range bs.length).any (fun i=>bs.getD i false)=bs.any id:=by
 rw[Bool.eq_iff_iff];simp only[List.any_eq_true,List.mem_range,id];constructor
 ·rintro⟨i,hi,e⟩;simp[List.getD_eq_getElem?_getD,hi] at e;exact⟨bs[i],List.getElem_mem hi,e⟩
 ·rintro⟨b,hb,rfl⟩;obtain⟨i,hi,e⟩:=List.mem_iff_getElem.mp hb;exact⟨i,hi,by simp[List.getD_eq_getElem?_getD,hi,e]⟩
theorem Jch{A:Around}{bs:List Bool}{its:List Value}(rv:Vals (bs.map V.bl) its):TruthOf X.prog X.w A (fun i v=>its.toArray[i]?=some v) (fun i=>bs.getD i false):=by
 intro i v s Q E e q;have e':its[i]?=some v:=by simpa using e
 obtain⟨x,e1,e2⟩:=rv.get' e';rw[List.getElem?_map] at e1
 cases hn:bs[i]? with
 | none=>rw[hn] at e1;cases e1
 | some n =>
  rw[hn] at e1;cases e1;cases e2;have:bs.getD i false=n:=by simp[List.getD_eq_getElem?_getD,hn]
  have q':Q (bs.getD i false) s:=q;rw[this] at q';exact wpAny_truthy_bool q'
theorem Jey(hc:X.calm=true):CallR X (.builtin "any") (JlH X.K):=by intro pins s σ H xs us Q I r h;obtain⟨a,bs,rfl,hq,q⟩:=h;obtain⟨u,rfl,rx⟩:=Vd r;cases rx;refine call_any_walk (Z9 (A':=X.A.in1) (I.ok.hd hc) I hq fun its J fp wr Sx s2 rv W st hfp hI=>?_);have hl:=rv.length;rw[List.length_map] at hl;refine⟨J,fp,wr,_,_,Sx,_,rfl,W,st,Jch rv,fun h' tk hk=>⟨.bl _,H,hI h' tk hk,rfl,?_⟩⟩;rw[show its.toArray.size=bs.length by simp[hl],Jfl];exact q
noncomputable def strI(i:Int):Str:=(toString i:String)
end
section
variable{X:Cx}{K:Frag}
theorem UI(hK:X.K=K)(hc:X.calm=true):CallR X (.builtin "sum") (JlL K):=hK▸JeF hc
theorem Jex(hK:X.K=K)(hc:X.calm=true):CallR X (.builtin "any") (JlH K):=hK▸Jey hc
end
section
variable{K:Frag}{H:Hp}{Q:VK}
end
end L2
namespace L2
open PySem PySem.Spec PyProof.Rows
noncomputable def AllP{α:Type}(P:α->Prop):List α->Prop
 | []=>True
 | x::xs=>P x/\AllP P xs
theorem AllP.mem{α:Type}{P:α->Prop}:∀{l:List α},AllP P l->∀x∈l,P x
 | [],_,x,hx=>nomatch hx
 | y::l,h,x,hx=>by
  rcases List.mem_cons.mp hx with z|z
  ·rw[z];exact h.1
  ·exact AllP.mem h.2 x z
theorem Vy{cl:List (Str×Addr)}{x:Str}(h:cl.any (fun p=>p.1 == x)=true):(cl.lookup x).isSome=true:=by
 induction cl with
 | nil=>simp at h
 | cons p cl ih =>
  obtain⟨n,a⟩:=p;rw[List.lookup_cons]
  by_cases e:x == n
  ·rw[e];rfl
  ·have e':(x == n)=false:=by simpa using e
   rw[e'];rw[List.any_cons] at h;rcases Bool.or_eq_true_iff.mp h with z|z
   ·have:n=x:=eq_of_beq z;rw[this] at e';simp at e'
   ·exact ih z
theorem JfD{X:Cx}{sc:Scope}{cl:List (Str×Addr)}{own:List Str}{fr:List (Str×Nat)}(h1:sc.kind=.function)(h2:closureFor sc X.env=pure cl)
 (h3:(sc.names.all fun y=>y.2 != .cell && (y.2 != .local || sc.names.lookup y.1 == some .local))=true) (h4:AllP (fun p=>X.env.cells.lookup p.1=some p.2) cl)
 (h5:((relabel sc X.env).names.all fun y=>(y.2 != .cell && y.2 != .free) || cl.any (fun p=>p.1 == y.1))=true)
 (h6:AllP (fun p=>X.N[p.2]?=some p.1/\X.env.scope.names.lookup p.1=some .cell/\(relabel sc X.env).names.lookup p.1=some .cell) fr) :
 Blk X sc cl (own++fr.map (·.1)) (own.map (fun _=>none)++fr.map (fun p=>some p.2)):=by
 simp only[List.all_eq_true,Bool.and_eq_true] at h3;simp only[List.all_eq_true] at h5;refine⟨h2,h1,fun y hy=>?_,fun y hy hl=>?_,AllP.mem h4,fun y hy hk=>?_,by simp,fun p hp k e=>?_⟩
 ·have:=(h3 y hy).1
  simpa using this
 ·have:=(h3 y hy).2;rw[hl] at this
  simpa using this
 ·have:=h5 y hy;rcases Bool.or_eq_true_iff.mp this with z|z
  ·rcases hk with q|q
   ·rw[q] at z;simp at z
   ·rw[q] at z;simp at z
  ·exact Vy z
 ·rw[List.zip_append (by simp)] at hp;rcases List.mem_append.mp hp with z|z
  ·have:=(List.of_mem_zip z).1;obtain⟨_,_,q⟩:=List.mem_map.mp this;rw[<- q] at e;cases e
  ·rw[List.zip_map_left] at z;obtain⟨q,hq,eq⟩:=List.mem_map.mp z
   have hz:q.1∈fr/\q.1.1=q.2:=by
    clear h6 e eq z hp;rw[List.zip_map_right] at hq;obtain⟨q',hq',eq'⟩:=List.mem_map.mp hq
    have:q'.1=q'.2:=by
     clear eq' hq
     induction fr with
     | nil=>cases hq'
     | cons x fr ih =>
      rcases List.mem_cons.mp hq' with z|z
      ·rw[z]
      ·exact ih z
    rw[<- eq'];exact⟨(List.of_mem_zip hq').1,by show q'.1.1=q'.2.1;rw[this]⟩
   obtain⟨a1,a2,a3⟩:=AllP.mem h6 q.1 hz.1;rw[<- eq] at e ⊢;have ek:q.1.2=k:=by simpa using e
   subst ek;rw[hz.2] at a1 a2 a3;exact⟨a1,.inl a2,.inl a3⟩
end L2

namespace LR
open PySem L2

noncomputable def Small(i:Int):Prop:=i.natAbs.log2<1920
theorem Small.of{i:Int}(h:i.natAbs<2 ^ 1920):Small i:=by
 unfold Small
 by_cases h0:i.natAbs=0
 ·rw[h0];decide
 ·exact(Nat.log2_lt h0).mpr h
theorem Small.le{i:Int}(h1:-(10 ^ 100)<=i)(h2:i<=10 ^ 100):Small i:=Small.of (by
 have h3:i.natAbs<=10 ^ 100:=by omega
 exact Nat.lt_of_le_of_lt h3 (by decide +kernel))
end LR

namespace LE
open PySem L2 LR

inductive D where
 | non|bl (b:Bool)|int (i:Int)|str (x:Str)|tup (l:List D)|lst (l:List D)|fz (l:List D)|row (l:List D)|dct (ks:List Int) (l:List D)|dfz (ks:List Int) (l:List D)|exc (n:Str)
noncomputable def dkO(ks:List Int)(xs:List V):HO:=.dK ((ks.map Sum.inl).zip xs)
noncomputable def dtK(p:Int×Int):List Key:=[Sum.inl p.1,Sum.inl p.2]
noncomputable def dtO(ps:List (Int×Int))(xs:List V):HO:=.dT ((ps.map dtK).zip xs)
noncomputable def XO(a:Addr)(c:Value):HO:=.ext fun h=>∃o,h.get? a=some o/\o.cls=c/\notCls o=true/\o.dict=none

section
variable(K:Frag)(C:Addr)
inductive RD (H:Hp):V->D->Prop
 | non:RD H .non .non
 | bl (b:Bool):RD H (.bl b) (.bl b)
 | int (i:Int):RD H (.int i) (.int i)
 | str (x:Str):RD H (.str x) (.str x)
 | tup {a:Addr} {xs:List V} {ds:List D}:SqT K H a xs->xs.length=ds.length->(∀(i:Nat) (x:V) (d:D),xs[i]?=some x->ds[i]?=some d->RD H x d)->RD H (.ref a) (.tup ds)
 | lst {a:Addr} {xs:List V} {ds:List D}:H a=some (.lst xs)->xs.length=ds.length->(∀(i:Nat) (x:V) (d:D),xs[i]?=some x->ds[i]?=some d->RD H x d)->RD H (.ref a) (.lst ds)
 | fz {a:Addr} {xs:List V} {ds:List D}:SqL K H a xs->xs.length=ds.length->(∀(i:Nat) (x:V) (d:D),xs[i]?=some x->ds[i]?=some d->RD H x d)->RD H (.ref a) (.fz ds)
 | row {x dx t:Addr} {ts:List V} {ds:List D}:H x=some (.ins C dx (Jc4 t))->SqT K H t ts->ts.length=ds.length->(∀(i:Nat) (x:V) (d:D),ts[i]?=some x->ds[i]?=some d->RD H x d)->RD H (.ref x) (.row ds)
 | dct {a:Addr} {ks:List Int} {xs:List V} {ds:List D}:H a=some (dkO ks xs)->ks.length=ds.length->xs.length=ds.length->(∀(i:Nat) (x:V) (d:D),xs[i]?=some x->ds[i]?=some d->RD H x d)->RD H (.ref a) (.dct ks ds)
 | dfz {a:Addr} {ks:List Int} {xs:List V} {ds:List D} {o:Obj}:H a=some (.frz o (dkO ks xs))->ks.length=ds.length->xs.length=ds.length->(∀(i:Nat) (x:V) (d:D),xs[i]?=some x->ds[i]?=some d->RD H x d)->RD H (.ref a) (.dfz ks ds)
 | exc {a c:Addr} {n:Str}:H a=some (XO a (.ref c))->nsIn K mainGlobals n=some (some (.ref c))->RD H (.ref a) (.exc n)
noncomputable def RDL(H:Hp)(xs:List V)(ds:List D):Prop:=xs.length=ds.length/\∀(i:Nat) (x:V) (d:D),xs[i]?=some x->ds[i]?=some d->RD K C H x d
end

section
variable{K:Frag}{C:Addr}{H H':Hp}
theorem RD.mono{v:V}{d:D}(e:Same H H')(r:RD K C H v d):RD K C H' v d:=by
 induction r with
 | non=>exact .non
 | bl b=>exact .bl b
 | int i=>exact .int i
 | str x=>exact .str x
 | tup h l _ ih=>exact .tup (e.seqT h) l ih
 | lst h l _ ih=>exact .lst (e _ _ h) l ih
 | fz h l _ ih=>exact .fz (e.seq h) l ih
 | row h1 h2 l _ ih=>exact .row (e _ _ h1) (e.seqT h2) l ih
 | dct h1 h2 l _ ih=>exact .dct (e _ _ h1) h2 l ih
 | dfz h1 h2 l _ ih=>exact .dfz (e _ _ h1) h2 l ih
 | exc h1 h2=>exact .exc (e _ _ h1) h2
theorem RDL.mono{xs:List V}{ds:List D}(e:Same H H')(r:RDL K C H xs ds):RDL K C H' xs ds:=⟨r.1,fun i x d h1 h2=>(r.2 i x d h1 h2).mono e⟩
theorem RDL.nil:RDL K C H [] []:=⟨rfl,fun i x d e=>by simp at e⟩
theorem RDL.cons{x:V}{d:D}{xs:List V}{ds:List D}(h:RD K C H x d)(r:RDL K C H xs ds):RDL K C H (x::xs) (d::ds):=by
 refine⟨by simp[r.1],fun i y e h1 h2=>?_⟩
 cases i with
 | zero=>simp at h1 h2;subst h1 h2;exact h
 | succ i=>exact r.2 i y e (by simpa using h1) (by simpa using h2)
theorem RDL.append{xs ys:List V}{ds es:List D}(r:RDL K C H xs ds)(q:RDL K C H ys es):RDL K C H (xs++ys) (ds++es):=by
 refine⟨by simp[r.1,q.1],fun i x d h1 h2=>?_⟩
 by_cases hi:i<xs.length
 ·rw[List.getElem?_append_left hi] at h1;rw[List.getElem?_append_left (by rw[<- r.1];exact hi)] at h2;exact r.2 i x d h1 h2
 ·rw[List.getElem?_append_right (by omega)] at h1;rw[List.getElem?_append_right (by rw[<- r.1];omega)] at h2;rw[<- r.1] at h2;exact q.2 _ x d h1 h2
theorem RDL.snoc{xs:List V}{ds:List D}{x:V}{d:D}(r:RDL K C H xs ds)(h:RD K C H x d):RDL K C H (xs++[x]) (ds++[d]):=r.append (.cons h .nil)
theorem RDL.get{xs:List V}{ds:List D}{i:Nat}{d:D}(r:RDL K C H xs ds)(e:ds[i]?=some d):∃x,xs[i]?=some x/\RD K C H x d:=by
 have hi:=(List.getElem?_eq_some_iff.mp e).1
 have hx:i<xs.length:=by rw[r.1];exact hi
 exact⟨xs[i],by simp[hx],r.2 i _ d (by simp[hx]) e⟩
theorem RDL.get'{xs:List V}{ds:List D}{i:Nat}{x:V}(r:RDL K C H xs ds)(e:xs[i]?=some x):∃d,ds[i]?=some d/\RD K C H x d:=by
 have hi:=(List.getElem?_eq_some_iff.mp e).1
 have hx:i<ds.length:=by rw[<- r.1];exact hi
 exact⟨ds[i],by simp[hx],r.2 i x _ e (by simp[hx])⟩
theorem RDL.head{x:V}{xs:List V}{d:D}{ds:List D}(r:RDL K C H (x::xs) (d::ds)):RD K C H x d:=r.2 0 x d rfl rfl
theorem RDL.tail{x:V}{xs:List V}{d:D}{ds:List D}(r:RDL K C H (x::xs) (d::ds)):RDL K C H xs ds:=⟨by have:=r.1;simpa using this,fun i y e h1 h2=>r.2 (i+1) y e (by simpa using h1) (by simpa using h2)⟩
theorem RDL.take{xs:List V}{ds:List D}(n:Nat)(r:RDL K C H xs ds):RDL K C H (xs.take n) (ds.take n):=by
 refine⟨by simp[r.1],fun i x d h1 h2=>?_⟩;rw[List.getElem?_take] at h1 h2;split at h1
 ·rw[if_pos (by assumption)] at h2;exact r.2 i x d h1 h2
 ·cases h1
theorem RDL.drop{xs:List V}{ds:List D}(n:Nat)(r:RDL K C H xs ds):RDL K C H (xs.drop n) (ds.drop n):=by refine⟨by simp[r.1],fun i x d h1 h2=>?_⟩;rw[List.getElem?_drop] at h1 h2;exact r.2 _ x d h1 h2
theorem RDL.set{xs:List V}{ds:List D}{v:V}{e:D}(n:Nat)(r:RDL K C H xs ds)(h:RD K C H v e):RDL K C H (xs.set n v) (ds.set n e):=by
 refine⟨by simp[r.1],fun i x d h1 h2=>?_⟩;rw[List.getElem?_set] at h1 h2;split at h1
 ·rw[if_pos (by assumption)] at h2;split at h1
  ·rw[if_pos (by rw[<- r.1];assumption)] at h2;cases h1;cases h2;exact h
  ·cases h1
 ·rw[if_neg (by assumption)] at h2;exact r.2 i x d h1 h2
theorem RDL.ints:∀{xs:List V} {ns:List Int},RDL K C H xs (ns.map D.int)->xs=ns.map V.int
 | [],[],_=>rfl
 | [],_::_,r=>by have:=r.1;simp at this
 | _::_,[],r=>by have:=r.1;simp at this
 | x::xs,n::ns,r=>by have h:=r.head;cases h;rw[RDL.ints r.tail];rfl
theorem RDL.ofInts:∀(ns:List Int),RDL K C H (ns.map V.int) (ns.map D.int)
 | []=>.nil
 | n::ns=>.cons (.int n) (RDL.ofInts ns)
theorem RDL.bls:∀{xs:List V} {ns:List Bool},RDL K C H xs (ns.map D.bl)->xs=ns.map V.bl
 | [],[],_=>rfl
 | [],_::_,r=>by have:=r.1;simp at this
 | _::_,[],r=>by have:=r.1;simp at this
 | x::xs,n::ns,r=>by have h:=r.head;cases h;rw[RDL.bls r.tail];rfl
theorem RDL.strs:∀{xs:List V} {ns:List Str},RDL K C H xs (ns.map D.str)->xs=ns.map V.str
 | [],[],_=>rfl
 | [],_::_,r=>by have:=r.1;simp at this
 | _::_,[],r=>by have:=r.1;simp at this
 | x::xs,n::ns,r=>by have h:=r.head;cases h;rw[RDL.strs r.tail];rfl
theorem RD.mkT{a:Addr}{xs:List V}{ds:List D}(h:SqT K H a xs)(r:RDL K C H xs ds):RD K C H (.ref a) (.tup ds):=.tup h r.1 r.2
theorem RD.mkL{a:Addr}{xs:List V}{ds:List D}(h:H a=some (.lst xs))(r:RDL K C H xs ds):RD K C H (.ref a) (.lst ds):=.lst h r.1 r.2
theorem RD.mkF{a:Addr}{xs:List V}{ds:List D}(h:SqL K H a xs)(r:RDL K C H xs ds):RD K C H (.ref a) (.fz ds):=.fz h r.1 r.2
theorem RD.tupI{v:V}{ds:List D}(r:RD K C H v (.tup ds)):∃a xs,v=.ref a/\SqT K H a xs/\RDL K C H xs ds:=by
 cases r with
 | tup h l q=>exact⟨_,_,rfl,h,l,q⟩
theorem RD.lstI{v:V}{ds:List D}(r:RD K C H v (.lst ds)):∃a xs,v=.ref a/\H a=some (.lst xs)/\RDL K C H xs ds:=by
 cases r with
 | lst h l q=>exact⟨_,_,rfl,h,l,q⟩
theorem RD.fzI{v:V}{ds:List D}(r:RD K C H v (.fz ds)):∃a xs,v=.ref a/\SqL K H a xs/\RDL K C H xs ds:=by
 cases r with
 | fz h l q=>exact⟨_,_,rfl,h,l,q⟩
theorem RD.rowI{v:V}{ds:List D}(r:RD K C H v (.row ds)):∃x dx t ts,v=.ref x/\H x=some (.ins C dx (Jc4 t))/\SqT K H t ts/\RDL K C H ts ds:=by
 cases r with
 | row h1 h2 l q=>exact⟨_,_,_,_,rfl,h1,h2,l,q⟩
theorem RD.mkD{a:Addr}{ks:List Int}{xs:List V}{ds:List D}(h:H a=some (dkO ks xs))(hk:ks.length=ds.length)(r:RDL K C H xs ds):RD K C H (.ref a) (.dct ks ds):=.dct h hk r.1 r.2
theorem RD.dctI{v:V}{ks:List Int}{ds:List D}(r:RD K C H v (.dct ks ds)):∃a xs,v=.ref a/\H a=some (dkO ks xs)/\ks.length=ds.length/\RDL K C H xs ds:=by
 cases r with
 | dct h hk l q=>exact⟨_,_,rfl,h,hk,l,q⟩
theorem RD.mkZ{a:Addr}{ks:List Int}{xs:List V}{ds:List D}{o:Obj}(h:H a=some (.frz o (dkO ks xs)))(hk:ks.length=ds.length)(r:RDL K C H xs ds):RD K C H (.ref a) (.dfz ks ds):=.dfz h hk r.1 r.2
theorem RD.dfzI{v:V}{ks:List Int}{ds:List D}(r:RD K C H v (.dfz ks ds)):∃a xs o,v=.ref a/\H a=some (.frz o (dkO ks xs))/\ks.length=ds.length/\RDL K C H xs ds:=by
 cases r with
 | dfz h hk l q=>exact⟨_,_,_,rfl,h,hk,l,q⟩
theorem RD.excI{v:V}{n:Str}(r:RD K C H v (.exc n)):∃a c,v=.ref a/\H a=some (XO a (.ref c))/\nsIn K mainGlobals n=some (some (.ref c)):=by
 cases r with
 | exc h1 h2=>exact⟨_,_,rfl,h1,h2⟩
theorem RD.intI{v:V}{i:Int}(r:RD K C H v (.int i)):v=.int i:=by cases r;rfl
theorem RD.strI{v:V}{i:Str}(r:RD K C H v (.str i)):v=.str i:=by cases r;rfl
theorem RD.blI{v:V}{i:Bool}(r:RD K C H v (.bl i)):v=.bl i:=by cases r;rfl
theorem RD.nonI{v:V}(r:RD K C H v .non):v=.non:=by cases r;rfl
end

mutual
noncomputable def D.py:D->PyData
 | .non=>.none
 | .bl b=>.bool b
 | .int i=>.int i
 | .str x=>.str x
 | .tup l=>.tuple (D.pyL l)
 | .lst l=>.list (D.pyL l)
 | .fz l=>.list (D.pyL l)
 | .row _=>.dict []
 | .dct _ _=>.dict []
 | .dfz _ _=>.dict []
 | .exc _=>.dict []
noncomputable def D.pyL:List D->List PyData
 | []=>[]
 | d::ds=>d.py::D.pyL ds
end
theorem Jd8:∀ds:List D,D.pyL ds=ds.map D.py
 | []=>rfl
 | d::ds=>by rw[D.pyL,Jd8 ds];rfl
theorem Zd:∀{ds:List PyData},PyData.canLayAll0 ds=true->∀d∈ds,d.canLay0=true
 | [],_,d,hd=>nomatch hd
 | x::ds,h,d,hd=>by
  have h':(PyData.canLay0 x && PyData.canLayAll0 ds)=true:=h;rw[Bool.and_eq_true] at h';rcases List.mem_cons.mp hd with z|z
  ·rw[z];exact h'.1
  ·exact Zd h'.2 d z
theorem RD.rep{K:Frag}{C:Addr}{H:Hp}{v:V}{d:D}(r:RD K C H v d):d.py.canLay0=true->Rep K H v d.py:=by
 have all:∀{xs:List V} {ds:List D},xs.length=ds.length->(∀(i:Nat) (x:V) (d:D),xs[i]?=some x->ds[i]?=some d->d.py.canLay0=true->Rep K H x d.py)->PyData.canLayAll0 (D.pyL ds)=true->RepL K H xs (D.pyL ds):=by
  intro xs ds l ih hc;rw[Jd8] at hc ⊢;refine⟨by simpa using l,fun i x d h1 h2=>?_⟩;rw[List.getElem?_map] at h2
  cases e:ds[i]? with
  | none=>rw[e] at h2;cases h2
  | some q=>rw[e] at h2;cases h2;exact ih i x q h1 e (Zd hc _ (List.mem_map.mpr ⟨q,List.mem_of_getElem? e,rfl⟩))
 induction r with
 | non=>intro _;exact .non
 | bl b=>intro _;exact .bl b
 | int i=>intro _;exact .int i
 | str x=>intro _;exact .str x
 | tup h l _ ih=>intro hc;exact .tupL h (all l ih hc)
 | lst h l _ ih=>intro hc;exact .lstL (.of h) (all l ih hc)
 | fz h l _ ih=>intro hc;exact .lstL h (all l ih hc)
 | row h1 h2 l _ ih=>intro hc;cases hc
 | dct h1 h2 l _ ih=>intro hc;cases hc
 | dfz h1 h2 l _ ih=>intro hc;cases hc
 | exc h1 h2=>intro hc;cases hc

inductive Sl where
 | no|sh (d:D)|bo (ds:List D)|own (ds:List D)|bd (ks:List Int) (ds:List D)|od (ks:List Int) (ds:List D)|bt (ps:List (Int×Int)) (ds:List D)|ot (ps:List (Int×Int)) (ds:List D)
noncomputable def JU:Sl->Bool
 | .own _=>true
 | .od _ _=>true
 | .ot _ _=>true
 | _=>false
noncomputable def JkR:Sl->Bool
 | .bo _=>true
 | .bd _ _=>true
 | .bt _ _=>true
 | _=>false

section
variable(K:Frag)(C:Addr)
noncomputable def RR(Hs H0 H:Hp)(v:V):Sl->Prop
 | .no=>False
 | .sh d=>RD K C H0 v d
 | .bo ds=>∃l xs,v=.ref l/\H l=some (.lst xs)/\RDL K C H0 xs ds
 | .own ds=>∃l xs,v=.ref l/\H l=some (.lst xs)/\H0 l=none/\Hs l=none/\RDL K C H0 xs ds
 | .bd ks ds=>∃l xs,v=.ref l/\H l=some (dkO ks xs)/\ks.length=ds.length/\RDL K C H0 xs ds
 | .bt ks ds=>∃l xs,v=.ref l/\H l=some (dtO ks xs)/\ks.length=ds.length/\RDL K C H0 xs ds
 | .od ks ds=>∃l xs,v=.ref l/\H l=some (dkO ks xs)/\H0 l=none/\Hs l=none/\ks.length=ds.length/\RDL K C H0 xs ds
 | .ot ks ds=>∃l xs,v=.ref l/\H l=some (dtO ks xs)/\H0 l=none/\Hs l=none/\ks.length=ds.length/\RDL K C H0 xs ds
noncomputable def RSl(B H0 H:Hp)(v:V):Sl->Prop
 | .no=>True
 | .sh d=>RD K C H0 v d
 | .bo ds=>∃l xs,v=.ref l/\B l=some (.lst xs)/\RDL K C H0 xs ds
 | .own ds=>∃l xs,v=.ref l/\H l=some (.lst xs)/\H0 l=none/\B l=none/\RDL K C H0 xs ds
 | .bd ks ds=>∃l xs,v=.ref l/\B l=some (dkO ks xs)/\ks.length=ds.length/\RDL K C H0 xs ds
 | .bt ks ds=>∃l xs,v=.ref l/\B l=some (dtO ks xs)/\ks.length=ds.length/\RDL K C H0 xs ds
 | .od ks ds=>∃l xs,v=.ref l/\H l=some (dkO ks xs)/\H0 l=none/\B l=none/\ks.length=ds.length/\RDL K C H0 xs ds
 | .ot ks ds=>∃l xs,v=.ref l/\H l=some (dtO ks xs)/\H0 l=none/\B l=none/\ks.length=ds.length/\RDL K C H0 xs ds
structure EnvR (B H0 H:Hp) (σ:St) (E:List Sl):Prop where
 b:Same B H
 h:Same H0 H
 len:σ.length=E.length
 at':∀(i:Nat) (s:Sl),E[i]?=some s->s=.no\/∃v,σ[i]?=some (some v)/\RSl K C B H0 H v s
 sep:∀(i j:Nat) (s t:Sl) (v:V),i≠j->E[i]?=some s->E[j]?=some t->JU s=true->JU t=true->σ[i]?=some (some v)->σ[j]?≠some (some v)
end
noncomputable def isT:HO->Bool
 | .tup _=>true
 | .frz _ (.tup _)=>true
 | _=>false
structure Step (Hs H0 H H0' H':Hp):Prop where
 h:Same H H'
 z:Same H0 H0'
 n:∀a o,H0' a=some o->H0 a=some o\/Hs a=none\/isT o=true
 i:Same H0' H'
structure SStep (B H0 H0' H':Hp):Prop where
 b:Same B H'
 z:Same H0 H0'
 n:∀a o,H0' a=some o->H0 a=some o\/B a=none\/isT o=true
 i:Same H0' H'

section
variable{K:Frag}{C:Addr}{B Hs H0 H H0' H' H0'' H'':Hp}{σ:St}{E:List Sl}{v:V}{s:Sl}
theorem Step.refl(i:Same H0 H):Step Hs H0 H H0 H:=⟨Same.refl _,Same.refl _,fun _ _ e=>.inl e,i⟩
theorem Step.comp{Hs':Hp}(s1:Step Hs H0 H H0' H')(s2:Step Hs' H0' H' H0'' H'')(w:∀a,Hs' a=none->Hs a=none):Step Hs H0 H H0'' H'' :=
 ⟨s1.h.trans s2.h,s1.z.trans s2.z,fun a o e=>(s2.n a o e).elim (fun q=>s1.n a o q) fun q=>.inr (q.imp (w a) id),s2.i⟩
theorem Step.trans(s1:Step H H0 H H0' H')(s2:Step H' H0' H' H0'' H''):Step H H0 H H0'' H'':=s1.comp s2 fun _ q=>Same.free s1.h q
theorem Step.ss(b:Same B H)(s:Step H H0 H H0' H'):SStep B H0 H0' H':=⟨b.trans s.h,s.z,fun a o e=>(s.n a o e).imp id fun q=>q.imp (fun q=>Same.free b q) id,s.i⟩
theorem SStep.refl(b:Same B H)(i:Same H0 H):SStep B H0 H0 H:=⟨b,Same.refl _,fun _ _ e=>.inl e,i⟩
theorem SStep.trans(s1:SStep B H0 H0' H')(s2:SStep B H0' H0'' H''):SStep B H0 H0'' H'':=⟨s2.b,s1.z.trans s2.z,fun a o e=>(s2.n a o e).elim (fun q=>s1.n a o q) .inr,s2.i⟩
theorem RR.step(r:RR K C Hs H0 H v s)(st:Step H H0 H H0' H'):RR K C Hs H0' H' v s:=by
 cases s with
 | no=>exact r
 | sh d=>exact RD.mono st.z r
 | bo ds=>obtain⟨l,xs,e,h,q⟩:=r;exact⟨l,xs,e,st.h _ _ h,q.mono st.z⟩
 | bd ks ds=>obtain⟨l,xs,e,h,hk,q⟩:=r;exact⟨l,xs,e,st.h _ _ h,hk,q.mono st.z⟩
 | bt ks ds=>obtain⟨l,xs,e,h,hk,q⟩:=r;exact⟨l,xs,e,st.h _ _ h,hk,q.mono st.z⟩
 | own ds =>
  obtain⟨l,xs,e,h,n,m,q⟩:=r;refine⟨l,xs,e,st.h _ _ h,?_,m,q.mono st.z⟩
  cases z:H0' l with
  | none=>rfl
  | some o =>
   rcases st.n l o z with y|y|y
   ·rw[n] at y;cases y
   ·rw[h] at y;cases y
   ·have:=st.i l o z;rw[st.h _ _ h] at this;cases this;cases y
 | od ks ds =>
  obtain⟨l,xs,e,h,n,m,hk,q⟩:=r;refine⟨l,xs,e,st.h _ _ h,?_,m,hk,q.mono st.z⟩
  cases z:H0' l with
  | none=>rfl
  | some o =>
   rcases st.n l o z with y|y|y
   ·rw[n] at y;cases y
   ·rw[h] at y;cases y
   ·have:=st.i l o z;rw[st.h _ _ h] at this;cases this;cases y
 | ot ks ds =>
  obtain⟨l,xs,e,h,n,m,hk,q⟩:=r;refine⟨l,xs,e,st.h _ _ h,?_,m,hk,q.mono st.z⟩
  cases z:H0' l with
  | none=>rfl
  | some o =>
   rcases st.n l o z with y|y|y
   ·rw[n] at y;cases y
   ·rw[h] at y;cases y
   ·have:=st.i l o z;rw[st.h _ _ h] at this;cases this;cases y
theorem RR.weak{Hs':Hp}(r:RR K C Hs' H0 H v s)(w:∀a,Hs' a=none->Hs a=none):RR K C Hs H0 H v s:=by
 cases s with
 | own ds=>obtain⟨l,xs,e,h,n,m,q⟩:=r;exact⟨l,xs,e,h,n,w _ m,q⟩
 | od ks ds=>obtain⟨l,xs,e,h,n,m,q⟩:=r;exact⟨l,xs,e,h,n,w _ m,q⟩
 | ot ks ds=>obtain⟨l,xs,e,h,n,m,q⟩:=r;exact⟨l,xs,e,h,n,w _ m,q⟩
 | _=>exact r
theorem RSl.owned(r:RSl K C B H0 H v s)(o:JU s=true):∃l,v=.ref l/\H l≠none/\H0 l=none/\B l=none:=by
 cases s with
 | own ds=>obtain⟨l,xs,e,h,n,m,q⟩:=r;exact⟨l,e,(by rw[h];intro z;cases z),n,m⟩
 | od ks ds=>obtain⟨l,xs,e,h,n,m,q⟩:=r;exact⟨l,e,(by rw[h];intro z;cases z),n,m⟩
 | ot ks ds=>obtain⟨l,xs,e,h,n,m,q⟩:=r;exact⟨l,e,(by rw[h];intro z;cases z),n,m⟩
 | _=>cases o
theorem RR.owned(r:RR K C Hs H0 H v s)(o:JU s=true):∃l,v=.ref l/\H l≠none/\H0 l=none/\Hs l=none:=by
 cases s with
 | own ds=>obtain⟨l,xs,e,h,n,m,q⟩:=r;exact⟨l,e,(by rw[h];intro z;cases z),n,m⟩
 | od ks ds=>obtain⟨l,xs,e,h,n,m,q⟩:=r;exact⟨l,e,(by rw[h];intro z;cases z),n,m⟩
 | ot ks ds=>obtain⟨l,xs,e,h,n,m,q⟩:=r;exact⟨l,e,(by rw[h];intro z;cases z),n,m⟩
 | _=>cases o
theorem EnvR.step(I:EnvR K C B H0 H σ E)(st:Step H H0 H H0' H'):EnvR K C B H0' H' σ E:=by
 refine⟨I.b.trans st.h,st.i,I.len,fun i s e=>?_,I.sep⟩;rcases I.at' i s e with z|⟨v,h1,h2⟩
 ·exact .inl z
 ·refine .inr ⟨v,h1,?_⟩
  cases s with
  | no=>trivial
  | sh d=>exact RD.mono st.z h2
  | bo ds=>obtain⟨l,xs,e,h,q⟩:=h2;exact⟨l,xs,e,h,q.mono st.z⟩
  | own ds=>exact RR.step (Hs:=B) (s:=.own ds) h2 st
  | bd ks ds=>obtain⟨l,xs,e,h,hk,q⟩:=h2;exact⟨l,xs,e,h,hk,q.mono st.z⟩
  | bt ks ds=>obtain⟨l,xs,e,h,hk,q⟩:=h2;exact⟨l,xs,e,h,hk,q.mono st.z⟩
  | od ks ds=>exact RR.step (Hs:=B) (s:=.od ks ds) h2 st
  | ot ks ds=>exact RR.step (Hs:=B) (s:=.ot ks ds) h2 st
theorem EnvR.sub{E':List Sl}(I:EnvR K C B H0 H σ E)(hl:E'.length=E.length)(h:∀(i:Nat) (s:Sl),E'[i]?=some s->s=.no\/E[i]?=some s):EnvR K C B H0 H σ E':=by
 refine⟨I.b,I.h,I.len.trans hl.symm,fun i s e=>?_,fun i j s t v hij e1 e2 o1 o2=>?_⟩
 ·rcases h i s e with z|z
  ·exact .inl z
  ·exact I.at' i s z
 ·rcases h i _ e1 with z|z
  ·subst z;cases o1
  ·rcases h j _ e2 with y|y
   ·subst y;cases o2
   ·exact I.sep i j s t v hij z y o1 o2
theorem EnvR.put(I:EnvR K C B H0 H σ E){i:Nat}(hi:i<E.length){Hs:Hp}(hB:∀a,Hs a=none->B a=none)(hf:∀(j:Nat) (t:Sl) (l:Addr),E[j]?=some t->JU t=true->σ[j]?=some (some (.ref l))->Hs l≠none)(r:RR K C Hs H0 H v s)(hb:JkR s=false):EnvR K C B H0 H (σ.set i (some v)) (E.set i s):=by
 refine⟨I.b,I.h,by simp[I.len],fun j t e=>?_,fun j k s1 s2 u hjk e1 e2 o1 o2 e3 e4=>?_⟩
 ·rw[List.getElem?_set] at e
  by_cases hj:i=j
  ·subst hj;rw[if_pos rfl,if_pos hi] at e;cases e;refine .inr ⟨v,by rw[List.getElem?_set];simp[I.len,hi],?_⟩
   cases s with
   | no=>trivial
   | sh d=>exact r
   | bo ds=>cases hb
   | own ds=>obtain⟨l,xs,e,h,n,m,q⟩:=r;exact⟨l,xs,e,h,n,hB _ m,q⟩
   | bd ks ds=>cases hb
   | bt ks ds=>cases hb
   | od ks ds=>obtain⟨l,xs,e,h,n,m,q⟩:=r;exact⟨l,xs,e,h,n,hB _ m,q⟩
   | ot ks ds=>obtain⟨l,xs,e,h,n,m,q⟩:=r;exact⟨l,xs,e,h,n,hB _ m,q⟩
  ·rw[if_neg hj] at e;rcases I.at' j t e with z|⟨u,h1,h2⟩
   ·exact .inl z
   ·exact .inr ⟨u,by rw[List.getElem?_set,if_neg hj];exact h1,h2⟩
 ·rw[List.getElem?_set] at e1 e2 e3 e4
  by_cases hj:i=j
  ·subst hj;rw[if_neg hjk] at e2 e4;rw[if_pos rfl,if_pos hi] at e1;rw[if_pos rfl,if_pos (by rw[I.len];exact hi)] at e3;cases e3;cases e1;obtain⟨l,e,_,_,m⟩:=r.owned o1;subst e;exact hf k _ l e2 o2 e4 m
  ·rw[if_neg hj] at e1 e3
   by_cases hk:i=k
   ·subst hk;rw[if_pos rfl,if_pos hi] at e2;rw[if_pos rfl,if_pos (by rw[I.len];exact hi)] at e4;cases e2;have e4':v=u:=Option.some.inj (Option.some.inj e4);subst e4';obtain⟨l,e,_,_,m⟩:=r.owned o2;subst e;exact hf j _ l e1 o1 e3 m
   ·rw[if_neg hk] at e2 e4;exact I.sep j k _ _ u hjk e1 e2 o1 o2 e3 e4
theorem EnvR.ownG(I:EnvR K C B H0 H σ E){j:Nat}{t:Sl}{l:Addr}(e1:E[j]?=some t)(ho:JU t=true)(e2:σ[j]?=some (some (.ref l))):H l≠none/\H0 l=none/\B l=none:=by
 rcases I.at' j _ e1 with z|⟨v,h1,h2⟩
 ·subst z;cases ho
 ·rw[e2] at h1;cases h1;obtain⟨l',e,h⟩:=h2.owned ho;cases e;exact h
theorem EnvR.put'{H1 H01:Hp}(I:EnvR K C B H0 H σ E)(st:Step H H0 H H01 H1){i:Nat}(hi:i<E.length)(r:RR K C H H01 H1 v s)(hb:JkR s=false):EnvR K C B H01 H1 (σ.set i (some v)) (E.set i s) :=
 (I.step st).put hi (fun a q=>Same.free I.b q) (fun j t l e1 o1 e2=>(I.ownG e1 o1 e2).1) r hb
noncomputable def JdS:Option HO->Option HO
 | some o=>if isT o=true then some o else none
 | none=>none
noncomputable def YD(Hs H0 H:Hp):Hp:=fun a=>match H0 a with
 | some o=>some o
 | none=>match Hs a with
  | none=>H a
  | some _=>JdS (H a)
theorem Zc{o:Option HO}{u:HO}(e:JdS o=some u):o=some u/\isT u=true:=by
 cases o with
 | none=>cases e
 | some w =>
  unfold JdS at e;dsimp only at e;split at e
  ·cases e;exact⟨rfl,by assumption⟩
  ·cases e
theorem JT(i:Same H0 H):Step Hs H0 H (YD Hs H0 H) H:=by
 refine⟨Same.refl _,fun a o e=>by unfold YD;rw[e],fun a o e=>?_,fun a o e=>?_⟩
 ·unfold YD at e
  cases h:H0 a with
  | some u=>rw[h] at e;exact .inl e
  | none =>
   rw[h] at e
   cases h2:Hs a with
   | none=>exact .inr (.inl rfl)
   | some u=>rw[h2] at e;exact .inr (.inr (Zc e).2)
 ·unfold YD at e
  cases h:H0 a with
  | some u=>rw[h] at e;cases e;exact i a _ h
  | none =>
   rw[h] at e
   cases h2:Hs a with
   | none=>rw[h2] at e;exact e
   | some u=>rw[h2] at e;exact(Zc e).1
theorem JaM{a:Addr}{o:HO}(i:Same H0 H)(n:Hs a=none)(h:H a=some o):YD Hs H0 H a=some o:=by
 unfold YD
 cases z:H0 a with
 | some u=>rw[i a u z] at h;exact h
 | none=>dsimp only;rw[n];exact h
theorem JdO{a:Addr}{o:HO}(i:Same H0 H)(n:isT o=true)(h:H a=some o):YD Hs H0 H a=some o:=by
 unfold YD
 cases z:H0 a with
 | some u=>rw[i a u z] at h;exact h
 | none =>
  dsimp only
  cases y:Hs a with
  | none=>exact h
  | some u=>dsimp only;rw[h];unfold JdS;dsimp only;rw[if_pos n]
theorem JdN{a:Addr}{xs:List V}(i:Same H0 H)(h:SqT K H a xs):SqT K (YD Hs H0 H) a xs:=by
 rcases h with (h|⟨o,h⟩)|h
 ·exact .inl (.inl (JdO i rfl h))
 ·exact .inl (.inr ⟨o,JdO i rfl h⟩)
 ·exact .inr h
noncomputable def Sl.frz:Sl->Option D
 | .sh d=>some d
 | .own ds=>some (.lst ds)
 | .od ks ds=>some (.dct ks ds)
 | _=>none
theorem RR.frz{d:D}(i:Same H0 H)(r:RR K C Hs H0 H v s)(e:s.frz=some d):RD K C (YD Hs H0 H) v d:=by
 have st:Step Hs H0 H (YD Hs H0 H) H:=JT i
 cases s with
 | no=>cases e
 | sh d'=>cases e;exact RD.mono st.z r
 | bo ds=>cases e
 | own ds=>cases e;obtain⟨l,xs,e,h,n,m,q⟩:=r;subst e;exact .mkL (JaM i m h) (q.mono st.z)
 | bd ks ds=>cases e
 | bt ks ds=>cases e
 | od ks ds=>cases e;obtain⟨l,xs,e,h,n,m,hk,q⟩:=r;subst e;exact .mkD (JaM i m h) hk (q.mono st.z)
 | ot ks ds=>cases e
end
end LE

namespace LE
open PySem L2 LR

noncomputable abbrev En:=List Sl
noncomputable abbrev Ev:=En->Option Sl
section
variable(K:Frag)(C:Addr)
noncomputable def SE(te:TE)(ev:Ev):Prop:=∀(B H0 H:Hp) (σ:St) (E:En) (r:Sl) (Q:VK),EnvR K C B H0 H σ E->ev E=some r ->
 (∀v H0' H',Step H H0 H H0' H'->RR K C H H0' H' v r->Q v H')->te σ H Q
noncomputable def ST(t:TT)(ev:En->Option Bool):Prop:=∀(B H0 H:Hp) (σ:St) (E:En) (r:Bool) (Q:Bool->Hp->Prop),EnvR K C B H0 H σ E->ev E=some r ->
 (∀H0' H',Step H H0 H H0' H'->Q r H')->t σ H Q
inductive RRL (Hs H0 H:Hp):List V->List Sl->Prop
 | nil:RRL Hs H0 H [] []
 | cons {v:V} {s:Sl} {vs:List V} {ss:List Sl}:RR K C Hs H0 H v s->RRL Hs H0 H vs ss->RRL Hs H0 H (v::vs) (s::ss)
noncomputable def SA(t:TA)(ev:En->Option (List Sl)):Prop:=∀(B H0 H:Hp) (σ:St) (E:En) (r:List Sl) (Q:List V->Hp->Prop),EnvR K C B H0 H σ E->ev E=some r ->
 (∀vs H0' H',Step H H0 H H0' H'->RRL K C H H0' H' vs r->Q vs H')->t σ H Q
noncomputable def OpS(r:R2)(f:Sl->Sl->Option Sl):Prop:=∀(Hs H0 H:Hp) (x y:V) (a b c:Sl) (Q:VK),Same H0 H->Same Hs H->RR K C Hs H0 H x a->RR K C Hs H0 H y b->f a b=some c ->
 (∀v H0' H',Step Hs H0 H H0' H'->RR K C Hs H0' H' v c->Q v H')->r x y H Q
noncomputable def UnS(r:V->Hp->VK->Prop)(f:Sl->Option Sl):Prop:=∀(Hs H0 H:Hp) (x:V) (a c:Sl) (Q:VK),Same H0 H->Same Hs H->RR K C Hs H0 H x a->f a=some c ->
 (∀v H0' H',Step Hs H0 H H0' H'->RR K C Hs H0' H' v c->Q v H')->r x H Q
noncomputable def Vo(r:List V->Hp->VK->Prop)(f:List Sl->Option Sl):Prop:=∀(Hs H0 H:Hp) (xs:List V) (as:List Sl) (c:Sl) (Q:VK),Same H0 H->Same Hs H->RRL K C Hs H0 H xs as->f as=some c ->
 (∀v H0' H',Step Hs H0 H H0' H'->RR K C Hs H0' H' v c->Q v H')->r xs H Q
end

noncomputable def Jc(i:Nat):Ev:=fun E=>match E[i]? with
 | some (.sh d)=>some (.sh d)
 | some (.bo ds)=>some (.bo ds)
 | some (.own ds)=>some (.bo ds)
 | some (.bd ks ds)=>some (.bd ks ds)
 | some (.od ks ds)=>some (.bd ks ds)
 | some (.bt ks ds)=>some (.bt ks ds)
 | some (.ot ks ds)=>some (.bt ks ds)
 | _=>none
noncomputable def eC(d:D):Ev:=fun _=>some (.sh d)
noncomputable def e2(f:Sl->Sl->Option Sl)(a b:Ev):Ev:=fun E=>(a E).bind fun x=>(b E).bind fun y=>f x y
noncomputable def e1(f:Sl->Option Sl)(a:Ev):Ev:=fun E=>(a E).bind f
noncomputable def a0:En->Option (List Sl):=fun _=>some []
noncomputable def aC(a:Ev)(as:En->Option (List Sl)):En->Option (List Sl):=fun E=>(a E).bind fun x=>(as E).bind fun xs=>some (x::xs)
noncomputable def eF(f:List Sl->Option Sl)(as:En->Option (List Sl)):Ev:=fun E=>(as E).bind f
noncomputable def bool?:Sl->Option Bool
 | .sh (.bl b)=>some b
 | _=>none
noncomputable def WA(a b:Ev):Ev:=fun E=>((a E).bind bool?).bind fun k=>if k=true then b E else some (.sh (.bl false))
noncomputable def eIf(c:En->Option Bool)(a b:Ev):Ev:=fun E=>(c E).bind fun k=>if k=true then a E else b E
noncomputable def sh?:Sl->Option D
 | .sh d=>some d
 | _=>none
noncomputable def Jcz(f g:Sl->Sl->Option Sl)(a b c:Ev):Ev:=fun E=>((a E).bind sh?).bind fun x=>((b E).bind sh?).bind fun y=>((f (.sh x) (.sh y)).bind bool?).bind fun k=>if k=true then((c E).bind sh?).bind fun z=>g (.sh y) (.sh z) else some (.sh (.bl false))
noncomputable def tB?(a:Ev):En->Option Bool:=fun E=>(a E).bind bool?
noncomputable def tAnd?(a b:En->Option Bool):En->Option Bool:=fun E=>(a E).bind fun k=>if k=true then b E else some false
noncomputable def tOr?(a b:En->Option Bool):En->Option Bool:=fun E=>(a E).bind fun k=>if k=true then some true else b E
noncomputable def tNot?(a:En->Option Bool):En->Option Bool:=fun E=>(a E).bind fun k=>some (!k)

section
variable{K:Frag}{C:Addr}
theorem bind_some{α β:Type}{x:Option α}{f:α->Option β}{b:β}(e:x.bind f=some b):∃a,x=some a/\f a=some b:=by
 cases x with
 | none=>cases e
 | some a=>exact⟨a,rfl,e⟩
theorem Vh{s:Sl}{b:Bool}(e:bool? s=some b):s=.sh (.bl b):=by
 cases s with
 | sh d=>cases d with
  | bl x=>cases e;rfl
  | _=>cases e
 | _=>cases e
variable{ta tb tc te:TE}{ea eb ec:Ev}
theorem Jb(i:Nat):SE K C (WC i) (Jc i):=by
 intro B H0 H σ E r Q I e q;unfold Jc at e
 cases h:E[i]? with
 | none=>rw[h] at e;cases e
 | some s =>
  rw[h] at e;rcases I.at' i s h with z|⟨v,h1,h2⟩
  ·subst z;cases e
  ·refine⟨v,h1,q v H0 H (.refl I.h) ?_⟩
   cases s with
   | no=>cases e
   | sh d=>cases e;exact h2
   | bo ds=>cases e;obtain⟨l,xs,e,hl,r⟩:=h2;exact⟨l,xs,e,I.b _ _ hl,r⟩
   | own ds=>cases e;obtain⟨l,xs,e,hl,_,_,r⟩:=h2;exact⟨l,xs,e,hl,r⟩
   | bd ks ds=>cases e;obtain⟨l,xs,e,hl,r⟩:=h2;exact⟨l,xs,e,I.b _ _ hl,r⟩
   | bt ks ds=>cases e;obtain⟨l,xs,e,hl,r⟩:=h2;exact⟨l,xs,e,I.b _ _ hl,r⟩
   | od ks ds=>cases e;obtain⟨l,xs,e,hl,_,_,r⟩:=h2;exact⟨l,xs,e,hl,r⟩
   | ot ks ds=>cases e;obtain⟨l,xs,e,hl,_,_,r⟩:=h2;exact⟨l,xs,e,hl,r⟩
theorem Jnw:SE K C (tC .non) (eC .non):=fun _ _ _ _ _ _ _ I e q=>by cases e;exact q _ _ _ (.refl I.h) .non
theorem Ja5{b:Bool}:SE K C (tC (.bl b)) (eC (.bl b)):=fun _ _ _ _ _ _ _ I e q=>by cases e;exact q _ _ _ (.refl I.h) (.bl b)
theorem Jl{i:Int}:SE K C (tC (.int i)) (eC (.int i)):=fun _ _ _ _ _ _ _ I e q=>by cases e;exact q _ _ _ (.refl I.h) (.int i)
theorem Jnx{x:Str}:SE K C (tC (.str x)) (eC (.str x)):=fun _ _ _ _ _ _ _ I e q=>by cases e;exact q _ _ _ (.refl I.h) (.str x)
theorem Jm{r:R2}{f:Sl->Sl->Option Sl}(ho:OpS K C r f)(ha:SE K C ta ea)(hb:SE K C tb eb):SE K C (tOp r ta tb) (e2 f ea eb):=by
 intro B H0 H σ E c Q I e q;obtain⟨a,e1,e⟩:=bind_some e;obtain⟨b,e2,e⟩:=bind_some e;exact ha B H0 H σ E a _ I e1 fun x H1 H1' s1 r1=>hb B H1 H1' σ E b _ (I.step s1) e2 fun y H2 H2' s2 r2=>ho H H2 H2' x y a b c Q s2.i (s1.h.trans s2.h) (r1.step s2) (r2.weak fun a q=>Same.free s1.h q) e fun v H3 H3' s3 r3=>q v H3 H3' ((s1.trans s2).comp s3 fun _ z=>z) r3
theorem Jc5{r:V->Hp->VK->Prop}{f:Sl->Option Sl}(ho:UnS K C r f)(ha:SE K C ta ea):SE K C (tUn r ta) (e1 f ea):=by intro B H0 H σ E c Q I e q;obtain⟨a,e1,e⟩:=bind_some e;exact ha B H0 H σ E a _ I e1 fun x H1 H1' s1 r1=>ho H H1 H1' x a c Q s1.i s1.h r1 e fun v H3 H3' s3 r3=>q v H3 H3' (s1.comp s3 fun _ z=>z) r3
theorem Jk:SA K C Wp a0:=fun _ _ _ _ _ _ _ I e q=>by cases e;exact q _ _ _ (.refl I.h) .nil
theorem RRL.step{Hs H0 H H0' H':Hp}{vs:List V}{ss:List Sl}(r:RRL K C Hs H0 H vs ss)(st:Step H H0 H H0' H'):RRL K C Hs H0' H' vs ss:=by
 induction r with
 | nil=>exact .nil
 | cons h _ ih=>exact .cons (h.step st) ih
theorem RRL.weak{Hs Hs' H0 H:Hp}{vs:List V}{ss:List Sl}(r:RRL K C Hs' H0 H vs ss)(w:∀a,Hs' a=none->Hs a=none):RRL K C Hs H0 H vs ss:=by
 induction r with
 | nil=>exact .nil
 | cons h _ ih=>exact .cons (h.weak w) ih
theorem Jd{tr:TA}{er:En->Option (List Sl)}(ha:SE K C ta ea)(hr:SA K C tr er):SA K C (Ub ta tr) (aC ea er):=by
 intro B H0 H σ E c Q I e q;obtain⟨a,e1,e⟩:=bind_some e;obtain⟨b,e2,e⟩:=bind_some e;cases e;exact ha B H0 H σ E a _ I e1 fun x H1 H1' s1 r1=>hr B H1 H1' σ E b _ (I.step s1) e2 fun y H2 H2' s2 r2=>q _ H2 H2' (s1.trans s2) (.cons (r1.step s2) (r2.weak fun a q=>Same.free s1.h q))
theorem YV{r:List V->Hp->VK->Prop}{t:TA}{ev:En->Option (List Sl)}{f:List Sl->Option Sl}(hc:Vo K C r f)(ha:SA K C t ev):SE K C (tCB r t) (eF f ev):=by intro B H0 H σ E c Q I e q;obtain⟨a,e1,e⟩:=bind_some e;exact ha B H0 H σ E a _ I e1 fun x H1 H1' s1 r1=>hc H H1 H1' x a c Q s1.i s1.h r1 e fun v H3 H3' s3 r3=>q v H3 H3' (s1.comp s3 fun _ z=>z) r3
theorem Jal(ha:SE K C ta ea)(hb:SE K C tb eb):SE K C (Jhk ta tb) (WA ea eb):=by
 intro B H0 H σ E c Q I e q;obtain⟨k,e1,e⟩:=bind_some e;obtain⟨a,e0,e1⟩:=bind_some e1;refine ha B H0 H σ E a _ I e0 fun x H1 H1' s1 r1=>?_
 rw[Vh e1] at r1;refine⟨k,RD.blI r1,?_⟩
 cases k with
 | true=>exact hb B H1 H1' σ E c Q (I.step s1) e fun y H2 H2' s2 r2=>q y H2 H2' (s1.trans s2) (r2.weak fun a q=>Same.free s1.h q)
 | false=>cases e;exact q _ _ _ s1 (RD.bl false)
theorem Jnu{c:TT}{cv:En->Option Bool}(hc:ST K C c cv)(ha:SE K C ta ea)(hb:SE K C tb eb):SE K C (tIf c ta tb) (eIf cv ea eb):=by
 intro B H0 H σ E r Q I e q;obtain⟨k,e1,e⟩:=bind_some e;refine hc B H0 H σ E k _ I e1 fun H1 H1' s1=>?_
 cases k with
 | true=>exact ha B H1 H1' σ E r Q (I.step s1) e fun y H2 H2' s2 r2=>q y H2 H2' (s1.trans s2) (r2.weak fun a q=>Same.free s1.h q)
 | false=>exact hb B H1 H1' σ E r Q (I.step s1) e fun y H2 H2' s2 r2=>q y H2 H2' (s1.trans s2) (r2.weak fun a q=>Same.free s1.h q)
theorem WM{s:Sl}{d:D}(e:sh? s=some d):s=.sh d:=by
 cases s with
 | sh d'=>cases e;rfl
 | _=>cases e
theorem Jji{r r':R2}{f g:Sl->Sl->Option Sl}(ho:OpS K C r f)(ho':OpS K C r' g)(ha:SE K C ta ea)(hb:SE K C tb eb)(hc:SE K C tc ec):SE K C (Jdb r r' ta tb tc) (Jcz f g ea eb ec):=by
 intro B H0 H σ E c Q I e q;obtain⟨a,e1,e⟩:=bind_some e;obtain⟨a',e1,f1⟩:=bind_some e1;obtain rfl:=WM f1;obtain⟨b,e2,e⟩:=bind_some e;obtain⟨b',e2,f2⟩:=bind_some e2;obtain rfl:=WM f2;obtain⟨k,e3,e⟩:=bind_some e;obtain⟨z,e4,e3⟩:=bind_some e3;refine ha B H0 H σ E _ _ I e1 fun x H1 H1' s1 r1=>hb B H1 H1' σ E _ _ (I.step s1) e2 fun y H2 H2' s2 r2=>?_
 have x2:RD K C H2 x a:=RD.mono s2.z r1
 have y2:RD K C H2 y b:=r2;refine ho H2' H2 H2' x y (.sh a) (.sh b) z _ s2.i (Same.refl _) x2 y2 e4 fun w H3 H3' s3 r3=>?_
 rw[Vh e3] at r3;have s13:=(s1.trans s2).trans s3;refine⟨k,RD.blI r3,?_⟩
 cases k with
 | false=>cases e;exact q _ _ _ s13 (RD.bl false)
 | true =>
  obtain⟨d,e5,e⟩:=bind_some e;obtain⟨d',e5,f5⟩:=bind_some e5;obtain rfl:=WM f5;refine hc B H3 H3' σ E _ _ (I.step s13) e5 fun u H4 H4' s4 r4=>?_
  exact ho' H H4 H4' y u (.sh b) (.sh d) c Q s4.i (s13.h.trans s4.h) (RD.mono (s3.z.trans s4.z) y2) (show RD K C H4 u d from r4) e fun v H5 H5' s5 r5=>q v H5 H5' ((s13.trans s4).comp s5 fun _ z=>z) r5

theorem Yc(ha:SE K C te ea):ST K C (Jho te) (tB? ea):=by
 intro B H0 H σ E k Q I e q;obtain⟨a,e1,e⟩:=bind_some e;refine ha B H0 H σ E a _ I e1 fun x H1 H1' s1 r1=>?_
 rw[Vh e] at r1;exact⟨k,RD.blI r1,q _ _ s1⟩
theorem Zu{c d:TT}{ev ew:En->Option Bool}(hc:ST K C c ev)(hd:ST K C d ew):ST K C (Jmj c d) (tAnd? ev ew):=by
 intro B H0 H σ E k Q I e q;obtain⟨a,e1,e⟩:=bind_some e;refine hc B H0 H σ E a _ I e1 fun H1 H1' s1=>?_
 cases a with
 | true=>exact hd B H1 H1' σ E k Q (I.step s1) e fun H2 H2' s2=>q H2 H2' (s1.trans s2)
 | false=>cases e;exact q _ _ s1
theorem Zv{c d:TT}{ev ew:En->Option Bool}(hc:ST K C c ev)(hd:ST K C d ew):ST K C (tOr c d) (tOr? ev ew):=by
 intro B H0 H σ E k Q I e q;obtain⟨a,e1,e⟩:=bind_some e;refine hc B H0 H σ E a _ I e1 fun H1 H1' s1=>?_
 cases a with
 | false=>exact hd B H1 H1' σ E k Q (I.step s1) e fun H2 H2' s2=>q H2 H2' (s1.trans s2)
 | true=>cases e;exact q _ _ s1
theorem Wn{c:TT}{ev:En->Option Bool}(hc:ST K C c ev):ST K C (Jmn c) (tNot? ev):=by intro B H0 H σ E k Q I e q;obtain⟨a,e1,e⟩:=bind_some e;cases e;exact hc B H0 H σ E a _ I e1 fun H1 H1' s1=>q _ _ s1
end

noncomputable def Sl.m:Sl->Option (List D)
 | .sh (.lst ds)=>some ds
 | .bo ds=>some ds
 | .own ds=>some ds
 | _=>none
noncomputable def Sl.r:Sl->Option (List D)
 | .sh (.lst ds)=>some ds
 | .sh (.fz ds)=>some ds
 | .bo ds=>some ds
 | .own ds=>some ds
 | _=>none
noncomputable def Sl.q:Sl->Option (List D)
 | .sh (.lst ds)=>some ds
 | .sh (.fz ds)=>some ds
 | .sh (.tup ds)=>some ds
 | .bo ds=>some ds
 | .own ds=>some ds
 | _=>none
noncomputable def Sl.d:Sl->Option D
 | .sh d=>some d
 | .bo ds=>some (.lst ds)
 | .own ds=>some (.lst ds)
 | .bd ks ds=>some (.dct ks ds)
 | .od ks ds=>some (.dct ks ds)
 | .bt _ _=>none
 | .ot _ _=>none
 | .no=>none
section
variable{K:Frag}{C:Addr}{Hs H0 H:Hp}{v:V}{s:Sl}{ds:List D}{d:D}
theorem RR.m(r:RR K C Hs H0 H v s)(i:Same H0 H)(e:s.m=some ds):∃l xs,v=.ref l/\H l=some (.lst xs)/\RDL K C H0 xs ds:=by
 cases s with
 | no=>cases e
 | bo es=>cases e;exact r
 | own es=>cases e;obtain⟨l,xs,h1,h2,_,_,h3⟩:=r;exact⟨l,xs,h1,h2,h3⟩
 | bd _ _=>cases e
 | bt _ _=>cases e
 | od _ _=>cases e
 | ot _ _=>cases e
 | sh d=>cases d with
  | lst es=>cases e;obtain⟨l,xs,h1,h2,h3⟩:=RD.lstI r;exact⟨l,xs,h1,i _ _ h2,h3⟩
  | _=>cases e
theorem RR.r(r:RR K C Hs H0 H v s)(i:Same H0 H)(e:s.r=some ds):∃l xs,v=.ref l/\SqL K H l xs/\RDL K C H0 xs ds:=by
 cases s with
 | no=>cases e
 | bo es=>cases e;obtain⟨l,xs,h1,h2,h3⟩:=r;exact⟨l,xs,h1,.of h2,h3⟩
 | own es=>cases e;obtain⟨l,xs,h1,h2,_,_,h3⟩:=r;exact⟨l,xs,h1,.of h2,h3⟩
 | bd _ _=>cases e
 | bt _ _=>cases e
 | od _ _=>cases e
 | ot _ _=>cases e
 | sh d=>cases d with
  | lst es=>cases e;obtain⟨l,xs,h1,h2,h3⟩:=RD.lstI r;exact⟨l,xs,h1,.of (i _ _ h2),h3⟩
  | fz es=>cases e;obtain⟨l,xs,h1,h2,h3⟩:=RD.fzI r;exact⟨l,xs,h1,i.seq h2,h3⟩
  | _=>cases e
theorem RR.q(r:RR K C Hs H0 H v s)(i:Same H0 H)(e:s.q=some ds):∃l xs,v=.ref l/\(SqL K H l xs\/SqT K H l xs)/\RDL K C H0 xs ds:=by
 cases s with
 | no=>cases e
 | bo es=>cases e;obtain⟨l,xs,h1,h2,h3⟩:=r;exact⟨l,xs,h1,.inl (.of h2),h3⟩
 | own es=>cases e;obtain⟨l,xs,h1,h2,_,_,h3⟩:=r;exact⟨l,xs,h1,.inl (.of h2),h3⟩
 | bd _ _=>cases e
 | bt _ _=>cases e
 | od _ _=>cases e
 | ot _ _=>cases e
 | sh d=>cases d with
  | lst es=>cases e;obtain⟨l,xs,h1,h2,h3⟩:=RD.lstI r;exact⟨l,xs,h1,.inl (.of (i _ _ h2)),h3⟩
  | fz es=>cases e;obtain⟨l,xs,h1,h2,h3⟩:=RD.fzI r;exact⟨l,xs,h1,.inl (i.seq h2),h3⟩
  | tup es=>cases e;obtain⟨l,xs,h1,h2,h3⟩:=RD.tupI r;exact⟨l,xs,h1,.inr (i.seqT h2),h3⟩
  | _=>cases e
theorem RR.dat(r:RR K C Hs H0 H v s)(i:Same H0 H)(e:s.d=some d):RD K C H v d:=by
 cases s with
 | no=>cases e
 | bo es=>cases e;obtain⟨l,xs,h1,h2,h3⟩:=r;subst h1;exact .mkL h2 (h3.mono i)
 | own es=>cases e;obtain⟨l,xs,h1,h2,_,_,h3⟩:=r;subst h1;exact .mkL h2 (h3.mono i)
 | bd _ _=>cases e;obtain⟨l,xs,h1,h2,hk,h3⟩:=r;subst h1;exact .mkD h2 hk (h3.mono i)
 | bt _ _=>cases e
 | od _ _=>cases e;obtain⟨l,xs,h1,h2,_,_,hk,h3⟩:=r;subst h1;exact .mkD h2 hk (h3.mono i)
 | ot _ _=>cases e
 | sh d'=>cases e;exact RD.mono i r
theorem UC{p:Addr}{xs:List V}{Q:VK}(i:Same H0 H)(hs:Same Hs H)(hp:H p=none)(r:RDL K C H0 xs ds)(q:∀v H0' H',Step Hs H0 H H0' H'->RR K C Hs H0' H' v (.own ds)->Q v H'):Q (.ref p) (upd H p (.lst xs)) :=
 q _ H0 _ ⟨.new hp,Same.refl _,fun _ _ e=>.inl e,i.trans (.new hp)⟩ ⟨p,xs,rfl,Jw,Same.free i hp,Same.free hs hp,r⟩
theorem Jbg{p:Addr}{xs:List V}{Q:VK}(i:Same H0 H)(hs:Same Hs H)(hp:H p=none)(r:RDL K C H0 xs ds)(q:∀v H0' H',Step Hs H0 H H0' H'->RR K C Hs H0' H' v (.sh (.tup ds))->Q v H'):Q (.ref p) (upd H p (.tup xs)):=by
 have h0:H0 p=none:=Same.free i hp;refine q _ (upd H0 p (.tup xs)) _ ⟨.new hp,.new h0,fun a o e=>?_,fun a o e=>?_⟩ ?_
 ·by_cases h:a=p
  ·subst h;exact .inr (.inl (Same.free hs hp))
  ·rw[Ji h] at e;exact .inl e
 ·by_cases h:a=p
  ·subst h;rw[Jw] at e ⊢;exact e
  ·rw[Ji h] at e ⊢;exact i a o e
 ·exact RD.mkT (.of Jw) (r.mono (.new h0))
end

noncomputable def fI(g:Int->Int->D):Sl->Sl->Option Sl
 | .sh (.int a),.sh (.int b)=>some (.sh (g a b))
 | _,_=>none
noncomputable def fIc(c:Int->Int->Bool)(g:Int->Int->D):Sl->Sl->Option Sl
 | .sh (.int a),.sh (.int b)=>if c a b=true then some (.sh (g a b)) else none
 | _,_=>none
noncomputable def JeP(x y:Sl):Option Sl:=x.m.bind fun a=>y.m.bind fun b=>if a.length+b.length<=sizeLine then some (.own (a++b)) else none
noncomputable def JS:Sl->Sl->Option Sl
 | .sh (.int a),.sh (.int b)=>some (.sh (.int (a+b)))
 | .sh (.str a),.sh (.str b)=>if a.length+b.length<=sizeLine then some (.sh (.str (a++b))) else none
 | .sh (.tup a),.sh (.tup b)=>if a.isEmpty=false/\b.isEmpty=false/\a.length+b.length<=sizeLine then some (.sh (.tup (a++b))) else none
 | .sh (.lst a),y=>JeP (.sh (.lst a)) y
 | .bo a,y=>JeP (.bo a) y
 | .own a,y=>JeP (.own a) y
 | _,_=>none
noncomputable abbrev UJ:=fI fun a b=>.int (a-b)
noncomputable abbrev fLt:=fI fun a b=>.bl (decide (a<b))
noncomputable abbrev fLe:=fI fun a b=>.bl (decide (a<=b))
noncomputable abbrev fGt:=fI fun a b=>.bl (decide (b<a))
noncomputable def WN(a:Int):Bool:=Nat.ble a.natAbs 18446744073709551615
theorem Zy{a:Int}:WN a=true↔-18446744073709551616<a/\a<18446744073709551616:=by unfold WN;rw[Nat.ble_eq];omega
noncomputable def Jbb(a:Int):Bool:=Nat.ble a.natAbs 1073741823 && decide (0<a)
theorem smallP_ok{a:Int}:Jbb a=true↔0<a/\a<1073741824:=by unfold Jbb;rw[Bool.and_eq_true,Nat.ble_eq,decide_eq_true_eq];omega
noncomputable abbrev JbB:=fIc (fun a b=>WN a || WN b) fun a b=>.int (a*b)
noncomputable abbrev UE:=fIc (fun _ b=>decide (0<b)) fun a b=>.int (a % b)
noncomputable abbrev W1:=fIc (fun _ b=>Jbb b) fun a b=>.int (a / b)
noncomputable def Wa:Sl->Option Sl
 | .sh (.int a)=>some (.sh (.int (-a)))
 | _=>none
noncomputable def eqD(d e:D):Option Bool:=if (d.py.canLay0 && e.py.canLay0 && decide (min d.py.depth e.py.depth<=60))=true then some (PyData.eqv d.py e.py) else none
noncomputable def eqA:D->D->Option Bool
 | .int a,.int b=>some (decide (a=b))
 | .str a,.str b=>some (decide (a=b))
 | .bl a,.bl b=>some (decide (a=b))
 | .non,.non=>some true
 | .non,.int _=>some false
 | .int _,.non=>some false
 | .non,.str _=>some false
 | .str _,.non=>some false
 | .non,.bl _=>some false
 | .bl _,.non=>some false
 | .int _,.str _=>some false
 | .str _,.int _=>some false
 | d,e=>eqD d e
noncomputable def fEq(x y:Sl):Option Sl:=x.d.bind fun d=>y.d.bind fun e=>(eqA d e).map fun k=>.sh (.bl k)
noncomputable def fNe(x y:Sl):Option Sl:=x.d.bind fun d=>y.d.bind fun e=>(eqA d e).map fun k=>.sh (.bl (!k))
noncomputable def D.isNon:D->Bool
 | .non=>true
 | _=>false
noncomputable def JkA:Sl->Sl->Option Sl
 | x,.sh .non=>x.d.map fun d=>.sh (.bl (!d.isNon))
 | _,_=>none
noncomputable def fIx:Sl->Sl->Option Sl
 | .sh (.str z),.sh (.int i)=>if z.length<=sizeLine then(atI z.cps.toList i).map fun c=>.sh (.str ⟨#[c]⟩) else none
 | x,.sh (.int i)=>x.q.bind fun ds=>(atI ds i).map .sh
 | _,_=>none
section
variable{K:Frag}{C:Addr}
theorem o_I{g:Int->Int->V}{g':Int->Int->D}(h:∀i j H,RD K C H (g i j) (g' i j)):OpS K C (rI0 g) (fI g'):=by
 intro Hs H0 H x y a b c Q i hs ra rb e q;unfold fI at e;split at e
 ·cases e;exact⟨_,_,RD.intI ra,RD.intI rb,q _ _ _ (.refl i) (h _ _ _)⟩
 ·cases e
theorem Jlg{P:Int->Int->Prop}{c':Int->Int->Bool}{g:Int->Int->V}{g':Int->Int->D}(hp:∀i j,c' i j=true->P i j)(h:∀i j H,RD K C H (g i j) (g' i j)):OpS K C (rI P g) (fIc c' g'):=by
 intro Hs H0 H x y a b c Q i hs ra rb e q;unfold fIc at e;split at e
 ·split at e
  ·cases e;exact⟨_,_,RD.intI ra,RD.intI rb,hp _ _ (by assumption),q _ _ _ (.refl i) (h _ _ _)⟩
  ·cases e
 ·cases e
theorem UL:OpS K C (rI0 fun i j=>.int (i-j)) UJ:=o_I fun _ _ _=>.int _
theorem Jm7:OpS K C (rI0 fun i j=>.bl (decide (i<j))) fLt:=o_I fun _ _ _=>.bl _
theorem JnW:OpS K C (rI0 fun i j=>.bl (decide (i<=j))) fLe:=o_I fun _ _ _=>.bl _
theorem Zh:OpS K C (rI0 fun i j=>.bl (decide (j<i))) fGt:=o_I fun _ _ _=>.bl _
theorem Jag:OpS K C (rI CMul fun i j=>.int (i*j)) JbB:=Jlg (fun i j h=>by simp only[Bool.or_eq_true,Zy] at h;exact h) fun _ _ _=>.int _
theorem Vq:OpS K C (rI (fun _ j=>0<j) fun i j=>.int (i % j)) UE:=Jlg (fun i j h=>by simpa using h) fun _ _ _=>.int _
theorem Jd0:OpS K C (rI JmA fun i j=>.int (i / j)) W1:=Jlg (fun i j h=>smallP_ok.mp h) fun _ _ _=>.int _
theorem ZC:UnS K C (rU fun i=>.int (-i)) Wa:=by
 intro Hs H0 H x a c Q i hs ra e q;unfold Wa at e;split at e
 ·cases e;exact⟨_,RD.intI ra,q _ _ _ (.refl i) (RD.int _)⟩
 ·cases e
noncomputable def JgX(K:Frag):R2:=fun x y H Q=>Jd9 K x y H Q\/JjY K x y H Q
theorem JB{X:Cx}(hK:X.K=K):OpR X (binaryOp .Add) (JgX K):=(Jd2 hK).or (hK▸JiH)
theorem J0:OpS K C (JgX K) JS:=by
 intro Hs H0 H x y a b c Q i hs ra rb e q
 have cat:∀{a b:Sl},RR K C Hs H0 H x a->RR K C Hs H0 H y b->JeP a b=some c->JgX K x y H Q:=by
  intro a b ra rb e;obtain⟨xs,e1,e⟩:=bind_some e;obtain⟨ys,e2,e⟩:=bind_some e;split at e
  ·next hz=>cases e;obtain⟨l,us,rfl,h1,r1⟩:=ra.m i e1;obtain⟨l',ws,rfl,h2,r2⟩:=rb.m i e2;exact .inl (.inr (.inr ⟨l,l',us,ws,rfl,rfl,h1,h2,by rw[r1.1,r2.1];exact hz,fun p hp=>UC i hs hp (r1.append r2) q⟩))
  ·cases e
 unfold JS at e;split at e
 ·cases e;exact .inl (.inl ⟨_,_,RD.intI ra,RD.intI rb,q _ _ _ (.refl i) (RD.int _)⟩)
 ·split at e
  ·cases e;exact .inl (.inr (.inl ⟨_,_,RD.strI ra,RD.strI rb,by assumption,q _ _ _ (.refl i) (RD.str _)⟩))
  ·cases e
 ·split at e
  ·next hz =>
   cases e;obtain⟨l,us,rfl,h1,r1⟩:=RD.tupI ra;obtain⟨l',ws,rfl,h2,r2⟩:=RD.tupI rb;have n1:us≠[]:=by rintro rfl;have:=r1.1;have z:=hz.1;simp at this;rw[List.eq_nil_of_length_eq_zero this.symm] at z;cases z
   have n2:ws≠[]:=by rintro rfl;have:=r2.1;have z:=hz.2.1;simp at this;rw[List.eq_nil_of_length_eq_zero this.symm] at z;cases z
   exact .inr ⟨l,l',us,ws,rfl,rfl,i.seqT h1,i.seqT h2,n1,by rw[r1.1,r2.1];exact hz.2.2,fun z=>absurd z n2,fun _ p hp=>Jbg i hs hp (r1.append r2) q⟩
  ·cases e
 ·exact cat ra rb e
 ·exact cat ra rb e
 ·exact cat ra rb e
 ·cases e
theorem JbA{d e:D}{k:Bool}(h:eqD d e=some k):d.py.canLay0=true/\e.py.canLay0=true/\min d.py.depth e.py.depth<=60/\k=PyData.eqv d.py e.py:=by
 unfold eqD at h;split at h
 ·next z=>cases h;simp only[Bool.and_eq_true,decide_eq_true_eq] at z;exact⟨z.1.1,z.1.2,z.2,rfl⟩
 ·cases h
theorem map_some{α β:Type}{x:Option α}{f:α->β}{b:β}(e:x.map f=some b):∃a,x=some a/\f a=b:=by
 cases x with
 | none=>cases e
 | some a=>cases e;exact⟨a,rfl,rfl⟩
theorem Jbz{H:Hp}{x y:V}{d e:D}{k:Bool}(h:eqA d e=some k)(rx:RD K C H x d)(ry:RD K C H y e):(Jmf x y=true/\decide (x=y)=k)\/eqD d e=some k:=by
 unfold eqA at h;split at h
 ·cases h;rw[RD.intI rx,RD.intI ry];exact .inl ⟨rfl,by simp⟩
 ·cases h;rw[RD.strI rx,RD.strI ry];exact .inl ⟨rfl,by simp⟩
 ·cases h;rw[RD.blI rx,RD.blI ry];exact .inl ⟨rfl,by simp⟩
 ·cases h;rw[RD.nonI rx,RD.nonI ry];exact .inl ⟨rfl,by simp⟩
 ·cases h;rw[RD.nonI rx,RD.intI ry];exact .inl ⟨rfl,by simp⟩
 ·cases h;rw[RD.intI rx,RD.nonI ry];exact .inl ⟨rfl,by simp⟩
 ·cases h;rw[RD.nonI rx,RD.strI ry];exact .inl ⟨rfl,by simp⟩
 ·cases h;rw[RD.strI rx,RD.nonI ry];exact .inl ⟨rfl,by simp⟩
 ·cases h;rw[RD.nonI rx,RD.blI ry];exact .inl ⟨rfl,by simp⟩
 ·cases h;rw[RD.blI rx,RD.nonI ry];exact .inl ⟨rfl,by simp⟩
 ·cases h;rw[RD.intI rx,RD.strI ry];exact .inl ⟨rfl,by simp⟩
 ·cases h;rw[RD.strI rx,RD.intI ry];exact .inl ⟨rfl,by simp⟩
 ·exact .inr h
theorem JbT:OpS K C (Jg0 K) fEq:=by
 intro Hs H0 H x y a b c Q i hs ra rb e q;obtain⟨d,e1,e⟩:=bind_some e;obtain⟨d',e2,e⟩:=bind_some e;obtain⟨k,e3,rfl⟩:=map_some e;have r1:=ra.dat i e1;have r2:=rb.dat i e2;rcases Jbz e3 r1 r2 with ⟨h1,h2⟩|h
 ·exact .inl ⟨h1,by rw[h2];exact q _ _ _ (.refl i) (RD.bl _)⟩
 ·obtain⟨h1,h2,h3,rfl⟩:=JbA h;exact .inr ⟨_,_,r1.rep h1,r2.rep h2,h1,h2,h3,q _ _ _ (.refl i) (RD.bl _)⟩
theorem Jfc:OpS K C (Jg2 K) fNe:=by
 intro Hs H0 H x y a b c Q i hs ra rb e q;obtain⟨d,e1,e⟩:=bind_some e;obtain⟨d',e2,e⟩:=bind_some e;obtain⟨k,e3,rfl⟩:=map_some e;have r1:=ra.dat i e1;have r2:=rb.dat i e2;rcases Jbz e3 r1 r2 with ⟨h1,h2⟩|h
 ·exact .inl ⟨h1,by rw[h2];exact q _ _ _ (.refl i) (RD.bl _)⟩
 ·obtain⟨h1,h2,h3,rfl⟩:=JbA h;exact .inr ⟨_,_,r1.rep h1,r2.rep h2,h1,h2,h3,q _ _ _ (.refl i) (RD.bl _)⟩
theorem RDL.atI{H:Hp}{xs:List V}{ds:List D}{i:Int}{d:D}(r:RDL K C H xs ds)(e:L2.atI ds i=some d):∃x,L2.atI xs i=some x/\RD K C H x d:=by unfold L2.atI at e ⊢;rw[r.1];obtain⟨j,e1,e⟩:=bind_some e;obtain⟨x,e2,r2⟩:=r.get e;exact⟨x,by rw[e1];exact e2,r2⟩
theorem Um:OpS K C (rIx K) fIx:=by
 intro Hs H0 H x y a b c Q i hs ra rb e q;unfold fIx at e;split at e
 ·split at e
  ·obtain⟨z,e1,rfl⟩:=map_some e;rw[RD.strI ra,RD.intI rb];exact JlW (by assumption) e1 (q _ _ _ (.refl i) (RD.str _))
  ·cases e
 ·obtain⟨ds,e1,e⟩:=bind_some e;obtain⟨d,e2,rfl⟩:=map_some e;obtain⟨l,xs,rfl,h,r⟩:=ra.q i e1;obtain⟨v,e3,r3⟩:=r.atI e2;rw[RD.intI rb];rcases h with h|h
  ·exact JlV h e3 (q _ _ _ (.refl i) r3)
  ·exact JlX h e3 (q _ _ _ (.refl i) r3)
 ·cases e
end
end LE

namespace LE
open PySem L2 LR

noncomputable def W5:List Sl->Option (List D)
 | []=>some []
 | s::ss=>s.frz.bind fun d=>(W5 ss).bind fun ds=>some (d::ds)
noncomputable def V8(as:En->Option (List Sl)):Ev:=fun E=>(as E).bind fun ss=>(W5 ss).bind fun ds=>if ds.length<=100 then some (.sh (.tup ds)) else none
noncomputable def Vt(as:En->Option (List Sl)):Ev:=fun E=>(as E).bind fun ss=>(W5 ss).bind fun ds=>if ds.length<=100 then some (.own ds) else none
section
variable{K:Frag}{C:Addr}{t:TA}{ev:En->Option (List Sl)}{Hs H0 H:Hp}{ta te:TE}{ea:Ev}
theorem RRL.frz{vs:List V}{ss:List Sl}(i:Same H0 H)(r:RRL K C Hs H0 H vs ss):∀{ds:List D},W5 ss=some ds->RDL K C (YD Hs H0 H) vs ds:=by
 induction r with
 | nil=>intro ds e;cases e;exact .nil
 | cons h _ ih=>intro ds e;obtain⟨d,e1,e⟩:=bind_some e;obtain⟨ds',e2,e⟩:=bind_some e;cases e;exact .cons (h.frz i e1) (ih e2)
theorem Vb(ha:SA K C t ev):SE K C (Jmp t) (V8 ev):=by
 intro B H0 H σ E c Q I e q;obtain⟨ss,e1,e⟩:=bind_some e;obtain⟨ds,e2,e⟩:=bind_some e;split at e
 ·next hl =>
  cases e;refine ha B H0 H σ E ss _ I e1 fun vs H1 H1' s1 r1=>?_
  have f:=JT (Hs:=H) s1.i
  have r2:=r1.frz s1.i e2;exact⟨by rw[r2.1];exact Nat.le_trans hl (by decide),fun p hp=>Jbg f.i s1.h hp r2 fun v H2 H2' s2 r2=>q v H2 H2' ((s1.comp f fun _ z=>z).comp s2 fun _ z=>z) r2⟩
 ·cases e
theorem U0(ha:SA K C t ev):SE K C (Jml t) (Vt ev):=by
 intro B H0 H σ E c Q I e q;obtain⟨ss,e1,e⟩:=bind_some e;obtain⟨ds,e2,e⟩:=bind_some e;split at e
 ·next hl =>
  cases e;refine ha B H0 H σ E ss _ I e1 fun vs H1 H1' s1 r1=>?_
  have f:=JT (Hs:=H) s1.i
  have r2:=r1.frz s1.i e2;exact⟨by rw[r2.1];exact Nat.le_trans hl (by decide),fun p hp=>UC f.i s1.h hp r2 fun v H2 H2' s2 r2=>q v H2 H2' ((s1.comp f fun _ z=>z).comp s2 fun _ z=>z) r2⟩
 ·cases e

noncomputable def Sl.pass:Sl->Option Sl
 | .sh d=>some (.sh d)
 | .own ds=>some (.sh (.lst ds))
 | .bo ds=>some (.bo ds)
 | .bd ks ds=>some (.bd ks ds)
 | .od ks ds=>some (.sh (.dct ks ds))
 | .bt _ _=>none
 | .ot _ _=>none
 | .no=>none
end
noncomputable def VT:List Sl->Option (List Sl)
 | []=>some []
 | s::ss=>s.pass.bind fun d=>(VT ss).bind fun ds=>some (d::ds)
noncomputable def spE(K:Frag)(C:Addr)(n:Nat)(f:List Sl->Option Sl):Sp:=fun vs H Q _=>∃H0 as r,Same H0 H/\RRL K C H H0 H vs as/\as.all (fun s=>!JU s)=true/\as.length=n/\f as=some r ∧
 ∀v H0' H',Step H H0 H H0' H'->RR K C H H0' H' v r->Q v H'
noncomputable def eU(n:Nat)(f:List Sl->Option Sl)(as:En->Option (List Sl)):Ev:=fun E=>(as E).bind fun ss=>(VT ss).bind fun bs=>if bs.length=n then f bs else none
section
variable{K:Frag}{C:Addr}{t:TA}{ev:En->Option (List Sl)}{Hs H0 H:Hp}{ta te:TE}{ea:Ev}
theorem RRL.len{vs:List V}{ss:List Sl}(r:RRL K C Hs H0 H vs ss):vs.length=ss.length:=by
 induction r with
 | nil=>rfl
 | cons _ _ ih=>simp[ih]
theorem J6{n:Nat}{f:List Sl->Option Sl}{vs:List V}{Q:VK}{E:XK}(h:spE K C n f vs H Q E):vs.length=n:=by obtain⟨H0,as,r,_,h1,_,h2,_⟩:=h;rw[h1.len];exact h2
theorem RR.pass{v:V}{s s':Sl}(i:Same H0 H)(r:RR K C Hs H0 H v s)(e:s.pass=some s'):RR K C H (YD Hs H0 H) H v s'/\JU s'=false:=by
 have st:Step Hs H0 H (YD Hs H0 H) H:=JT i
 cases s with
 | no=>cases e
 | sh d=>cases e;exact⟨RD.mono st.z r,rfl⟩
 | own ds=>cases e;exact⟨RR.frz (s:=.own ds) i r rfl,rfl⟩
 | bo ds=>cases e;obtain⟨l,xs,h1,h2,h3⟩:=r;exact⟨⟨l,xs,h1,h2,h3.mono st.z⟩,rfl⟩
 | od ks ds=>cases e;exact⟨RR.frz (s:=.od ks ds) i r rfl,rfl⟩
 | ot ks ds=>cases e
 | bd ks ds=>cases e;obtain⟨l,xs,h1,h2,hk,h3⟩:=r;exact⟨⟨l,xs,h1,h2,hk,h3.mono st.z⟩,rfl⟩
 | bt ks ds=>cases e
theorem RRL.pass{vs:List V}{ss:List Sl}(i:Same H0 H)(r:RRL K C Hs H0 H vs ss):∀{bs:List Sl},VT ss=some bs->RRL K C H (YD Hs H0 H) H vs bs/\bs.all (fun s=>!JU s)=true:=by
 induction r with
 | nil=>intro bs e;cases e;exact⟨.nil,rfl⟩
 | cons h _ ih=>intro bs e;obtain⟨d,e1,e⟩:=bind_some e;obtain⟨ds',e2,e⟩:=bind_some e;cases e;obtain⟨h1,h2⟩:=h.pass i e1;obtain⟨h3,h4⟩:=ih e2;exact⟨.cons h1 h3,by rw[List.all_cons,h2,h4];rfl⟩
theorem JQ{n:Nat}{f:List Sl->Option Sl}{X:XK}(ha:SA K C t ev):SE K C (Wz (spE K C n f) [] X t) (eU n f ev):=by
 intro B H0 H σ E c Q I e q;obtain⟨ss,e1,e⟩:=bind_some e;obtain⟨bs,e2,e⟩:=bind_some e;split at e
 ·next hl=>refine WL (ha B H0 H σ E ss _ I e1 fun vs H1 H1' s1 r1=>?_);obtain⟨h1,h2⟩:=r1.pass s1.i e2;have f:=JT (Hs:=H) s1.i;exact⟨_,bs,c,f.i,h1,h2,hl,e,fun v H2 H2' s2 r2=>q v H2 H2' ((s1.comp f fun _ z=>z).comp s2 fun a z=>Same.free s1.h z) (r2.weak fun a z=>Same.free s1.h z)⟩
 ·cases e

noncomputable def prE(p:Pr):D:=.tup [.int p.1,.int p.2]
noncomputable def Jmv:D->Option Pr
 | .tup [.int a,.int b]=>some (a,b)
 | _=>none
noncomputable def Jci:List D->Option (List Pr)
 | []=>some []
 | d::ds=>(Jmv d).bind fun p=>(Jci ds).bind fun ps=>some (p::ps)
end
theorem Jan:∀ps:List Pr,Jci (ps.map prE)=some ps
 | []=>rfl
 | p::ps=>by rw[List.map_cons,Jci,Jan ps];rfl
theorem Jfu{d:D}{p:Pr}(e:Jmv d=some p):d=prE p:=by
 unfold Jmv at e;split at e
 ·cases e;rfl
 ·cases e
theorem ZD:∀{ds:List D} {ps:List Pr},Jci ds=some ps->ds=ps.map prE
 | [],_,e=>by cases e;rfl
 | d::ds,_,e=>by obtain⟨p,e1,e⟩:=bind_some e;obtain⟨ps,e2,e⟩:=bind_some e;cases e;rw[Jfu e1,ZD e2];rfl
noncomputable def Ws:List Pr->Bool
 | []=>true
 | [p]=>decide (1<=p.2)
 | p::q::r=>decide (1<=p.2) && decide (p.1+p.2<q.1) && Ws (q::r)
theorem W6:∀{ps:List Pr},Ws ps=true->Good ps
 | [],_=>.nil
 | [p],h=>⟨fun i q e=>by
  cases i with
  | zero=>simp at e;subst e;simpa [Ws] using h
  | succ i=>simp at e,fun i q r e1 e2=>by simp at e2⟩
 | p::q::r,h=>by
  simp only[Ws,Bool.and_eq_true,decide_eq_true_eq] at h;have g:=W6 h.2;refine⟨fun i x e=>?_,fun i x y e1 e2=>?_⟩
  ·cases i with
   | zero=>simp at e;subst e;exact h.1.1
   | succ i=>exact g.one i x (by simpa using e)
  ·cases i with
   | zero=>simp at e1 e2;subst e1 e2;exact h.1.2
   | succ i=>exact g.gap i x y (by simpa using e1) (by simpa using e2)
theorem W7:∀{ps:List Pr},Good ps->Ws ps=true
 | [],_=>rfl
 | [p],g=>by simpa [Ws] using g.one 0 p rfl
 | p::q::r,g=>by
  have g':Good (q::r):=⟨fun i x e=>g.one (i+1) x (by simpa using e),fun i x y e1 e2=>g.gap (i+1) x y (by simpa using e1) (by simpa using e2)⟩
  simp only[Ws,Bool.and_eq_true,decide_eq_true_eq];exact⟨⟨g.one 0 p rfl,g.gap 0 p q rfl rfl⟩,W7 g'⟩
noncomputable def JaJ:List Sl->Option Sl
 | [s]=>s.q.bind fun ds=>(Jci ds).bind fun ps=>if (Ws ps && decide (ps.length<=30))=true then some (.sh (.row ds)) else none
 | _=>none
noncomputable def UD:Sl->Option Sl
 | .sh (.row ds)=>some (.sh (.tup ds))
 | _=>none
section
variable{K:Frag}{C:Addr}{t:TA}{ev:En->Option (List Sl)}{Hs H0 H:Hp}{ta te:TE}{ea:Ev}
theorem JlB{xs:List V}{ps:List Pr}(r:RDL K C H xs (ps.map prE)):Prs K H xs ps:=by
 refine⟨by rw[r.1];simp,fun i x d h1 h2=>?_⟩;rw[List.getElem?_map] at h2
 cases e:ps[i]? with
 | none=>rw[e] at h2;cases h2
 | some p=>rw[e] at h2;cases h2;have h:=r.2 i x (prE p) h1 (by rw[List.getElem?_map,e];rfl);exact RD.rep h rfl
theorem Jlh{xs:List V}{ps:List Pr}(i:Same H0 H)(r:Prs K H xs ps):RDL K C (YD Hs H0 H) xs (ps.map prE):=by refine⟨by rw[r.len];simp,fun j x d h1 h2=>?_⟩;obtain⟨p,a,e1,e2,e3⟩:=r.at h1;rw[List.getElem?_map,e1] at h2;cases h2;subst e2;exact .mkT (JdN i e3) (.cons (.int _) (.cons (.int _) .nil))
theorem Jeh{X:XK}(ha:SA K C t ev):SE K C (Jel C (VB C K) [] X t) (eF JaJ ev):=by
 intro B H0 H σ E c Q I e q;obtain⟨ss,e1,e⟩:=bind_some e;refine LR.Jee (ha B H0 H σ E ss _ I e1 fun vs H1 H1' s1 r1=>?_);unfold JaJ at e;split at e
 ·next s =>
  cases r1 with
  | cons r1 r1' =>
   cases r1';obtain⟨ds,e2,e⟩:=bind_some e;obtain⟨ps,e3,e⟩:=bind_some e;split at e
   ·next hg =>
    cases e;simp only[Bool.and_eq_true,decide_eq_true_eq] at hg;have e4:=ZD e3;subst e4;obtain⟨l,xs,rfl,hq,r⟩:=r1.q s1.i e2;refine Jl5 ⟨l,xs,rfl,hq,JlB (r.mono s1.i)⟩ (W6 hg.1) hg.2 fun x H2 nx s2 R=>?_
    obtain⟨x',dx,t',ts,ex,hx,ht,hp⟩:=R;cases ex;have i2:Same H1 H2:=s1.i.trans s2;have f:=JT (Hs:=H) i2;refine q _ (YD H H1 H2) H2 ⟨s1.h.trans s2,s1.z.trans f.z,fun a o e=>(f.n a o e).elim (fun z=>s1.n a o z) .inr,f.i⟩ ?_;have ts':=Jlh (Hs:=H) (C:=C) i2 hp;exact .row (JaM i2 (Same.free s1.h nx) hx) (JdN i2 (.of ht)) ts'.1 ts'.2
   ·cases e
 ·cases e
theorem Uj{K:Frag}{C:Addr}{ta:TE}{ea:Ev}(T:RowC K C)(ha:SE K C ta ea):SE K C (Jjx K ta "stretches") (e1 UD ea):=by
 intro B H0 H σ E c Q I e q;obtain⟨a,e1,e⟩:=bind_some e;refine ha B H0 H σ E a _ I e1 fun x H1 H1' s1 r1=>?_
 unfold UD at e;split at e
 ·cases e;obtain⟨x',dx,t',ts,rfl,hx,ht,hp⟩:=RD.rowI r1;exact⟨x',C,dx,_,_,rfl,s1.i _ _ hx,T.cl,T.ns,Jfo t',q _ _ _ s1 (RD.mkT ht hp)⟩
 ·cases e

noncomputable def ints?:List D->Option (List Int)
 | []=>some []
 | .int i::ds=>(ints? ds).map (i::·)
 | _::_=>none
noncomputable def bls?:List D->Option (List Bool)
 | []=>some []
 | .bl i::ds=>(bls? ds).map (i::·)
 | _::_=>none
end
theorem W9:∀ns:List Int,ints? (ns.map .int)=some ns
 | []=>rfl
 | n::ns=>by rw[List.map_cons,ints?,W9 ns];rfl
theorem Jdm:∀ns:List Bool,bls? (ns.map .bl)=some ns
 | []=>rfl
 | n::ns=>by rw[List.map_cons,bls?,Jdm ns];rfl
theorem Vk:∀{ds:List D} {ns:List Int},ints? ds=some ns->ds=ns.map .int
 | [],_,e=>by cases e;rfl
 | .int i::ds,_,e=>by obtain⟨ns,e1,e2⟩:=map_some (show(ints? ds).map (i::·)=_ from e);rw[<- e2,Vk e1];rfl
 | .non::_,_,e|.bl _::_,_,e|.str _::_,_,e|.tup _::_,_,e|.lst _::_,_,e|.fz _::_,_,e|.row _::_,_,e=>by cases e
theorem WS:∀{ds:List D} {ns:List Bool},bls? ds=some ns->ds=ns.map .bl
 | [],_,e=>by cases e;rfl
 | .bl i::ds,_,e=>by obtain⟨ns,e1,e2⟩:=map_some (show(bls? ds).map (i::·)=_ from e);rw[<- e2,WS e1];rfl
 | .non::_,_,e|.int _::_,_,e|.str _::_,_,e|.tup _::_,_,e|.lst _::_,_,e|.fz _::_,_,e|.row _::_,_,e=>by cases e
noncomputable def Ux:List Sl->Option Sl
 | [.sh (.str x)]=>if x.length<=sizeLine then some (.sh (.int x.length)) else none
 | [s]=>s.q.map fun ds=>.sh (.int ds.length)
 | _=>none
noncomputable def W3:List Sl->Option Sl
 | [s]=>s.q.map fun ds=>.own ds
 | _=>none
noncomputable def W4:List Sl->Option Sl
 | [s]=>s.q.bind fun ds=>(ints? ds).map fun ns=>.sh (.int ns.sum)
 | _=>none
noncomputable def Jih:List Sl->Option Sl
 | [s]=>s.q.bind fun ds=>(bls? ds).map fun ns=>.sh (.bl (ns.any id))
 | _=>none
noncomputable def Jil:List Sl->Option Sl
 | [.sh (.int a),.sh (.int b)]=>some (.sh (.int (max a b)))
 | _=>none
noncomputable def JeQ:List Sl->Option Sl
 | [.sh (.int a),.sh (.int b)]=>some (.sh (.int (min a b)))
 | _=>none
section
variable{K:Frag}{C:Addr}{Hs H0 H:Hp}
theorem RRL.one{vs:List V}{s:Sl}(r:RRL K C Hs H0 H vs [s]):∃v,vs=[v]/\RR K C Hs H0 H v s:=by
 cases r with
 | cons h t=>cases t;exact⟨_,rfl,h⟩
theorem RRL.two{vs:List V}{s t:Sl}(r:RRL K C Hs H0 H vs [s,t]):∃v w,vs=[v,w]/\RR K C Hs H0 H v s/\RR K C Hs H0 H w t:=by
 cases r with
 | cons h r=>cases r with
  | cons h' r=>cases r;exact⟨_,_,rfl,h,h'⟩
theorem UZ:Vo K C (Jc2 K) Ux:=by
 intro Hs H0 H xs as c Q i hs r e q;unfold Ux at e;split at e
 ·split at e
  ·cases e;obtain⟨v,rfl,r0⟩:=r.one;rw[RD.strI r0];exact Ji8 (by assumption) (q _ _ _ (.refl i) (RD.int _))
  ·cases e
 ·obtain⟨v,rfl,r0⟩:=r.one;obtain⟨ds,e1,rfl⟩:=map_some e;obtain⟨l,xs,rfl,h,r1⟩:=r0.q i e1;have z:=q (.int ds.length) _ _ (.refl i) (RD.int _);rw[<- r1.1] at z;exact Jb4 h z
 ·cases e
theorem JfF:Vo K C (Ja3 K) W3:=by
 intro Hs H0 H xs as c Q i hs r e q;unfold W3 at e;split at e
 ·obtain⟨v,rfl,r0⟩:=r.one;obtain⟨ds,e1,rfl⟩:=map_some e;obtain⟨l,ys,rfl,h,r1⟩:=r0.q i e1;exact⟨l,ys,rfl,h,fun p hp=>UC i hs hp r1 q⟩
 ·cases e
theorem WV:Vo K C (JlL K) W4:=by
 intro Hs H0 H xs as c Q i hs r e q;unfold W4 at e;split at e
 ·obtain⟨v,rfl,r0⟩:=r.one;obtain⟨ds,e1,e⟩:=bind_some e;obtain⟨ns,e2,rfl⟩:=map_some e;obtain⟨l,ys,rfl,h,r1⟩:=r0.q i e1;rw[Vk e2] at r1;have:=r1.ints;subst this;exact⟨l,ns,rfl,h,q _ _ _ (.refl i) (RD.int _)⟩
 ·cases e
theorem JmL:Vo K C (JlH K) Jih:=by
 intro Hs H0 H xs as c Q i hs r e q;unfold Jih at e;split at e
 ·obtain⟨v,rfl,r0⟩:=r.one;obtain⟨ds,e1,e⟩:=bind_some e;obtain⟨ns,e2,rfl⟩:=map_some e;obtain⟨l,ys,rfl,h,r1⟩:=r0.q i e1;rw[WS e2] at r1;have:=r1.bls;subst this;exact⟨l,ns,rfl,h,q _ _ _ (.refl i) (RD.bl _)⟩
 ·cases e
theorem JmN:Vo K C JlI Jil:=by
 intro Hs H0 H xs as c Q i hs r e q;unfold Jil at e;split at e
 ·cases e;obtain⟨v,w,rfl,r1,r2⟩:=r.two;rw[RD.intI r1,RD.intI r2];exact Jg7 (q _ _ _ (.refl i) (RD.int _))
 ·cases e
theorem JjN:Vo K C JlJ JeQ:=by
 intro Hs H0 H xs as c Q i hs r e q;unfold JeQ at e;split at e
 ·cases e;obtain⟨v,w,rfl,r1,r2⟩:=r.two;rw[RD.intI r1,RD.intI r2];exact Jg8 (q _ _ _ (.refl i) (RD.int _))
 ·cases e
end

noncomputable def Jms:Sl->Option Bool
 | .sh .non=>some false
 | .sh (.bl b)=>some b
 | .sh (.int i)=>some (i != 0)
 | .sh (.str y)=>if y.length<=sizeLine then some ((y.length:Int) != 0) else none
 | s=>s.q.map fun ds=>!ds.isEmpty
noncomputable def tTru?(a:Ev):En->Option Bool:=fun E=>(a E).bind Jms
noncomputable def tyN:D->Option String
 | .non=>some "NoneType"
 | .bl _=>some "bool"
 | .int _=>some "int"
 | .str _=>some "str"
 | .tup _=>some "tuple"
 | .lst _=>some "list"
 | .fz _=>some "list"
 | .row _=>none
 | .dct _ _=>none
 | .dfz _ _=>none
 | .exc _=>none
noncomputable def JbH(t n:String):Bool:=t == n || (t == "bool" && n == "int")
noncomputable def JeL(n:String)(a:Ev):Ev:=fun E=>(a E).bind fun s=>s.d.bind fun d=>(tyN d).map fun t=>.sh (.bl (JbH t n))
noncomputable def D.isRow:D->Bool
 | .row _=>true
 | _=>false
noncomputable def JfS(a:Ev):Ev:=fun E=>(a E).bind fun s=>s.d.bind fun d=>if d.isRow=true then some (.sh (.bl true)) else none
section
variable{K:Frag}{C:Addr}{Hs H0 H:Hp}{te:TE}{ea:Ev}
theorem RDL.empty{xs:List V}{ds:List D}(r:RDL K C H xs ds):xs.isEmpty=ds.isEmpty:=by cases xs <;> cases ds <;> first|rfl|(have:=r.1;simp at this)
theorem Va(ha:SE K C te ea):ST K C (JjB K te) (tTru? ea):=by
 intro B H0 H σ E k Q I e q;obtain⟨a,e1,e⟩:=bind_some e;refine ha B H0 H σ E a _ I e1 fun x H1 H1' s1 r1=>?_
 have seq:∀{a:Sl},RR K C H H1 H1' x a->a.q.map (fun ds=>!ds.isEmpty)=some k->∃k',Jeu K x H1' k'/\Q k' H1':=fun {a} r1 e=>by
  obtain⟨ds,e2,rfl⟩:=map_some e;obtain⟨l,xs,rfl,h,r⟩:=r1.q s1.i e2;have z:=q _ _ s1;rw[<- r.empty] at z;rcases h with h|h
  ·exact⟨_,.inl ⟨xs,h,rfl⟩,z⟩
  ·exact⟨_,.inr (.inl ⟨xs,h,rfl⟩),z⟩
 unfold Jms at e;split at e
 ·cases e;rw[RD.nonI r1];exact⟨_,rfl,q _ _ s1⟩
 ·cases e;rw[RD.blI r1];exact⟨_,rfl,q _ _ s1⟩
 ·cases e;rw[RD.intI r1];exact⟨_,rfl,q _ _ s1⟩
 ·split at e
  ·cases e;rw[RD.strI r1];exact⟨_,⟨by assumption,rfl⟩,q _ _ s1⟩
  ·cases e
 ·exact seq r1 e
theorem RD.ty{x:V}{d:D}{t:String}(r:RD K C H x d)(e:tyN d=some t):TyS K H x (.type t):=by
 cases r with
 | non=>cases e;exact .of .non
 | bl b=>cases e;exact .of (.bl b)
 | int i=>cases e;exact .of (.int i)
 | str i=>cases e;exact .of (.str i)
 | tup h _ _=>cases e;exact .sqT h
 | lst h _ _=>cases e;exact .sqL (.of h)
 | fz h _ _=>cases e;exact .sqL h
 | row _ _ _ _=>cases e
 | dct _ _ _ _=>cases e
 | dfz _ _ _ _=>cases e
 | exc _ _=>cases e
noncomputable def Jdj(K:Frag)(n:String):Prop:=∀t∈["NoneType","bool","int","str","tuple","list"],kitOne K (.type t) (.type n)=some (JbH t n)
theorem JjF{d:D}{t:String}(e:tyN d=some t):t∈["NoneType","bool","int","str","tuple","list"]:=by cases d <;> cases e <;> simp
theorem Jeg{n:String}(hk:Jdj K n)(ha:SE K C te ea):SE K C (tCB (Jfk K) (Ub te (Ub (tC (.ty n)) Wp))) (JeL n ea):=by
 intro B H0 H σ E c Q I e q;obtain⟨a,e1,e⟩:=bind_some e;obtain⟨d,e2,e⟩:=bind_some e;obtain⟨t,e3,rfl⟩:=map_some e;refine ha B H0 H σ E a _ I e1 fun x H1 H1' s1 r1=>?_
 exact JlU (RD.ty (r1.dat s1.i e2) e3) (hk t (JjF e3)) (q _ _ _ s1 (RD.bl _))
end
theorem Jiw{K:Frag}:Jdj K "int":=fun t ht=>by simp only[List.mem_cons,List.mem_nil_iff,or_false] at ht;rcases ht with rfl | rfl | rfl | rfl | rfl | rfl <;> kernel_rfl
theorem Jgg{K:Frag}:Jdj K "bool":=fun t ht=>by simp only[List.mem_cons,List.mem_nil_iff,or_false] at ht;rcases ht with rfl | rfl | rfl | rfl | rfl | rfl <;> kernel_rfl
theorem Jab{K:Frag}:Jdj K "tuple":=fun t ht=>by simp only[List.mem_cons,List.mem_nil_iff,or_false] at ht;rcases ht with rfl | rfl | rfl | rfl | rfl | rfl <;> kernel_rfl
end LE

namespace LE
open PySem L2 LR

mutual
inductive Pt where
 | nm (i:Nat)
 | tp (l:Pts)
inductive Pts where
 | nil
 | cons (p:Pt) (l:Pts)
end
mutual
noncomputable def Pt.bind:Pt->D->En->Option En
 | .nm i,d,E=>if i<E.length then some (E.set i (.sh d)) else none
 | .tp l,.tup ds,E=>l.bind ds E
 | .tp _,_,_=>none
noncomputable def Pts.bind:Pts->List D->En->Option En
 | .nil,[],E=>some E
 | .cons p l,d::ds,E=>(p.bind d E).bind fun E'=>l.bind ds E'
 | _,_,_=>none
end
mutual
noncomputable def Pt.slots:Pt->List Nat
 | .nm i=>[i]
 | .tp l=>l.slots
noncomputable def Pts.slots:Pts->List Nat
 | .nil=>[]
 | .cons p l=>p.slots++l.slots
end
mutual
theorem Pt.keep:∀{p:Pt} {d:D} {E E':En},p.bind d E=some E'->E'.length=E.length/\∀i,i∉p.slots->E'[i]?=E[i]?
 | .nm i,d,E,E',e=>by
  unfold Pt.bind at e;split at e
  ·cases e;refine⟨by simp,fun j hj=>?_⟩;rw[List.getElem?_set,if_neg];intro z;exact hj (by simp[Pt.slots,z])
  ·cases e
 | .tp l,d,E,E',e=>by
  cases d with
  | tup ds=>exact Pts.keep (p:=l) (ds:=ds) (by simpa [Pt.bind] using e)
  | _=>simp[Pt.bind] at e
theorem Pts.keep:∀{p:Pts} {ds:List D} {E E':En},p.bind ds E=some E'->E'.length=E.length/\∀i,i∉p.slots->E'[i]?=E[i]?
 | .nil,[],E,E',e=>by simp[Pts.bind] at e;subst e;exact⟨rfl,fun _ _=>rfl⟩
 | .nil,_::_,_,_,e=>by simp[Pts.bind] at e
 | .cons _ _,[],_,_,e=>by simp[Pts.bind] at e
 | .cons p l,d::ds,E,E',e=>by rw[Pts.bind] at e;obtain⟨E1,e1,e2⟩:=bind_some e;obtain⟨h1,h2⟩:=Pt.keep e1;obtain⟨h3,h4⟩:=Pts.keep e2;refine⟨h3.trans h1,fun i hi=>?_⟩;simp[Pts.slots] at hi;rw[h4 i hi.2,h2 i hi.1]
end
section
variable(K:Frag)(C:Addr)
noncomputable def SG(g:TG)(p:Pt):Prop:=∀(B H0 H:Hp) (σ:St) (E E':En) (x:V) (d:D) (Q:St->Hp->Prop),EnvR K C B H0 H σ E->RD K C H0 x d->p.bind d E=some E'->(∀σ',EnvR K C B H0 H σ' E'->Q σ' H)->g x σ H Q
noncomputable def SGs(g:TGs)(p:Pts):Prop:=∀(B H0 H:Hp) (σ:St) (E E':En) (xs:List V) (ds:List D) (Q:St->Hp->Prop),EnvR K C B H0 H σ E->RDL K C H0 xs ds->p.bind ds E=some E'->(∀σ',EnvR K C B H0 H σ' E'->Q σ' H)->g xs σ H Q
end
section
variable{K:Frag}{C:Addr}
theorem EnvR.setSh{B H0 H:Hp}{σ:St}{E:En}{i:Nat}{v:V}{d:D}(I:EnvR K C B H0 H σ E)(hi:i<E.length)(r:RD K C H0 v d):EnvR K C B H0 H (σ.set i (some v)) (E.set i (.sh d)) :=
 I.put' (s:=.sh d) (.refl I.h) hi r rfl
theorem Yi(i:Nat):SG K C (U4 i) (.nm i):=by
 intro B H0 H σ E E' x d Q I r e q;rw[Pt.bind] at e;split at e
 ·cases e;exact q _ (I.setSh (by assumption) r)
 ·cases e
theorem Uh:SGs K C JkI .nil:=by
 intro B H0 H σ E E' xs ds Q I r e q
 cases ds with
 | nil =>
  cases xs with
  | nil=>rw[Pts.bind] at e;cases e;exact⟨rfl,q σ I⟩
  | cons _ _=>have:=r.1;simp at this
 | cons _ _=>simp[Pts.bind] at e
theorem JJ{g:TG}{gs:TGs}{p:Pt}{ps:Pts}(h:SG K C g p)(hs:SGs K C gs ps):SGs K C (Jf8 g gs) (.cons p ps):=by
 intro B H0 H σ E E' xs ds Q I r e q
 cases ds with
 | nil=>simp[Pts.bind] at e
 | cons d ds =>
  cases xs with
  | nil=>have:=r.1;simp at this
  | cons x xs=>rw[Pts.bind] at e;obtain⟨E1,e1,e2⟩:=bind_some e;exact⟨x,xs,rfl,h B H0 H σ E E1 x d _ I r.head e1 fun σ1 I1=>hs B H0 H σ1 E1 E' xs ds Q I1 r.tail e2 q⟩
theorem JnT{n:Nat}{gs:TGs}{ps:Pts}(hn:∀(ds:List D) (E E':En),ps.bind ds E=some E'->ds.length=n)(hs:SGs K C gs ps):SG K C (Jf9 K n gs) (.tp ps):=by
 intro B H0 H σ E E' x d Q I r e q
 cases d with
 | tup ds=>rw[Pt.bind] at e;obtain⟨a,xs,rfl,h,r⟩:=RD.tupI r;exact⟨a,xs,rfl,I.h.seqT h,by rw[r.1];exact hn ds E E' e,hs B H0 H σ E E' xs ds Q I r e q⟩
 | _=>simp[Pt.bind] at e
noncomputable def Pts.len:Pts->Nat
 | .nil=>0
 | .cons _ l=>l.len+1
theorem Pts.bind_len:∀{ps:Pts} {ds:List D} {E E':En},ps.bind ds E=some E'->ds.length=ps.len
 | .nil,[],_,_,_=>rfl
 | .nil,_::_,_,_,e=>by simp[Pts.bind] at e
 | .cons _ _,[],_,_,e=>by simp[Pts.bind] at e
 | .cons p l,d::ds,E,E',e=>by rw[Pts.bind] at e;obtain⟨E1,e1,e2⟩:=bind_some e;rw[List.length_cons,Pts.bind_len e2];rfl
theorem Ui{n:Nat}{gs:TGs}{ps:Pts}(hs:SGs K C gs ps)(hn:ps.len=n):SG K C (Jf9 K n gs) (.tp ps):=JnT (fun _ _ _ e=>(Pts.bind_len e).trans hn) hs
end

section
variable(K:Frag)(C:Addr)
noncomputable def JhI(A:Hp)(J:It)(ds:List D)(H0:Hp):Prop:=∀H0' H',SStep A H0 H0' H'->(∀(i:Nat) (d:D),ds[i]?=some d->J.go i H'/\∀x H2,J.yld i H' x H2->∃H02,Step H' H0' H' H02 H2/\RD K C H02 x d)/\J.stop ds.length H'
noncomputable def SI(m:Bool)(wi:TI)(ev:En->Option (List D)):Prop:=∀(B H0 H:Hp) (σ:St) (E:En) (ds:List D) (R:It->Hp->Prop),EnvR K C B H0 H σ E->ev E=some ds ->
 (∀J H0' H',Step H H0 H H0' H'->JhI K C (if m=true then H' else B) J ds H0'->R J H')->wi σ H R
end
noncomputable def Sl.it(m:Bool):Sl->Option (List D)
 | .bo ds=>if m=true then some ds else none
 | s=>s.q
noncomputable def iE(m:Bool)(a:Ev):En->Option (List D):=fun E=>(a E).bind (Sl.it m)
noncomputable def iV(i:Nat):En->Option (List D):=fun E=>match E[i]? with
 | some (.bo ds)=>some ds
 | some (.sh d)=>(Sl.sh d).q
 | _=>none
noncomputable def rng(lo:Int)(n:Nat):List D:=(List.range n).map fun(i:Nat)=>.int (lo+(i:Int))
noncomputable def Wb(a:Int):Bool:=Nat.ble a.natAbs 4611686018427387903
noncomputable def iR1(as:En->Option (List Sl)):En->Option (List D):=fun E=>(as E).bind fun ss=>match ss with
 | [.sh (.int n)]=>if Wb n=true then some (rng 0 n.toNat) else none
 | _=>none
noncomputable def iR2(as:En->Option (List Sl)):En->Option (List D):=fun E=>(as E).bind fun ss=>match ss with
 | [.sh (.int a),.sh (.int b)]=>if (Wb a && Wb b)=true then some (rng a (b-a).toNat) else none
 | _=>none
section
variable{K:Frag}{C:Addr}{te:TE}{ea:Ev}{m:Bool}
theorem VQ{A H0:Hp}{a:Addr}{xs:List V}{ds:List D}(hd:∀H0' H',SStep A H0 H0' H'->SqL K H' a xs)(r:RDL K C H0 xs ds):JhI K C A (Itl K a) ds H0:=by intro H0' H' st;have hq:=hd H0' H' st;refine⟨fun i d e=>?_,⟨xs,hq,by rw[r.1];exact Nat.le_refl _⟩⟩;obtain⟨x,e1,r1⟩:=r.get e;refine⟨⟨xs,x,hq,e1⟩,fun y H2 ⟨e2,e3⟩=>?_⟩;subst e2;have:=e3 xs hq;rw[e1] at this;cases this;exact⟨H0',.refl st.i,r1.mono st.z⟩
theorem JkS{A H0:Hp}{a:Addr}{xs:List V}{ds:List D}(hd:∀H0' H',SStep A H0 H0' H'->SqT K H' a xs)(r:RDL K C H0 xs ds):JhI K C A (Itt K a) ds H0:=by intro H0' H' st;have hq:=hd H0' H' st;refine⟨fun i d e=>?_,⟨xs,hq,by rw[r.1];exact Nat.le_refl _⟩⟩;obtain⟨x,e1,r1⟩:=r.get e;refine⟨⟨xs,x,hq,e1⟩,fun y H2 ⟨e2,e3⟩=>?_⟩;subst e2;have:=e3 xs hq;rw[e1] at this;cases this;exact⟨H0',.refl st.i,r1.mono st.z⟩
theorem Ja6(ha:SE K C te ea):SI K C m (JeW K te) (iE m ea):=by
 intro B H0 H σ E ds R I e q;obtain⟨s,e1,e⟩:=bind_some e
 cases s with
 | no=>cases e
 | bd _ _=>cases e
 | bt _ _=>cases e
 | od _ _=>cases e
 | ot _ _=>cases e
 | bo es =>
  unfold Sl.it at e;dsimp only at e;split at e
  ·next hm=>cases e;refine .inl (ha B H0 H σ E _ _ I e1 fun x H1 H1' s1 r1=>?_);obtain⟨l,xs,rfl,h,r⟩:=r1;refine⟨l,rfl,⟨xs,.of h⟩,q _ _ _ s1 ?_⟩;rw[if_pos hm];exact VQ (fun H0' H' st=>.of (st.b _ _ h)) r
  ·cases e
 | own es=>cases (show some es=some ds from e);refine .inl (ha B H0 H σ E _ _ I e1 fun x H1 H1' s1 r1=>?_);have f:=JT (Hs:=H) s1.i;have r2:=RR.frz s1.i r1 rfl;obtain⟨l,xs,rfl,h,r⟩:=RD.lstI r2;exact⟨l,rfl,⟨xs,.of (f.i _ _ h)⟩,q _ _ _ (s1.comp f fun _ z=>z) (VQ (fun H0' H' st=>.of (st.i _ _ (st.z _ _ h))) r)⟩
 | sh d =>
  cases d with
  | lst es=>cases (show some es=some ds from e);refine .inl (ha B H0 H σ E _ _ I e1 fun x H1 H1' s1 r1=>?_);obtain⟨l,xs,rfl,h,r⟩:=RD.lstI r1;exact⟨l,rfl,⟨xs,.of (s1.i _ _ h)⟩,q _ _ _ s1 (VQ (fun H0' H' st=>.of (st.i _ _ (st.z _ _ h))) r)⟩
  | fz es=>cases (show some es=some ds from e);refine .inl (ha B H0 H σ E _ _ I e1 fun x H1 H1' s1 r1=>?_);obtain⟨l,xs,rfl,h,r⟩:=RD.fzI r1;exact⟨l,rfl,⟨xs,s1.i.seq h⟩,q _ _ _ s1 (VQ (fun H0' H' st=>(st.z.trans st.i).seq h) r)⟩
  | tup es=>cases (show some es=some ds from e);refine .inr (ha B H0 H σ E _ _ I e1 fun x H1 H1' s1 r1=>?_);obtain⟨l,xs,rfl,h,r⟩:=RD.tupI r1;exact⟨l,rfl,⟨xs,s1.i.seqT h⟩,q _ _ _ s1 (JkS (fun H0' H' st=>(st.z.trans st.i).seqT h) r)⟩
  | _=>cases (show none=some ds from e)
theorem Jjl(i:Nat):SI K C false (JeW K (WC i)) (iV i):=by
 intro B H0 H σ E ds R I e q;unfold iV at e;split at e
 ·next es h =>
  cases e;rcases I.at' i _ h with z|⟨v,h1,h2⟩
  ·cases z
  ·obtain⟨l,xs,rfl,hl,r⟩:=h2;refine .inl ⟨_,h1,l,rfl,⟨xs,.of (I.b _ _ hl)⟩,q _ _ _ (.refl I.h) (VQ (fun H0' H' st=>.of (st.b _ _ hl)) r)⟩
 ·next d h=>refine Ja6 (m:=false) (ea:=Jc i) (Jb i) B H0 H σ E ds R I ?_ q;show(Jc i E).bind _=_;unfold Jc;rw[h];exact e
 ·cases e
theorem Jjg{lo:Int}{n i:Nat}{d:D}(e:(rng lo n)[i]?=some d):i<n/\d=.int (lo+(i:Int)):=by
 unfold rng at e;rw[List.getElem?_map] at e
 cases h:(List.range n)[i]? with
 | none=>rw[h] at e;cases e
 | some j=>rw[h] at e;cases e;obtain⟨h1,h2⟩:=List.getElem?_eq_some_iff.mp h;simp at h1 h2;subst h2;exact⟨h1,rfl⟩
theorem Jgf{A H0:Hp}{lo:Int}{n:Nat}:JhI K C A (Itr lo n) (rng lo n) H0:=by intro H0' H' st;refine⟨fun i d e=>?_,by show n<=_;simp[rng]⟩;obtain⟨h1,rfl⟩:=Jjg e;refine⟨h1,fun x H2 ⟨e1,e2⟩=>?_⟩;subst e1 e2;exact⟨H0',.refl st.i,.int _⟩
theorem UV{a:Int}(h:Wb a=true):-(2 ^ 62)<=a/\a<2 ^ 62:=by unfold Wb at h;rw[Nat.ble_eq] at h;omega
theorem Jb6{t:TA}{ev:En->Option (List Sl)}(ha:SA K C t ev):SI K C m (JjT t) (iR1 ev):=by
 intro B H0 H σ E ds R I e q;obtain⟨ss,e1,e⟩:=bind_some e;split at e
 ·split at e
  ·next hn =>
   cases e;refine ha B H0 H σ E _ _ I e1 fun vs H1 H1' s1 r1=>?_
   obtain⟨v,rfl,r⟩:=r1.one;rw[RD.intI r];exact⟨_,rfl,(UV hn).1,(UV hn).2,q _ _ _ s1 Jgf⟩
  ·cases e
 ·cases e
theorem Jj4{t:TA}{ev:En->Option (List Sl)}(ha:SA K C t ev):SI K C m (JjU t) (iR2 ev):=by
 intro B H0 H σ E ds R I e q;obtain⟨ss,e1,e⟩:=bind_some e;split at e
 ·split at e
  ·next hn =>
   cases e;rw[Bool.and_eq_true] at hn;refine ha B H0 H σ E _ _ I e1 fun vs H1 H1' s1 r1=>?_
   obtain⟨v,w,rfl,r,r'⟩:=r1.two;rw[RD.intI r,RD.intI r'];exact⟨_,_,rfl,⟨(UV hn.1).1,(UV hn.1).2,(UV hn.2).1,(UV hn.2).2⟩,q _ _ _ s1 Jgf⟩
  ·cases e
 ·cases e
end

noncomputable def yes?:En->Option Bool:=fun _=>some true
noncomputable def VO(imp:List (Option Nat))(E:En):En:=imp.map fun o=>match o with
 | none=>.no
 | some k=>match E[k]? with
  | some (.own ds)=>.bo ds
  | some (.od ks ds)=>.bd ks ds
  | some (.ot ks ds)=>.bt ks ds
  | some s=>s
  | none=>.no
noncomputable def VJ(p:Pt)(c:En->Option Bool)(a:Ev)(E1:En):List D->Option (List D)
 | []=>some []
 | d::ds=>(p.bind d E1).bind fun E2=>(c E2).bind fun k=>if k=true then(a E2).bind fun s=>s.frz.bind fun y=>(VJ p c a E1 ds).bind fun ys=>some (y::ys) else VJ p c a E1 ds
noncomputable def Uw(it:En->Option (List D))(p:Pt)(c:En->Option Bool)(a:Ev)(imp:List (Option Nat)):Ev:=fun E=>(it E).bind fun ds=>if ds.length<=sizeLine then(VJ p c a (VO imp E) ds).map .own else none
section
variable{K:Frag}{C:Addr}
theorem U1:ST K C Jmq yes?:=fun _ _ _ _ _ _ _ I e q=>by cases e;exact q _ _ (.refl I.h)
theorem Jh1{B H0 H:Hp}{σ:St}{E:En}{imp:List (Option Nat)}(I:EnvR K C B H0 H σ E):EnvR K C H H0 H (W8 imp σ) (VO imp E):=by
 have get:∀(i:Nat) (s:Sl),(VO imp E)[i]?=some s->s=.no\/∃v,(W8 imp σ)[i]?=some (some v)/\RSl K C H H0 H v s/\JU s=false:=fun i s e=>by
  unfold VO at e;unfold W8;rw[List.getElem?_map] at e ⊢
  cases h:imp[i]? with
  | none=>rw[h] at e;cases e
  | some o =>
   rw[h] at e
   cases o with
   | none=>cases e;exact .inl rfl
   | some k =>
    have e':(match E[k]? with|some (.own ds)=>Sl.bo ds|some (.od ks ds)=>Sl.bd ks ds|some (.ot ks ds)=>Sl.bt ks ds|some s=>s|none=>.no)=s:=Option.some.inj e
    cases hE:E[k]? with
    | none=>rw[hE] at e';exact .inl e'.symm
    | some s' =>
     rw[hE] at e';rcases I.at' k s' hE with z|⟨v,h1,h2⟩
     ·subst z;exact .inl e'.symm
     ·have g:(σ[k]?).join=some v:=by rw[h1];rfl
      cases s' with
      | no=>exact .inl e'.symm
      | sh d=>dsimp only at e';subst e';exact .inr ⟨v,by show some ((σ[k]?).join)=_;rw[g],h2,rfl⟩
      | bo ds=>dsimp only at e';subst e';obtain⟨l,xs,q1,q2,q3⟩:=h2;exact .inr ⟨v,by show some ((σ[k]?).join)=_;rw[g],⟨l,xs,q1,I.b _ _ q2,q3⟩,rfl⟩
      | own ds=>dsimp only at e';subst e';obtain⟨l,xs,q1,q2,_,_,q3⟩:=h2;exact .inr ⟨v,by show some ((σ[k]?).join)=_;rw[g],⟨l,xs,q1,q2,q3⟩,rfl⟩
      | bd ks ds=>dsimp only at e';subst e';obtain⟨l,xs,q1,q2,q3⟩:=h2;exact .inr ⟨v,by show some ((σ[k]?).join)=_;rw[g],⟨l,xs,q1,I.b _ _ q2,q3⟩,rfl⟩
      | bt ks ds=>dsimp only at e';subst e';obtain⟨l,xs,q1,q2,q3⟩:=h2;exact .inr ⟨v,by show some ((σ[k]?).join)=_;rw[g],⟨l,xs,q1,I.b _ _ q2,q3⟩,rfl⟩
      | od ks ds=>dsimp only at e';subst e';obtain⟨l,xs,q1,q2,_,_,q3⟩:=h2;exact .inr ⟨v,by show some ((σ[k]?).join)=_;rw[g],⟨l,xs,q1,q2,q3⟩,rfl⟩
      | ot ks ds=>dsimp only at e';subst e';obtain⟨l,xs,q1,q2,_,_,q3⟩:=h2;exact .inr ⟨v,by show some ((σ[k]?).join)=_;rw[g],⟨l,xs,q1,q2,q3⟩,rfl⟩
 refine⟨Same.refl _,I.h,by simp[W8,VO],fun i s e=>?_,fun i j s t v hij e1 e2 o1 o2=>?_⟩
 ·rcases get i s e with z|⟨v,h1,h2,_⟩
  ·exact .inl z
  ·exact .inr ⟨v,h1,h2⟩
 ·rcases get i _ e1 with z|⟨v,h1,h2,h3⟩
  ·subst z;cases o1
  ·rw[h3] at o1;cases o1
theorem Ug{wi:TI}{g:TG}{tt:TT}{te:TE}{imp:List (Option Nat)}{it:En->Option (List D)}{p:Pt}{c:En->Option Bool}{a:Ev}(hi:SI K C true wi it)(hg:SG K C g p)(hc:ST K C tt c)(ha:SE K C te a)
 (hp:(p.slots.all fun i=>match imp[i]? with|some none=>true|_=>false)=true):SE K C (Jek wi g tt te imp) (Uw it p c a imp):=by
 intro B H0 H σ E r Q I e q;obtain⟨ds,e1,e⟩:=bind_some e;split at e
 ·next hl =>
  obtain⟨es,e2,rfl⟩:=map_some e;refine hi B H0 H σ E ds _ I e1 fun J H1 H1' s1 ok=>?_
  rw[if_pos rfl] at ok;have I1:EnvR K C H1' H1 H1' (W8 imp σ) (VO imp E):=Jh1 (I.step s1)
  -- the loop: what was gathered,what comes
  refine⟨fun i m ys σ' H'=>m=ds.length-i/\i<=ds.length/\∃H0' gs rs,EnvR K C H1' H0' H' σ' (VO imp E)/\Step H1' H1 H1' H0' H'/\RDL K C H0' ys gs/\VJ p c a (VO imp E) (ds.drop i)=some rs/\es=gs++rs/\gs.length<=i,
   ⟨ds.length,by simp,Nat.zero_le _,H1,[],es,I1,.refl s1.i,.nil,e2,rfl,Nat.le_refl _⟩,?_⟩
  rintro i m ys σ' H' ⟨rfl,hi',H0',gs,rs,I',st,rys,er,ees,hgl⟩;have stop:=ok H0' H' ⟨st.h,st.z,st.n,st.i⟩
  by_cases hlt:i<ds.length
  ·have hd:ds[i]?=some ds[i]:=by simp[hlt]
   obtain⟨go,yl⟩:=stop.1 i _ hd;refine .inr ⟨go,by rw[rys.1];omega,fun ys' σ2 H2=>∃H02 gs rs,EnvR K C H1' H02 H2 σ2 (VO imp E)/\Step H1' H1 H1' H02 H2/\RDL K C H02 ys' gs/\VJ p c a (VO imp E) (ds.drop (i+1))=some rs/\es=gs++rs/\gs.length<=i+1,
    fun ys' σ2 H2 h=>⟨ds.length-(i+1),by omega,rfl,hlt,h⟩,fun x H2 y=>?_⟩
   obtain⟨H02,st2,rx⟩:=yl x H2 y;rw[List.drop_eq_getElem_cons hlt,VJ] at er;obtain⟨E2,b1,er⟩:=bind_some er;obtain⟨k,b2,er⟩:=bind_some er;refine hg H1' H02 H2 σ' (VO imp E) E2 x _ _ (I'.step st2) rx b1 fun σ2 I2=>?_
   have back:∀{H03 H3:Hp},EnvR K C H1' H03 H3 σ2 E2->EnvR K C H1' H03 H3 σ2 (VO imp E):=fun {H03 H3} J=>by
    obtain⟨k1,k2⟩:=Pt.keep b1;refine J.sub k1.symm fun j s ej=>?_
    by_cases hj:j∈p.slots
    ·have:=List.all_eq_true.mp hp j hj
     have ej':=ej;unfold VO at ej';rw[List.getElem?_map] at ej'
     cases hm:imp[j]? with
     | none=>rw[hm] at this;cases this
     | some o =>
      rw[hm] at this ej'
      cases o with
      | none=>cases ej';exact .inl rfl
      | some _=>cases this
    ·exact .inr (by rw[k2 j hj];exact ej)
   refine hc H1' H02 H2 σ2 E2 k _ I2 b2 fun H03 H3 st3=>?_
   have st13:Step H1' H1 H1' H03 H3:=(st.trans st2).trans st3
   cases k with
   | false=>rw[if_neg (by simp)];rw[if_neg (by simp)] at er;exact⟨H03,gs,rs,back (I2.step st3),st13,rys.mono (st2.z.trans st3.z),er,ees,by omega⟩
   | true =>
    rw[if_pos rfl];rw[if_pos rfl] at er;obtain⟨s,b3,er⟩:=bind_some er;obtain⟨y',b4,er⟩:=bind_some er;obtain⟨ws,b5,er⟩:=bind_some er;cases er;refine ha H1' H03 H3 σ2 E2 s _ (I2.step st3) b3 fun v H04 H4 st4 r4=>?_
    have f:=JT (Hs:=H3) st4.i
    have st5:Step H3 H03 H3 (YD H3 H04 H4) H4:=st4.comp f fun _ z=>z
    exact⟨_,gs++[y'],ws,back ((I2.step st3).step st5),st13.trans st5,(rys.mono ((st2.z.trans st3.z).trans st5.z)).snoc (RR.frz st4.i r4 b4),b5,by rw[ees,List.append_assoc];rfl,by rw[List.length_append];simp;exact hgl⟩
  ·have e3:i=ds.length:=by omega
   subst e3;refine .inl ⟨stop.2,by rw[rys.1];omega,fun p hp=>?_⟩;rw[List.drop_length,VJ] at er;cases er;rw[List.append_nil] at ees;subst ees;exact UC (Hs:=H) st.i (s1.h.trans st.h) hp rys fun v H2 H2' s2 r2=>q v H2 H2' ((s1.trans st).comp s2 fun _ z=>z) r2
 ·cases e
end
end LE

namespace LE
open PySem L2 LR

inductive Out where
 | nx (E:En)|rt (r:Sl)|bk (E:En)|ct (E:En)
noncomputable abbrev Es:=En->Option Out
section
variable(K:Frag)(C:Addr)
noncomputable def Fin(B H0:Hp)(D:Ends):Out->Prop
 | .nx E=>∀σ' H0' H',SStep B H0 H0' H'->EnvR K C B H0' H' σ' E->D.nx σ' H'
 | .bk E=>∀σ' H0' H',SStep B H0 H0' H'->EnvR K C B H0' H' σ' E->D.bk σ' H'
 | .ct E=>∀σ' H0' H',SStep B H0 H0' H'->EnvR K C B H0' H' σ' E->D.ct σ' H'
 | .rt r=>∀v H0' H',SStep B H0 H0' H'->RR K C B H0' H' v r->D.rt v H'
noncomputable def SS(ts:TS)(ev:Es):Prop:=∀(B H0 H:Hp) (σ:St) (E:En) (o:Out) (D:Ends),EnvR K C B H0 H σ E->ev E=some o->Fin K C B H0 D o->ts D σ H
end
noncomputable def Yx:Es:=fun E=>some (.nx E)
noncomputable def Jc9(b:Es):Out->Option Out
 | .nx E=>b E
 | .rt r=>some (.rt r)
 | .bk E=>some (.bk E)
 | .ct E=>some (.ct E)
noncomputable def Jr(a b:Es):Es:=fun E=>(a E).bind (Jc9 b)
noncomputable def xIf(c:En->Option Bool)(a b:Es):Es:=fun E=>(c E).bind fun k=>if k=true then a E else b E
noncomputable def keep?:Sl->Option Sl
 | .sh d=>some (.sh d)
 | .own ds=>some (.own ds)
 | .od ks ds=>some (.od ks ds)
 | .ot ks ds=>some (.ot ks ds)
 | _=>none
noncomputable def V7(i:Nat)(a:Ev):Es:=fun E=>(a E).bind fun s=>(keep? s).bind fun s=>if i<E.length then some (.nx (E.set i s)) else none
noncomputable def Js(i:Nat)(a:Ev):Es:=fun E=>(a E).bind fun s=>s.frz.bind fun d=>if i<E.length then some (.nx (E.set i (.sh d))) else none
noncomputable def JjH(p:Pt)(a:Ev):Es:=fun E=>(a E).bind fun s=>s.frz.bind fun d=>(p.bind d E).map .nx
noncomputable def YU(a:Ev):Es:=fun E=>(a E).bind fun s=>(keep? s).map .rt
noncomputable def Ve(i:Nat):Es:=fun E=>match E[i]? with
 | some (.sh d)=>some (.rt (.sh d))
 | some (.own ds)=>some (.rt (.own ds))
 | some (.od ks ds)=>some (.rt (.od ks ds))
 | _=>none
noncomputable def Jdh:Es:=fun _=>none
noncomputable def Jbi(i:Nat)(a:Ev):Es:=fun E=>match E[i]? with
 | some (.own ds)=>(a E).bind fun s=>s.frz.bind fun d=>if ds.length<sizeLine then some (.nx (E.set i (.own (ds++[d])))) else none
 | _=>none
noncomputable def JhC(i:Nat)(a:Ev):Es:=fun E=>match E[i]? with
 | some (.own ds)=>(a E).bind fun s=>s.m.bind fun es=>if ds.length+es.length<=sizeLine then some (.nx (E.set i (.own (ds++es)))) else none
 | _=>none
noncomputable def VE(i:Nat)(k a:Ev):Es:=fun E=>match E[i]? with
 | some (.own ds)=>(a E).bind fun s=>s.frz.bind fun d=>(k E).bind fun t=>match t with
  | .sh (.int z)=>(ixN ds.length z).map fun j=>.nx (E.set i (.own (ds.set j d)))
  | _=>none
 | _=>none
noncomputable def JjJ(i j:Nat)(f:Sl->Option Sl):Es:=fun E=>match E[i]? with
 | some (.own ds)=>(ds[ds.length-1]?).bind fun d=>(f (.sh d)).bind fun s=>(sh? s).bind fun d'=>if j<E.length then some (.nx ((E.set i (.own ds.dropLast)).set j (.sh d'))) else none
 | _=>none
noncomputable def JhA(f:Int->Int->Int)(i:Nat)(a:Ev):Es:=fun E=>match E[i]? with
 | some (.sh (.int x))=>(a E).bind fun s=>match s with
  | .sh (.int y)=>some (.nx (E.set i (.sh (.int (f x y)))))
  | _=>none
 | _=>none
noncomputable def Jir(i:Nat)(E:En):En:=match E[i]? with
 | some (.own ds)=>E.set i (.sh (.lst ds))
 | some (.od ks ds)=>E.set i (.sh (.dct ks ds))
 | _=>E
noncomputable def JjI(i:Nat)(a:Es):Es:=fun E=>a (Jir i E)
noncomputable def Uc(p:Pt)(b:Es):List D->Es
 | [],E=>some (.nx E)
 | d::ds,E=>(p.bind d E).bind fun E1=>(b E1).bind fun o=>match o with
  | .nx E2=>Uc p b ds E2
  | .ct E2=>Uc p b ds E2
  | .bk E2=>some (.nx E2)
  | .rt r=>some (.rt r)
noncomputable def V6(it:En->Option (List D))(p:Pt)(b:Es):Es:=fun E=>(it E).bind fun ds=>Uc p b ds E
noncomputable def Uz(c:En->Option Bool)(b:Es):Nat->Es
 | 0,_=>none
 | n+1,E=>(c E).bind fun k=>if k=true then(b E).bind fun o=>match o with
  | .nx E2=>Uz c b n E2
  | .ct E2=>Uz c b n E2
  | .bk E2=>some (.nx E2)
  | .rt r=>some (.rt r)
  else some (.nx E)
section
variable{K:Frag}{C:Addr}{B H0 H H0' H':Hp}{σ:St}{E:En}{D:Ends}{o:Out}{te:TE}{ea:Ev}{t u:TS}{et eu:Es}
theorem Fin.step(st:SStep B H0 H0' H')(f:Fin K C B H0 D o):Fin K C B H0' D o:=by
 cases o with
 | nx E=>exact fun σ' H1 H1' s1 I=>f σ' H1 H1' (st.trans s1) I
 | bk E=>exact fun σ' H1 H1' s1 I=>f σ' H1 H1' (st.trans s1) I
 | ct E=>exact fun σ' H1 H1' s1 I=>f σ' H1 H1' (st.trans s1) I
 | rt r=>exact fun v H1 H1' s1 I=>f v H1 H1' (st.trans s1) I
theorem EnvR.ss(I:EnvR K C B H0 H σ E):SStep B H0 H0 H:=.refl I.b I.h
theorem YG:SS K C Jhn Yx:=fun _ _ _ _ _ _ _ I e f=>by cases e;exact f _ _ _ I.ss I
theorem Jp(ht:SS K C t et)(hu:SS K C u eu):SS K C (JjA t u) (Jr et eu):=by
 intro B H0 H σ E o D I e f;obtain⟨o1,e1,e⟩:=bind_some e;refine ht B H0 H σ E o1 _ I e1 ?_
 cases o1 with
 | nx E1=>exact fun σ1 H1 H1' s1 I1=>hu B H1 H1' σ1 E1 o D I1 e (f.step s1)
 | bk E1=>cases e;exact f
 | ct E1=>cases e;exact f
 | rt r=>cases e;exact f
theorem Vf{c:TT}{ec:En->Option Bool}(hc:ST K C c ec)(ht:SS K C t et)(hu:SS K C u eu):SS K C (Jjy c t u) (xIf ec et eu):=by
 intro B H0 H σ E o D I e f;obtain⟨k,e1,e⟩:=bind_some e;refine hc B H0 H σ E k _ I e1 fun H1 H1' s1=>?_
 cases k with
 | true=>rw[if_pos rfl];exact ht B H1 H1' σ E o D (I.step s1) e (f.step (s1.ss I.b))
 | false=>rw[if_neg (by simp)];exact hu B H1 H1' σ E o D (I.step s1) e (f.step (s1.ss I.b))
theorem Jaa{s r:Sl}(e:keep? s=some r):s=r/\JkR r=false:=by cases s <;> cases e <;> exact⟨rfl,rfl⟩
theorem Vg{i:Nat}(ha:SE K C te ea):SS K C (Jbc te (U4 i)) (V7 i ea):=by
 intro B H0 H σ E o D I e f;obtain⟨s,e1,e⟩:=bind_some e;obtain⟨s',e2,e⟩:=bind_some e;obtain⟨rfl,hb⟩:=Jaa e2;split at e
 ·cases e;exact ha B H0 H σ E _ _ I e1 fun v H1 H1' s1 r1=>f _ _ _ (s1.ss I.b) (I.put' s1 (by assumption) r1 hb)
 ·cases e
theorem JG{i:Nat}(ha:SE K C te ea):SS K C (Jbc te (U4 i)) (Js i ea):=by
 intro B H0 H σ E o D I e f;obtain⟨s,e1,e⟩:=bind_some e;obtain⟨d,e2,e⟩:=bind_some e;split at e
 ·cases e;refine ha B H0 H σ E _ _ I e1 fun v H1 H1' s1 r1=>?_
  have s2:Step H H0 H (YD H H1 H1') H1':=s1.comp (JT s1.i) fun _ z=>z
  exact f _ _ _ (s2.ss I.b) ((I.step s2).setSh (by assumption) (RR.frz s1.i r1 e2))
 ·cases e
theorem JnC{g:TG}{p:Pt}(ha:SE K C te ea)(hg:SG K C g p):SS K C (Jbc te g) (JjH p ea):=by
 intro B H0 H σ E o D I e f;obtain⟨s,e1,e⟩:=bind_some e;obtain⟨d,e2,e⟩:=bind_some e;obtain⟨E',e3,rfl⟩:=map_some e;refine ha B H0 H σ E _ _ I e1 fun v H1 H1' s1 r1=>?_
 have s2:Step H H0 H (YD H H1 H1') H1':=s1.comp (JT s1.i) fun _ z=>z
 exact hg B _ H1' σ E E' v d _ (I.step s2) (RR.frz s1.i r1 e2) e3 fun σ' I'=>f _ _ _ (s2.ss I.b) I'
theorem YC(ha:SE K C te ea):SS K C (Jjz te) (YU ea):=by intro B H0 H σ E o D I e f;obtain⟨s,e1,e⟩:=bind_some e;obtain⟨s',e2,rfl⟩:=map_some e;obtain⟨rfl,hb⟩:=Jaa e2;exact ha B H0 H σ E _ _ I e1 fun v H1 H1' s1 r1=>f _ _ _ (s1.ss I.b) (r1.weak fun a z=>Same.free I.b z)
theorem Wq{i:Nat}:SS K C (Jjz (WC i)) (Ve i):=by
 intro B H0 H σ E o D I e f;unfold Ve at e;split at e
 ·next d h =>
  cases e;rcases I.at' i _ h with z|⟨v,h1,h2⟩
  ·cases z
  ·exact⟨v,h1,f _ _ _ I.ss h2⟩
 ·next d h =>
  cases e;rcases I.at' i _ h with z|⟨v,h1,h2⟩
  ·cases z
  ·exact⟨v,h1,f _ _ _ I.ss h2⟩
 ·next d h =>
  cases e;rcases I.at' i _ h with z|⟨v,h1,h2⟩
  ·cases z
  ·exact⟨v,h1,f _ _ _ I.ss h2⟩
 ·cases e
theorem EnvR.mutG{i:Nat}{l:Addr}{t t':Sl}{o':HO}(I:EnvR K C B H0 H σ E)(e1:E[i]?=some t)(ho:JU t=true)(ho':JU t'=true)(e2:σ[i]?=some (some (.ref l)))(r:RSl K C B H0 (upd H l o') (.ref l) t') :
 EnvR K C B H0 (upd H l o') σ (E.set i t'):=by
 obtain⟨h1,h2,h3⟩:=I.ownG e1 ho e2;have hi:i<E.length:=(List.getElem?_eq_some_iff.mp e1).1;have nb:∀{A:Hp},A l=none->Same A H->Same A (upd H l o'):=fun {A} n s a o e=>by rw[Ji (Jy e n)];exact s a o e
 refine⟨nb h3 I.b,nb h2 I.h,by simp[I.len],fun j s e=>?_,fun j k s1 s2 v hjk a1 a2 p1 p2 a3=>?_⟩
 ·rw[List.getElem?_set] at e
  by_cases hj:i=j
  ·subst hj;rw[if_pos rfl,if_pos hi] at e;cases e;exact .inr ⟨_,e2,r⟩
  ·rw[if_neg hj] at e;rcases I.at' j s e with z|⟨v,q1,q2⟩
   ·exact .inl z
   ·refine .inr ⟨v,q1,?_⟩
    cases s with
    | no=>trivial
    | sh d=>exact q2
    | bo es=>exact q2
    | bd ks es=>exact q2
    | bt ks es=>exact q2
    | own es =>
     obtain⟨l',ys,p1,p2,p3,p4,p5⟩:=q2;subst p1;have:l'≠l:=fun z=>by subst z;exact I.sep i j t _ (.ref l') hj e1 e ho rfl e2 q1
     exact⟨l',ys,rfl,by rw[Ji this];exact p2,p3,p4,p5⟩
    | od ks es =>
     obtain⟨l',ys,p1,p2,p3,p4,p5⟩:=q2;subst p1;have:l'≠l:=fun z=>by subst z;exact I.sep i j t _ (.ref l') hj e1 e ho rfl e2 q1
     exact⟨l',ys,rfl,by rw[Ji this];exact p2,p3,p4,p5⟩
    | ot ks es =>
     obtain⟨l',ys,p1,p2,p3,p4,p5⟩:=q2;subst p1;have:l'≠l:=fun z=>by subst z;exact I.sep i j t _ (.ref l') hj e1 e ho rfl e2 q1
     exact⟨l',ys,rfl,by rw[Ji this];exact p2,p3,p4,p5⟩
 ·have own:∀{j:Nat} {u:Sl},(E.set i t')[j]?=some u->JU u=true->∃g,E[j]?=some g/\JU g=true:=fun {j u} a w=>by
   rw[List.getElem?_set] at a
   by_cases hj:i=j
   ·subst hj;exact⟨t,e1,ho⟩
   ·rw[if_neg hj] at a;exact⟨_,a,w⟩
  obtain⟨g1,b1,c1⟩:=own a1 p1;obtain⟨g2,b2,c2⟩:=own a2 p2;exact I.sep j k g1 g2 v hjk b1 b2 c1 c2 a3
theorem EnvR.mut{i:Nat}{l:Addr}{ds ds':List LE.D}{xs xs':List V}(I:EnvR K C B H0 H σ E)(e1:E[i]?=some (.own ds))(e2:σ[i]?=some (some (.ref l)))(r:RDL K C H0 xs' ds') :
 EnvR K C B H0 (upd H l (.lst xs')) σ (E.set i (.own ds')):=by
 obtain⟨_,h2,h3⟩:=I.ownG e1 rfl e2;exact I.mutG (t':=.own ds') e1 rfl rfl e2 ⟨l,xs',rfl,Jw,h2,h3,r⟩
theorem EnvR.slot{i:Nat}{ds:List LE.D}(I:EnvR K C B H0 H σ E)(e1:E[i]?=some (.own ds)):∃l xs,σ[i]?=some (some (.ref l))/\H l=some (.lst xs)/\H0 l=none/\B l=none/\RDL K C H0 xs ds:=by
 rcases I.at' i _ e1 with z|⟨v,h1,l,xs,rfl,h2,h3,h4,h5⟩
 ·cases z
 ·exact⟨l,xs,h1,h2,h3,h4,h5⟩
theorem Jas{i:Nat}(ha:SE K C te ea):SS K C (Jcf (tBM K "list" Jea (WC i) (Ub te Wp))) (Jbi i ea):=by
 intro B H0 H σ E o D I e f;unfold Jbi at e;split at e
 ·next ds h =>
  obtain⟨s,e1,e⟩:=bind_some e;obtain⟨d,e2,e⟩:=bind_some e;split at e
  ·next hz =>
   cases e;obtain⟨l,xs,g1,g2,g3,g4,g5⟩:=I.slot h;refine⟨_,g1,.inl ⟨rfl,_,.of g2⟩,?_⟩;refine ha B H0 H σ E _ _ I e1 fun v H1 H1' s1 r1=>?_
   have s2:Step H H0 H (YD H H1 H1') H1':=s1.comp (JT s1.i) fun _ z=>z
   have I2:=I.step s2
   have m:=I2.mut (xs:=xs) h g1 ((g5.mono s2.z).snoc (RR.frz s1.i r1 e2));exact⟨l,xs,v,rfl,rfl,s2.h _ _ g2,by rw[g5.1];exact hz,f _ _ _ ⟨m.b,s2.z,(s2.ss I.b).n,m.h⟩ m⟩
  ·cases e
 ·cases e
theorem Jj9{i:Nat}(ha:SE K C te ea):SS K C (Jcf (tBM K "list" Jec (WC i) (Ub te Wp))) (JhC i ea):=by
 intro B H0 H σ E o D I e f;unfold JhC at e;split at e
 ·next ds h =>
  obtain⟨s,e1,e⟩:=bind_some e;obtain⟨es,e2,e⟩:=bind_some e;split at e
  ·next hz =>
   cases e;obtain⟨l,xs,g1,g2,g3,g4,g5⟩:=I.slot h;refine⟨_,g1,.inl ⟨rfl,_,.of g2⟩,?_⟩;refine ha B H0 H σ E _ _ I e1 fun v H1 H1' s1 r1=>?_
   have I2:=I.step s1;obtain⟨l',ys,rfl,k1,k2⟩:=r1.m s1.i e2
   have m:=I2.mut (xs:=xs) h g1 ((g5.mono s1.z).append k2);exact⟨l,l',xs,ys,rfl,rfl,s1.h _ _ g2,k1,by rw[g5.1,k2.1];exact hz,f _ _ _ ⟨m.b,s1.z,(s1.ss I.b).n,m.h⟩ m⟩
  ·cases e
 ·cases e
theorem Jet{i:Nat}{ti:TE}{ei:Ev}(ha:SE K C te ea)(hi:SE K C ti ei):SS K C (Jbc te (JkJ (WC i) ti Jj0)) (VE i ei ea):=by
 intro B H0 H σ E o D I e f;unfold VE at e;split at e
 ·next ds h =>
  obtain⟨s,e1,e⟩:=bind_some e;obtain⟨d,e2,e⟩:=bind_some e;obtain⟨k,e3,e⟩:=bind_some e;split at e
  ·next z =>
   obtain⟨j,e4,rfl⟩:=map_some e;obtain⟨l,xs,g1,g2,g3,g4,g5⟩:=I.slot h;refine ha B H0 H σ E _ _ I e1 fun v H1 H1' s1 r1=>?_
   have s2:Step H H0 H (YD H H1 H1') H1':=s1.comp (JT s1.i) fun _ z=>z
   have rv:=RR.frz s1.i r1 e2;refine⟨_,g1,?_⟩;refine hi B _ H1' σ E _ _ (I.step s2) e3 fun w H3 H3' s3 r3=>?_
   have s4:=s2.trans s3
   have m:=(I.step s4).mut (xs:=xs) h g1 ((g5.mono s4.z).set j (rv.mono s3.z));rw[RD.intI r3];exact⟨l,xs,z,j,rfl,rfl,s4.h _ _ g2,by rw[g5.1];exact e4,f _ _ _ ⟨m.b,s4.z,(s4.ss I.b).n,m.h⟩ m⟩
  ·cases e
 ·cases e
theorem JnF{i j:Nat}:SS K C (Jbc (Jjw K "list" Jnh (WC i)) (U4 j)) (JjJ i j some):=by
 intro B H0 H σ E o D I e f;unfold JjJ at e;split at e
 ·next ds h =>
  obtain⟨d,e1,e⟩:=bind_some e;obtain⟨s,e2,e⟩:=bind_some e;cases e2;obtain⟨d',e3,e⟩:=bind_some e;cases e3;split at e
  ·next hj =>
   cases e;obtain⟨l,xs,g1,g2,g3,g4,g5⟩:=I.slot h;rw[<- g5.1] at e1;obtain⟨y,e4,r4⟩:=g5.get e1;have hd:RDL K C H0 xs.dropLast ds.dropLast:=by rw[List.dropLast_eq_take,List.dropLast_eq_take,g5.1];exact g5.take _
   have m:=I.mut (xs:=xs) h g1 hd;refine⟨_,g1,.inl ⟨rfl,_,.of g2⟩,l,xs,y,rfl,rfl,g2,e4,?_⟩;exact f _ _ _ ⟨m.b,Same.refl _,fun _ _ e=>.inl e,m.h⟩ (m.setSh (by simpa using hj) r4)
  ·cases e
 ·cases e
theorem JnD{i:Nat}{g:Int->Int->Int}(ha:SE K C te ea):SS K C (Jnz i te (ipI g)) (JhA g i ea):=by
 intro B H0 H σ E o D I e f;unfold JhA at e;split at e
 ·next x h =>
  obtain⟨s,e1,e⟩:=bind_some e;split at e
  ·cases e;rcases I.at' i _ h with z|⟨v,h1,h2⟩
   ·cases z
   ·have hi:i<E.length:=(List.getElem?_eq_some_iff.mp h).1;refine⟨v,h1,ha B H0 H σ E _ _ I e1 fun w H1 H1' s1 r1=>⟨_,_,RD.intI h2,RD.intI r1,f _ _ _ (s1.ss I.b) ((I.step s1).setSh hi (.int _))⟩⟩
  ·cases e
 ·cases e
theorem EnvR.slotD{i:Nat}{ks:List Int}{ds:List LE.D}(I:EnvR K C B H0 H σ E)(e1:E[i]?=some (.od ks ds)):∃l xs,σ[i]?=some (some (.ref l))/\H l=some (dkO ks xs)/\H0 l=none/\B l=none/\ks.length=ds.length/\RDL K C H0 xs ds:=by
 rcases I.at' i _ e1 with z|⟨v,h1,l,xs,rfl,h2,h3,h4,h5⟩
 ·cases z
 ·exact⟨l,xs,h1,h2,h3,h4,h5⟩
theorem EnvR.frzG(I:EnvR K C B H0 H σ E){i:Nat}{t:Sl}{l:Addr}{o:HO}{d:LE.D}(h:E[i]?=some t)(ho:JU t=true)(g1:σ[i]?=some (some (.ref l)))(g2:H l=some o)(g5:∀H1,Same H0 H1->H1 l=some o->RD K C H1 (.ref l) d):∃H0',SStep B H0 H0' H/\EnvR K C B H0' H σ (E.set i (.sh d)):=by
 obtain⟨_,g3,g4⟩:=I.ownG h ho g1;have hi:i<E.length:=(List.getElem?_eq_some_iff.mp h).1;have s0:Same H0 (upd H0 l o):=.new g3
 have s1:Same (upd H0 l o) H:=fun a o e=>by
  by_cases ha:a=l
  ·subst ha;rw[Jw] at e;cases e;exact g2
  ·rw[Ji ha] at e;exact I.h a o e
 refine⟨upd H0 l o,⟨I.b,s0,fun a o e=>?_,s1⟩,I.b,s1,by simp[I.len],fun j s e=>?_,fun j k u1 u2 v hjk a1 a2 w1 w2 a3=>?_⟩
 ·by_cases ha:a=l
  ·subst ha;exact .inr (.inl g4)
  ·rw[Ji ha] at e;exact .inl e
 ·rw[List.getElem?_set] at e
  by_cases hj:i=j
  ·subst hj;rw[if_pos rfl,if_pos hi] at e;cases e;exact .inr ⟨_,g1,g5 _ s0 Jw⟩
  ·rw[if_neg hj] at e;rcases I.at' j s e with z|⟨v,q1,q2⟩
   ·exact .inl z
   ·refine .inr ⟨v,q1,?_⟩
    cases s with
    | no=>trivial
    | sh d=>exact RD.mono s0 q2
    | bo es=>obtain⟨l',ys,p1,p2,p3⟩:=q2;exact⟨l',ys,p1,p2,p3.mono s0⟩
    | bd ks es=>obtain⟨l',ys,p1,p2,hk,p3⟩:=q2;exact⟨l',ys,p1,p2,hk,p3.mono s0⟩
    | bt ks es=>obtain⟨l',ys,p1,p2,hk,p3⟩:=q2;exact⟨l',ys,p1,p2,hk,p3.mono s0⟩
    | own es =>
     obtain⟨l',ys,p1,p2,p3,p4,p5⟩:=q2;subst p1;have:l'≠l:=fun z=>by subst z;exact I.sep i j t _ (.ref l') hj h e ho rfl g1 q1
     exact⟨l',ys,rfl,p2,by rw[Ji this];exact p3,p4,p5.mono s0⟩
    | od ks es =>
     obtain⟨l',ys,p1,p2,p3,p4,hk,p5⟩:=q2;subst p1;have:l'≠l:=fun z=>by subst z;exact I.sep i j t _ (.ref l') hj h e ho rfl g1 q1
     exact⟨l',ys,rfl,p2,by rw[Ji this];exact p3,p4,hk,p5.mono s0⟩
    | ot ks es =>
     obtain⟨l',ys,p1,p2,p3,p4,hk,p5⟩:=q2;subst p1;have:l'≠l:=fun z=>by subst z;exact I.sep i j t _ (.ref l') hj h e ho rfl g1 q1
     exact⟨l',ys,rfl,p2,by rw[Ji this];exact p3,p4,hk,p5.mono s0⟩
 ·have own:∀{j:Nat} {u:Sl},(E.set i (.sh d))[j]?=some u->JU u=true->E[j]?=some u:=fun {j u} a w=>by
   rw[List.getElem?_set] at a
   by_cases hj:i=j
   ·subst hj;rw[if_pos rfl,if_pos hi] at a;cases a;cases w
   ·rw[if_neg hj] at a;exact a
  exact I.sep j k u1 u2 v hjk (own a1 w1) (own a2 w2) w1 w2 a3
theorem EnvR.frz(I:EnvR K C B H0 H σ E)(i:Nat):∃H0',SStep B H0 H0' H/\EnvR K C B H0' H σ (Jir i E):=by
 unfold Jir;split
 ·next ds h=>obtain⟨l,xs,g1,g2,g3,g4,g5⟩:=I.slot h;exact I.frzG h rfl g1 g2 fun H1 s0 hl=>.mkL hl (g5.mono s0)
 ·next ks ds h=>obtain⟨l,xs,g1,g2,g3,g4,hk,g5⟩:=I.slotD h;exact I.frzG h rfl g1 g2 fun H1 s0 hl=>.mkD hl hk (g5.mono s0)
 ·exact⟨H0,I.ss,I⟩
theorem Jka(i:Nat)(ht:SS K C t et):SS K C t (JjI i et):=by intro B H0 H σ E o D I e f;obtain⟨H0',s,I'⟩:=I.frz i;exact ht B H0' H σ _ o D I' e (f.step s)
theorem U2{wi:TI}{g:TG}{it:En->Option (List LE.D)}{p:Pt}(hi:SI K C false wi it)(hg:SG K C g p)(ht:SS K C t et):SS K C (Jmk wi g t) (V6 it p et):=by
 intro B H0 H σ E o D I e f;obtain⟨ds,e1,e⟩:=bind_some e;refine hi B H0 H σ E ds _ I e1 fun J H1 H1' s1 ok=>?_
 rw[if_neg (by simp)] at ok;refine⟨fun i m σ' H'=>m=ds.length-i/\i<=ds.length/\∃H0' E',EnvR K C B H0' H' σ' E'/\SStep B H1 H0' H'/\Uc p et (ds.drop i) E'=some o,
  ⟨ds.length,by simp,Nat.zero_le _,H1,E,I.step s1,.refl (I.b.trans s1.h) s1.i,e⟩,?_⟩
 rintro i m σ' H' ⟨rfl,hi',H0',E',I',st,er⟩;have stop:=ok H0' H' st;have f':Fin K C B H0' D o:=(f.step (s1.ss I.b)).step st
 by_cases hlt:i<ds.length
 ·have hd:ds[i]?=some ds[i]:=by simp[hlt]
  obtain⟨go,yl⟩:=stop.1 i _ hd;refine .inr ⟨go,fun σ2 H2=>∃H02 E2,EnvR K C B H02 H2 σ2 E2/\SStep B H1 H02 H2/\Uc p et (ds.drop (i+1)) E2=some o,fun σ2 H2 h=>⟨ds.length-(i+1),by omega,rfl,hlt,h⟩,fun x H2 y=>?_⟩;obtain⟨H02,st2,rx⟩:=yl x H2 y;rw[List.drop_eq_getElem_cons hlt,Uc] at er;obtain⟨E1,b1,er⟩:=bind_some er;obtain⟨o1,b2,er⟩:=bind_some er;have ss2:SStep B H0' H02 H2:=st2.ss I'.b;refine hg B H02 H2 σ' E' E1 x _ _ (I'.step st2) rx b1 fun σ2 I2=>?_
  refine ht B H02 H2 σ2 E1 o1 _ I2 b2 ?_
  cases o1 with
  | nx E2=>exact fun σ3 H3 H3' s3 I3=>⟨H3,E2,I3,(st.trans ss2).trans s3,er⟩
  | ct E2=>exact fun σ3 H3 H3' s3 I3=>⟨H3,E2,I3,(st.trans ss2).trans s3,er⟩
  | bk E2=>cases er;exact f'.step ss2
  | rt r=>cases er;exact f'.step ss2
 ·have e3:i=ds.length:=by omega
  subst e3;rw[List.drop_length,Uc] at er;cases er;exact .inl ⟨stop.2,f' _ _ _ I'.ss I'⟩
theorem JjK{c:TT}{ec:En->Option Bool}{n:Nat}(hc:ST K C c ec)(ht:SS K C t et):SS K C (Jhp c t) (Uz ec et n):=by
 intro B H0 H σ E o D I e f;refine⟨fun m σ' H'=>∃H0' E',EnvR K C B H0' H' σ' E'/\SStep B H0 H0' H'/\Uz ec et m E'=some o,⟨n,H0,E,I,I.ss,e⟩,?_⟩;rintro m σ' H' ⟨H0',E',I',st,er⟩
 cases m with
 | zero=>cases er
 | succ m =>
  rw[Uz] at er;obtain⟨k,b1,er⟩:=bind_some er;refine hc B H0' H' σ' E' k _ I' b1 fun H1 H1' s1=>?_
  have f':Fin K C B H1 D o:=(f.step st).step (s1.ss I'.b)
  cases k with
  | false=>rw[if_neg (by simp)] at er ⊢;cases er;exact f' _ _ _ (I'.step s1).ss (I'.step s1)
  | true =>
   rw[if_pos rfl] at er ⊢;obtain⟨o1,b2,er⟩:=bind_some er;refine⟨fun σ2 H2=>∃H02 E2,EnvR K C B H02 H2 σ2 E2/\SStep B H0 H02 H2/\Uz ec et m E2=some o,fun σ2 H2 h=>⟨m,Nat.lt_succ_self _,h⟩,?_⟩;have st1:=st.trans (s1.ss I'.b);refine ht B H1 H1' σ' E' o1 _ (I'.step s1) b2 ?_
   cases o1 with
   | nx E2=>exact fun σ3 H3 H3' s3 I3=>⟨H3,E2,I3,st1.trans s3,er⟩
   | ct E2=>exact fun σ3 H3 H3' s3 I3=>⟨H3,E2,I3,st1.trans s3,er⟩
   | bk E2=>cases er;exact f'
   | rt r=>cases er;exact f'
end

noncomputable def JeM:Out->Option Sl
 | .nx _=>some (.sh .non)
 | .rt r=>some r
 | .bk _=>none
 | .ct _=>none
noncomputable def YY(N:Nat)(b:Es):List Sl->Option Sl:=fun as=>(b (as++List.replicate (N-as.length) .no)).bind JeM
section
variable{K:Frag}{C:Addr}
theorem RRL.get{Hs H0 H:Hp}:∀{vs:List V} {ss:List Sl} {i:Nat} {s:Sl},RRL K C Hs H0 H vs ss->ss[i]?=some s->∃v,vs[i]?=some v/\RR K C Hs H0 H v s
 | _,_,_,_,.nil,e=>by simp at e
 | _,_,0,_,.cons h _,e=>by simp at e;subst e;exact⟨_,rfl,h⟩
 | _,_,i+1,s,.cons _ t,e=>by obtain⟨v,h1,h2⟩:=RRL.get (i:=i) (s:=s) t (by simpa using e);exact⟨v,by simpa using h1,h2⟩
theorem JZ{N:List Str}{n:Nat}{b:Es}{ts:TS}{vs:List V}{H:Hp}{Q:VK}{E:XK}(hb:SS K C ts b)(h:spE K C n (YY N.length b) vs H Q E):ts { nx:=fun _ H'=>Q .non H',rt:=Q } (L2.YB N vs) H:=by
 obtain⟨H0,as,r,i,ra,ho,hl,e,q⟩:=h;have lens:=ra.len
 have noOwn:∀(j:Nat) (s:Sl),as[j]?=some s->JU s=false:=fun j s e=>by
  have:=List.all_eq_true.mp ho s (List.mem_of_getElem? e)
  simpa using this
 have get:∀(j:Nat) (s:Sl),(as++List.replicate (N.length-as.length) Sl.no)[j]?=some s->s=.no\/as[j]?=some s:=fun j s e=>by
  by_cases hj:j<as.length
  ·rw[List.getElem?_append_left hj] at e;exact .inr e
  ·rw[List.getElem?_append_right (by omega),List.getElem?_replicate] at e;split at e
   ·cases e;exact .inl rfl
   ·cases e
 have I:EnvR K C H H0 H (L2.YB N vs) (as++List.replicate (N.length-as.length) .no):=by
  refine⟨Same.refl _,i,by simp[L2.YB,lens],fun j s e=>?_,fun j k s1 s2 v hjk e1 e2 w1 w2=>?_⟩
  ·rcases get j s e with z|z
   ·exact .inl z
   ·obtain⟨v,h1,h2⟩:=ra.get z;refine .inr ⟨v,?_,?_⟩
    ·unfold L2.YB;rw[List.getElem?_append_left (by have:=(List.getElem?_eq_some_iff.mp h1).1;simpa using this),List.getElem?_map,h1];rfl
    ·cases s with
     | no=>trivial
     | sh d=>exact h2
     | bo ds=>exact h2
     | own ds=>exact absurd (noOwn j _ z) (by simp[JU])
     | bd ks ds=>exact h2
     | bt ks ds=>exact h2
     | od ks ds=>exact absurd (noOwn j _ z) (by simp[JU])
     | ot ks ds=>exact absurd (noOwn j _ z) (by simp[JU])
  ·rcases get j _ e1 with z|z
   ·subst z;cases w1
   ·rw[noOwn j _ z] at w1;cases w1
 obtain⟨o,e1,e⟩:=bind_some e;refine hb H H0 H _ _ o _ I e1 ?_
 cases o with
 | nx E1=>cases e;exact fun σ' H1 H1' s1 I1=>q _ H1 H1' ⟨s1.b,s1.z,s1.n,s1.i⟩ RD.non
 | rt r'=>cases e;exact fun v H1 H1' s1 r1=>q v H1 H1' ⟨s1.b,s1.z,s1.n,s1.i⟩ r1
 | bk _=>cases e
 | ct _=>cases e
theorem Jiy{P:Program}{w:World}{mg:Str->Option Value}{base:Heap}{k:Nat}{f:Addr}{fd:FuncData}{ps:List Str}{ev:List Sl->Option Sl}(F:FnOk P w K mg base CX0 k f fd ps (spE K C 1 ev))
 (h:∀ns:List Int,ns.length<=63->ev [.sh (.fz (ns.map .int))]=some (.sh (.bl true))):FnOk P w K mg base CX0 k f fd ps (Jei K) :=
 F.imp fun vs H Q E ⟨a,ns,e,hS,hl,q⟩=>by subst e;exact⟨H,[.sh (.fz (ns.map .int))],_,Same.refl _,.cons (show RD K C H _ _ from RD.mkF hS (RDL.ofInts ns)) .nil,rfl,rfl,h ns hl,fun v H0' H' _ r=>by rw[RD.blI r];exact q H'⟩
structure RowK (K:Frag) (C:Addr):Prop where
 t:RowC K C
 k1:findIn K (.ref C) "__class__"=some (some (.builtin "object.__class__"))
 k2:specialIn K (.builtin "object.__class__") "__get__"=some (some (.builtin "getset_descriptor.__get__"))
 k3:takesIn K (.builtin "object.__class__")=some true
 k4:mroIn K C (.type "object")=some true
theorem Jme{te:TE}{ea:Ev}(T:RowK K C)(ha:SE K C te ea):SE K C (tCB (Jfk K) (Ub te (Ub (tC (.ref C)) Wp))) (JfS ea):=by
 intro B H0 H σ E c Q I e q;obtain⟨a,e1,e⟩:=bind_some e;obtain⟨d,e2,e⟩:=bind_some e;split at e
 ·next hd =>
  cases e;refine ha B H0 H σ E a _ I e1 fun x H1 H1' s1 r1=>?_
  cases d with
  | row ds=>obtain⟨x',dx,t',ts,rfl,hx,ht,hp⟩:=RD.rowI (r1.dat s1.i e2);refine Ji6 (.of (.ins hx T.t.cl T.k1 T.k2 T.k3 T.k4)) ?_ (q _ _ _ s1 (RD.bl _));unfold kitOne;rw[if_pos (beq_self_eq_true _)]
  | _=>cases hd
 ·cases e
end
end LE

namespace L2
open PySem PySem.Spec PyProof.Rows
end L2
namespace LE
open PySem L2 LR
noncomputable def JkO(a:Int):Bool:=Nat.ble a.natAbs 1152921504606846975
theorem in60_ok{a:Int}:JkO a=true↔-1152921504606846976<a/\a<1152921504606846976:=by unfold JkO;rw[Nat.ble_eq];omega
section
variable{K:Frag}{C:Addr}{m:Bool}
noncomputable def str?:Sl->Option Str
 | .sh (.str z)=>some z
 | _=>none
end
end LE

namespace LE
open PySem L2 LR
noncomputable def okS(P:En->Prop):Option Out->Prop
 | some (.nx E)=>P E
 | some (.ct E)=>P E
 | _=>False
theorem Jgx{P:En->Prop}{E:En}:okS P (some (.nx E))=P E:=rfl
theorem Jli{P:En->Prop}{E:En}:okS P (some (.ct E))=P E:=rfl
theorem Zi{P:En->Prop}{o:Option Out}(h:okS P o):∃E,(o=some (.nx E)\/o=some (.ct E))/\P E:=by
 unfold okS at h;split at h
 ·exact⟨_,.inl rfl,h⟩
 ·exact⟨_,.inr rfl,h⟩
 ·exact h.elim
theorem Uy{γ α β:Type}{p:Pt}{b:Es}{f:α->D}{k:Out->Option γ}{r:Option γ}(R:List α->β->En->Prop)(g:β->α->β):∀{as:List α} {E:En} (s:β) (h0:R as s E)
 (h:∀a as s E,R (a::as) s E->okS (R as (g s a)) ((p.bind (f a) E).bind b)) (fin:∀E',R [] (as.foldl g s) E'->k (.nx E')=r),(Uc p b (as.map f) E).bind k=r
 | [],E,s,h0,_,fin=>fin E h0
 | a::as,E,s,h0,h,fin=>by
  obtain⟨E2,e2,r2⟩:=Zi (h a as s E h0);have ih:=Uy (k:=k) (r:=r) R g (as:=as) (E:=E2) (g s a) r2 h fin;rw[List.map_cons,Uc]
  cases hp:p.bind (f a) E with
  | none=>rw[hp] at e2;rcases e2 with e2|e2 <;> cases e2
  | some E1=>rw[hp,Option.bind_some] at e2;rw[Option.bind_some];rcases e2 with e2|e2 <;> (rw[e2,Option.bind_some];exact ih)
theorem U6{γ:Type}{p:Pt}{b:Es}{f:Nat->D}{n:Nat}{E:En}{k:Out->Option γ}{r:Option γ}(R:Nat->En->Prop)(h0:R 0 E)
 (h:∀i E,i<n->R i E->okS (R (i+1)) ((p.bind (f i) E).bind b)) (fin:∀E',R n E'->k (.nx E')=r):(Uc p b ((List.range n).map f) E).bind k=r:=by
 refine Uy (fun(as:List Nat) (i:Nat) E=>i+as.length=n/\as=List.range' i as.length/\R i E) (fun i _=>i+1) 0 ⟨by simp,by simp[List.range_eq_range'],h0⟩ (fun a as i E ⟨hk,e,q⟩=>?_) fun E' ⟨hk,_,q⟩=>?_
 ·rw[List.length_cons,List.range'_succ] at e;have e1:a=i:=(List.cons.inj e).1;subst e1;obtain⟨E2,e2,r2⟩:=Zi (h a E (by rw[List.length_cons] at hk;omega) q);have fin2:(a+1)+as.length=n/\as=List.range' (a+1) as.length/\R (a+1) E2:=⟨by rw[List.length_cons] at hk;omega,(List.cons.inj e).2,r2⟩
  rcases e2 with e2|e2 <;> (rw[e2];exact fin2)
 ·have e3:(List.range n).foldl (fun i _=>i+1) 0=n:=by simpa using hk
  rw[e3] at q;exact fin E' q
theorem Yp{α:Type}{p:Pt}{a:Ev}{E1:En}{f g:α->D}:∀{xs:List α},(∀x∈xs,((p.bind (f x) E1).bind a).bind Sl.frz=some (g x))->VJ p yes? a E1 (xs.map f)=some (xs.map g)
 | [],_=>rfl
 | x::xs,h=>by have h1:=h x List.mem_cons_self;obtain⟨s,e1,e2⟩:=bind_some h1;obtain⟨E2,e3,e4⟩:=bind_some e1;rw[List.map_cons,VJ,e3];simp only[Option.bind_some,yes?,if_true,e4,e2];rw[Yp fun y hy=>h y (List.mem_cons_of_mem _ hy)];rfl
theorem Jha(n:Nat):rng 0 n=(List.range n).map fun i=>.int (i:Int):=by unfold rng;exact List.map_congr_left fun i _=>by rw[Int.zero_add]
theorem Jjs:sizeLine=16777216:=rfl
theorem Jav{α β:Type}(f:α->β)(xs:List α)(i:Int):atI (xs.map f) i=(atI xs i).map f:=by
 unfold atI;rw[List.length_map]
 cases ixN xs.length i with
 | none=>rfl
 | some j=>simp
theorem Jbl{α:Type}{xs:List α}{k:Nat}(h:k<xs.length):atI xs (k:Int)=some xs[k]:=by unfold atI ixN;rw[if_pos (by omega),if_pos (by omega)];simp[h]
theorem Jbk{ns:List Int}{k:Int}(h0:0<=k)(h:k<(ns.length:Int)):atI ns k=some (cell ns k):=by
 obtain⟨j,rfl⟩:=Int.eq_ofNat_of_zero_le h0;have hj:j<ns.length:=by omega
 rw[Jbl hj];simp[cell,hj]
theorem JfC{l:List Int}{k:Int}(h0:0<=k)(h1:k<(l.length:Int)):atI (l.map D.int) k=some (.int (Jfh l k)):=by rw[Jav,Jbk h0 h1];rfl
structure Kd {α:Type} (f:α->D) (n:Nat):Prop where
 lay:∀a,(f a).py.canLay0=true
 dep:∀a,(f a).py.depth<=n
 eqv:∀a b,PyData.eqv (f a).py (f b).py=true↔a=b
theorem Kd.eq{α:Type}[DecidableEq α]{f:α->D}{n:Nat}(k:Kd f n)(h:n<=60)(a b:α):eqD (f a) (f b)=some (decide (a=b)):=by unfold eqD;have:=k.dep a;rw[k.lay a,k.lay b,if_pos (by simp;omega)];congr 1;rw[Bool.eq_iff_iff,k.eqv];simp
theorem JkX:Kd D.int 1:=⟨fun _=>rfl,fun _=>by simp[D.py,PyData.depth],fun a b=>by show(a == b)=true↔_;simp⟩
theorem Wc{α:Type}{f:α->D}{n:Nat}(k:Kd f n):(∀xs:List α,PyData.canLayAll0 (D.pyL (xs.map f))=true)/\(∀xs:List α,PyData.depthAll (D.pyL (xs.map f))<=n)/\∀xs ys:List α,PyData.eqvAll (D.pyL (xs.map f)) (D.pyL (ys.map f))=true↔xs=ys:=by
 refine⟨fun xs=>?_,fun xs=>?_,fun xs=>?_⟩
 ·induction xs with
  | nil=>rfl
  | cons x xs ih=>show(PyData.canLay0 _ && PyData.canLayAll0 _)=true;rw[k.lay,ih];rfl
 ·induction xs with
  | nil=>simp[D.pyL,PyData.depthAll]
  | cons x xs ih=>have:=k.dep x;simp only[List.map_cons,D.pyL,PyData.depthAll];omega
 ·induction xs with
  | nil=>intro ys;cases ys with
   | nil=>simp[D.pyL,PyData.eqvAll]
   | cons y ys=>simp[D.pyL,PyData.eqvAll]
  | cons x xs ih=>intro ys;cases ys with
   | nil=>simp[D.pyL,PyData.eqvAll]
   | cons y ys=>simp only[List.map_cons,D.pyL,PyData.eqvAll,Bool.and_eq_true,k.eqv,ih,List.cons.injEq]
theorem JcM{α:Type}{f:α->D}{n:Nat}(k:Kd f n):Kd (fun xs:List α=>D.lst (xs.map f)) (n+1) :=
 ⟨fun xs=>(Wc k).1 xs,fun xs=>by have:=(Wc k).2.1 xs;simp only[D.py,PyData.depth];omega,fun xs ys=>by simp only[D.py,PyData.eqv];exact(Wc k).2.2 xs ys⟩
theorem JkY{α:Type}{f:α->D}{n:Nat}(k:Kd f n):Kd (fun xs:List α=>D.tup (xs.map f)) (n+1) :=
 ⟨fun xs=>(Wc k).1 xs,fun xs=>by have:=(Wc k).2.1 xs;simp only[D.py,PyData.depth];omega,fun xs ys=>by simp only[D.py,PyData.eqv];exact(Wc k).2.2 xs ys⟩
theorem kd_pr:Kd prE 2:=⟨fun _=>rfl,fun _=>by simp[prE,D.py,D.pyL,PyData.depth,PyData.depthAll],fun a b=>by obtain⟨a1,a2⟩:=a;obtain⟨b1,b2⟩:=b;simp[prE,D.py,D.pyL,PyData.eqv,PyData.eqvAll]⟩
theorem Jkx(a b:Pr):eqD (prE a) (prE b)=some (decide (a=b)):=kd_pr.eq (by decide) a b
theorem Jh2(a b:List Pr):eqD (.lst (a.map prE)) (.lst (b.map prE))=some (decide (a=b)):=(JcM kd_pr).eq (by decide) a b
theorem Jh3(a b:List Pr):eqD (.tup (a.map prE)) (.tup (b.map prE))=some (decide (a=b)):=(JkY kd_pr).eq (by decide) a b
theorem JfX(a b:List Int):eqD (.lst (a.map .int)) (.lst (b.map .int))=some (decide (a=b)):=(JcM JkX).eq (by decide) a b
theorem WG{s:Sl}{ps:List Pr}(e:s.q=some (ps.map prE))(g:Good ps)(h:ps.length<=30):JaJ [s]=some (.sh (.row (ps.map prE))):=by show(s.q.bind _)=_;rw[e,Option.bind_some,Jan,Option.bind_some,W7 g,if_pos (by simp[h])]
section
variable{a b:Int}{xs ys:List D}{d:D}{x y:Str}{E:En}{B:Es}{r:Sl}
theorem Jjp:Jc9 B (.nx E)=B E:=rfl
theorem Jjq:Jc9 B (.rt r)=some (.rt r):=rfl
theorem Jjn:Jc9 B (.bk E)=some (.bk E):=rfl
theorem Jjo:Jc9 B (.ct E)=some (.ct E):=rfl
theorem JhX:JeM (.nx E)=some (.sh .non):=rfl
theorem JhY:JeM (.rt r)=some r:=rfl
theorem JmU{g:Int->Int->D}:fI g (.sh (.int a)) (.sh (.int b))=some (.sh (g a b)):=rfl
theorem Jin(h:(-18446744073709551616<a/\a<18446744073709551616)\/(-18446744073709551616<b/\b<18446744073709551616)):JbB (.sh (.int a)) (.sh (.int b))=some (.sh (.int (a*b))):=by show(if _ then _ else _)=_;rw[if_pos];simp only[Bool.or_eq_true,Zy];exact h
theorem Jim(h:0<b):UE (.sh (.int a)) (.sh (.int b))=some (.sh (.int (a % b))):=by show(if _ then _ else _)=_;rw[if_pos (by simpa using h)]
theorem Jij(h:0<b/\b<1073741824):W1 (.sh (.int a)) (.sh (.int b))=some (.sh (.int (a / b))):=by show(if _ then _ else _)=_;rw[if_pos (smallP_ok.mpr h)]
theorem Jio:Wa (.sh (.int a))=some (.sh (.int (-a))):=rfl
theorem Jh9:JS (.sh (.int a)) (.sh (.int b))=some (.sh (.int (a+b))):=rfl
theorem Jig(h:x.length+y.length<=16777216):JS (.sh (.str x)) (.sh (.str y))=some (.sh (.str (x++y))):=if_pos h
theorem UT{p q:Sl}(h1:p.m=some xs)(h2:q.m=some ys)(h:xs.length+ys.length<=16777216):JeP p q=some (.own (xs++ys)):=by unfold JeP;rw[h1,h2];exact if_pos h
theorem Jid(h:xs.length+ys.length<=16777216):JS (.own xs) (.own ys)=some (.own (xs++ys)):=UT rfl rfl h
theorem Jic(h:xs.length+ys.length<=16777216):JS (.own xs) (.bo ys)=some (.own (xs++ys)):=UT rfl rfl h
theorem Jh7(h:xs.length+ys.length<=16777216):JS (.bo xs) (.own ys)=some (.own (xs++ys)):=UT rfl rfl h
theorem Jh6(h:xs.length+ys.length<=16777216):JS (.bo xs) (.bo ys)=some (.own (xs++ys)):=UT rfl rfl h
theorem Jie(h:xs.length+ys.length<=16777216):JS (.own xs) (.sh (.lst ys))=some (.own (xs++ys)):=UT rfl rfl h
theorem Jif(h:xs.length+ys.length<=16777216):JS (.sh (.lst xs)) (.own ys)=some (.own (xs++ys)):=UT rfl rfl h
theorem Jia(h:xs.length+ys.length<=16777216):JS (.sh (.lst xs)) (.bo ys)=some (.own (xs++ys)):=UT rfl rfl h
theorem Jh8(h:xs.length+ys.length<=16777216):JS (.bo xs) (.sh (.lst ys))=some (.own (xs++ys)):=UT rfl rfl h
theorem Jib(h:xs.length+ys.length<=16777216):JS (.sh (.lst xs)) (.sh (.lst ys))=some (.own (xs++ys)):=UT rfl rfl h
theorem JkF(h:x.length<=16777216):Ux [.sh (.str x)]=some (.sh (.int x.length)):=if_pos h
theorem JkD:Ux [.sh (.lst xs)]=some (.sh (.int xs.length)):=rfl
theorem JkC:Ux [.sh (.fz xs)]=some (.sh (.int xs.length)):=rfl
theorem JkG:Ux [.sh (.tup xs)]=some (.sh (.int xs.length)):=rfl
theorem JkB:Ux [.bo xs]=some (.sh (.int xs.length)):=rfl
theorem JkE:Ux [.own xs]=some (.sh (.int xs.length)):=rfl
theorem JmX:fIx (.sh (.lst xs)) (.sh (.int a))=(atI xs a).map .sh:=rfl
theorem JmW:fIx (.sh (.fz xs)) (.sh (.int a))=(atI xs a).map .sh:=rfl
theorem JmZ:fIx (.sh (.tup xs)) (.sh (.int a))=(atI xs a).map .sh:=rfl
theorem JmV:fIx (.bo xs) (.sh (.int a))=(atI xs a).map .sh:=rfl
theorem JmY:fIx (.own xs) (.sh (.int a))=(atI xs a).map .sh:=rfl
theorem Jkv:eqA (.int a) (.int b)=some (decide (a=b)):=rfl
theorem Jkw:eqA (.str x) (.str y)=some (decide (x=y)):=rfl
theorem Jku{p q:Bool}:eqA (.bl p) (.bl q)=some (decide (p=q)):=rfl
theorem JfW(p q:Pr):eqA (prE p) (prE q)=some (decide (p=q)):=Jkx p q
theorem Jks(p q:List Pr):eqA (.lst (p.map prE)) (.lst (q.map prE))=some (decide (p=q)):=Jh2 p q
theorem Jkt(p q:List Pr):eqA (.tup (p.map prE)) (.tup (q.map prE))=some (decide (p=q)):=Jh3 p q
theorem Jkr(p q:List Int):eqA (.lst (p.map .int)) (.lst (q.map .int))=some (decide (p=q)):=JfX p q
theorem Vw(h:-4611686018427387904<a/\a<4611686018427387904):Wb a=true:=by unfold Wb;rw[Nat.ble_eq];omega
theorem JkP(h:-1152921504606846976<a/\a<1152921504606846976):JkO a=true:=in60_ok.mpr h
theorem Jhf(h:0<a/\a<1073741824):Jbb a=true:=smallP_ok.mpr h
theorem Vj{s:Sl}{ns:List Int}(e:s.q=some (ns.map .int)):W4 [s]=some (.sh (.int ns.sum)):=by show(s.q.bind _)=_;rw[e,Option.bind_some,W9];rfl
theorem Jii{s:Sl}{ns:List Bool}(e:s.q=some (ns.map .bl)):Jih [s]=some (.sh (.bl (ns.any id))):=by show(s.q.bind _)=_;rw[e,Option.bind_some,Jdm];rfl
theorem JmH{i:Nat}:(Pt.nm i).bind d E=if i<E.length then some (E.set i (.sh d)) else none:=by rw[Pt.bind]
theorem JmI{l:Pts}:(Pt.tp l).bind (.tup xs) E=l.bind xs E:=by rw[Pt.bind]
theorem JhL:Pts.nil.bind [] E=some E:=by rw[Pts.bind]
theorem Jfz{q:Pt}{l:Pts}:(Pts.cons q l).bind (d::xs) E=(q.bind d E).bind fun E'=>l.bind xs E':=by rw[Pts.bind]
theorem JnM:((0:Nat):Int)=0:=rfl
theorem JnN:((1:Nat):Int)=1:=rfl
theorem JnO:((2:Nat):Int)=2:=rfl
theorem JnP:((3:Nat):Int)=3:=rfl
theorem JnQ:((4:Nat):Int)=4:=rfl
theorem JeZ:D.isNon .non=true:=rfl
theorem JeX:D.isNon (.int a)=false:=rfl
theorem Jgd{k:Bool}:D.isNon (.bl k)=false:=rfl
theorem Je1:D.isNon (.str x)=false:=rfl
theorem Je2:D.isNon (.tup xs)=false:=rfl
theorem JeY:D.isNon (.lst xs)=false:=rfl
theorem Jge:D.isNon (.fz xs)=false:=rfl
theorem Je0:D.isNon (.row xs)=false:=rfl
theorem Jk4:JbH "int" "int"=true:=by decide
theorem Jiv:JbH "int" "bool"=false:=by decide
theorem Jk3:JbH "bool" "bool"=true:=by decide
theorem Jk7:JbH "tuple" "tuple"=true:=by decide
theorem Jk5:JbH "list" "list"=true:=by decide
theorem Jk6:JbH "str" "str"=true:=by decide
end
end LE

namespace HT
open PySem PySem.Spec PyProof.Rows
section
variable{prog:Program}{w:World}{A:Around}{E:Value->Shared->Prop}{s:Shared}
theorem VM{t sl:Addr}{items:Array Value}{vl vu:Value}{lo hi:Option Int}{Q:Value->Shared->Prop}(ht:IsTup s.heap t items)(hs:s.heap.IsSliceOf sl vl vu .none)(pl:IsPart vl lo)(pu:IsPart vu hi)
 (hw:sIx items.size 0 lo=0/\sIx items.size items.size hi=items.size) (h:Q (.ref t) s):wpAny (model prog w) A (getItem (.ref t) (.ref sl)) Q E s:=by
 obtain⟨os,hos,hcs,hds⟩:=id hs;have hTs:s.TypeIs (.ref sl) "slice":=⟨os,hos,hcs⟩
 unfold getItem
 try with_reducible refine wpAny_holding ?_
 first|refine wpAny_bind (wpAny_pure ?_)|skip
 refine wpAny_bind (wpAny_sequenceKey ht.typeIs (by decide) ?_);refine wpAny_bind (wpAny_callSpecial?_slot (name:=Str.ofString "__getitem__") ht.typeIs PyProof.Rows.slot_tuple_getitem
  (wpAny_call_entry PyProof.Rows.slot_tuple_getitem ht.typeIs entry_tuple_getitem ?_ (args_tuple_getitem _ _)))
 show wpAny _ _ (Builtin.Tuple.tupleItemsOf (.ref t) >>= _) _ _ s;refine wpAny_bind (tupleItemsOf_ ht ?_);refine wpAny_bind (wpAny_typeOf hTs ?_);rw[if_pos (by decide)];refine wpAny_bind (UR hs pl pu ?_)
 have yes:(((sIx items.size 0 lo:Nat):Int) == 0 && (1:Int) == 1 && (sIx items.size items.size hi-sIx items.size 0 lo) == items.size)=true:=by rw[hw.1,hw.2];simp
 show wpAny _ _ (if (((sIx items.size 0 lo:Nat):Int) == 0 && (1:Int) == 1 && (sIx items.size items.size hi-sIx items.size 0 lo) == items.size)=true then _ else _) _ _ s;rw[if_pos yes];unfold Builtin.Tuple.tupleIsExact;refine wpAny_bind (wpAny_bind (wpAny_typeOf ht.typeIs (wpAny_pure ?_)));rw[if_pos (by decide)];refine wpAny_bind (wpAny_rule ?_);exact wpAny_pure ⟨_,rfl,wpAny_pure h⟩
end
end HT
namespace L2
open PySem PySem.Spec PyProof.Rows
section
variable{X:Cx}{K:Frag}
noncomputable def Jnl(K:Frag):V->Option Int->Option Int->Hp->VK->Prop:=fun x lo hi H Q=>∃a xs,x=.ref a/\SqT K H a xs/\(HT.sIx xs.length 0 lo=0/\HT.sIx xs.length xs.length hi=xs.length)/\Q (.ref a) H
theorem Jhe:SlR X (Jnl X.K):=by
 intro pins s σ H x v vl vu lo hi sl Q I rx hs pl pu h;obtain⟨a,xs,rfl,hx,hw,q⟩:=h;cases rx;obtain⟨its,r,ht,hz⟩:=I.tuple hx;have hlen:its.toArray.size=xs.length:=by rw[List.size_toArray];exact r.length.symm
 refine⟨"tuple",_,PyProof.Rows.slot_tuple_getitem.lookup,ht.typeIs,?_⟩;exact HT.VM ht hs pl pu (by rw[hlen];exact hw) ⟨.ref a,H,I,rfl,q⟩
noncomputable def JlK(K:Frag):V->Option Int->Option Int->Hp->VK->Prop:=fun x lo hi H Q=>Jnj K x lo hi H Q\/Jnk K x lo hi H Q\/Jnl K x lo hi H Q
theorem Jjt(hK:X.K=K):SlR X (JlK K):=by subst hK;exact sl_list.or (sl_tup.or Jhe)
end
end L2
namespace LE
open PySem L2 LR
noncomputable def Jcy{α:Type}(xs:List α)(lo hi:Option Int):List α:=(xs.drop (HT.sIx xs.length 0 lo)).take (HT.sIx xs.length xs.length hi-HT.sIx xs.length 0 lo)
noncomputable def fSl(s:Sl)(lo hi:Option Int):Option Sl:=match s with
 | .sh (.tup ds)=>some (.sh (.tup (Jcy ds lo hi)))
 | s=>s.r.map fun ds=>.own (Jcy ds lo hi)
noncomputable def WZ(o:Option Ev):En->Option (Option Int):=fun E=>match o with
 | none=>some none
 | some a=>(a E).bind fun s=>match s with
  | .sh (.int i)=>some (some i)
  | _=>none
noncomputable def eSl(a:Ev)(lo hi:Option Ev):Ev:=fun E=>(a E).bind fun s=>(WZ lo E).bind fun l=>(WZ hi E).bind fun h=>fSl s l h
section
variable{K:Frag}{C:Addr}{te:TE}{ea:Ev}{tl th:TO}{el eh:Option Ev}
noncomputable def SP'(K:Frag)(C:Addr)(t:TO)(ev:En->Option (Option Int)):Prop:=∀(B H0 H:Hp) (σ:St) (E:En) (r:Option Int) (Q:Option Int->Hp->Prop),EnvR K C B H0 H σ E->ev E=some r ->
 (∀H0' H',Step H H0 H H0' H'->Q r H')->t σ H Q
theorem Jls:SP' K C Jem (WZ none):=fun _ _ _ _ _ _ _ I e q=>by cases e;exact q _ _ (.refl I.h)
theorem Jlt(ha:SE K C te ea):SP' K C (Jj8 te) (WZ (some ea)):=by
 intro B H0 H σ E r Q I e q;obtain⟨s,e1,e⟩:=bind_some e;split at e
 ·cases e;exact ha B H0 H σ E _ _ I e1 fun x H1 H1' s1 r1=>⟨_,RD.intI r1,q _ _ s1⟩
 ·cases e
theorem RDL.cut{H:Hp}{xs:List V}{ds:List D}{lo hi:Option Int}(r:RDL K C H xs ds):RDL K C H (ZG xs lo hi) (Jcy ds lo hi):=by unfold ZG Jcy;rw[r.1];exact(r.drop _).take _
theorem Jn2(ha:SE K C te ea)(hl:SP' K C tl (WZ el))(hh:SP' K C th (WZ eh)):SE K C (tSl (JlK K) te tl th) (eSl ea el eh):=by
 intro B H0 H σ E c Q I e q;obtain⟨s,e1,e⟩:=bind_some e;obtain⟨l,e2,e⟩:=bind_some e;obtain⟨h,e3,e⟩:=bind_some e;refine ha B H0 H σ E _ _ I e1 fun x H1 H1' s1 r1=>hl B H1 H1' σ E l _ (I.step s1) e2 fun H2 H2' s2=>hh B H2 H2' σ E h _ (I.step (s1.trans s2)) e3 fun H3 H3' s3=>?_
 have s13:=(s1.trans s2).trans s3
 have r3:=(r1.step s2).step s3
 have lst:∀{ds:List D},s.r=some ds->c=.own (Jcy ds l h)->JlK K x l h H3' Q:=fun {ds} er ec=>by subst ec;obtain⟨a,xs,rfl,hq,r⟩:=r3.r s13.i er;exact .inl ⟨a,xs,rfl,hq,fun p hp=>UC s13.i s13.h hp r.cut fun v H4 H4' s4 r4=>q v H4 H4' (s13.comp s4 fun _ z=>z) r4⟩
 unfold fSl at e;split at e
 ·cases e;obtain⟨a,xs,rfl,hq,r⟩:=RD.tupI r3
  by_cases hw:HT.sIx xs.length 0 l=0/\HT.sIx xs.length xs.length h=xs.length
  ·refine .inr (.inr ⟨a,xs,rfl,s13.i.seqT hq,hw,q _ _ _ s13 ?_⟩);have e5:ZG xs l h=xs:=by unfold ZG;rw[hw.1,hw.2];simp
   have r5:=r.cut (lo:=l) (hi:=h);rw[e5] at r5;exact RD.mkT hq r5
  ·exact .inr (.inl ⟨a,xs,rfl,s13.i.seqT hq,hw,fun p hp=>Jbg s13.i s13.h hp r.cut fun v H4 H4' s4 r4=>q v H4 H4' (s13.comp s4 fun _ z=>z) r4⟩)
 ·obtain⟨ds,e4,e5⟩:=map_some e;exact lst e4 e5.symm
end
end LE

namespace PySem
section
variable{prog:Program}{w:World}{A:Around}
theorem Draws.tup(hh:A.handled=none)(j a:Addr)(ne:a≠j)(xs:Array Value):Draws prog w A j [j,a] xs.size (fun i v=>xs[i]?=some v) (fun i h=>h.IsTupleIter j a i/\h.IsTuple a xs) where
 live:=fun _ _ q=>let ⟨o,ho,_⟩:=q.1;⟨o,ho⟩
 frame:=fun _ _ _ q k=>⟨q.1.at fun o e=>k j (by simp) o e,q.2.at fun o e=>k a (by simp) o e⟩
 item:=fun i s Q E hi q hQ=>by
  obtain⟨o,ho,hc,hd⟩:=id q.1;obtain⟨ol,hol,_,nl,hdl⟩:=id q.2;have hx:xs[i]?=some xs[i]:=by simp[hi]
  unfold Builtin.SmallTypes.nextOf;refine wpAny_bind (wpAny_callSpecial?_slot (name:=Str.ofString "__next__") q.1.typeIs F.slot_tuple_iterator_next (wpAny_call_entry F.slot_tuple_iterator_next q.1.typeIs F.entry_tuple_iterator_next ?_ (F.args_tuple_iterator_next_1 _)));show wpAny _ _ (field (.ref j) 0 >>= _) _ _ s;refine wpAny_bind (wpAny_field ho hd (x:=.ref a) rfl ?_);show wpAny _ _ (if (Value.ref a == Value.none)=true then _ else _) _ _ s;rw[if_neg (show ¬((Value.ref a == Value.none)=true) from Bool.false_ne_true)]
  show wpAny _ _ (field (.ref j) 1 >>= _) _ _ s;refine wpAny_bind (wpAny_field ho hd (x:=.int i 0) rfl (show wpAny _ _ (seqItems? (.ref a) >>= _) _ _ s from wpAny_bind (wpAny_seqItems hol hdl ?_)));simp only[Int.toNat_natCast,hx];refine wpAny_bind (wpAny_setField ho hd (by simp) (wpAny_pure ⟨xs[i],rfl,wpAny_pure (hQ _ _ s.toks hx ⟨⟨_,Heap.get?_update_self _ ho (Obj.isFreed_of_fields (Obj.data_mapFields hd _)),(Obj.cls_mapFields ..).trans hc,?_⟩,q.2.extBut (Heap.SameBut.update ..).extBut ne⟩ (Heap.SameBut.update ..))⟩))
  rw[Obj.data_mapFields hd];simp[rawInt]
 done:=fun s Q E q hE=>by
  obtain⟨o,ho,hc,hd⟩:=id q.1;obtain⟨ol,hol,_,nl,hdl⟩:=id q.2;have hx:xs[xs.size]?=none:=by simp
  unfold Builtin.SmallTypes.nextOf;refine wpAny_bind (wpAny_callSpecial?_slot (name:=Str.ofString "__next__") q.1.typeIs F.slot_tuple_iterator_next (wpAny_call_entry F.slot_tuple_iterator_next q.1.typeIs F.entry_tuple_iterator_next ?_ (F.args_tuple_iterator_next_1 _)));show wpAny _ _ (field (.ref j) 0 >>= _) _ _ s;refine wpAny_bind (wpAny_field ho hd (x:=.ref a) rfl ?_);show wpAny _ _ (if (Value.ref a == Value.none)=true then _ else _) _ _ s;rw[if_neg (show ¬((Value.ref a == Value.none)=true) from Bool.false_ne_true)]
  show wpAny _ _ (field (.ref j) 1 >>= _) _ _ s;refine wpAny_bind (wpAny_field ho hd (x:=.int xs.size 0) rfl (show wpAny _ _ (seqItems? (.ref a) >>= _) _ _ s from wpAny_bind (wpAny_seqItems hol hdl ?_)));simp only[Int.toNat_natCast,hx];refine wpAny_bind (wpAny_rule (wpAny_bind (wpAny_setField ho hd (by simp) (show wpAny _ _ (newExc (.type "StopIteration") [] >>= _) _ _ _ from wpAny_bind ?_))));simp only[newExc,newTuple];refine wpAny_bind (wpAny_newObj_type (wpAny_bind (m:=firstArgMember _ _) (wpAny_of_eq (a:=Value.none) (by first | rfl | (simp only[firstArgMember];rfl)) (wpAny_newObj_type ?_ (by size_fits)))) (by size_fits))
  simp only[raiseNew];refine wpAny_bind (wpAny_handled ?_)
  first|rw[show A.in1.handled=none from hh]|rw[hh]
  refine wpAny_bind (wpAny_pure (wpAny_throw ?_));exact hE _ _ (((Heap.SameBut.update ..).extBut.push _).push _) ⟨_,Heap.get?_push_size _ rfl,rfl⟩
end

structure ZA (z TI TO i1 i2:Addr) (p1 p2:List Addr):Prop where
 a1:TI≠z
 a2:TO≠z
 a3:TI≠TO
 m1:i1∈p1
 m2:i2∈p2
 z1:z∉p1
 z2:z∉p2
 t1:TI∉p1
 t2:TI∉p2
 o1:TO∉p1
 o2:TO∉p2
 x1:i1∉p2
 x2:i2∉p1
section
variable{prog:Program}{w:World}{A:Around}{E:Value->Shared->Prop}{s:Shared}{z TI TO i1 i2:Addr}{p1 p2:List Addr}{n1 n2 k:Nat}{P1 P2:Nat->Value->Prop}{S1 S2:Nat->Heap->Prop}
theorem Jfw{a b:Value}{Q:Value->Shared->Prop}(D:ZA z TI TO i1 i2 p1 p2)(D1:Draws prog w A i1 p1 n1 P1 S1)(D2:Draws prog w A i2 p2 n2 P2 S2)(gz:IsZip s.heap z TI TO .none)(gI:IsPair s.heap TI (.ref i1) (.ref i2))(gO:IsPair s.heap TO a b)
 (st1:S1 k s.heap) (st2:S2 k s.heap) (l1:k<n1) (l2:k<n2)
 (hQ:∀x y h' tk,P1 k x->P2 k y->IsZip h' z TI TO (rawInt s.heap.objs.size)->IsPair h' TI (.ref i1) (.ref i2)->IsPair h' TO x y->S1 (k+1) h'->S2 (k+1) h'->IsPair h' s.heap.objs.size x y->h'.objs.size=s.heap.objs.size+1 ->
  (∀c o,c≠z->c≠TO->c≠i1->c≠i2->s.heap.get? c=some o->h'.get? c=some o)->Q (.ref s.heap.objs.size) { s with heap:=h',toks:=tk }) :
 wpAny (model prog w) A (Builtin.«zip.__next__» ⟨[.ref z],[]⟩) (fun fin s'=>∃v,fin=.done (.ret v)/\Q v s') E s:=by
 obtain⟨hp,g,d,t0,os⟩:=s;have zi1:i1≠z:=fun q=>D.z1 (q▸D.m1)
 have zi2:i2≠z:=fun q=>D.z2 (q▸D.m2)
 have oi1:i1≠TO:=fun q=>D.o1 (q▸D.m1)
 have oi2:i2≠TO:=fun q=>D.o2 (q▸D.m2)
 have ii1:i1≠TI:=fun q=>D.t1 (q▸D.m1)
 have ii2:i2≠TI:=fun q=>D.t2 (q▸D.m2)
 have i12:i1≠i2:=fun q=>D.x1 (q▸D.m2)
 show wpAny _ _ (field (.ref z) 2 >>= _) _ _ _;refine wpAny_bind (wpAny_field gz rfl (x:=.bool false) rfl (show wpAny _ _ (field (.ref z) 3 >>= _) _ _ _ from wpAny_bind (wpAny_field gz rfl (x:=.ref TI) rfl (wpAny_bind (wpAny_seqItems gI rfl ?_)))))
 show wpAny _ _ (Builtin.SmallTypes.ownedTupleIsFree (.ref z) >>= _) _ _ _;refine wpAny_bind ?_;unfold Builtin.SmallTypes.ownedTupleIsFree;refine wpAny_bind (wpAny_field gz rfl (x:=.none) rfl (wpAny_pure ?_));simp only[if_true];refine wpAny_bind (wpAny_rule (wpAny_bind (wpAny_field gz rfl (x:=.ref TO) rfl (wpAny_bind (wpAny_setField_rec gz (by simp) fun k1 y1 e1=>?_)))))
 replace y1:IsZip k1 z TI TO .ellipsis:=y1
 replace e1:Heap.SameBut z hp k1:=e1;refine wpAny_bind ?_;simp only[List.zipIdx_cons,List.zipIdx_nil,List.forIn_cons,List.forIn_nil];refine wpAny_bind (wpAny_bind (wpAny_onRaise (show wpAny _ _ (Builtin.SmallTypes.nextOf (.ref i1) >>= _) _ _ _ from wpAny_bind (D1.item k _ _ _ l1 (D1.frame _ _ _ st1 fun b hb o q=>e1.extBut b o (fun r=>D.z1 (r▸hb)) q) fun x k2 t2 px s2 e2=>wpAny_pure ?_))))
 replace e2:Heap.SameBut i1 k1 k2:=e2;have O2:IsPair k2 TO a b:=e2.extBut _ _ (Ne.symm oi1) (e1.extBut _ _ D.a2 gO);refine wpAny_bind (wpAny_seqItems (s:=⟨k2,g,d,t2,os⟩) O2 rfl (wpAny_bind (wpAny_updateSeq_pair (s:=⟨k2,g,d,t2,os⟩) O2 fun k3 O3 e3=>?_)))
 replace O3:IsPair k3 TO x b:=O3
 replace e3:Heap.SameBut TO k2 k3:=e3;refine wpAny_bind (wpAny_letGo (wpAny_pure ?_));have st2':S2 k k3:=D2.frame _ _ _ st2 fun b hb o q=>e3.extBut b o (fun r=>D.o2 (r▸hb)) (e2.extBut b o (fun r=>D.x1 (r▸hb)) (e1.extBut b o (fun r=>D.z2 (r▸hb)) q))
 refine wpAny_bind (wpAny_bind (wpAny_onRaise (show wpAny _ _ (Builtin.SmallTypes.nextOf (.ref i2) >>= _) _ _ _ from wpAny_bind (D2.item k _ _ _ l2 st2' fun y k4 t4 py s4 e4=>wpAny_pure ?_))))
 replace e4:Heap.SameBut i2 k3 k4:=e4;have O4:IsPair k4 TO x b:=e4.extBut _ _ (Ne.symm oi2) O3;refine wpAny_bind (wpAny_seqItems (s:=⟨k4,g,d,t4,os⟩) O4 rfl (wpAny_bind (wpAny_updateSeq_pair (s:=⟨k4,g,d,t4,os⟩) O4 fun k5 O5 e5=>?_)))
 replace O5:IsPair k5 TO x y:=O5
 replace e5:Heap.SameBut TO k4 k5:=e5;refine wpAny_bind (wpAny_letGo (wpAny_pure (wpAny_pure (wpAny_bind (wpAny_seqItems (s:=⟨k5,g,d,t4,os⟩) O5 rfl (wpAny_bind (wpAny_newTuple ?_)))))));have hsz:k5.objs.size=hp.objs.size:=by rw[e5.1,e4.1,e3.1,e2.1,e1.1]
 have Z5:IsZip k5 z TI TO .ellipsis:=e5.extBut _ _ (Ne.symm D.a2) (e4.extBut _ _ (Ne.symm zi2) (e3.extBut _ _ (Ne.symm D.a2) (e2.extBut _ _ (Ne.symm zi1) y1)))
 have keep5:∀c o,c≠z->c≠TO->c≠i1->c≠i2->hp.get? c=some o->k5.get? c=some o:=fun c o c1 c2 c3 c4 q=>e5.extBut _ _ c2 (e4.extBut _ _ c4 (e3.extBut _ _ c2 (e2.extBut _ _ c3 (e1.extBut _ _ c1 q))))
 have T1:S1 (k+1) k5:=D1.frame _ _ _ s2 fun b hb o q=>e5.extBut b o (fun r=>D.o1 (r▸hb)) (e4.extBut b o (fun r=>D.x2 (r▸hb)) (e3.extBut b o (fun r=>D.o1 (r▸hb)) q))
 have T2:S2 (k+1) k5:=D2.frame _ _ _ s4 fun b hb o q=>e5.extBut b o (fun r=>D.o2 (r▸hb)) q
 have zlt:z<k5.objs.size:=Heap.lt_size Z5
 show wpAny _ _ (Builtin.SmallTypes.ownedTupleHandOut (.ref z) (.ref k5.objs.size) >>= _) _ _ _;refine wpAny_bind ?_;unfold Builtin.SmallTypes.ownedTupleHandOut
 have Z6:IsZip (k5.push { cls:=.type "tuple",data:=.seq #[x,y] }) z TI TO .ellipsis:=Heap.get?_push_of_some _ Z5;refine wpAny_bind (wpAny_setField_rec Z6 (by simp) fun k7 Z7 e7=>?_)
 replace Z7:IsZip k7 z TI TO (rawInt k5.objs.size):=Z7
 replace e7:Heap.SameBut z (k5.push { cls:=.type "tuple",data:=.seq #[x,y] }) k7:=e7;refine wpAny_setField_rec Z7 (by simp) fun k8 Z8 e8=>?_
 replace Z8:IsZip k8 z TI TO (rawInt k5.objs.size):=Z8
 replace e8:Heap.SameBut z k7 k8:=e8;have up:∀c o,c≠z->k5.get? c=some o->k8.get? c=some o:=fun c o c1 q=>e8.extBut _ _ c1 (e7.extBut _ _ c1 (Heap.get?_push_of_some _ q))
 have N8:IsPair k8 k5.objs.size x y:=e8.extBut _ _ (Nat.ne_of_gt zlt) (e7.extBut _ _ (Nat.ne_of_gt zlt) (Heap.get?_push_size _ rfl))
 have z8:k8.objs.size=k5.objs.size+1:=by rw[e8.1,e7.1,Heap.size_push]
 rw[hsz] at Z8 N8 z8;refine wpAny_pure ⟨_,rfl,?_⟩;show Q (.ref k5.objs.size) _;rw[hsz];refine hQ x y k8 t4 px py Z8 (up _ _ D.a1 (keep5 _ _ D.a1 D.a3 (Ne.symm ii1) (Ne.symm ii2) gI)) (up _ _ D.a2 O5) ?_ ?_ N8 z8 fun c o c1 c2 c3 c4 q=>up c o c1 (keep5 c o c1 c2 c3 c4 q)
 ·exact D1.frame _ _ _ T1 fun b hb o q=>up b o (fun r=>D.z1 (r▸hb)) q
 ·exact D2.frame _ _ _ T2 fun b hb o q=>up b o (fun r=>D.z2 (r▸hb)) q
theorem JhH{a b:Value}{Q:Fin->Shared->Prop}(D:ZA z TI TO i1 i2 p1 p2)(D1:Draws prog w A i1 p1 n1 P1 S1)(D2:Draws prog w A i2 p2 n2 P2 S2)(gz:IsZip s.heap z TI TO .none)(gI:IsPair s.heap TI (.ref i1) (.ref i2))(gO:IsPair s.heap TO a b)
 (st1:S1 k s.heap) (st2:S2 k s.heap) (hend:k=n1\/(k<n1/\k=n2))
 (hE:∀h' e tk,(∀c o,c≠z->c≠TO->c≠i1->c≠i2->s.heap.get? c=some o->h'.get? c=some o)->(∃o,h'.get? e=some o/\o.cls=.type "StopIteration")->E (.ref e) { s with heap:=h',toks:=tk }) :
 wpAny (model prog w) A (Builtin.«zip.__next__» ⟨[.ref z],[]⟩) Q E s:=by
 obtain⟨hp,g,d,t0,os⟩:=s;have zi1:i1≠z:=fun q=>D.z1 (q▸D.m1)
 have zi2:i2≠z:=fun q=>D.z2 (q▸D.m2)
 have oi1:i1≠TO:=fun q=>D.o1 (q▸D.m1)
 show wpAny _ _ (field (.ref z) 2 >>= _) _ _ _;refine wpAny_bind (wpAny_field gz rfl (x:=.bool false) rfl (show wpAny _ _ (field (.ref z) 3 >>= _) _ _ _ from wpAny_bind (wpAny_field gz rfl (x:=.ref TI) rfl (wpAny_bind (wpAny_seqItems gI rfl ?_)))))
 show wpAny _ _ (Builtin.SmallTypes.ownedTupleIsFree (.ref z) >>= _) _ _ _;refine wpAny_bind ?_;unfold Builtin.SmallTypes.ownedTupleIsFree;refine wpAny_bind (wpAny_field gz rfl (x:=.none) rfl (wpAny_pure ?_));simp only[if_true];refine wpAny_bind (wpAny_rule (wpAny_bind (wpAny_field gz rfl (x:=.ref TO) rfl (wpAny_bind (wpAny_setField_rec gz (by simp) fun k1 y1 e1=>?_)))))
 replace y1:IsZip k1 z TI TO .ellipsis:=y1
 replace e1:Heap.SameBut z hp k1:=e1;refine wpAny_bind ?_;simp only[List.zipIdx_cons,List.zipIdx_nil,List.forIn_cons,List.forIn_nil];refine wpAny_bind (wpAny_bind (wpAny_onRaise (show wpAny _ _ (Builtin.SmallTypes.nextOf (.ref i1) >>= _) _ _ _ from wpAny_bind ?_)));have q1:S1 k k1:=D1.frame _ _ _ st1 fun b hb o q=>e1.extBut b o (fun r=>D.z1 (r▸hb)) q
 rcases hend with rfl|⟨l1,rfl⟩
 ·refine D1.done _ _ _ q1 fun k2 e e2 he=>?_
  replace e2:Heap.ExtBut i1 k1 k2:=e2;obtain⟨oe,hoe,hce⟩:=he;have Z2:IsZip k2 z TI TO .ellipsis:=e2 _ _ (Ne.symm zi1) y1;have ez:e≠z:=fun q=>by subst q;rw[Z2] at hoe;cases hoe;simp at hce
  exact wpAny_setField_rec Z2 (by simp) fun k3 _ e3=>hE k3 e t0 (fun c o c1 _ c3 _ q=>e3.extBut _ _ c1 (e2 _ _ c3 (e1.extBut _ _ c1 q))) ⟨oe,e3.extBut _ _ ez hoe,hce⟩
 ·refine D1.item k _ _ _ l1 q1 fun x k2 t2 px s2 e2=>wpAny_pure ?_
  replace e2:Heap.SameBut i1 k1 k2:=e2;have O2:IsPair k2 TO a b:=e2.extBut _ _ (Ne.symm oi1) (e1.extBut _ _ D.a2 gO);refine wpAny_bind (wpAny_seqItems (s:=⟨k2,g,d,t2,os⟩) O2 rfl (wpAny_bind (wpAny_updateSeq_pair (s:=⟨k2,g,d,t2,os⟩) O2 fun k3 O3 e3=>?_)))
  replace e3:Heap.SameBut TO k2 k3:=e3;refine wpAny_bind (wpAny_letGo (wpAny_pure ?_));have st2':S2 k k3:=D2.frame _ _ _ st2 fun b hb o q=>e3.extBut b o (fun r=>D.o2 (r▸hb)) (e2.extBut b o (fun r=>D.x1 (r▸hb)) (e1.extBut b o (fun r=>D.z2 (r▸hb)) q))
  refine wpAny_bind (wpAny_bind (wpAny_onRaise (show wpAny _ _ (Builtin.SmallTypes.nextOf (.ref i2) >>= _) _ _ _ from wpAny_bind (D2.done _ _ _ st2' fun k4 e e4 he=>?_))))
  replace e4:Heap.ExtBut i2 k3 k4:=e4;obtain⟨oe,hoe,hce⟩:=he;have Z4:IsZip k4 z TI TO .ellipsis:=e4 _ _ (Ne.symm zi2) (e3.extBut _ _ (Ne.symm D.a2) (e2.extBut _ _ (Ne.symm zi1) y1));have ez:e≠z:=fun q=>by subst q;rw[Z4] at hoe;cases hoe;simp at hce
  exact wpAny_setField_rec Z4 (by simp) fun k5 _ e5=>hE k5 e t2 (fun c o c1 c2 c3 c4 q=>e5.extBut _ _ c1 (e4 _ _ c4 (e3.extBut _ _ c2 (e2.extBut _ _ c3 (e1.extBut _ _ c1 q))))) ⟨oe,e5.extBut _ _ ez hoe,hce⟩
end
end PySem

namespace PySem
def IsSq(b:Bool)(h:Heap)(a:Addr)(xs:Array Value):Prop:=match b with
 | true=>h.IsTuple a xs
 | false=>h.IsList a xs
def IsItr(b:Bool)(h:Heap)(j a:Addr)(i:Nat):Prop:=match b with
 | true=>h.IsTupleIter j a i
 | false=>h.IsListIter j a i
def itO(b:Bool)(a:Addr):Obj:=match b with
 | true=>{ cls:=.type "tuple_iterator",data:=.fields #[.ref a,.int 0 0] }
 | false=>{ cls:=.type "list_iterator",data:=.fields #[.ref a,.int 0 0] }
section
variable{prog:Program}{w:World}{A:Around}{E:Value->Shared->Prop}{s:Shared}{b b1 b2:Bool}{a a1 a2:Addr}{xs ys:Array Value}
theorem IsSq.push{h:Heap}(q:IsSq b h a xs)(o:Obj):IsSq b (h.push o) a xs:=by
 cases b with
 | true=>exact Heap.IsTuple.push q o
 | false=>exact Heap.IsList.push q o
theorem IsSq.lt{h:Heap}(q:IsSq b h a xs):a<h.objs.size:=by
 cases b with
 | true=>obtain⟨o,e,_⟩:=q;exact Heap.lt_size e
 | false=>obtain⟨o,e,_⟩:=q;exact Heap.lt_size e
theorem IsItr.new{h:Heap}(e:h.get? a1=some (itO b a)):IsItr b h a1 a 0:=by
 cases b with
 | true=>exact⟨_,e,rfl,rfl⟩
 | false=>exact⟨_,e,rfl,rfl⟩
theorem UO{Q:Value->Shared->Prop}(q:IsSq b s.heap a xs)(h:Q (.ref s.heap.objs.size) { s with heap:=s.heap.push (itO b a) }):wpAny (model prog w) A (pyIter (.ref a)) Q E s:=by
 cases b with
 | true=>exact wpAny_pyIter_tuple q h
 | false=>exact wpAny_pyIter_list q h
theorem Draws.sq(hh:A.handled=none)(j:Addr)(ne:a≠j):Draws prog w A j [j,a] xs.size (fun i v=>xs[i]?=some v) (fun i h=>IsItr b h j a i/\IsSq b h a xs):=by
 cases b with
 | true=>exact Draws.tup hh j a ne xs
 | false=>exact Draws.list hh j a ne xs
abbrev zP1(h:Heap)(b1:Bool)(a1:Addr):Heap:=h.push (itO b1 a1)
abbrev zP2(h:Heap)(b1 b2:Bool)(a1 a2:Addr):Heap:=(zP1 h b1 a1).push (itO b2 a2)
abbrev zP3(h:Heap)(b1 b2:Bool)(a1 a2:Addr):Heap:=(zP2 h b1 b2 a1 a2).push { cls:=.type "tuple",data:=.seq #[.ref h.objs.size,.ref (zP1 h b1 a1).objs.size] }
abbrev zP4(h:Heap)(b1 b2:Bool)(a1 a2:Addr):Heap:=(zP3 h b1 b2 a1 a2).push { cls:=.type "tuple",data:=.seq #[.none,.none] }
abbrev zP5(h:Heap)(b1 b2:Bool)(a1 a2:Addr):Heap:=(zP4 h b1 b2 a1 a2).push { cls:=.type "zip",data:=.fields #[.none,.bool false,.bool false,.ref (zP2 h b1 b2 a1 a2).objs.size,.ref (zP3 h b1 b2 a1 a2).objs.size] }
theorem JcU(b1 b2:Bool)(a1 a2:Addr)(xs ys:Array Value):Meets (Builtin.«zip.__new__» ⟨[.type "zip",.ref a1,.ref a2],[]⟩) (fun _ R s=>IsSq b1 s.heap a1 xs/\IsSq b2 s.heap a2 ys ∧
 R (.ok (.ret (.ref (zP4 s.heap b1 b2 a1 a2).objs.size))) { s with heap:=zP5 s.heap b1 b2 a1 a2 }) :=
 .of_wp fun prog w A R s h=>by obtain⟨hp,g,d,tk,os⟩:=s;obtain⟨q1,q2,h⟩:=h;have hsub:=sub_zip;have r1:IsSq b1 (Shared.heap ⟨hp,g,d,tk,os⟩) a1 xs:=q1;have r2:IsSq b2 (Shared.heap ⟨hp.push (itO b1 a1),g,d,tk,os⟩) a2 ys:=IsSq.push q2 _;wp_walk using UO r1,UO r2;exact⟨_,rfl,h⟩
theorem JeG{Q:Value->Shared->Prop}(q1:IsSq b1 s.heap a1 xs)(q2:IsSq b2 s.heap a2 ys)
 (h:∀h',IsZip h' (s.heap.objs.size+4) (s.heap.objs.size+2) (s.heap.objs.size+3) .none->IsPair h' (s.heap.objs.size+2) (.ref s.heap.objs.size) (.ref (s.heap.objs.size+1))->IsPair h' (s.heap.objs.size+3) .none .none ->
  IsItr b1 h' s.heap.objs.size a1 0->IsItr b2 h' (s.heap.objs.size+1) a2 0->(∀c o,s.heap.get? c=some o->h'.get? c=some o)->Q (.ref (s.heap.objs.size+4)) { s with heap:=h' }) :
 wpAny (model prog w) A (call (.type "zip") [.ref a1,.ref a2]) Q E s:=by
 refine callType_new F.called_zip (by decide) (F.typeCall_zip_2 _ _) (F.newCall_zip_2 _ _) (fun obj=>F.args_object_init_3 obj _ _) F.entry_zip_new (JcU b1 b2 a1 a2 xs ys) ⟨q1,q2,?_⟩;have z1:(zP1 s.heap b1 a1).objs.size=s.heap.objs.size+1:=Heap.size_push ..;have z2:(zP2 s.heap b1 b2 a1 a2).objs.size=s.heap.objs.size+2:=by rw[Heap.size_push,z1]
 have z3:(zP3 s.heap b1 b2 a1 a2).objs.size=s.heap.objs.size+3:=by rw[Heap.size_push,z2]
 have z4:(zP4 s.heap b1 b2 a1 a2).objs.size=s.heap.objs.size+4:=by rw[Heap.size_push,z3]
 have up:∀{k:Heap} {c:Addr} {o u:Obj},k.get? c=some o->(k.push u).get? c=some o:=fun q=>Heap.get?_push_of_some _ q
 have fi1:(itO b1 a1).isFreed=false:=by cases b1 <;> rfl
 have fi2:(itO b2 a2).isFreed=false:=by cases b2 <;> rfl
 have g5:(zP5 s.heap b1 b2 a1 a2).get? (zP4 s.heap b1 b2 a1 a2).objs.size=some _:=Heap.get?_push_size _ rfl
 have g4:(zP5 s.heap b1 b2 a1 a2).get? (zP3 s.heap b1 b2 a1 a2).objs.size=some _:=up (Heap.get?_push_size _ rfl)
 have g3:(zP5 s.heap b1 b2 a1 a2).get? (zP2 s.heap b1 b2 a1 a2).objs.size=some _:=up (up (Heap.get?_push_size _ rfl))
 have g2:(zP5 s.heap b1 b2 a1 a2).get? (zP1 s.heap b1 a1).objs.size=some _:=up (up (up (Heap.get?_push_size _ fi2)))
 have g1:(zP5 s.heap b1 b2 a1 a2).get? s.heap.objs.size=some _:=up (up (up (up (Heap.get?_push_size _ fi1))))
 show _/\_;rw[z2,z3,z4] at g5;rw[z1,z2] at g3;rw[z3] at g4;rw[z1] at g2;rw[z4];exact⟨⟨_,g5,rfl⟩,h _ g5 g3 g4 (.new g1) (.new g2) fun c o q=>up (up (up (up (up q))))⟩
end
end PySem

namespace L2
open PySem PySem.Spec PyProof.Rows
section
variable{X:Cx}{pins:List (Addr×Obj)}{σ:St}{H:Hp}{s:Shared}{h':Heap}
theorem Inv.turnedL{t':Nat}{fp:List Addr}(I:Inv X pins σ H s)(k:∀b o,b∉fp->s.heap.get? b=some o->h'.get? b=some o)(hf:∀b∈fp,FpOk X pins H b):Inv X pins σ H { s with heap:=h',toks:=t' }:=by
 have nit:∀b u,H b=some u->b∉fp:=fun b u e z=>by rw[(hf b z).1] at e;cases e
 refine I.step (g':=s.gens) (d':=s.drawn) (ch:=fp) (fun b hb=>?_) (fun b o _ _ hc e _=>k b o hc e) (fun b o _ _ hc e _=>⟨o.slots,k b o hc e⟩) (fun _ _ _ _ n=>n)
  (fun b o hc e=>⟨o,k b o hc e⟩) (fun _ _ e=>e) (fun _ _ _ e=>e) (fun b ps e=>⟨#[],by rw[e];simp⟩) (fun m hm=>?_) (fun b u e=>?_) I.bare
 ·obtain⟨f0,f1,f2,f3,f4,f5⟩:=hf b hb;exact⟨f3,f1,f4,f5⟩
 ·obtain⟨o,es,ep,ho,r⟩:=hm;exact⟨o,es,ep,k _ o (fun z=>(hf _ z).2.1 rfl) ho,r⟩
 ·refine(I.hok b u e).stay (fun c v hc q=>k c v ?_ q) (fun _ q=>q) fun _ _ q=>q
  rcases hc with z|z
  ·rw[z];exact nit b u e
  ·exact nit c _ z
noncomputable def Sq(b:Bool)(K:Frag)(H:Hp)(a:Addr)(xs:List V):Prop:=match b with
 | true=>SqT K H a xs
 | false=>SqL K H a xs
theorem Sq.heap{b:Bool}{a:Addr}{xs:List V}(I:Inv X pins σ H s)(q:Sq b X.K H a xs):∃its:List Value,Vals xs its/\IsSq b s.heap a its.toArray:=by
 cases b with
 | true=>obtain⟨its,r,p,_⟩:=I.tuple q;exact⟨its,r,p⟩
 | false=>obtain⟨its,r,p,_⟩:=I.list q;exact⟨its,r,p.isList⟩
theorem Sq.inj{b:Bool}{a:Addr}{xs ys:List V}(I:Inv X pins σ H s)(q:Sq b X.K H a xs)(q':Sq b X.K H a ys):xs=ys:=by
 cases b with
 | true=>exact I.tuple_inj q q'
 | false=>exact I.list_inj q q'
theorem FpOk.off{b:Bool}{a c:Addr}{xs:List V}(I:Inv X pins σ H s)(q:Sq b X.K H a xs)(f:FpOk X pins H c):a≠c:=by
 intro e;subst e;have own:∀{o:HO},H a=some o->False:=fun h=>by rw[f.1] at h;cases h
 have mod:∀{o:Obj},X.K.lookup a=some o->False:=fun {o} h=>by
  have hb:=I.ok.mod.kin a o h;rcases f.2.2.2.1 with z|z
  ·exact I.ok.noex a o hb z
  ·exact absurd (Heap.lt_size hb) (Nat.not_lt.mpr (Nat.le_trans I.ok.bsz z))
 cases b with
 | true =>
  rcases q with (h|⟨o,h⟩)|⟨o,its,n,h,_⟩
  ·exact own h
  ·exact own h
  ·exact mod h
 | false =>
  rcases q with (h|⟨o,h⟩)|⟨o,its,n,h,_⟩
  ·exact own h
  ·exact own h
  ·exact mod h
noncomputable def Itz(K:Frag)(b1 b2:Bool)(a1 a2:Addr):It :=
 ⟨fun i H=>∃xs ys x y,Sq b1 K H a1 xs/\Sq b2 K H a2 ys/\xs[i]?=some x/\ys[i]?=some y,
  fun i H x H'=>∃p u v,x=.ref p/\H p=none/\H'=upd H p (.tup [u,v])/\∀xs ys,Sq b1 K H a1 xs->Sq b2 K H a2 ys->xs[i]?=some u/\ys[i]?=some v,
  fun i H=>∃xs ys,Sq b1 K H a1 xs/\Sq b2 K H a2 ys/\i=min xs.length ys.length⟩
noncomputable def ZSt(b1 b2:Bool)(a1 a2 z TI TO i1 i2:Addr)(i:Nat)(h:Heap):Prop:=IsZip h z TI TO .none/\IsPair h TI (.ref i1) (.ref i2)/\(∃a b,IsPair h TO a b)/\IsItr b1 h i1 a1 i/\IsItr b2 h i2 a2 i
theorem IsItr.keep{b:Bool}{h h':Heap}{j a:Addr}{i:Nat}(q:IsItr b h j a i)(k:∀o,h.get? j=some o->h'.get? j=some o):IsItr b h' j a i:=by
 cases b with
 | true=>obtain⟨o,e,r⟩:=q;exact⟨o,k o e,r⟩
 | false=>obtain⟨o,e,r⟩:=q;exact⟨o,k o e,r⟩
theorem IsItr.obj{b:Bool}{h:Heap}{j a:Addr}{i:Nat}(q:IsItr b h j a i):∃o,h.get? j=some o/\∀v,o.data≠.cell v:=by
 cases b with
 | true=>obtain⟨o,e,_,d⟩:=q;exact⟨o,e,fun v z=>by rw[d] at z;cases z⟩
 | false=>obtain⟨o,e,_,d⟩:=q;exact⟨o,e,fun v z=>by rw[d] at z;cases z⟩
end
theorem Jkc{X:Cx}{pins:List (Addr×Obj)}{σ:St}{H:Hp}{s:Shared}{b1 b2:Bool}{a1 a2 z TI TO i1 i2:Addr}{xs ys:List V}(I:Inv X pins σ H s)(q1:Sq b1 X.K H a1 xs)(q2:Sq b2 X.K H a2 ys)(hf:∀b∈[z,TI,TO,i1,i2],FpOk X pins H b)
 (nd:[z,TI,TO,i1,i2].Nodup):ZA z TI TO i1 i2 [i1,a1] [i2,a2]:=by
 have o1:∀c∈[z,TI,TO,i1,i2],a1≠c:=fun c hc=>FpOk.off I q1 (hf c hc)
 have o2:∀c∈[z,TI,TO,i1,i2],a2≠c:=fun c hc=>FpOk.off I q2 (hf c hc)
 simp only[List.nodup_cons,List.mem_cons,List.mem_nil_iff,or_false,not_or] at nd;obtain⟨⟨n1,n2,n3,n4⟩,⟨n5,n6,n7⟩,⟨n8,n9⟩,n10,_⟩:=nd;have c1:=o1 z (by simp);have c2:=o1 TI (by simp);have c3:=o1 TO (by simp);have c4:=o1 i2 (by simp);have d1:=o2 z (by simp);have d2:=o2 TI (by simp);have d3:=o2 TO (by simp);have d4:=o2 i1 (by simp);refine⟨Ne.symm n1,Ne.symm n2,n5,by simp,by simp,?_,?_,?_,?_,?_,?_,?_,?_⟩ <;> simp only[List.mem_cons,List.mem_nil_iff,or_false,not_or]
 ·exact⟨n3,Ne.symm c1⟩
 ·exact⟨n4,Ne.symm d1⟩
 ·exact⟨n6,Ne.symm c2⟩
 ·exact⟨n7,Ne.symm d2⟩
 ·exact⟨n8,Ne.symm c3⟩
 ·exact⟨n9,Ne.symm d3⟩
 ·exact⟨n10,Ne.symm d4⟩
 ·exact⟨Ne.symm n10,Ne.symm c4⟩
theorem Jhx{P:Program}{w:World}{K:Frag}{elts:List Expr}{kk:Nat}{pos:Pos}(b1 b2:Bool)(a1 a2 z TI TO i1 i2:Addr)(nd:[z,TI,TO,i1,i2].Nodup) :
 Turn P w K (.Tuple elts kk pos) (Itz K b1 b2 a1 a2) [z,TI,TO,i1,i2] z (ZSt b1 b2 a1 a2 z TI TO i1 i2) where
 mem:=by simp
 obj:=fun i h st b hb=>by
  obtain⟨s1,s2,⟨u,v,s3⟩,s4,s5⟩:=st;simp only[List.mem_cons,List.mem_nil_iff,or_false] at hb;rcases hb with rfl|rfl|rfl|rfl|rfl
  ·exact⟨_,s1,fun v z=>nomatch (show Data.fields _=Data.cell v from z)⟩
  ·exact⟨_,s2,fun v z=>nomatch (show Data.seq _ _=Data.cell v from z)⟩
  ·exact⟨_,s3,fun v z=>nomatch (show Data.seq _ _=Data.cell v from z)⟩
  ·exact IsItr.obj (b:=b1) s4
  ·exact IsItr.obj (b:=b2) s5
 keep:=fun i h h' st k=>by obtain⟨s1,s2,⟨u,v,s3⟩,s4,s5⟩:=st;exact⟨k z (by simp) _ s1,k TI (by simp) _ s2,⟨u,v,k TO (by simp) _ s3⟩,IsItr.keep (b:=b1) s4 fun o e=>k i1 (by simp) o e,IsItr.keep (b:=b2) s5 fun o e=>k i2 (by simp) o e⟩
 item:=by
  intro X hP hw hK hc i pins s σ H E I hf st hg;subst hP hw hK;obtain⟨xs,ys,x,y,q1,q2,e1,e2⟩:=hg;obtain⟨its,r1,p1⟩:=q1.heap I;obtain⟨jts,r2,p2⟩:=q2.heap I;obtain⟨s1,s2,⟨u0,v0,s3⟩,s4,s5⟩:=st;have Z:=Jkc I q1 q2 hf nd;have hh:X.A.in1.handled=none:=I.ok.hd hc;have ne1:a1≠i1:=FpOk.off I q1 (hf i1 (by simp));have ne2:a2≠i2:=FpOk.off I q2 (hf i2 (by simp));have D1:=Draws.sq (prog:=X.prog) (w:=X.w) (b:=b1) (xs:=its.toArray) hh i1 ne1
  have D2:=Draws.sq (prog:=X.prog) (w:=X.w) (b:=b2) (xs:=jts.toArray) hh i2 ne2
  have hT:s.TypeIs (.ref z) "zip":=⟨_,s1,rfl⟩
  have l1:i<its.toArray.size:=by have:=(List.getElem?_eq_some_iff.mp e1).1;rw[List.size_toArray,<- r1.length];exact this
  have l2:i<jts.toArray.size:=by have:=(List.getElem?_eq_some_iff.mp e2).1;rw[List.size_toArray,<- r2.length];exact this
  unfold pyNext;refine wpAny_bind (wpAny_attempt (wpAny_callSpecial?_slot (name:=Str.ofString "__next__") hT F.slot_zip_next (wpAny_call_entry F.slot_zip_next hT F.entry_zip_next (Jfw Z D1 D2 s1 s2 s3 ⟨s4,p1⟩ ⟨s5,p2⟩ l1 l2 fun u v k tk pu pv t1 t2 t3 t4 t5 t6 t7 t8=>wpAny_pure ?_) (F.args_zip_next_1 _))));refine⟨_,rfl,wpAny_letOwnedTupleGo_zip (s:={ s with heap:=k,toks:=tk }) t1 fun k2 t9 e9=>?_⟩
  replace e9:Heap.SameBut z k k2:=e9;obtain⟨ux,hx1,rx⟩:=r1.get e1;obtain⟨uy,hy1,ry⟩:=r2.get e2
  have eu:u=ux:=by
   have pu':its[i]?=some u:=by simpa using pu
   rw[hx1] at pu';exact(Option.some.inj pu').symm
  have ev:v=uy:=by
   have pv':jts[i]?=some v:=by simpa using pv
   rw[hy1] at pv';exact(Option.some.inj pv').symm
  subst eu ev
  have zlt:∀b∈[z,TI,TO,i1,i2],b<s.heap.objs.size:=fun b hb=>by
   simp only[List.mem_cons,List.mem_nil_iff,or_false] at hb;rcases hb with rfl|rfl|rfl|rfl|rfl
   ·exact Heap.lt_size s1
   ·exact Heap.lt_size s2
   ·exact Heap.lt_size s3
   ·obtain⟨_,e,_⟩:=IsItr.obj (b:=b1) s4;exact Heap.lt_size e
   ·obtain⟨_,e,_⟩:=IsItr.obj (b:=b2) s5;exact Heap.lt_size e
  have nz:s.heap.objs.size≠z:=Nat.ne_of_gt (zlt z (by simp))
  -- the pair is laid,then the private objects turn
  have I1:Inv X pins σ (upd H s.heap.objs.size (.tup [x,y])) { s with heap:=s.heap.push { cls:=.type "tuple",data:=.seq #[u,v] },toks:=s.toks } :=
   I.laid (o:=.tup [x,y]) (fun b ob q=>Heap.get?_push_of_some _ q) (Nat.le_refl _) ⟨by show 2<=sizeLine;decide,[u,v],.cons rx (.cons ry .nil),⟨_,Heap.get?_push_size _ rfl,rfl,_,rfl⟩⟩
  have hf1:∀b∈[z,TI,TO,i1,i2],FpOk X pins (upd H s.heap.objs.size (.tup [x,y])) b:=fun b hb=>⟨by rw[Ji (Nat.ne_of_lt (zlt b hb))];exact(hf b hb).1,(hf b hb).2⟩
  have I2:Inv X pins σ (upd H s.heap.objs.size (.tup [x,y])) { s with heap:=k2,toks:=tk }:=Inv.turnedL (s:={ s with heap:=s.heap.push { cls:=.type "tuple",data:=.seq #[u,v] },toks:=s.toks }) I1 (fun b o hb q=>by
   simp only[List.mem_cons,List.mem_nil_iff,or_false,not_or] at hb;refine e9.extBut b o hb.1 ?_
   by_cases hbs:b=s.heap.objs.size
   ·subst hbs;have q':(s.heap.push { cls:=.type "tuple",data:=.seq #[u,v] }).get? s.heap.objs.size=some o:=q;rw[Heap.get?_push_size _ rfl] at q';cases q';exact t6
   ·have q':s.heap.get? b=some o:=by have q2:(s.heap.push { cls:=.type "tuple",data:=.seq #[u,v] }).get? b=some o:=q;exact(Heap.get?_push_ne s.heap b _ hbs).symm.trans q2
    exact t8 b o hb.1 hb.2.2.1 hb.2.2.2.1 hb.2.2.2.2 q') hf1
  refine⟨.ref s.heap.objs.size,_,I2,rfl,⟨_,x,y,rfl,I.hok.fresh (Nat.le_refl _),rfl,fun xs' ys' h1 h2=>?_⟩,⟨t9,e9.extBut _ _ Z.a1 t2,⟨_,_,e9.extBut _ _ Z.a2 t3⟩,?_,?_⟩,fun b hb=>(hf1 b hb).1⟩
  ·rw[Sq.inj I h1 q1,Sq.inj I h2 q2];exact⟨e1,e2⟩
  ·exact IsItr.keep (b:=b1) t4.1 fun o e=>e9.extBut _ _ (fun q=>Z.z1 (q▸Z.m1)) e
  ·exact IsItr.keep (b:=b2) t5.1 fun o e=>e9.extBut _ _ (fun q=>Z.z2 (q▸Z.m2)) e
 done:=by
  intro X hP hw hK hc i pins s σ H E I hf st hg;subst hP hw hK;obtain⟨xs,ys,q1,q2,ei⟩:=hg;obtain⟨its,r1,p1⟩:=q1.heap I;obtain⟨jts,r2,p2⟩:=q2.heap I;obtain⟨s1,s2,⟨u0,v0,s3⟩,s4,s5⟩:=st;have Z:=Jkc I q1 q2 hf nd;have hh:X.A.in1.handled=none:=I.ok.hd hc;have D1:=Draws.sq (prog:=X.prog) (w:=X.w) (b:=b1) (xs:=its.toArray) hh i1 (FpOk.off I q1 (hf i1 (by simp)));have D2:=Draws.sq (prog:=X.prog) (w:=X.w) (b:=b2) (xs:=jts.toArray) hh i2 (FpOk.off I q2 (hf i2 (by simp)))
  have hT:s.TypeIs (.ref z) "zip":=⟨_,s1,rfl⟩
  have n1:its.toArray.size=xs.length:=by rw[List.size_toArray,r1.length]
  have n2:jts.toArray.size=ys.length:=by rw[List.size_toArray,r2.length]
  unfold pyNext;refine wpAny_bind (wpAny_attempt (wpAny_callSpecial?_slot (name:=Str.ofString "__next__") hT F.slot_zip_next (wpAny_call_entry F.slot_zip_next hT F.entry_zip_next (JhH Z D1 D2 s1 s2 s3 ⟨s4,p1⟩ ⟨s5,p2⟩ (by omega) fun k e tk kk he=>?_) (F.args_zip_next_1 _))));obtain⟨o,ho,hoc⟩:=he;refine wpAny_bind (wpAny_isInstance (T:="StopIteration") (b:=true) ⟨o,ho,hoc⟩ isSubtype_stop (wpAny_pure ⟨rfl,?_⟩));exact I.turnedL (fun b o hb q=>by simp only[List.mem_cons,List.mem_nil_iff,or_false,not_or] at hb;exact kk b o hb.1 hb.2.2.1 hb.2.2.2.1 hb.2.2.2.2 q) hf
 self:=fun _ _ _ _ _ st h=>wpAny_pyIter_zip st.1 h
noncomputable def iZp(K:Frag)(ta:TA):TI:=fun σ H R=>ta σ H fun vs H1=>∃(b1 b2:Bool) (a1 a2:Addr) (xs ys:List V),vs=[.ref a1,.ref a2]/\Sq b1 K H1 a1 xs/\Sq b2 K H1 a2 ys/\R (Itz K b1 b2 a1 a2) H1
theorem JiQ{X:Cx}{K:Frag}{elts:List Expr}{kk:Nat}{tpos:Pos}{a b:Expr}{ta:TA}{p pos:Pos}(hK:X.K=K)(hg:Gl X "zip")(hm:X.mg "zip"=none)(ha:PA X [a,b] ta)(hs:starEach [a,b] X.env=[(false,eval a X.env),(false,eval b X.env)]:=by rfl)
 (hs2:starEach [b] X.env=[(false,eval b X.env)]:=by rfl):PI X (.Tuple elts kk tpos) (.Call (.Name "zip" p) [a,b] [] pos) (iZp K ta):=by
 subst hK;intro pins s σ H R I h;refine Call_ (U5 I hg hm Jkl (PyProof.Rows.callWith_type1 (thn (ha pos pins s σ H _ I h) fun us s1 ⟨vs,H1,I1,r1,q1⟩=>?_) (by rw[hs,hs2]) (by rw[hs2];rfl)));obtain⟨b1,b2,a1,a2,xs,ys,e,c1,c2,q⟩:=q1;subst e
 cases r1 with
 | cons r rr =>
 cases rr with
 | cons r' rr =>
 cases rr;cases r;cases r';obtain⟨its,w1,p1⟩:=c1.heap I1;obtain⟨jts,w2,p2⟩:=c2.heap I1;refine JeG p1 p2 fun h' t1 t2 t3 t4 t5 kp=>wpAny_pyIter_zip t1 ?_
 refine⟨_,[s1.heap.objs.size+4,s1.heap.objs.size+2,s1.heap.objs.size+3,s1.heap.objs.size,s1.heap.objs.size+1],_,_,H1,rfl,I1.kept (t':=s1.toks) kp,Jhx b1 b2 a1 a2 _ _ _ _ _ (by simp),⟨t1,t2,⟨_,_,t3⟩,t4,t5⟩,fun b hb=>?_,q⟩
 have hle:s1.heap.objs.size<=b:=by simp only[List.mem_cons,List.mem_nil_iff,or_false] at hb;rcases hb with rfl|rfl|rfl|rfl|rfl <;> first|exact Nat.le_refl _|exact Nat.le_add_right _ _
 exact I1.fpOk hle (I1.hok.fresh hle)
end L2

namespace LE
open PySem L2 LR
noncomputable def JhG(ds es:List D):List D:=List.zipWith (fun a b=>.tup [a,b]) ds es
noncomputable def JkN(m:Bool)(as:En->Option (List Sl)):En->Option (List D):=fun E=>(as E).bind fun ss=>match ss with
 | [s,t]=>(s.it m).bind fun ds=>(t.it m).bind fun es=>some (JhG ds es)
 | _=>none
section
variable{K:Frag}{C:Addr}{m:Bool}
theorem JkM{H H1 H1':Hp}{v:V}{s:Sl}{ds:List D}(r:RR K C H H1 H1' v s)(i:Same H1 H1')(e:s.it m=some ds) :
 ∃(b:Bool) (a:Addr) (xs:List V),v=.ref a/\(∀A,(m=true->A=H1')->∀H0' H',SStep A (YD H H1 H1') H0' H'->Sq b K H' a xs)/\RDL K C (YD H H1 H1') xs ds:=by
 have f:=JT (Hs:=H) i
 have shared:∀{d:D},RD K C (YD H H1 H1') v d->(Sl.sh d).q=some ds->∃(b:Bool) (a:Addr) (xs:List V),v=.ref a/\(∀A,(m=true->A=H1')->∀H0' H',SStep A (YD H H1 H1') H0' H'->Sq b K H' a xs)/\RDL K C (YD H H1 H1') xs ds:=fun {d} r e=>by
  cases d with
  | lst es=>cases e;obtain⟨l,xs,h1,h2,h3⟩:=RD.lstI r;exact⟨false,l,xs,h1,fun A _ H0' H' st=>SqL.of (st.i _ _ (st.z _ _ h2)),h3⟩
  | fz es=>cases e;obtain⟨l,xs,h1,h2,h3⟩:=RD.fzI r;exact⟨false,l,xs,h1,fun A _ H0' H' st=>(st.z.trans st.i).seq h2,h3⟩
  | tup es=>cases e;obtain⟨l,xs,h1,h2,h3⟩:=RD.tupI r;exact⟨true,l,xs,h1,fun A _ H0' H' st=>(st.z.trans st.i).seqT h2,h3⟩
  | _=>cases e
 cases s with
 | no=>cases e
 | sh d=>exact shared (RD.mono f.z r) e
 | own es=>exact shared (RR.frz (s:=.own es) i r rfl) e
 | bd _ _=>cases e
 | bt _ _=>cases e
 | od _ _=>cases e
 | ot _ _=>cases e
 | bo es =>
  unfold Sl.it at e;dsimp only at e;split at e
  ·next hm=>cases e;obtain⟨l,xs,h1,h2,h3⟩:=r;refine⟨false,l,xs,h1,fun A hA H0' H' st=>?_,h3.mono f.z⟩;have:=hA hm;subst this;exact SqL.of (st.b _ _ h2)
  ·cases e
theorem Jmd{t:TA}{ev:En->Option (List Sl)}(ha:SA K C t ev):SI K C m (iZp K t) (JkN m ev):=by
 intro B H0 H σ E ds R I e q;obtain⟨ss,e1,e⟩:=bind_some e;split at e
 ·next s u =>
  obtain⟨ds1,e2,e⟩:=bind_some e;obtain⟨ds2,e3,e⟩:=bind_some e;cases e;refine ha B H0 H σ E _ _ I e1 fun vs H1 H1' s1 r1=>?_
  obtain⟨v,w,rfl,ra,rb⟩:=r1.two;have f:=JT (Hs:=H) s1.i;obtain⟨b1,a1,xs,rfl,k1,w1⟩:=JkM ra s1.i e2;obtain⟨b2,a2,ys,rfl,k2,w2⟩:=JkM rb s1.i e3;have hA:m=true->(if m=true then H1' else B)=H1':=fun h=>if_pos h
  have sA:Same (if m=true then H1' else B) H1':=by
   split
   ·exact Same.refl _
   ·exact I.b.trans s1.h
  have st0:SStep (if m=true then H1' else B) (YD H H1 H1') (YD H H1 H1') H1':=⟨sA,Same.refl _,fun _ _ e=>.inl e,f.i⟩
  refine⟨b1,b2,a1,a2,xs,ys,rfl,k1 _ hA _ _ st0,k2 _ hA _ _ st0,q _ _ _ (s1.comp f fun _ z=>z) ?_⟩;intro H0' H' st;have q1:=k1 _ hA _ _ st;have q2:=k2 _ hA _ _ st;refine⟨fun i d e=>?_,⟨xs,ys,q1,q2,by unfold JhG;rw[List.length_zipWith,w1.1,w2.1]⟩⟩;unfold JhG at e;rw[List.getElem?_zipWith] at e
  cases g1:ds1[i]? with
  | none=>rw[g1] at e;cases e
  | some d1 =>
   cases g2:ds2[i]? with
   | none=>rw[g1,g2] at e;cases e
   | some d2 =>
    rw[g1,g2] at e;cases e;obtain⟨x,x1,x2⟩:=w1.get g1;obtain⟨y,y1,y2⟩:=w2.get g2;refine⟨⟨xs,ys,x,y,q1,q2,x1,y1⟩,?_⟩;rintro z H2 ⟨p,u',v',rfl,hp,rfl,hv⟩;obtain⟨h1,h2⟩:=hv xs ys q1 q2;rw[x1] at h1;cases h1;rw[y1] at h2;cases h2;have h0:H0' p=none:=Same.free st.i hp;refine⟨upd H0' p (.tup [x,y]),⟨.new hp,.new h0,fun a o e=>?_,fun a o e=>?_⟩,?_⟩
    ·by_cases h:a=p
     ·subst h;exact .inr (.inl hp)
     ·rw[Ji h] at e;exact .inl e
    ·by_cases h:a=p
     ·subst h;rw[Jw] at e ⊢;exact e
     ·rw[Ji h] at e ⊢;exact st.i a o e
    ·exact .mkT (.of Jw) (.cons (x2.mono (st.z.trans (.new h0))) (.cons (y2.mono (st.z.trans (.new h0))) .nil))
 ·cases e
theorem JjM{α β:Type}(f:α->D)(g:β->D)(xs:List α)(ys:List β):JhG (xs.map f) (ys.map g)=(List.zip xs ys).map fun p=>.tup [f p.1,g p.2]:=by
 unfold JhG
 induction xs generalizing ys with
 | nil=>rfl
 | cons x xs ih=>cases ys with
  | nil=>rfl
  | cons y ys=>simp[ih]
end
end LE

namespace PySem
namespace F
end F
section
variable{prog:Program}{w:World}{A:Around}{E:Value->Shared->Prop}{s:Shared}{a r:Addr}{xs:Array Value}
end
end PySem
namespace L2
open PySem PySem.Spec PyProof.Rows
end L2
namespace LE
open PySem L2 LR
section
variable{K:Frag}{C:Addr}{m:Bool}
end
end LE

namespace PySem
open AutoSeq1 (wpAny_loadPart')
abbrev enO(it:Addr):Obj:={ cls:=.type "enumerate",data:=.fields #[.none,.bool false,.ref it,rawInt 0,.none,.none] }
theorem Je9(b:Bool)(a:Addr)(xs:Array Value):Meets (Builtin.«enumerate.__new__» ⟨[.type "enumerate",.ref a],[]⟩) (fun _ R s=>IsSq b s.heap a xs ∧
 R (.ok (.ret (.ref (s.heap.push (itO b a)).objs.size))) { s with heap:=(s.heap.push (itO b a)).push (enO s.heap.objs.size) }) :=
 .of_wp fun prog w A R s h=>by
  obtain⟨hp,g,d,tk,os⟩:=s;obtain⟨q,h⟩:=h;have hsub:=sub_enumerate;have r:IsSq b (Shared.heap ⟨hp,g,d,tk,os⟩) a xs:=q
  obtain⟨o,hl⟩:∃o,hp.get? a=some o:=by
   cases b with
   | true=>obtain⟨o,e,_⟩:=q;exact⟨o,e⟩
   | false=>obtain⟨o,e,_⟩:=q;exact⟨o,e⟩
  wp_walk using wpAny_loadPart' hl
  refine wpAny_stack_any fun st=>wpAny_pure ?_
  split
  ·rename_i c _ _ _ _ _;cases (c == Value.type "enumerate")
   ·wp_walk using wpAny_loadPart' hl,UO r
    exact⟨_,rfl,h⟩
   ·wp_walk using wpAny_loadPart' hl,UO r
    exact⟨_,rfl,h⟩
  ·wp_walk using wpAny_loadPart' hl,UO r
   exact⟨_,rfl,h⟩
section
variable{prog:Program}{w:World}{A:Around}{E:Value->Shared->Prop}{s:Shared}{b:Bool}{a e it:Addr}{xs:Array Value}
theorem JfH{Q:Value->Shared->Prop}(q:IsSq b s.heap a xs)
 (h:∀h',IsEnum h' (s.heap.objs.size+1) s.heap.objs.size 0 .none->IsItr b h' s.heap.objs.size a 0->(∀c o,s.heap.get? c=some o->h'.get? c=some o)->Q (.ref (s.heap.objs.size+1)) { s with heap:=h' }) :
 wpAny (model prog w) A (call (.type "enumerate") [.ref a]) Q E s:=by
 refine callType_new F.called_enumerate (by decide) (F.typeCall_enumerate_1 _) (F.newCall_enumerate_1 _) (fun obj=>F.args_object_init_2 obj _) F.entry_enumerate_new (Je9 b a xs) ⟨q,?_⟩;have hz:(s.heap.push (itO b a)).objs.size=s.heap.objs.size+1:=Heap.size_push ..;have fi:(itO b a).isFreed=false:=by cases b <;> rfl
 have g2:((s.heap.push (itO b a)).push (enO s.heap.objs.size)).get? (s.heap.push (itO b a)).objs.size=some _:=Heap.get?_push_size _ rfl
 have g1:((s.heap.push (itO b a)).push (enO s.heap.objs.size)).get? s.heap.objs.size=some _:=Heap.get?_push_of_some _ (Heap.get?_push_size _ fi)
 show _/\_;rw[hz] at g2;rw[hz];exact⟨⟨_,g2,rfl⟩,h _ g2 (.new g1) fun c o x=>Heap.get?_push_of_some _ (Heap.get?_push_of_some _ x)⟩
theorem JfT{p:List Addr}{n i:Nat}{P:Nat->Value->Prop}{S:Nat->Heap->Prop}{old:Value}{Q:Value->Shared->Prop}(D:Draws prog w A it p n P S)(he:IsEnum s.heap e it i old)(st:S i s.heap)(hi:i<n)(hne:e∉p)(him:it∈p)
 (hQ:∀x h' tk t,P i x->IsEnumOut h' e it ((i:Int)+1) x s.heap.objs.size->S (i+1) h'->h'.get? s.heap.objs.size=some { cls:=.type "tuple",data:=.seq #[.int i t,x] }->h'.objs.size=s.heap.objs.size+1 ->
  (∀c o,c≠e->c≠it->s.heap.get? c=some o->h'.get? c=some o)->Q (.ref s.heap.objs.size) { s with heap:=h',toks:=tk }) :
 wpAny (model prog w) A (Builtin.«enumerate.__next__» ⟨[.ref e],[]⟩) (fun fin s'=>∃v,fin=.done (.ret v)/\Q v s') E s:=by
 obtain⟨hp,g,d,tk,os⟩:=s;have ne:e≠it:=fun q=>hne (q▸him)
 show wpAny _ _ (field (.ref e) 2 >>= _) _ _ _;refine wpAny_bind (wpAny_field he rfl (x:=.ref it) rfl (wpAny_bind (D.item i _ _ _ hi st fun x k1 t1 px s1 e1=>?_)))
 replace e1:Heap.SameBut it hp k1:=e1;have E1:IsEnum k1 e it i old:=(e1.2 e ne).trans he;refine wpAny_bind (wpAny_field (s:=⟨k1,g,d,t1,os⟩) E1 rfl (x:=rawInt i) rfl ?_);show wpAny _ _ (field (.ref e) 4 >>= _) _ _ ⟨k1,g,d,t1,os⟩;refine wpAny_bind (wpAny_field (s:=⟨k1,g,d,t1,os⟩) E1 rfl (x:=.none) rfl ?_);show wpAny _ _ (mkInt i >>= _) _ _ ⟨k1,g,d,t1,os⟩;refine wpAny_bind (wpAny_mkInt ?_);show wpAny _ _ (setField (.ref e) 3 (rawInt ((i:Int)+1)) >>= _) _ _ ⟨k1,g,d,t1+1,os⟩
 refine wpAny_bind (wpAny_setField_rec E1 (by simp) fun k2 E2 e2=>?_)
 replace e2:Heap.SameBut e k1 k2:=e2
 replace E2:IsEnum k2 e it ((i:Int)+1) old:=E2;show wpAny _ _ (setField (.ref e) 4 .none >>= _) _ _ ⟨k2,g,d,t1+1,os⟩;refine wpAny_bind (wpAny_setField_rec E2 (by simp) fun k3 E3 e3=>?_)
 replace e3:Heap.SameBut e k2 k3:=e3
 replace E3:IsEnum k3 e it ((i:Int)+1) old:=E3;show wpAny _ _ (newTuple [.int i t1,x] >>= _) _ _ ⟨k3,g,d,t1+1,os⟩;refine wpAny_bind (wpAny_newTuple ?_);have hsz:k3.objs.size=hp.objs.size:=by rw[e3.1,e2.1,e1.1]
 have elt:e<hp.objs.size:=Heap.lt_size he
 have E4:IsEnum (k3.push { cls:=.type "tuple",data:=.seq #[.int i t1,x] }) e it ((i:Int)+1) old:=Heap.get?_push_of_some _ E3
 have T4:(k3.push { cls:=.type "tuple",data:=.seq #[.int i t1,x] }).get? hp.objs.size=some { cls:=.type "tuple",data:=.seq #[.int i t1,x] }:=by rw[<- hsz];exact Heap.get?_push_size _ rfl
 have z4:(k3.push { cls:=.type "tuple",data:=.seq #[.int i t1,x] }).objs.size=hp.objs.size+1:=by rw[Heap.size_push,hsz]
 have kp:∀c o,c≠e->k1.get? c=some o->(k3.push { cls:=.type "tuple",data:=.seq #[.int i t1,x] }).get? c=some o:=fun c o c1 q=>Heap.get?_push_of_some _ (e3.extBut c o c1 (e2.extBut c o c1 q))
 show wpAny _ _ (Builtin.SmallTypes.ownedTupleIsFree (.ref e) >>= _) _ _ ⟨k3.push { cls:=.type "tuple",data:=.seq #[.int i t1,x] },g,d,t1+1,os⟩;rw[hsz]
 generalize k3.push { cls:=.type "tuple",data:=.seq #[.int i t1,x] }=k4 at E4 T4 z4 kp ⊢
 refine wpAny_bind ?_;unfold Builtin.SmallTypes.ownedTupleIsFree;refine wpAny_bind (wpAny_field (s:=⟨k4,g,d,t1+1,os⟩) E4 rfl (x:=.none) rfl (wpAny_pure ?_));simp only[if_true];refine wpAny_bind (wpAny_rule (wpAny_bind (wpAny_field (s:=⟨k4,g,d,t1+1,os⟩) E4 rfl (x:=old) rfl (wpAny_bind (wpAny_setField_rec E4 (by simp) fun k5 E5 e5=>?_)))))
 replace e5:Heap.SameBut e k4 k5:=e5
 replace E5:IsEnum k5 e it ((i:Int)+1) x:=E5;show wpAny _ _ (Builtin.SmallTypes.ownedTupleHandOut (.ref e) (.ref hp.objs.size) >>= _) _ _ ⟨k5,g,d,t1+1,os⟩;refine wpAny_bind ?_;unfold Builtin.SmallTypes.ownedTupleHandOut;refine wpAny_bind (wpAny_setField_rec E5 (by simp) fun k6 E6 e6=>?_)
 replace e6:Heap.SameBut e k5 k6:=e6
 replace E6:IsEnumOut k6 e it ((i:Int)+1) x hp.objs.size:=E6;refine wpAny_setField_rec E6 (by simp) fun k7 E7 e7=>?_
 replace e7:Heap.SameBut e k6 k7:=e7
 replace E7:IsEnumOut k7 e it ((i:Int)+1) x hp.objs.size:=E7;have up:∀c o,c≠e->k4.get? c=some o->k7.get? c=some o:=fun c o c1 q=>e7.extBut c o c1 (e6.extBut c o c1 (e5.extBut c o c1 q))
 refine wpAny_bind (wpAny_letGo (wpAny_pure ⟨_,rfl,hQ x k7 (t1+1) t1 px E7 ?_ (up _ _ (Nat.ne_of_gt elt) T4) (by rw[e7.1,e6.1,e5.1,z4]) fun c o c1 c2 q=>up c o c1 (kp c o c1 (e1.extBut c o c2 q))⟩));exact D.frame _ _ _ s1 fun c hc o q=>up c o (fun z=>hne (z▸hc)) (kp c o (fun z=>hne (z▸hc)) q)
theorem JhW{p:List Addr}{n:Nat}{P:Nat->Value->Prop}{S:Nat->Heap->Prop}{old:Value}{Q:Fin->Shared->Prop}(D:Draws prog w A it p n P S)(he:IsEnum s.heap e it n old)(st:S n s.heap)
 (hE:∀h' x tk,Heap.ExtBut it s.heap h'->(∃o,h'.get? x=some o/\o.cls=.type "StopIteration")->E (.ref x) { s with heap:=h',toks:=tk }) :
 wpAny (model prog w) A (Builtin.«enumerate.__next__» ⟨[.ref e],[]⟩) Q E s:=by
 show wpAny _ _ (field (.ref e) 2 >>= _) _ _ _;refine wpAny_bind (wpAny_field he rfl (x:=.ref it) rfl (wpAny_bind (D.done _ _ _ st fun k1 x e1 hx=>?_)));exact hE k1 x s.toks e1 hx
end
end PySem
namespace L2
open PySem PySem.Spec PyProof.Rows
noncomputable def Ite(K:Frag)(b:Bool)(a:Addr):It :=
 ⟨fun i H=>∃xs x,Sq b K H a xs/\xs[i]?=some x,
  fun i H x H'=>∃p v,x=.ref p/\H p=none/\H'=upd H p (.tup [.int i,v])/\∀xs,Sq b K H a xs->xs[i]?=some v,
  fun i H=>∃xs,Sq b K H a xs/\i=xs.length⟩
theorem JjE{P:Program}{w:World}{K:Frag}{elts:List Expr}{kk:Nat}{pos:Pos}(b:Bool)(a e it:Addr)(ne:e≠it) :
 Turn P w K (.Tuple elts kk pos) (Ite K b a) [e,it] e (fun i h=>(∃old,IsEnum h e it i old)/\IsItr b h it a i) where
 mem:=by simp
 obj:=fun i h st c hc=>by
  obtain⟨⟨old,s1⟩,s2⟩:=st;simp only[List.mem_cons,List.mem_nil_iff,or_false] at hc;rcases hc with rfl|rfl
  ·exact⟨_,s1,fun v z=>nomatch (show Data.fields _=Data.cell v from z)⟩
  ·exact IsItr.obj (b:=b) s2
 keep:=fun i h h' st k=>by obtain⟨⟨old,s1⟩,s2⟩:=st;exact⟨⟨old,k e (by simp) _ s1⟩,IsItr.keep (b:=b) s2 fun o q=>k it (by simp) o q⟩
 item:=by
  intro X hP hw hK hc i pins s σ H E I hf st hg;subst hP hw hK;obtain⟨xs,x,q1,e1⟩:=hg;obtain⟨its,r1,p1⟩:=q1.heap I;obtain⟨⟨old,s1⟩,s2⟩:=st;have hh:X.A.in1.handled=none:=I.ok.hd hc;have ne1:a≠it:=FpOk.off I q1 (hf it (by simp));have ne2:a≠e:=FpOk.off I q1 (hf e (by simp));have D1:=Draws.sq (prog:=X.prog) (w:=X.w) (b:=b) (xs:=its.toArray) hh it ne1;have hT:s.TypeIs (.ref e) "enumerate":=⟨_,s1,rfl⟩
  have l1:i<its.toArray.size:=by have:=(List.getElem?_eq_some_iff.mp e1).1;rw[List.size_toArray,<- r1.length];exact this
  unfold pyNext;refine wpAny_bind (wpAny_attempt (wpAny_callSpecial?_slot (name:=Str.ofString "__next__") hT F.slot_enumerate_next (wpAny_call_entry F.slot_enumerate_next hT F.entry_enumerate_next
   (JfT D1 s1 ⟨s2,p1⟩ l1 (by simp[ne,Ne.symm ne2]) (by simp) fun u k tk t pu t1 t2 t3 t4 t5=>wpAny_pure ?_) (F.args_enumerate_next_1 _))))
  refine⟨_,rfl,wpAny_letOwnedTupleGo_enum (s:={ s with heap:=k,toks:=tk }) t1 fun k2 t9 e9=>?_⟩
  replace e9:Heap.SameBut e k k2:=e9;obtain⟨ux,hx1,rx⟩:=r1.get e1
  have eu:u=ux:=by
   have pu':its[i]?=some u:=by simpa using pu
   rw[hx1] at pu';exact(Option.some.inj pu').symm
  subst eu
  have elt:∀c∈[e,it],c<s.heap.objs.size:=fun c hc=>by
   simp only[List.mem_cons,List.mem_nil_iff,or_false] at hc;rcases hc with rfl|rfl
   ·exact Heap.lt_size s1
   ·obtain⟨_,q,_⟩:=IsItr.obj (b:=b) s2;exact Heap.lt_size q
  have ri:RelV (.int i) (.int i t):=⟨t,rfl⟩
  have I1:Inv X pins σ (upd H s.heap.objs.size (.tup [.int i,x])) { s with heap:=s.heap.push { cls:=.type "tuple",data:=.seq #[.int i t,u] },toks:=s.toks } :=
   I.laid (o:=.tup [.int i,x]) (fun c ob q=>Heap.get?_push_of_some _ q) (Nat.le_refl _) ⟨by show 2<=sizeLine;decide,[.int i t,u],.cons ri (.cons rx .nil),⟨_,Heap.get?_push_size _ rfl,rfl,_,rfl⟩⟩
  have hf1:∀c∈[e,it],FpOk X pins (upd H s.heap.objs.size (.tup [.int i,x])) c:=fun c hc=>⟨by rw[Ji (Nat.ne_of_lt (elt c hc))];exact(hf c hc).1,(hf c hc).2⟩
  have I2:Inv X pins σ (upd H s.heap.objs.size (.tup [.int i,x])) { s with heap:=k2,toks:=tk }:=Inv.turnedL (s:={ s with heap:=s.heap.push { cls:=.type "tuple",data:=.seq #[.int i t,u] },toks:=s.toks }) I1 (fun c o hc q=>by
   simp only[List.mem_cons,List.mem_nil_iff,or_false,not_or] at hc;refine e9.extBut c o hc.1 ?_
   by_cases hcs:c=s.heap.objs.size
   ·subst hcs;have q':(s.heap.push { cls:=.type "tuple",data:=.seq #[.int i t,u] }).get? s.heap.objs.size=some o:=q;rw[Heap.get?_push_size _ rfl] at q';cases q';exact t3
   ·have q':s.heap.get? c=some o:=by have q2:(s.heap.push { cls:=.type "tuple",data:=.seq #[.int i t,u] }).get? c=some o:=q;exact(Heap.get?_push_ne s.heap c _ hcs).symm.trans q2
    exact t5 c o hc.1 hc.2 q') hf1
  refine⟨.ref s.heap.objs.size,_,I2,rfl,⟨_,x,rfl,I.hok.fresh (Nat.le_refl _),rfl,fun xs' h1=>?_⟩,⟨⟨u,?_⟩,?_⟩,fun c hc=>(hf1 c hc).1⟩
  ·rw[Sq.inj I h1 q1];exact e1
  ·have ei:((i+1:Nat):Int)=(i:Int)+1:=by omega
   rw[ei];exact t9
  ·exact IsItr.keep (b:=b) t2.1 fun o q=>e9.extBut _ _ (Ne.symm ne) q
 done:=by
  intro X hP hw hK hc i pins s σ H E I hf st hg;subst hP hw hK;obtain⟨xs,q1,ei⟩:=hg;obtain⟨its,r1,p1⟩:=q1.heap I;obtain⟨⟨old,s1⟩,s2⟩:=st;have hh:X.A.in1.handled=none:=I.ok.hd hc;have D1:=Draws.sq (prog:=X.prog) (w:=X.w) (b:=b) (xs:=its.toArray) hh it (FpOk.off I q1 (hf it (by simp)));have hT:s.TypeIs (.ref e) "enumerate":=⟨_,s1,rfl⟩
  have n1:i=its.toArray.size:=by rw[List.size_toArray,<- r1.length];exact ei
  subst n1;unfold pyNext;refine wpAny_bind (wpAny_attempt (wpAny_callSpecial?_slot (name:=Str.ofString "__next__") hT F.slot_enumerate_next (wpAny_call_entry F.slot_enumerate_next hT F.entry_enumerate_next (JhW D1 s1 ⟨s2,p1⟩ fun k x tk kk he=>?_) (F.args_enumerate_next_1 _))));obtain⟨o,ho,hoc⟩:=he;refine wpAny_bind (wpAny_isInstance (T:="StopIteration") (b:=true) ⟨o,ho,hoc⟩ isSubtype_stop (wpAny_pure ⟨rfl,?_⟩));exact I.turnedL (fun c o hc q=>by simp only[List.mem_cons,List.mem_nil_iff,or_false,not_or] at hc;exact kk c o hc.2 q) hf
 self:=fun _ _ _ _ _ st h=>by obtain⟨⟨old,s1⟩,_⟩:=st;exact wpAny_pyIter_enum s1 h
noncomputable def iEn(K:Frag)(ta:TA):TI:=fun σ H R=>ta σ H fun vs H1=>∃(b:Bool) (a:Addr) (xs:List V),vs=[.ref a]/\Sq b K H1 a xs/\R (Ite K b a) H1
theorem Zn{X:Cx}{K:Frag}{elts:List Expr}{kk:Nat}{tpos:Pos}{a:Expr}{ta:TA}{p pos:Pos}(hK:X.K=K)(hg:Gl X "enumerate")(hm:X.mg "enumerate"=none)(ha:PA X [a] ta)(hs:starEach [a] X.env=[(false,eval a X.env)]:=by rfl)
:PI X (.Tuple elts kk tpos) (.Call (.Name "enumerate" p) [a] [] pos) (iEn K ta):=by
 subst hK;intro pins s σ H R I h;refine Call_ (U5 I hg hm Jaw (PyProof.Rows.callWith_type1 (thn (ha pos pins s σ H _ I h) fun us s1 ⟨vs,H1,I1,r1,q1⟩=>?_) (by rw[hs];rfl) (by rfl)));obtain⟨b,a,xs,e,c1,q⟩:=q1;subst e
 cases r1 with
 | cons r rr =>
 cases rr;cases r;obtain⟨its,w1,p1⟩:=c1.heap I1;refine JfH p1 fun h' t1 t2 kp=>wpAny_pyIter_enum t1 ?_
 refine⟨_,[s1.heap.objs.size+1,s1.heap.objs.size],_,_,H1,rfl,I1.kept (t':=s1.toks) kp,JjE b a _ _ (by simp),⟨⟨_,t1⟩,t2⟩,fun c hc=>?_,q⟩
 have hle:s1.heap.objs.size<=c:=by simp only[List.mem_cons,List.mem_nil_iff,or_false] at hc;rcases hc with rfl|rfl <;> first|exact Nat.le_refl _|exact Nat.le_add_right _ _
 exact I1.fpOk hle (I1.hok.fresh hle)
end L2
namespace LE
open PySem L2 LR
noncomputable def Jby(ds:List D):List D:=ds.mapIdx fun i d=>.tup [.int i,d]
noncomputable def JbE(m:Bool)(as:En->Option (List Sl)):En->Option (List D):=fun E=>(as E).bind fun ss=>match ss with
 | [s]=>(s.it m).map Jby
 | _=>none
section
variable{K:Frag}{C:Addr}{m:Bool}
theorem Ja7{t:TA}{ev:En->Option (List Sl)}(ha:SA K C t ev):SI K C m (iEn K t) (JbE m ev):=by
 intro B H0 H σ E ds R I e q;obtain⟨ss,e1,e⟩:=bind_some e;split at e
 ·next s =>
  obtain⟨ds1,e2,e⟩:=Option.map_eq_some_iff.mp e;subst e;refine ha B H0 H σ E _ _ I e1 fun vs H1 H1' s1 r1=>?_
  obtain⟨v,rfl,ra⟩:=r1.one;have f:=JT (Hs:=H) s1.i;obtain⟨b1,a1,xs,rfl,k1,w1⟩:=JkM ra s1.i e2;have hA:m=true->(if m=true then H1' else B)=H1':=fun h=>if_pos h
  have sA:Same (if m=true then H1' else B) H1':=by
   split
   ·exact Same.refl _
   ·exact I.b.trans s1.h
  have st0:SStep (if m=true then H1' else B) (YD H H1 H1') (YD H H1 H1') H1':=⟨sA,Same.refl _,fun _ _ e=>.inl e,f.i⟩
  refine⟨b1,a1,xs,rfl,k1 _ hA _ _ st0,q _ _ _ (s1.comp f fun _ z=>z) ?_⟩;intro H0' H' st;have q1:=k1 _ hA _ _ st;refine⟨fun i d e=>?_,⟨xs,q1,by unfold Jby;rw[List.length_mapIdx,w1.1]⟩⟩;unfold Jby at e;rw[List.getElem?_mapIdx] at e;obtain⟨d1,g1,e⟩:=Option.map_eq_some_iff.mp e;subst e;obtain⟨x,x1,x2⟩:=w1.get g1;refine⟨⟨xs,x,q1,x1⟩,?_⟩;rintro z H2 ⟨p,v',rfl,hp,rfl,hv⟩;have h1:=hv xs q1;rw[x1] at h1;cases h1;have h0:H0' p=none:=Same.free st.i hp
  refine⟨upd H0' p (.tup [.int i,x]),⟨.new hp,.new h0,fun a o e=>?_,fun a o e=>?_⟩,?_⟩
  ·by_cases h:a=p
   ·subst h;exact .inr (.inl hp)
   ·rw[Ji h] at e;exact .inl e
  ·by_cases h:a=p
   ·subst h;rw[Jw] at e ⊢;exact e
   ·rw[Ji h] at e ⊢;exact st.i a o e
  ·exact .mkT (.of Jw) (.cons (.int _) (.cons (x2.mono (st.z.trans (.new h0))) .nil))
 ·cases e
theorem W0{α:Type}(f:α->D)(xs:List α):Jby (xs.map f)=xs.mapIdx fun i x=>.tup [.int i,f x]:=by
 unfold Jby;refine List.ext_getElem? fun i=>?_
 rw[List.getElem?_mapIdx,List.getElem?_mapIdx,List.getElem?_map,Option.map_map];rfl
end
end LE

namespace L2
open PySem PySem.Spec PyProof.Rows
noncomputable def JN(ns:List Int):List Int:=ns.mergeSort (fun a b=>decide (a<=b))
theorem Jz(ns:List Int):(JN ns).Perm ns:=List.mergeSort_perm _ _
theorem Ua(ns:List Int):(JN ns).Pairwise (·<=·):=by have h:=List.pairwise_mergeSort (le:=fun a b:Int=>decide (a<=b)) (by intro a b c h1 h2;simp only[decide_eq_true_eq] at *;omega) (by intro a b;simp only[Bool.or_eq_true,decide_eq_true_eq];omega) ns;exact h.imp fun {a b} h=>by simpa using h
theorem Wo:∀{xs ys:List Int},xs.Perm ys->xs.Pairwise (·<=·)->ys.Pairwise (·<=·)->xs=ys
 | [],ys,p,_,_=>by rw[List.Perm.nil_eq p]
 | x::xs,ys,p,h1,h2=>by
  cases ys with
  | nil=>exact absurd p.symm (by simp)
  | cons y ys =>
   obtain⟨a1,a2⟩:=List.pairwise_cons.mp h1;obtain⟨b1,b2⟩:=List.pairwise_cons.mp h2
   have e:x=y:=by
    have hx:x∈y::ys:=p.mem_iff.mp List.mem_cons_self
    have hy:y∈x::xs:=p.mem_iff.mpr List.mem_cons_self;rcases List.mem_cons.mp hx with z|z
    ·exact z
    ·rcases List.mem_cons.mp hy with w|w
     ·exact w.symm
     ·have:=a1 y w
      have:=b1 x z;omega
   subst e;rw[Wo (List.Perm.cons_inv p) a2 b2]
noncomputable def Ja4(K:Frag):List V->Hp->VK->Prop:=fun xs H Q=>∃(a:Addr) (ns:List Int),xs=[.ref a]/\SqL K H a (ns.map V.int)/\ns.length<64/\∀l,H l=none->Q (.ref l) (upd H l (.lst ((JN ns).map V.int)))
theorem V5:∀{ns:List Int} {us:List Value},IntsAre us ns->Vals (ns.map V.int) us:=by
 intro ns us h
 induction h with
 | nil=>exact .nil
 | cons _ _ _ ih=>exact .cons ⟨_,rfl⟩ ih
section
variable{X:Cx}
theorem JaB:CallR X (.builtin "sorted") (Ja4 X.K):=by
 intro pins s σ H xs us Q I r h;obtain⟨p,ns,rfl,hq,hl,q⟩:=h;obtain⟨u,rfl,rx⟩:=Vd r;cases rx;obtain⟨its,r',pl,hz⟩:=I.list hq;have hlen:=r'.length;rw[List.length_map] at hlen hz;refine sorted_ints pl.isList (Vx r') (by omega) fun out ns' a1 a2 a3=>?_
 have es:ns'=JN ns:=Wo (a2.trans (Jz ns).symm) a3 (Ua ns);subst es;obtain⟨e,he⟩:=sortedAll_at s.heap its out
 have hn:((JN ns).map V.int).length<=sizeLine:=by rw[List.length_map,(Jz ns).length_eq];exact hz
 have hne:H (s.heap.objs.size+1)=none:=I.hok.fresh (Nat.le_succ _);refine⟨.ref (s.heap.objs.size+1),_,I.laid (t':=s.toks) (fun b o x=>sortedAll_old x) (Nat.le_succ _) (show ObjOk X.prog X.w _ _ _ (.lst ((JN ns).map V.int)) from⟨hn,out.toList,e,V5 a1,?_⟩),rfl,q _ hne⟩;rw[he]
end
theorem JaA{X:Cx}{K:Frag}(hK:X.K=K)(hc:X.calm=true):CallR X (.builtin "sorted") (Ja4 K):=hK▸JaB
end L2
namespace LE
open PySem L2 LR
noncomputable def WH:List Sl->Option Sl
 | [s]=>s.r.bind fun ds=>(ints? ds).bind fun ns=>if ns.length<64 then some (.own ((JN ns).map .int)) else none
 | _=>none
section
variable{K:Frag}{C:Addr}
theorem Jb5{H:Hp}(ns:List Int):RDL K C H (ns.map V.int) (ns.map D.int):=by refine⟨by simp,fun i x d h1 h2=>?_⟩;rw[List.getElem?_map] at h1 h2;obtain⟨n,e,rfl⟩:=Option.map_eq_some_iff.mp h1;rw[e] at h2;cases h2;exact .int n
theorem JfG:Vo K C (Ja4 K) WH:=by
 intro Hs H0 H xs as c Q i hs r e q;unfold WH at e;split at e
 ·obtain⟨v,rfl,r0⟩:=r.one;obtain⟨ds,e1,e⟩:=bind_some e;obtain⟨ns,e2,e⟩:=bind_some e;split at e
  ·next hn=>cases e;obtain⟨l,ys,rfl,h,r1⟩:=r0.r i e1;rw[Vk e2] at r1;have:=r1.ints;subst this;exact⟨l,ns,rfl,h,hn,fun p hp=>UC i hs hp (Jb5 _) q⟩
  ·cases e
 ·cases e
end
end LE

namespace PySem
namespace F
end F
section
variable{prog:Program}{w:World}{A:Around}{E:Value->Shared->Prop}{s:Shared}{l:Addr}{lo hi:Int}{t u v:Tok}
end
end PySem
namespace L2
open PySem PySem.Spec PyProof.Rows
end L2
namespace LE
open PySem L2 LR
section
variable{K:Frag}{C:Addr}{m:Bool}
end
end LE

namespace PySem
namespace F
end F
structure ZB (z TI TO i1 i2 i3:Addr) (p1 p2 p3:List Addr):Prop where
 a1:TI≠z
 a2:TO≠z
 a3:TI≠TO
 m1:i1∈p1
 m2:i2∈p2
 m3:i3∈p3
 z1:z∉p1
 z2:z∉p2
 z3:z∉p3
 t1:TI∉p1
 t2:TI∉p2
 t3:TI∉p3
 o1:TO∉p1
 o2:TO∉p2
 o3:TO∉p3
 x12:i1∉p2
 x13:i1∉p3
 x21:i2∉p1
 x23:i2∉p3
 x31:i3∉p1
 x32:i3∉p2
section
variable{prog:Program}{w:World}{A:Around}{E:Value->Shared->Prop}{s:Shared}{z TI TO i1 i2 i3:Addr}{p1 p2 p3:List Addr}{n1 n2 n3 k:Nat}{P1 P2 P3:Nat->Value->Prop}{S1 S2 S3:Nat->Heap->Prop}
end
end PySem

namespace PySem
section
variable{prog:Program}{w:World}{A:Around}{E:Value->Shared->Prop}{s:Shared}{b1 b2 b3:Bool}{a1 a2 a3:Addr}{xs ys zs:Array Value}
end
end PySem
namespace L2
open PySem PySem.Spec PyProof.Rows
end L2
namespace LE
open PySem L2 LR
section
variable{K:Frag}{C:Addr}{m:Bool}
end
end LE

namespace L2
open PySem PySem.Spec PyProof.Rows
noncomputable def Jat(X:Cx)(f:Value)(nm:Str)(z:V)(r:List V->Hp->VK->Prop):Prop :=
 ∀(pins:List (Addr×Obj)) (s:Shared) (σ:St) (H:Hp) (xs:List V) (us:List Value) (w:Value) (Q:VK),Inv X pins σ H s->Vals xs us->RelV z w->r xs H Q->wpAny (model X.prog X.w) X.A (call f us [(nm,w)]) (EP X pins σ Q) X.xe s
theorem Jfg{X:Cx}{id:String}{nm x:Str}{z:V}{r:List V->Hp->VK->Prop}{e ek:Expr}{es:List Expr}{t:TA}{p pos kpos:Pos}(hc:Jat X (.builtin id) nm z r)(hg:Gl X x)(hm:X.mg x=none)(hv:bootBuiltins x=some (.builtin id))(ha:PA X (e::es) t)(hk:PE X ek (tC z))
 (hn:x≠"__name__":=by decide) (hdb:(x == ("__debug__":Str))=false:=by decide)
 (he:backTo pos (starEach (e::es) X.env)=(false,eval e X.env)::backTo pos (starEach es X.env):=by rfl) (hpl:(backTo pos (starEach (e::es) X.env)).any (·.1)=false:=by rfl):PE X (.Call (.Name x p) (e::es) [⟨some nm,ek,kpos⟩] pos) (tCB r t):=by
 intro pins s σ H Q I h;refine wpAny_Call_Name_kw (U5 I hg hm hv ?_ hn hdb);refine callWith_kw (thn (ha pos pins s σ H _ I h) fun us s1 ⟨vs,H1,I1,r1,q1⟩=>?_) he hpl rfl rfl;refine kws_cons (thn (hk pins s1 σ H1 (fun v H2=>v=z/\r vs H2 Q) I1 ⟨rfl,q1⟩) fun w s2 ⟨v,H2,I2,rz,e2,q2⟩=>kws_nil ?_);subst e2;exact hc pins s2 σ H2 vs us w Q I2 r1 rz q2
section
variable{X:Cx}
end
end L2
namespace LE
open PySem L2 LR
section
variable{K:Frag}{C:Addr}
end
end LE

namespace PySem

theorem JbN(a v:Value):argsOk "min" ⟨[a],[(Str.ofString "default",v)]⟩:=by unfold argsOk;kernel_rfl
section
variable{prog:Program}{w:World}{A:Around}{R:Result->Shared->Prop}{I:Addr}{fp wr:List Addr}{n:Nat}{P:Nat->Value->Prop}{St:Nat->Heap->Prop}
theorem Jfa(W:Walks prog w A.in1 I fp wr n P St)(bt:Nat->Nat->Bool)(cm:CmpOf prog w A.in1 .Lt P bt)(S:Addr)(nS:S∉fp)(d:Value) :
 ∀(k j:Nat) (s:Shared) (c:Nat) (arr:Array Value),n-j=k->j<=n->St j s.heap->((j=0/\arr=#[])\/∃vb,0<j/\arr=#[vb,vb]/\P (argBest bt (j-1)) vb) ->
 s.heap.get? S=some { cls:=.type "list",dict:=none,data:=.seq arr c,slots:=#[] } ->
 (n=0->∀h' tk,(∀b o,b∉wr->b≠S->s.heap.get? b=some o->h'.get? b=some o)->R (.ok (.ret d)) { s with heap:=h',toks:=tk }) ->
 (0<n->∀v h' tk,P (argBest bt (n-1)) v->(∀b o,b∉wr->b≠S->s.heap.get? b=some o->h'.get? b=some o)->R (.ok (.ret v)) { s with heap:=h',toks:=tk }) ->
 codeAny (model prog w) A (.builtin "min.loop" ⟨[.ref I,.none,.ref S],[(Str.ofString "default",d)]⟩) R s:=by
 have nW:S∉wr:=fun h=>nS (W.sub _ h)
 have nm:(toString "min"++toString ".loop":String)="min.loop":=by decide
 intro k
 induction k with
 | zero =>
  intro j s c arr hk hj st best hS h0 h1;have ej:j=n:=by omega
  subst ej;refine codeAny_builtin F.entry_min_loop ?_;rw[Around.under_plainId F.plain_min_loop _];rcases best with ⟨e0,rfl⟩|⟨vb,jp,rfl,pb⟩
  ·show wpAny _ A.in1 (seqItems? (.ref S) >>= _) _ _ s;refine wpAny_bind (wpAny_seqItems hS rfl (show wpAny _ A.in1 (tryCatch (pyNext (.ref I)) _ >>= _) _ _ s from wpAny_bind (wpAny_tryCatch (W.done s _ _ st fun h' tk hk'=>?_))));exact wpAny_bind (wpAny_rule (wpAny_pure (h0 e0 h' tk fun b o b1 _ e=>hk' b o b1 e)))
  ·show wpAny _ A.in1 (seqItems? (.ref S) >>= _) _ _ s;refine wpAny_bind (wpAny_seqItems hS rfl (show wpAny _ A.in1 (tryCatch (pyNext (.ref I)) _ >>= _) _ _ s from wpAny_bind (wpAny_tryCatch (W.done s _ _ st fun h' tk hk'=>?_))))
   have hS':=hk' S _ nW hS
   show wpAny _ A.in1 (updateSeq S (fun _=>#[]) >>= _) _ _ _;refine wpAny_bind (wpAny_updateSeq hS' rfl (wpAny_bind (wpAny_letGo (wpAny_pure ?_))));exact h1 jp vb _ tk pb fun b o b1 b2 e=>(Heap.get?_update_other _ _ (Ne.symm b2)).trans (hk' b o b1 e)
 | succ k ih =>
  intro j s c arr hk hj st best hS h0 h1;have lt:j<n:=by omega
  refine codeAny_builtin F.entry_min_loop ?_;rw[Around.under_plainId F.plain_min_loop _];have nz:n=0->∀{s':Shared} h' tk,(∀b o,b∉wr->b≠S->s'.heap.get? b=some o->h'.get? b=some o)->R (.ok (.ret d)) { s' with heap:=h',toks:=tk }:=fun z=>absurd z (by omega)
  rcases best with ⟨e0,rfl⟩|⟨vb,jp,rfl,pb⟩
  ·subst e0;show wpAny _ A.in1 (seqItems? (.ref S) >>= _) _ _ s;refine wpAny_bind (wpAny_seqItems hS rfl (show wpAny _ A.in1 (tryCatch (pyNext (.ref I)) _ >>= _) _ _ s from wpAny_bind (wpAny_tryCatch (W.item 0 s _ _ lt st fun v h' tk pv st' hk'=>?_))));have hS':=hk' S _ nW hS;show wpAny _ A.in1 (updateSeq S (fun _=>#[v,v]) >>= _) _ _ _;refine wpAny_bind (wpAny_updateSeq hS' rfl ?_);rw[nm];refine wpAny_pure ⟨plainId_quiet F.plain_min_loop _,ih 1 _ _ _ (by omega) (by omega) (W.frame _ _ _ st' fun b bf o e=>?_) (.inr ⟨v,by omega,rfl,pv⟩) (Heap.get?_update_self _ hS' rfl) (fun z=>nz z) fun np v' h2 t2 pv' k2=>?_⟩
   ·exact(Heap.get?_update_other _ _ (fun h:S=b=>nS (by rw[h];exact bf))).trans e
   ·exact h1 np v' h2 t2 pv' fun b o b1 b2 e=>k2 b o b1 b2 ((Heap.get?_update_other _ _ (Ne.symm b2)).trans (hk' b o b1 e))
  ·show wpAny _ A.in1 (seqItems? (.ref S) >>= _) _ _ s;refine wpAny_bind (wpAny_seqItems hS rfl (show wpAny _ A.in1 (tryCatch (pyNext (.ref I)) _ >>= _) _ _ s from wpAny_bind (wpAny_tryCatch (W.item j s _ _ lt st fun v h' tk pv st' hk'=>?_))))
   have hS':=hk' S _ nW hS
   have ea:argBest bt j=if bt j (argBest bt (j-1))=true then j else argBest bt (j-1):=by
    obtain⟨i,rfl⟩:∃i,j=i+1:=⟨j-1,by omega⟩
    rfl
   show wpAny _ A.in1 (tryCatch (holding [v,v] (richCompare .Lt v vb >>= _)) _ >>= _) _ _ _;refine wpAny_bind (wpAny_tryCatch (wpAny_holding (wpAny_bind (cm j (argBest bt (j-1)) v vb _ _ _ pv pb (wpAny_bind (wpAny_holding (wpAny_truthy_bool (wpAny_bind (wpAny_letGo (wpAny_pure ?_))))))))))
   cases hb:bt j (argBest bt (j-1)) with
   | true =>
    simp only[if_true];refine wpAny_bind (wpAny_updateSeq hS' rfl (wpAny_bind (wpAny_letGo ?_)));rw[nm];refine wpAny_pure ⟨plainId_quiet F.plain_min_loop _,ih (j+1) _ _ _ (by omega) (by omega) (W.frame _ _ _ st' fun b bf o e=>?_) (.inr ⟨v,by omega,rfl,?_⟩) (Heap.get?_update_self _ hS' rfl) (fun z=>nz z) fun np v' h2 t2 pv' k2=>?_⟩
    ·exact(Heap.get?_update_other _ _ (fun h:S=b=>nS (by rw[h];exact bf))).trans e
    ·rw[Nat.add_sub_cancel,ea,hb,if_pos rfl];exact pv
    ·exact h1 np v' h2 t2 pv' fun b o b1 b2 e=>k2 b o b1 b2 ((Heap.get?_update_other _ _ (Ne.symm b2)).trans (hk' b o b1 e))
   | false =>
    simp only[Bool.false_eq_true,if_false];refine wpAny_bind (wpAny_letGo ?_);rw[nm];refine wpAny_pure ⟨plainId_quiet F.plain_min_loop _,ih (j+1) _ c _ (by omega) (by omega) st' (.inr ⟨vb,by omega,rfl,?_⟩) hS' (fun z=>nz z) fun np v' h2 t2 pv' k2=>?_⟩
    ·rw[Nat.add_sub_cancel,ea,hb,if_neg Bool.false_ne_true];exact pb
    ·exact h1 np v' h2 t2 pv' fun b o b1 b2 e=>k2 b o b1 b2 (hk' b o b1 e)
end
section
variable{prog:Program}{w:World}{A:Around}{E:Value->Shared->Prop}{s:Shared}{l:Addr}{xs:Array (Int×Tok)}
theorem JbO{d:Value}{Q:Value->Shared->Prop}(hh:A.handled=none)(hl:s.heap.IsList l (intItems xs))(h0:xs.size=0->∀h' tk,(∀b o,s.heap.get? b=some o->h'.get? b=some o)->Q d { s with heap:=h',toks:=tk })
 (h1:0<xs.size->∀v h' tk,(intItems xs)[argBest (fun i j=>decide (numAt xs i<numAt xs j)) (xs.size-1)]?=some v->(∀b o,s.heap.get? b=some o->h'.get? b=some o)->Q v { s with heap:=h',toks:=tk }) :
 wpAny (model prog w) A (call (.builtin "min") [.ref l] [(Str.ofString "default",d)]) Q E s:=by
 have nm:(toString "min"++toString ".loop":String)="min.loop":=by decide
 have sz:(intItems xs).size=xs.size:=by simp[intItems]
 refine PyProof.Rows.kmk_tree F.kind_min F.plain_min F.entry_min (JbN _ _) ?_;show wpAny _ A.in1 (Builtin.Builtins.bindParams "min" ["key","default"] 0 ⟨[],[(Str.ofString "default",d)]⟩ >>= _) _ _ s;refine wpAny_bind (wpAny_of_eq (show Builtin.Builtins.bindParams "min" ["key","default"] 0 ⟨[],[(Str.ofString "default",d)]⟩=pure [none,some d] from rfl) ?_);refine wpAny_bind (wpAny_pure ?_);refine wpAny_bind (iter_intList hl fun s₂ e st hfp hlI=>?_);subst e;refine wpAny_bind (wpAny_newObj_type ?_)
 rw[nm];have W:=Walks.list (prog:=prog) (w:=w) (A:=A.in1) hh _ l hlI (intItems xs);have fpS:(s.heap.push { cls:=.type "list_iterator",data:=.fields #[.ref l,.int 0 0] }).objs.size∉[s.heap.objs.size,l]:=fun hm=>Nat.lt_irrefl _ (hfp _ hm)
 refine wpAny_pure ⟨plainId_quiet F.plain_min_loop _,Jfa W (fun i j=>decide (numAt xs i<numAt xs j)) (CmpOf.ints_lt (numAt xs) (fun _ _=>intItems_at)) _ fpS d _ 0 _ _ #[] rfl (Nat.zero_le _) (W.frame _ _ _ st fun b _ o e=>Heap.get?_push_of_some _ e) (.inl ⟨rfl,rfl⟩) (Heap.get?_push_size _ rfl) (fun z h' tk k=>?_) fun z v h' tk pv k=>?_⟩
 ·exact h0 (by rw[<- sz];exact z) h' tk (old_kept fun b o b1 e=>k b o b1 (Nat.ne_of_lt (Heap.lt_size e)) (Heap.get?_push_of_some _ e))
 ·exact h1 (by rw[<- sz];exact z) v h' tk (by rw[sz] at pv;exact pv) (old_kept fun b o b1 e=>k b o b1 (Nat.ne_of_lt (Heap.lt_size e)) (Heap.get?_push_of_some _ e))
end

section
variable{prog:Program}{w:World}{A:Around}{R:Result->Shared->Prop}{I:Addr}{fp wr:List Addr}{n:Nat}{P:Nat->Value->Prop}{St:Nat->Heap->Prop}
end
section
variable{prog:Program}{w:World}{A:Around}{E:Value->Shared->Prop}{s:Shared}{l:Addr}{xs:Array (Int×Tok)}
end

end PySem

namespace L2
open PySem PySem.Spec PyProof.Rows

section
variable{X:Cx}
noncomputable def Jg1(K:Frag):List V->Hp->VK->Prop:=fun xs H Q=>∃(a:Addr) (ns:List Int),xs=[.ref a]/\SqL K H a (ns.map V.int)/\(ns=[]->Q .non H)/\∀M,M∈ns->(∀b,b∈ns->M<=b)->Q (.int M) H
theorem JeE(hc:X.calm=true):Jat X (.builtin "min") "default" .non (Jg1 X.K):=by
 intro pins s σ H xs us w Q I r rz h;obtain⟨a,ns,rfl,hq,q0,q⟩:=h;obtain⟨u,rfl,rx⟩:=Vd r;cases rx;cases rz;obtain⟨its,rv,p,hz⟩:=I.list hq;have hi:=Vx rv;have hl:=p.isList;obtain⟨xs,e⟩:=hi.allInts.items;have hns:ns=xs.toList.map (·.1):=by rw[<- hi.numsOf,<- nums_intItems,<- e]
 rw[e] at hl;refine JbO (I.ok.hd hc) hl (fun z h' tk hk=>?_) fun z v h' tk hv hk=>?_
 ·refine⟨.non,H,I.kept hk,rfl,q0 ?_⟩;rw[hns];exact List.eq_nil_of_length_eq_zero (by rw[List.length_map,Array.length_toList];exact z)
 ·obtain⟨t,rfl⟩:=intItems_at hv;obtain⟨h1,h2⟩:=argBest_lt (numAt xs) (xs.size-1);refine⟨.int _,H,I.kept hk,⟨t,rfl⟩,q _ ?_ fun a ha=>?_⟩
  ·rw[hns,numAt_eq];exact getD_mem (by rw[List.length_map,Array.length_toList];omega)
  ·rw[hns] at ha;obtain⟨j,hj,rfl⟩:=mem_getD ha;rw[List.length_map,Array.length_toList] at hj;rw[<- numAt_eq];exact h2 j (by omega)
end
theorem Jcu{X:Cx}{K:Frag}(hK:X.K=K)(hc:X.calm=true):Jat X (.builtin "min") "default" .non (Jg1 K):=hK▸JeE hc

section
variable{X:Cx}
end
end L2
namespace LE
open PySem L2 LR

noncomputable def JdH:List Sl->Option Sl
 | [s]=>s.r.bind fun ds=>(ints? ds).map fun ns=>match ns.min? with
  | some m=>.sh (.int m)
  | none=>.sh .non
 | _=>none
theorem Jkm{K:Frag}{C:Addr}:Vo K C (Jg1 K) JdH:=by
 intro Hs H0 H xs as c Q i hs r e q;unfold JdH at e;split at e
 ·obtain⟨v,rfl,r0⟩:=r.one;obtain⟨ds,e1,e⟩:=bind_some e;obtain⟨ns,e2,rfl⟩:=map_some e;obtain⟨l,ys,rfl,h,r1⟩:=r0.r i e1;rw[Vk e2] at r1;have:=r1.ints;subst this;refine⟨l,ns,rfl,h,fun z=>?_,fun M hM hb=>?_⟩
  ·subst z;exact q _ _ _ (.refl i) RD.non
  ·have hm:ns.min?=some M:=List.min?_eq_some_iff.mpr ⟨hM,hb⟩;rw[hm] at q;exact q _ _ _ (.refl i) (RD.int _)
 ·cases e

end LE

namespace LE
open PySem L2 LR

noncomputable def look{α:Type}:List Int->List α->Int->Option α
 | k::ks,d::ds,n=>if k=n then some d else look ks ds n
 | _,_,_=>none
noncomputable def JaN(ks:List Int)(n:Int):Bool:=ks.any fun k=>decide (k=n)
noncomputable def YI(ks:List Int)(n:Int):List Int:=if JaN ks n=true then ks else ks++[n]
noncomputable def setK{α:Type}:List Int->List α->Int->α->List α
 | k::ks,d::ds,n,v=>(if k=n then v else d)::setK ks ds n v
 | _,ds,_,_=>ds
noncomputable def putDs{α:Type}(ks:List Int)(ds:List α)(n:Int)(v:α):List α:=if JaN ks n=true then setK ks ds n v else ds++[v]
theorem Jb9{α:Type}(n:Int)(v:α):∀(ks:List Int) (ds:List α),(setK ks ds n v).length=ds.length
 | [],_=>rfl
 | _::_,[]=>rfl
 | _::ks,_::ds=>by simp[setK,Jb9 n v ks ds]
theorem Jaj{α:Type}(ks:List Int)(ds:List α)(n:Int)(v:α)(h:ks.length=ds.length):(YI ks n).length=(putDs ks ds n v).length:=by unfold YI putDs;split <;> simp[Jb9,h]
theorem Jap:∀(ks:List Int) (xs:List V) (n:Int),V2 ((ks.map Sum.inl:List Key).zip xs) (Sum.inl n)=look ks xs n
 | [],_,_=>rfl
 | _::_,[],_=>rfl
 | k::ks,x::xs,n=>by
  show V2 (((Sum.inl k:Key),x)::(ks.map Sum.inl:List Key).zip xs) (Sum.inl n)=_
  by_cases h:k=n
  ·rw[V4 (by rw[h]),look,if_pos h]
  ·rw[V3 (fun e=>h (Sum.inl.inj e)),look,if_neg h];exact Jap ks xs n
theorem Jbj:∀(ks:List Int) (xs:List V) (n:Int),ks.length=xs.length->(((ks.map Sum.inl:List Key).zip xs).any fun kv=>decide (kv.1=(Sum.inl n:Key)))=JaN ks n
 | [],_,_,_=>rfl
 | _::_,[],_,h=>by simp at h
 | k::ks,x::xs,n,h=>by
  show(decide ((Sum.inl k:Key)=Sum.inl n) || ((ks.map Sum.inl:List Key).zip xs).any _)=(decide (k=n) || ks.any _)
  rw[Jbj ks xs n (by simpa using h)];congr 1
  by_cases e:k=n
  ·subst e;simp
  ·rw[decide_eq_false e,decide_eq_false fun z=>e (Sum.inl.inj z)]
theorem JbM:∀(ks:List Int) (xs:List V) (n:Int) (v:V),ks.length=xs.length->(((ks.map Sum.inl:List Key).zip xs).map fun kv=>if kv.1=(Sum.inl n:Key) then(kv.1,v) else kv)=(ks.map Sum.inl:List Key).zip (setK ks xs n v)
 | [],_,_,_,_=>rfl
 | _::_,[],_,_,h=>by simp at h
 | k::ks,x::xs,n,v,h=>by
  show(if (Sum.inl k:Key)=Sum.inl n then((Sum.inl k:Key),v) else(Sum.inl k,x))::((ks.map Sum.inl:List Key).zip xs).map _=(Sum.inl k,if k=n then v else x)::(ks.map Sum.inl:List Key).zip (setK ks xs n v);rw[JbM ks xs n v (by simpa using h)];congr 1
  by_cases e:k=n
  ·subst e;simp
  ·rw[if_neg e,if_neg fun z=>e (Sum.inl.inj z)]
theorem JgT(ks:List Int)(xs:List V)(n:Int)(v:V)(h:ks.length=xs.length):(HO.dK (VY ((ks.map Sum.inl:List Key).zip xs) (Sum.inl n) v))=dkO (YI ks n) (putDs ks xs n v):=by
 unfold dkO VY YI putDs;rw[Jbj ks xs n h];split
 ·rw[JbM ks xs n v h]
 ·rw[List.map_append,List.zip_append (by simpa using h)];rfl
section
variable{K:Frag}{C:Addr}{Hs H0 H:Hp}
theorem RDL.look:∀{ks:List Int} {xs:List V} {ds:List D} {n:Int},RDL K C H xs ds->(LE.look ks xs n=none/\LE.look ks ds n=none)\/∃x d,LE.look ks xs n=some x/\LE.look ks ds n=some d/\RD K C H x d
 | [],_,_,_,_=>.inl ⟨rfl,rfl⟩
 | _::_,[],[],_,_=>.inl ⟨rfl,rfl⟩
 | _::_,[],_::_,_,h=>by have:=h.1;simp at this
 | _::_,_::_,[],_,h=>by have:=h.1;simp at this
 | k::ks,x::xs,d::ds,n,h=>by
  simp only[LE.look]
  by_cases e:k=n
  ·rw[if_pos e,if_pos e];exact .inr ⟨x,d,rfl,rfl,h.head⟩
  ·rw[if_neg e,if_neg e];exact RDL.look h.tail
theorem RDL.setK{n:Int}{v:V}{e:D}(r:RD K C H v e):∀{ks:List Int} {xs:List V} {ds:List D},RDL K C H xs ds->RDL K C H (LE.setK ks xs n v) (LE.setK ks ds n e)
 | [],_,_,h=>h
 | _::_,[],[],_=>.nil
 | _::_,[],_::_,h=>by have:=h.1;simp at this
 | _::_,_::_,[],h=>by have:=h.1;simp at this
 | k::ks,x::xs,d::ds,h=>by
  simp only[LE.setK];refine .cons ?_ (RDL.setK r h.tail);split
  ·exact r
  ·exact h.head
theorem RDL.putDs{n:Int}{v:V}{e:D}{ks:List Int}{xs:List V}{ds:List D}(h:RDL K C H xs ds)(r:RD K C H v e):RDL K C H (LE.putDs ks xs n v) (LE.putDs ks ds n e):=by
 unfold LE.putDs;split
 ·exact RDL.setK r h
 ·exact h.snoc r
theorem Jgw{p:Addr}{ks:List Int}{xs:List V}{ds:List D}{Q:VK}(i:Same H0 H)(hs:Same Hs H)(hp:H p=none)(hk:ks.length=ds.length)(r:RDL K C H0 xs ds)(q:∀v H0' H',Step Hs H0 H H0' H'->RR K C Hs H0' H' v (.od ks ds)->Q v H'):Q (.ref p) (upd H p (dkO ks xs)) :=
 q _ H0 _ ⟨.new hp,Same.refl _,fun _ _ e=>.inl e,i.trans (.new hp)⟩ ⟨p,xs,rfl,Jw,Same.free i hp,Same.free hs hp,hk,r⟩
end
noncomputable def Sl.dk:Sl->Option (List Int×List D)
 | .sh (.dct ks ds)=>some (ks,ds)
 | .sh (.dfz ks ds)=>some (ks,ds)
 | .bd ks ds=>some (ks,ds)
 | .od ks ds=>some (ks,ds)
 | _=>none
noncomputable def int?:Sl->Option Int
 | .sh (.int i)=>some i
 | _=>none
noncomputable def JdB:Ev:=fun _=>some (.od [] [])
noncomputable def Jkq(a k:Ev):Ev:=fun E=>(a E).bind fun s=>s.dk.bind fun p=>((k E).bind int?).bind fun n=>(look p.1 p.2 n).map .sh
noncomputable def JaE(a k x:Ev):Ev:=fun E=>(a E).bind fun s=>s.dk.bind fun p=>((k E).bind int?).bind fun n=>((x E).bind sh?).bind fun d=>some (.sh ((look p.1 p.2 n).getD d))
noncomputable def Jar(i:Nat)(k a:Ev):Es:=fun E=>match E[i]? with
 | some (.od ks ds)=>(a E).bind fun s=>s.frz.bind fun d=>((k E).bind int?).bind fun n=>if ks.length<sizeLine then some (.nx (E.set i (.od (YI ks n) (putDs ks ds n d)))) else none
 | _=>none
section
variable{K:Frag}{C:Addr}{Hs H0 H:Hp}{td ty tx te:TE}{ed ek ex ea:Ev}
theorem VP{s:Sl}{n:Int}(e:int? s=some n):s=.sh (.int n):=by
 cases s with
 | sh d=>cases d with
  | int i=>cases e;rfl
  | _=>cases e
 | _=>cases e
theorem RR.dk{v:V}{s:Sl}{p:List Int×List D}(r:RR K C Hs H0 H v s)(i:Same H0 H)(e:s.dk=some p):∃l xs,v=.ref l/\Rd H l (dkO p.1 xs)/\p.1.length=p.2.length/\RDL K C H0 xs p.2:=by
 cases s with
 | bd ks ds=>cases e;obtain⟨l,xs,h1,h2,h3⟩:=r;exact⟨l,xs,h1,.inl h2,h3⟩
 | od ks ds=>cases e;obtain⟨l,xs,h1,h2,_,_,h3⟩:=r;exact⟨l,xs,h1,.inl h2,h3⟩
 | bt _ _=>cases e
 | ot _ _=>cases e
 | sh d=>cases d with
  | dct ks ds=>cases e;obtain⟨l,xs,h1,h2,h3⟩:=RD.dctI r;exact⟨l,xs,h1,.inl (i _ _ h2),h3⟩
  | dfz ks ds=>cases e;obtain⟨l,xs,o,h1,h2,h3⟩:=RD.dfzI r;exact⟨l,xs,h1,.inr ⟨o,i _ _ h2⟩,h3⟩
  | _=>cases e
 | _=>cases e
theorem JmO{l:Addr}{ks:List Int}{xs:List V}{n:Int}(h:Rd H l (dkO ks xs)):DGet H l (.int n) (look ks xs n):=.inl ⟨_,Sum.inl n,h,rfl,(Jap ks xs n).symm⟩
theorem Jhc:SE K C Jhm JdB:=by intro B H0 H σ E r Q I e q;cases e;intro p hp;exact Jgw (ks:=[]) (xs:=[]) (Hs:=H) I.h (Same.refl _) hp rfl .nil q
theorem Jnt(ha:SE K C td ed)(hk:SE K C ty ek):SE K C (Jj5 td ty) (Jkq ed ek):=by
 intro B H0 H σ E r Q I e q;obtain⟨s,e1,e⟩:=bind_some e;obtain⟨p,e2,e⟩:=bind_some e;obtain⟨n,e3,e⟩:=bind_some e;obtain⟨t,e3,e4⟩:=bind_some e3;obtain rfl:=VP e4;obtain⟨d,e5,rfl⟩:=map_some e;refine ha B H0 H σ E s _ I e1 fun x H1 H1' s1 r1=>hk B H1 H1' σ E _ _ (I.step s1) e3 fun y H2 H2' s2 r2=>?_
 obtain⟨l,xs,rfl,h,_,rl⟩:=(r1.step s2).dk s2.i e2;rw[RD.intI r2];rcases RDL.look (ks:=p.1) (n:=n) rl with ⟨_,z⟩|⟨v,d',z1,z2,z3⟩
 ·rw[z] at e5;cases e5
 ·rw[z2] at e5;cases e5;exact⟨l,v,rfl,z1▸JmO h,q _ _ _ (s1.trans s2) z3⟩
theorem Jef(ha:SE K C td ed)(hk:SE K C ty ek)(hx:SE K C tx ex):SE K C (Jhl td ty tx) (JaE ed ek ex):=by
 intro B H0 H σ E r Q I e q;obtain⟨s,e1,e⟩:=bind_some e;obtain⟨p,e2,e⟩:=bind_some e;obtain⟨n,e3,e⟩:=bind_some e;obtain⟨t,e3,e4⟩:=bind_some e3;obtain rfl:=VP e4;obtain⟨d,e5,e⟩:=bind_some e;obtain⟨t',e5,e6⟩:=bind_some e5;obtain rfl:=WM e6;cases e;refine ha B H0 H σ E s _ I e1 fun x H1 H1' s1 r1=>?_
 obtain⟨l0,xs0,rfl,h0,_,_⟩:=r1.dk s1.i e2;refine⟨l0,rfl,.inl ⟨_,h0⟩,hk B H1 H1' σ E _ _ (I.step s1) e3 fun y H2 H2' s2 r2=>hx B H2 H2' σ E _ _ ((I.step s1).step s2) e5 fun z H3 H3' s3 r3=>?_⟩;obtain⟨l,xs,hl,h,_,rl⟩:=((r1.step s2).step s3).dk s3.i e2;cases hl;rw[RD.intI r2];refine⟨_,JmO h,q _ _ _ ((s1.trans s2).trans s3) ?_⟩;rcases RDL.look (ks:=p.1) (n:=n) rl with ⟨z1,z2⟩|⟨v,d',z1,z2,z3⟩
 ·rw[z1,z2];exact r3
 ·rw[z1,z2];exact z3
theorem JhD{i:Nat}(ha:SE K C te ea)(hk:SE K C ty ek):SS K C (Jj3 (WC i) ty te) (Jar i ek ea):=by
 intro B H0 H σ E o D I e f;unfold Jar at e;split at e
 ·next ks ds h =>
  obtain⟨s,e1,e⟩:=bind_some e;obtain⟨d,e2,e⟩:=bind_some e;obtain⟨n,e3,e⟩:=bind_some e;obtain⟨t,e3,e4⟩:=bind_some e3;obtain rfl:=VP e4;split at e
  ·next hz =>
   cases e;obtain⟨l,xs,g1,g2,g3,g4,gk,g5⟩:=I.slotD h;refine ha B H0 H σ E _ _ I e1 fun v H1 H1' s1 r1=>?_
   have s2:Step H H0 H (YD H H1 H1') H1':=s1.comp (JT s1.i) fun _ z=>z
   have rv:=RR.frz s1.i r1 e2;refine⟨_,g1,?_⟩;refine hk B _ H1' σ E _ _ (I.step s2) e3 fun w H3 H3' s3 r3=>?_
   have s4:=s2.trans s3
   have hx:ks.length=xs.length:=gk.trans g5.1.symm;obtain⟨_,n0,nB⟩:=(I.step s4).ownG h rfl g1
   have rr:=(g5.mono s4.z).putDs (ks:=ks) (n:=n) (rv.mono s3.z)
   have m:=(I.step s4).mutG (t':=.od (YI ks n) (putDs ks ds n d)) (o':=dkO (YI ks n) (putDs ks xs n v)) h rfl rfl g1 ⟨l,_,rfl,Jw,n0,nB,Jaj _ _ _ _ gk,rr⟩;rw[RD.intI r3];refine⟨l,_,rfl,.inl ⟨_,Sum.inl n,s4.h _ _ g2,rfl,?_,rfl⟩,?_⟩
   ·rw[List.length_zip,List.length_map,<- hx,Nat.min_self];exact hz
   ·rw[JgT ks xs n v hx];exact f _ _ _ ⟨m.b,s4.z,(s4.ss I.b).n,m.h⟩ m
  ·cases e
 ·cases e
end

noncomputable def JeR(x y:Sl):Option Sl:=x.m.bind fun ds=>(int? y).bind fun k=>if Wb k=true/\ds.length*k.toNat<=sizeLine then some (.own (List.replicate k.toNat ds).flatten) else none
section
variable{K:Frag}{C:Addr}{H:Hp}
theorem RDL.rep{xs:List V}{ds:List D}(r:RDL K C H xs ds):∀k:Nat,RDL K C H (List.replicate k xs).flatten (List.replicate k ds).flatten
 | 0=>.nil
 | k+1=>by rw[List.replicate_succ,List.replicate_succ,List.flatten_cons,List.flatten_cons];exact r.append (RDL.rep r k)
theorem JjV:OpS K C Jni JeR:=by
 intro Hs H0 H x y a b c Q i hs ra rb e q;obtain⟨ds,e1,e⟩:=bind_some e;obtain⟨k,e2,e3⟩:=bind_some e;have hb:=VP e2;subst hb;split at e3
 ·next hz=>cases e3;obtain⟨l,us,rfl,h1,r1⟩:=ra.m i e1;obtain⟨b1,b2⟩:=UV hz.1;exact⟨l,k,us,rfl,RD.intI rb,h1,by omega,by omega,by rw[r1.1];exact hz.2,fun p hp=>UC i hs hp (r1.rep k.toNat) q⟩
 ·cases e3
end
theorem Jf1{d:D}{s:Sl}{k:Int}(e:s.m=some [d])(h1:Wb k=true)(h2:k.toNat<=16777216):JeR s (.sh (.int k))=some (.own (List.replicate k.toNat d)):=by
 unfold JeR;rw[e,Option.bind_some];show(some k).bind _=_;rw[Option.bind_some,if_pos ⟨h1,by rw[List.length_singleton,Nat.one_mul];exact h2⟩];congr 2
 generalize k.toNat=n
 induction n with
 | zero=>rfl
 | succ n ih=>rw[List.replicate_succ,List.flatten_cons,ih];rfl
end LE

namespace L2
open PySem PySem.Spec PyProof.Rows
noncomputable def Jj6(i:Nat)(t:TS):TS:=fun D σ H=>∃a kvs,σ[i]?=some (some (.ref a))/\H a=some (.dK kvs)/\∀o,t D σ (upd H a (.frz o (.dK kvs)))
theorem Inv.freeze{X:Cx}{pins:List (Addr×Obj)}{σ:St}{H:Hp}{s:Shared}{a:Addr}{kvs:List (Key×V)}(I:Inv X pins σ H s)(e:H a=some (.dK kvs)):∃o,Inv X pins σ (upd H a (.frz o (.dK kvs))) s:=by
 obtain⟨z,y,vs,r,ob,es,ep,e1,c⟩:=(show ObjOk X.prog X.w H s.heap a (.dK kvs) from I.hok a _ e)
 have:=I.write (x:=a) (e:=a) (o:=.frz ob (.dK kvs)) (h':=s.heap) (t':=s.toks) (by rw[e];trivial) (.inl rfl) (fun b u _ q=>q) ⟨ob,e1⟩ ⟨e1,z,y,vs,r,ob,es,ep,e1,c⟩;exact⟨ob,this⟩
theorem JiW{X:Cx}{st:Stmt}{t:TS}(i:Nat)(h:PS X st t):PS X st (Jj6 i t):=by intro pins s σ H D I ⟨a,kvs,e1,e2,q⟩;obtain⟨o,I'⟩:=I.freeze e2;exact h pins s σ _ D I' (q o)
noncomputable def Itd(a:Addr)(o:Obj)(kvs:List (Key×V)):It :=
 ⟨fun i H=>H a=some (.frz o (.dK kvs))/\∃p,kvs[i]?=some p,
  fun i H x H'=>∃t k v,x=.ref t/\H t=none/\kvs[i]?=some (k,v)/\H'=upd H t (.tup [kV k,v]),
  fun i H=>H a=some (.frz o (.dK kvs))/\i=kvs.length⟩
theorem JkW{P:Program}{w:World}{k:Key}{u:Value}(h:(JC P w).is k u=true):RelV (kV k) u:=by
 rcases JX (show Wt k u=true from h) with ⟨i,t,rfl,rfl⟩|⟨x,t,rfl,rfl⟩
 ·exact⟨t,rfl⟩
 ·exact⟨t,rfl⟩
theorem KV.get{κ:Type}:∀{kvs:List (κ×V)} {vs:List (κ×Value)} {i:Nat} {p:κ×V},KV kvs vs->kvs[i]?=some p->∃u,vs[i]?=some (p.1,u)/\RelV p.2 u
 | _,_,0,p,.cons h _,e=>by simp at e;subst e;obtain⟨h1,h2⟩:=h;rename_i q _ _;exact⟨_,by simp;exact Prod.ext h1.symm rfl,h2⟩
 | _,_,i+1,p,.cons _ t,e=>by obtain⟨u,h1,h2⟩:=KV.get (i:=i) t (by simpa using e);exact⟨u,by simpa using h1,h2⟩
 | _,_,_,_,.nil,e=>by simp at e
theorem WY{X:Cx}{pins:List (Addr×Obj)}{σ:St}{H:Hp}{s:Shared}{a:Addr}{o:Obj}{kvs:List (Key×V)}{es:Array DictEntry}{ep:Nat}(I:Inv X pins σ H s)(h:H a=some (.frz o (.dK kvs)))(hd:o.data=.dict es ep) :
 ∃vs,KV kvs vs/\s.heap.DictAt (JC X.prog X.w) a vs ep/\(a == sysModules)=false:=by
 obtain⟨e0,z,y,vs,r,ob,es',ep',e1,c1,c2,c3⟩:=(show ObjOk X.prog X.w H s.heap a (.frz o (.dK kvs)) from I.hok a _ h)
 rw[e0] at e1;cases e1;rw[hd] at c2;cases c2;exact⟨vs,r,⟨o,es,e0,c1,hd,c3⟩,y⟩
theorem Jde{P:Program}{w:World}{K:Frag}{elts:List Expr}{kk:Nat}{pos:Pos}(a it:Addr)(o:Obj)(kvs:List (Key×V))(es:Array DictEntry)(ep:Nat)(hd:o.data=.dict es ep) :
 Turn P w K (.Tuple elts kk pos) (Itd a o kvs) [it] it (fun i h=>∃ok ov,IsItemIter h it a i kvs.length ep ok ov) where
 mem:=by simp
 obj:=fun i h st c hc=>by
  obtain⟨ok,ov,s1⟩:=st;have hc':c=it:=by simpa using hc
  subst hc';exact⟨_,s1,fun v z=>nomatch (show Data.fields _=Data.cell v from z)⟩
 keep:=fun i h h' st k=>by obtain⟨ok,ov,s1⟩:=st;exact⟨ok,ov,k it (by simp) _ s1⟩
 item:=by
  intro X hP hw hK hc i pins s σ H E I hf st hg;subst hP hw hK;obtain⟨hH,⟨k,v⟩,e1⟩:=hg;obtain⟨vs,r,dd,_⟩:=WY I hH hd;obtain⟨ok,ov,s1⟩:=st;obtain⟨u,hu,ru⟩:=r.get e1;have hl:kvs.length=vs.length:=KV.length r;rw[hl] at s1;refine wpAny_pyNext_items_item s1 dd hu fun key h' hk hit' ht hz hkeep=>?_
  refine⟨_,rfl,wpAny_letOwnedTupleGo_items (s:={ s with heap:=h' }) hit' fun k2 t9 e9=>?_⟩
  replace e9:Heap.SameBut it h' k2:=e9;have elt:it<s.heap.objs.size:=Heap.lt_size s1
  have I1:Inv X pins σ (upd H s.heap.objs.size (.tup [kV k,v])) { s with heap:=s.heap.push { cls:=.type "tuple",data:=.seq #[key,u] },toks:=s.toks } :=
   I.laid (o:=.tup [kV k,v]) (fun c ob q=>Heap.get?_push_of_some _ q) (Nat.le_refl _) ⟨by show 2<=sizeLine;decide,[key,u],.cons (JkW hk) (.cons ru .nil),⟨_,Heap.get?_push_size _ rfl,rfl,_,rfl⟩⟩
  have hf1:∀c∈[it],FpOk X pins (upd H s.heap.objs.size (.tup [kV k,v])) c:=fun c hc=>by
   have hc':c=it:=by simpa using hc
   subst hc';exact⟨by rw[Ji (Nat.ne_of_lt elt)];exact(hf c hc).1,(hf c hc).2⟩
  have I2:Inv X pins σ (upd H s.heap.objs.size (.tup [kV k,v])) { s with heap:=k2,toks:=s.toks }:=Inv.turnedL (s:={ s with heap:=s.heap.push { cls:=.type "tuple",data:=.seq #[key,u] },toks:=s.toks }) I1 (fun c ob hc q=>by
   have hc':c≠it:=fun z=>hc (by simp[z])
   refine e9.extBut c ob hc' ?_
   by_cases hcs:c=s.heap.objs.size
   ·subst hcs;have q':(s.heap.push { cls:=.type "tuple",data:=.seq #[key,u] }).get? s.heap.objs.size=some ob:=q;rw[Heap.get?_push_size _ rfl] at q';cases q';exact ht
   ·have q':s.heap.get? c=some ob:=by have q2:(s.heap.push { cls:=.type "tuple",data:=.seq #[key,u] }).get? c=some ob:=q;exact(Heap.get?_push_ne s.heap c _ hcs).symm.trans q2
    exact hkeep c ob hc' q') hf1
  refine⟨.ref s.heap.objs.size,_,I2,rfl,⟨_,k,v,rfl,I.hok.fresh (Nat.le_refl _),e1,rfl⟩,⟨key,u,?_⟩,fun c hc=>(hf1 c hc).1⟩
  ·rw[hl];exact t9
 done:=by
  intro X hP hw hK hc i pins s σ H E I hf st hg;subst hP hw hK;obtain⟨hH,ei⟩:=hg;obtain⟨vs,r,dd,_⟩:=WY I hH hd;obtain⟨ok,ov,s1⟩:=st;have hl:kvs.length=vs.length:=KV.length r;have hh:X.A.handled=none:=I.ok.hd hc;rw[hl] at s1;refine wpAny_pyNext_items_end hh s1 dd (List.getElem?_eq_none (by omega)) fun h' he=>⟨rfl,?_⟩
  exact I.turnedL (fun c ob hc q=>he c ob (fun z=>hc (by simp[z])) q) hf
 self:=fun _ _ _ _ _ st h=>by obtain⟨ok,ov,s1⟩:=st;exact PySem.W.kcp_self s1 h
noncomputable def Jm0(td:TE):TI:=fun σ H R=>td σ H fun x H1=>∃a o kvs,x=.ref a/\H1 a=some (.frz o (.dK kvs))/\R (Itd a o kvs) H1
theorem JgK{X:Cx}{elts:List Expr}{kk:Nat}{tpos:Pos}{d:Expr}{td:TE}{apos pos:Pos}(hd:PE X d td)(hbase:attributeBase d "items" X.env (eval d X.env)=eval d X.env:=by rfl)(hline:(apos.endLine == pos.line)=true:=by rfl)
:PI X (.Tuple elts kk tpos) (.Call (.Attribute d "items" apos) [] [] pos) (Jm0 td):=by
 intro pins s σ H R I h;refine wpAny_Call_method0_late hbase hline (thn (hd pins s σ H _ I h) fun v s1 ⟨x,H1,I1,r1,a,o,kvs,ex,hH,q⟩=>?_);subst ex;cases r1;obtain⟨t1,t2,_⟩:=JcI I1 (.inl ⟨kvs,.inr ⟨o,hH⟩⟩);have hO:=(show ObjOk X.prog X.w H1 s1.heap a (.frz o (.dK kvs)) from I1.hok a _ hH)
 obtain⟨e0,z,y,vs,r,ob,es,ep,e1,c1,c2,c3⟩:=hO;rw[e0] at e1;cases e1;have dd:s1.heap.DictAt (JC X.prog X.w) a vs ep:=⟨o,es,e0,c1,c2,c3⟩
 have hl:kvs.length=vs.length:=KV.length r;refine⟨"dict","dict.items",PySem.F.plainAttrs_dict,PySem.F.slot_dict_items,PySem.F.type_dict_items,t1,t2,Calls.callWith_builtin rfl (PySem.evalArgs_none ?_)⟩;refine call_meetsIn PySem.F.slot_dict_items t1 PySem.F.entry_dict_items (PySem.F.args_dict_items_1 _) (meets_dict_items (JC X.prog X.w) a y) ⟨⟨vs,dd.dictOf⟩,?_⟩
 have I2:Inv X pins σ H1 { s1 with heap:=s1.heap.push { cls:=.type "dict_items",data:=.fields #[.ref a] },toks:=s1.toks }:=I1.kept fun b ob q=>Heap.get?_push_of_some _ q
 refine wpAny_pyIter_items (s:={ s1 with heap:=s1.heap.push { cls:=.type "dict_items",data:=.fields #[.ref a] } }) (d:=a) (kvs:=vs) (ep:=ep) (knd:=JC X.prog X.w) ⟨_,Heap.get?_push_size _ rfl,rfl,rfl⟩ (dd.push _) ?_;refine⟨_,[(s1.heap.push { cls:=.type "dict_items",data:=.fields #[.ref a] }).objs.size],_,_,H1,rfl,I2.kept (t':=s1.toks) fun b ob q=>Heap.get?_push_of_some _ q,Jde a _ o kvs es ep c2,⟨.none,.none,?_⟩,fun c hc=>?_,q⟩
 ·rw[hl];exact Heap.get?_push_size _ rfl
 ·have hc':c=(s1.heap.push { cls:=.type "dict_items",data:=.fields #[.ref a] }).objs.size:=by simpa using hc
  subst hc';exact I2.fpOk (Nat.le_refl _) (I2.hok.fresh (Nat.le_refl _))
end L2
namespace LE
open PySem L2 LR
noncomputable def Jer(i:Nat)(b:Es):Es:=fun E=>match E[i]? with
 | some (.od ks ds)=>b (E.set i (.sh (.dfz ks ds)))
 | _=>none
noncomputable def JcL:List Int->List D->List D:=List.zipWith fun k d=>.tup [.int k,d]
noncomputable def JcH(a:Ev):En->Option (List D):=fun E=>(a E).bind fun s=>match s with
 | .sh (.dfz ks ds)=>some (JcL ks ds)
 | _=>none
section
variable{K:Frag}{C:Addr}{m:Bool}{t:TS}{et:Es}{td:TE}{ed:Ev}
theorem Jmw(i:Nat)(ht:SS K C t et):SS K C (Jj6 i t) (Jer i et):=by
 intro B H0 H σ E o D I e f;unfold Jer at e;split at e
 ·next ks ds h =>
  obtain⟨l,xs,g1,g2,g3,g4,gk,g5⟩:=I.slotD h;refine⟨l,_,g1,g2,fun ob=>?_⟩;have hi:i<E.length:=(List.getElem?_eq_some_iff.mp h).1;have s0:Same H0 (upd H0 l (.frz ob (dkO ks xs))):=.new g3;have nb:∀{A:Hp},A l=none->Same A H->Same A (upd H l (.frz ob (dkO ks xs))):=fun {A} n s a o e=>by rw[Ji (Jy e n)];exact s a o e
  have s1:Same (upd H0 l (.frz ob (dkO ks xs))) (upd H l (.frz ob (dkO ks xs))):=fun a o e=>by
   by_cases ha:a=l
   ·subst ha;rw[Jw] at e ⊢;exact e
   ·rw[Ji ha] at e ⊢;exact I.h a o e
  have st:SStep B H0 (upd H0 l (.frz ob (dkO ks xs))) (upd H l (.frz ob (dkO ks xs))):=⟨nb g4 I.b,s0,fun a o e=>by
   by_cases ha:a=l
   ·subst ha;exact .inr (.inl g4)
   ·rw[Ji ha] at e;exact .inl e,s1⟩
  refine ht B _ _ σ _ o D ⟨nb g4 I.b,s1,by simp[I.len],fun j s e=>?_,fun j k u1 u2 v hjk a1 a2 w1 w2 a3=>?_⟩ e (f.step st)
  ·rw[List.getElem?_set] at e
   by_cases hj:i=j
   ·subst hj;rw[if_pos rfl,if_pos hi] at e;cases e;exact .inr ⟨_,g1,.mkZ Jw gk (g5.mono s0)⟩
   ·rw[if_neg hj] at e;rcases I.at' j s e with z|⟨v,q1,q2⟩
    ·exact .inl z
    ·refine .inr ⟨v,q1,?_⟩
     cases s with
     | no=>trivial
     | sh d=>exact RD.mono s0 q2
     | bo es=>obtain⟨l',ys,p1,p2,p3⟩:=q2;exact⟨l',ys,p1,p2,p3.mono s0⟩
     | bd ks es=>obtain⟨l',ys,p1,p2,hk,p3⟩:=q2;exact⟨l',ys,p1,p2,hk,p3.mono s0⟩
     | bt ks es=>obtain⟨l',ys,p1,p2,hk,p3⟩:=q2;exact⟨l',ys,p1,p2,hk,p3.mono s0⟩
     | own es =>
      obtain⟨l',ys,p1,p2,p3,p4,p5⟩:=q2;subst p1;have:l'≠l:=fun z=>by subst z;exact I.sep i j _ _ (.ref l') hj h e rfl rfl g1 q1
      exact⟨l',ys,rfl,by rw[Ji this];exact p2,by rw[Ji this];exact p3,p4,p5.mono s0⟩
     | od ks es =>
      obtain⟨l',ys,p1,p2,p3,p4,hk,p5⟩:=q2;subst p1;have:l'≠l:=fun z=>by subst z;exact I.sep i j _ _ (.ref l') hj h e rfl rfl g1 q1
      exact⟨l',ys,rfl,by rw[Ji this];exact p2,by rw[Ji this];exact p3,p4,hk,p5.mono s0⟩
     | ot ks es =>
      obtain⟨l',ys,p1,p2,p3,p4,hk,p5⟩:=q2;subst p1;have:l'≠l:=fun z=>by subst z;exact I.sep i j _ _ (.ref l') hj h e rfl rfl g1 q1
      exact⟨l',ys,rfl,by rw[Ji this];exact p2,by rw[Ji this];exact p3,p4,hk,p5.mono s0⟩
  ·have own:∀{j:Nat} {u:Sl},(E.set i (.sh (.dfz ks ds)))[j]?=some u->JU u=true->E[j]?=some u:=fun {j u} a w=>by
    rw[List.getElem?_set] at a
    by_cases hj:i=j
    ·subst hj;rw[if_pos rfl,if_pos hi] at a;cases a;cases w
    ·rw[if_neg hj] at a;exact a
   exact I.sep j k u1 u2 v hjk (own a1 w1) (own a2 w2) w1 w2 a3
 ·cases e
theorem Jcm:∀(ks:List Int) (xs:List V) (i:Nat),((ks.map Sum.inl:List Key).zip xs)[i]?=(match ks[i]?,xs[i]? with|some k,some x=>some ((Sum.inl k:Key),x)|_,_=>none)
 | [],xs,i=>by simp
 | k::ks,[],i=>by cases h:(k::ks)[i]? <;> simp_all
 | k::ks,x::xs,0=>by simp
 | k::ks,x::xs,i+1=>by simpa using Jcm ks xs i
theorem Jhd(ha:SE K C td ed):SI K C m (Jm0 td) (JcH ed):=by
 intro B H0 H σ E ds R I e q;obtain⟨s,e1,e⟩:=bind_some e;split at e
 ·next ks es =>
  cases e;refine ha B H0 H σ E _ _ I e1 fun x H1 H1' s1 r1=>?_
  obtain⟨l,xs,o,rfl,h,hk,rl⟩:=RD.dfzI r1;refine⟨l,o,_,rfl,s1.i _ _ h,q _ _ _ s1 ?_⟩
  have sA:Same (if m=true then H1' else B) H1':=by
   split
   ·exact Same.refl _
   ·exact I.b.trans s1.h
  intro H0' H' st;have hl:H' l=some (.frz o (dkO ks xs)):=st.i _ _ (st.z _ _ h);refine⟨fun i d e=>?_,⟨hl,?_⟩⟩
  ·unfold JcL at e;rw[List.getElem?_zipWith] at e
   cases hki:ks[i]? with
   | none=>rw[hki] at e;cases e
   | some k =>
    cases hdi:es[i]? with
    | none=>rw[hki,hdi] at e;cases e
    | some d' =>
     rw[hki,hdi] at e;cases e;obtain⟨x,hx,rx⟩:=rl.get hdi;have hz:((ks.map Sum.inl:List Key).zip xs)[i]?=some (Sum.inl k,x):=by rw[Jcm,hki,hx]
     refine⟨⟨hl,_,hz⟩,?_⟩;rintro z H2 ⟨p,k',v',rfl,hp,hv,rfl⟩;rw[hz] at hv;cases hv;have h0:H0' p=none:=Same.free st.i hp;refine⟨upd H0' p (.tup [.int k,x]),⟨.new hp,.new h0,fun a o e=>?_,fun a o e=>?_⟩,?_⟩
     ·by_cases h:a=p
      ·subst h;exact .inr (.inl hp)
      ·rw[Ji h] at e;exact .inl e
     ·by_cases h:a=p
      ·subst h;rw[Jw] at e ⊢;exact e
      ·rw[Ji h] at e ⊢;exact st.i a o e
     ·exact .mkT (.of Jw) (.cons (.int _) (.cons (rx.mono (st.z.trans (.new h0))) .nil))
  ·unfold JcL;rw[List.length_zipWith,List.length_zip,List.length_map,rl.1]
 ·cases e
end
end LE

namespace L2
open PySem PySem.Spec PyProof.Rows
noncomputable def Jck(p a:Addr):HO:=.ext fun h=>KdlKeysView h p a
noncomputable def Jj7(td:TE):TE:=fun σ H Q=>td σ H fun x H1=>∃a kvs,x=.ref a/\Rd H1 a (.dK kvs)/\∀p,H1 p=none->Q (.ref p) (upd H1 p (Jck p a))
theorem JdA{X:Cx}{pins:List (Addr×Obj)}{σ:St}{H:Hp}{s:Shared}{a:Addr}{kvs:List (Key×V)}(I:Inv X pins σ H s)(h:Rd H a (.dK kvs)) :
 ∃vs ep,KV kvs vs/\s.heap.DictAt (JC X.prog X.w) a vs ep/\(a == sysModules)=false/\kvs.length<=sizeLine:=by
 obtain⟨z,y,vs,r,ob,es,ep,e1,c⟩:=(show ObjOk X.prog X.w H s.heap a (.dK kvs) from h.ok I.hok)
 exact⟨vs,ep,r,⟨ob,es,e1,c⟩,y,z⟩
theorem JiN{X:Cx}{d:Expr}{td:TE}{apos pos:Pos}(hd:PE X d td)(hbase:attributeBase d "keys" X.env (eval d X.env)=eval d X.env:=by rfl)(hline:(apos.endLine == pos.line)=true:=by rfl)
:PE X (.Call (.Attribute d "keys" apos) [] [] pos) (Jj7 td):=by
 intro pins s σ H Q I h;refine wpAny_Call_method0_late hbase hline (thn (hd pins s σ H _ I h) fun v s1 ⟨x,H1,I1,r1,a,kvs,ex,hH,q⟩=>?_);subst ex;cases r1;obtain⟨t1,t2,_⟩:=JcI I1 (.inl ⟨kvs,hH⟩);obtain⟨vs,ep,r,dd,y,_⟩:=JdA I1 hH;refine⟨"dict","dict.keys",PySem.F.plainAttrs_dict,PySem.F.slot_dict_keys,PySem.F.type_dict_keys,t1,t2,Calls.callWith_builtin rfl (PySem.evalArgs_none ?_)⟩;refine call_meetsIn PySem.F.slot_dict_keys t1 PySem.F.entry_dict_keys (PySem.F.args_dict_keys_1 _) (PySem.W.kdl_meets_keys (JC X.prog X.w) a y) ⟨⟨vs,dd.dictOf⟩,?_⟩
 have hn:H1 s1.heap.objs.size=none:=I1.hok.fresh (Nat.le_refl _)
 have vw:KdlKeysView (s1.heap.push { cls:=.type "dict_keys",data:=.fields #[.ref a] }) s1.heap.objs.size a:=⟨_,Heap.get?_push_size _ rfl,rfl,rfl⟩
 refine⟨.ref s1.heap.objs.size,_,I1.laid (t':=s1.toks) (o:=Jck s1.heap.objs.size a) (fun b ob q=>Heap.get?_push_of_some _ q) (Nat.le_refl _) ⟨vw,⟨_,Heap.get?_push_size _ rfl⟩,fun h1 h2 p k=>?_⟩,rfl,q _ hn⟩;obtain⟨o,ho,hc⟩:=p;exact⟨o,k o ho,hc⟩
noncomputable def JmC(H:Hp)(r a:Addr):Prop:=r=a\/H r=some (Jck r a)
theorem Jmi{X:Cx}{pins:List (Addr×Obj)}{σ:St}{H:Hp}{s:Shared}{r a:Addr}{kvs:List (Key×V)}(I:Inv X pins σ H s)(d:JmC H r a)(h:Rd H a (.dK kvs)) :
 ∃vs T OK,KV kvs vs/\PySem.W.KdlSrc X.prog X.w T r a vs.length (fun i v=>∃k x,vs[i]?=some (k,x)/\(JC X.prog X.w).is k v=true) OK/\OK s.heap/\vs.length<=sizeLine:=by
 obtain⟨vs,ep,rl,dd,y,z⟩:=JdA I h;rw[KV.length rl] at z;rcases d with e|e
 ·subst e;exact⟨vs,_,_,rl,PySem.W.kdl_dict (ep:=ep) y,dd,z⟩
 ·have vw:KdlKeysView s.heap r a:=(show ObjOk X.prog X.w H s.heap r (Jck r a) from I.hok r _ e).1;exact⟨vs,_,_,rl,PySem.W.kdl_keys (ep:=ep),⟨vw,dd⟩,z⟩
theorem JbG{P:Program}{w:World}:∀{ks:List Int} {xs:List V} {vs:List (Key×Value)} {acc:List Value},ks.length=xs.length->KV ((ks.map Sum.inl:List Key).zip xs) vs->acc.length=vs.length ->
 (∀(j:Nat) (v:Value),acc[j]?=some v->∃k x,vs[j]?=some (k,x)/\(JC P w).is k v=true)->IntsAre acc ks
 | [],[],_,acc,_,r,hl,_=>by
  cases r
  cases acc with
  | nil=>exact .nil
  | cons _ _=>simp at hl
 | [],_::_,_,_,h,_,_,_=>by simp at h
 | _::_,[],_,_,h,_,_,_=>by simp at h
 | k::ks,x::xs,vs,acc,h,r,hl,hv=>by
  cases r with
  | cons r1 r2 =>
   cases acc with
   | nil=>simp at hl
   | cons u acc =>
    obtain⟨k',x',e1,e2⟩:=hv 0 u rfl;simp at e1;obtain⟨r1a,r1b⟩:=r1;subst e1;have ek:k'=Sum.inl k:=r1a.symm;subst ek;rcases JX (show Wt (Sum.inl k) u=true from e2) with ⟨i,t,e,rfl⟩|⟨y,t,e,_⟩
    ·cases e;exact .cons k t (JbG (by simpa using h) r2 (by simpa using hl) fun j v e=>hv (j+1) v (by simpa using e))
    ·cases e
section
variable{prog:Program}{w:World}{A:Around}{E:Value->Shared->Prop}{s:Shared}{T:String}{r d:Addr}{n:Nat}{P:Nat->Value->Prop}{OK:Heap->Prop}
theorem Jbt{R:List Value->Shared->Prop}(K:PySem.W.KdlSrc prog w T r d n P OK)(hh:A.handled=none)(hok:OK s.heap)(hn:n<=sizeLine)
 (h:∀(h':Heap) (tk:Nat) (acc:Array Value),(∀b o,s.heap.get? b=some o->h'.get? b=some o)->s.heap.objs.size<h'.objs.size->ItemsOf P acc n->R acc.toList { s with heap:=h',toks:=tk }):wpAny (model prog w) A (collect (.ref r)) R E s:=by
 obtain⟨k1,k2⟩:=K.there _ hok;have old:∀b o,s.heap.get? b=some o->(s.heap.push { cls:=.type "list",data:=.seq ([]:List Value).toArray }).get? b=some o:=fun b o e=>Heap.get?_push_of_some _ e
 unfold collect;refine wpAny_bind (wpAny_runValue (codeAny_builtin entry_proto_collect' ?_));rw[Around.under_plainId PySem.F.plain_proto_collect _];show wpAny _ A.in1 (newList [] >>= fun l=>again (.builtin "list.__iadd__" ⟨[l,.ref r],[]⟩)) _ _ s;refine wpAny_bind (wpAny_newObj_type (wpAny_pure ⟨plainId_quiet PySem.F.plain_list_iadd _,codeAny_builtin entry_list_iadd' ?_⟩));rw[Around.under_plainId PySem.F.plain_list_iadd _];have at0:(s.heap.push { cls:=.type "list",data:=.seq ([]:List Value).toArray }).get? s.heap.objs.size=some { cls:=.type "list",data:=.seq #[] }:=Heap.get?_push_size _ rfl
 have fin:∀(h':Heap) (tk:Nat) (acc:Array Value) (c:Nat),(∀b o,s.heap.get? b=some o->h'.get? b=some o)->h'.get? s.heap.objs.size=some { cls:=.type "list",dict:=none,data:=.seq acc c,slots:=#[] }->ItemsOf P acc n ->
  wpAny (model prog w) A (load s.heap.objs.size >>= fun o=>match o.data with | .seq xs _=>pure xs.toList | _=>unsupported "internal:collect") R E { s with heap:=h',toks:=tk }:=fun h' tk acc c hk hS hi=>wpAny_bind (wpAny_load hS (wpAny_pure (h h' tk acc hk (Heap.lt_size hS) hi)))
 have got:=PySem.W.kdl_extend (A:=A) (s:={ s with heap:=s.heap.push { cls:=.type "list",data:=.seq ([]:List Value).toArray } }) (R:=fun q s'=>∃h' tk acc c,q=.ok (.ret (.ref s.heap.objs.size))/\s'={ s with heap:=h',toks:=tk }/\(∀b o,s.heap.get? b=some o->h'.get? b=some o)/\h'.get? s.heap.objs.size=some { cls:=.type "list",dict:=none,data:=.seq acc c,slots:=#[] }/\ItemsOf P acc n) K hh (K.keep _ _ hok fun b _ o e=>old b o e) s.heap.objs.size (Nat.ne_of_gt k1) (Nat.ne_of_gt k2) (.ref s.heap.objs.size) 0 at0 (fun h' tk acc c hk hS hi=>⟨h',tk,acc,c,rfl,rfl,fun b o e=>hk b o (Nat.ne_of_lt (Heap.lt_size e)) (old b o e),hS,hi⟩) hn
 refine wpAny_mono got (fun f s' x=>?_) fun e s' ⟨_,_,_,_,z,_⟩=>nomatch z
 cases f with
 | done f=>obtain⟨h',tk,acc,c,e,rfl,hk,hS,hi⟩:=x;cases e;exact fin h' tk acc c hk hS hi
 | again c1=>exact⟨x.1,codeAny_mono x.2 fun q s2 ⟨h',tk,acc,c,e1,e2,hk,hS,hi⟩=>by subst e1;subst e2;exact fin h' tk acc c hk hS hi⟩
end
noncomputable def Jg3:List V->Hp->VK->Prop:=fun xs H Q=>∃r a ks vs,xs=[.ref r]/\JmC H r a/\Rd H a (.dK ((ks.map Sum.inl:List Key).zip vs))/\ks.length=vs.length/\ks.length<64/\∀l,H l=none->Q (.ref l) (upd H l (.lst ((JN ks).map V.int)))
theorem Jcv{X:Cx}(hc:X.calm=true):CallR X (.builtin "sorted") Jg3:=by
 intro pins s σ H xs us Q I r h;obtain⟨p,a,ks,vs0,rfl,ds,hq,hlk,h64,q⟩:=h;obtain⟨u,rfl,rx⟩:=Vd r;cases rx;obtain⟨vs,T,OK,rl,K,ok,hz⟩:=Jmi I ds hq;have hh:X.A.in1.handled=none:=I.ok.hd hc
 have hl:vs.length=ks.length:=by have:=KV.length rl;rw[List.length_zip,List.length_map,<- hlk,Nat.min_self] at this;exact this.symm
 refine Calls.call_function_entry kind_sorted plain_sorted entry_sorted (args_sorted1 _) ?_;unfold Builtin.«sorted»;refine wpAny_bind (m:=checkCount "sorted" 1 1 _) (wpAny_pure ?_);refine wpAny_bind (Jbt K hh ok hz fun h' tk acc hk hsz items=>?_);have hI:IntsAre acc.toList ks:=JbG (P:=X.prog) (w:=X.w) hlk rl (by rw[Array.length_toList,items.1]) fun j v e=>items.2 j v (by rw[<- Array.getElem?_toList];exact e)
 have hal:acc.toList.length=ks.length:=by rw[Array.length_toList,items.1,hl]
 refine wpAny_bind (wpAny_newList ?_ (by rw[hal];show ks.length<=16777216;omega));have hoL:(h'.push (seqObj "list" acc.toList.toArray 0)).get? h'.objs.size=some (seqObj "list" acc.toList.toArray 0):=Heap.get?_push_size _ rfl;refine wpAny_bind (wpAny_holding (wpAny_call_entry slot_list_sort ⟨_,hoL,rfl⟩ entry_list_sort (list_sort_tree hoL hI (by rw[hal];exact h64) fun out ns' a1 a2 a3=>⟨_,rfl,?_⟩) (args_list_sort _)));refine wpAny_pure ⟨_,rfl,?_⟩;have es:ns'=JN ks:=Wo (a2.trans (Jz ks).symm) a3 (Ua ks)
 subst es;obtain⟨e,he⟩:=sortedHeap_at (out:=out) hoL;have hle:s.heap.objs.size<=h'.objs.size:=Nat.le_of_lt hsz;have hne:H h'.objs.size=none:=I.hok.fresh hle;have hn:((JN ks).map V.int).length<=sizeLine:=by rw[List.length_map,(Jz ks).length_eq];show ks.length<=16777216;omega
 refine⟨.ref h'.objs.size,_,I.laid (t':=tk) (fun b o x=>?_) hle (show ObjOk X.prog X.w _ _ _ (.lst ((JN ks).map V.int)) from⟨hn,out.toList,e,V5 a1,?_⟩),rfl,q _ hne⟩
 ·have hx:=hk b o x
  have hlt:b<h'.objs.size:=Heap.lt_size hx;rw[sortedHeap_old (Nat.ne_of_lt hlt) (by rw[size_push'];exact Nat.lt_succ_of_lt hlt)];exact Heap.get?_push_of_some _ hx
 ·rw[he]
end L2
namespace LE
open PySem L2 LR
noncomputable def JcB(a:Ev):Ev:=fun E=>(a E).bind fun s=>s.dk.bind fun p=>if p.1.length<64 then some (.own ((JN p.1).map .int)) else none
noncomputable def Jf0:List Sl->Option Sl
 | [.sh (.int i)]=>some (.sh (.int i))
 | [.sh (.bl b)]=>some (.sh (.int (if b then 1 else 0)))
 | _=>none
section
variable{K:Frag}{C:Addr}{td:TE}{ed:Ev}
theorem Rd.put{H:Hp}{l p:Addr}{o u:HO}(h:Rd H l o)(hp:H p=none):Rd (upd H p u) l o:=by
 rcases h with h|⟨ob,h⟩
 ·exact .inl (by rw[Ji (Jy h hp)];exact h)
 ·exact .inr ⟨ob,by rw[Ji (Jy h hp)];exact h⟩
theorem Jjm(ha:SE K C td ed):SE K C (tCB Jg3 (Ub (Jj7 td) Wp)) (JcB ed):=by
 intro B H0 H σ E r Q I e q;obtain⟨s,e1,e⟩:=bind_some e;obtain⟨p,e2,e⟩:=bind_some e;split at e
 ·next h64 =>
  cases e;refine ha B H0 H σ E s _ I e1 fun x H1 H1' s1 r1=>?_
  obtain⟨l,xs,rfl,h,hk,rl⟩:=r1.dk s1.i e2;refine⟨l,_,rfl,h,fun w hw=>?_⟩;have st:Step H1' H1 H1' H1 (upd H1' w (Jck w l)):=⟨.new hw,Same.refl _,fun _ _ e=>.inl e,s1.i.trans (.new hw)⟩
  have s2:=s1.trans st;exact⟨w,l,p.1,xs,rfl,.inr Jw,Rd.put h hw,by rw[hk,rl.1],h64,fun z hz=>UC s2.i s2.h hz (RDL.ofInts _) fun v H2 H2' s3 r2=>q v H2 H2' (s2.comp s3 fun _ y=>y) r2⟩
 ·cases e
theorem JmM:Vo K C (fun xs H Q=>(∃i,xs=[V.int i]/\Q (.int i) H)\/∃k,xs=[V.bl k]/\Q (.int (if k then 1 else 0)) H) Jf0:=by
 intro Hs H0 H xs as c Q i hs r e q;unfold Jf0 at e;split at e
 ·cases e;obtain⟨v,rfl,r0⟩:=r.one;exact .inl ⟨_,by rw[RD.intI r0],q _ _ _ (.refl i) (RD.int _)⟩
 ·cases e;obtain⟨v,rfl,r0⟩:=r.one;exact .inr ⟨_,by rw[RD.blI r0],q _ _ _ (.refl i) (RD.int _)⟩
 ·cases e
end
end LE

namespace L2
open PySem PySem.Spec PyProof.Rows
theorem Inv.more{X:Cx}{pins:List (Addr×Obj)}{σ:St}{H H':Hp}{s:Shared}{h':Heap}{t':Nat}(I:Inv X pins σ H s)(k:∀b u,s.heap.get? b=some u->h'.get? b=some u)(hx:∀b,b<s.heap.objs.size->H' b=H b)
 (new:∀b o,s.heap.objs.size<=b->H' b=some o->ObjOk X.prog X.w H' h' b o):Inv X pins σ H' { s with heap:=h',toks:=t' }:=by
 have old:∀b o,H b=some o->H' b=some o:=fun b o e=>by rw[hx b (I.hok.lt e)];exact e
 refine I.un ⟨fun b u q _ _ _=>k b u q,fun b u q _ _ _=>⟨u.slots,k b u q⟩,fun b u q n _=>by rw[hx b (Heap.lt_size q)];exact n,fun b u q _=>⟨u,k b u q⟩,fun b xs q=>old b _ q,fun b u xs q=>old b _ q,fun b ps q=>⟨#[],by rw[old b _ q];simp⟩⟩ fun b o e=>?_
 rcases Nat.lt_or_ge b s.heap.objs.size with z|z
 ·rw[hx b z] at e;exact(I.hok b o e).stay (fun c u _ q=>k c u q) (fun c q=>old c _ q) fun c xs q=>old c _ q
 ·exact new b o z e
end L2
namespace LE
open PySem L2 LR
noncomputable def JhB(i:Nat):Es:=fun E=>match E[i]? with
 | some (.own _)=>some (.nx (E.set i (.own [])))
 | _=>none
section
variable{K:Frag}{C:Addr}{td:TE}{ed:Ev}
theorem RDL.items:∀{ks:List Int} {xs:List V} {ds:List D} {as:List Addr} {H:Hp},ks.length=ds.length->as.length=ks.length->(∀(j:Nat) (a:Addr) (k:Int) (x:V),as[j]?=some a->ks[j]?=some k->xs[j]?=some x->H a=some (.tup [.int k,x]))->RDL K C H xs ds->RDL K C H (as.map V.ref) (JcL ks ds)
 | [],[],[],[],_,_,_,_,_=>.nil
 | [],_,_,a::as,_,_,h,_,_=>by simp at h
 | [],_,d::ds,_,_,h,_,_,_=>by simp at h
 | k::ks,_,[],_,_,h,_,_,_=>by simp at h
 | k::ks,_,_,[],_,_,h,_,_=>by simp at h
 | [],x::xs,[],[],_,_,_,_,h=>by have:=h.1;simp at this
 | k::ks,[],d::ds,a::as,_,_,_,_,h=>by have:=h.1;simp at this
 | k::ks,x::xs,d::ds,a::as,H,h1,h2,h3,h4=>by show RDL K C H (V.ref a::as.map V.ref) (.tup [.int k,d]::JcL ks ds);refine .cons (.mkT (.of (h3 0 a k x rfl rfl rfl)) (.cons (.int k) (.cons h4.head .nil))) (RDL.items (by simpa using h1) (by simpa using h2) (fun j a k x e1 e2 e3=>h3 (j+1) a k x (by simpa using e1) (by simpa using e2) (by simpa using e3)) h4.tail)
theorem JnE{i:Nat}:SS K C (Jcf (Jjw K "list" JgY (WC i))) (JhB i):=by
 intro B H0 H σ E o D I e f;unfold JhB at e;split at e
 ·next ds h=>cases e;obtain⟨l,xs,g1,g2,g3,g4,g5⟩:=I.slot h;have m:=I.mut (xs:=xs) h g1 (RDL.nil (K:=K) (C:=C) (H:=H0));exact⟨_,g1,.inl ⟨rfl,_,.of g2⟩,l,xs,rfl,rfl,g2,f _ _ _ ⟨m.b,Same.refl _,fun _ _ e=>.inl e,m.h⟩ m⟩
 ·cases e
end
end LE

namespace L2
open PySem PySem.Spec PyProof.Rows
noncomputable def wo:List Addr->Heap->Heap
 | [],h=>h
 | a::l,h=>(wo l h).update a fun _=>{ cls:=.none,data:=.freed }
theorem Jfv(h:Heap)(a:Addr):(h.update a fun _=>{ cls:=.none,data:=.freed }).get? a=none:=by
 cases q:(h.update a fun _=>({ cls:=.none,data:=.freed }:Obj)).get? a with
 | none=>rfl
 | some o =>
  obtain⟨e,f⟩:=Heap.get?_some_iff.mp q;obtain⟨os,l⟩:=h;simp only[Heap.update,Array.getElem?_modify,if_true] at e
  cases z:os[a]? with
  | none=>rw[z] at e;cases e
  | some u=>rw[z] at e;cases e;cases f
theorem Jeq{h:Heap}{b:Addr}:∀{l:List Addr},b∈l->(wo l h).get? b=none
 | [],hb=>nomatch hb
 | a::l,hb=>by
  unfold wo
  by_cases e:a=b
  ·subst e;exact Jfv _ _
  ·rw[Heap.get?_update_other _ _ e];exact Jeq ((List.mem_cons.mp hb).resolve_left (Ne.symm e))
theorem Jbh{h:Heap}{b:Addr}:∀{l:List Addr},b∉l->(wo l h).get? b=h.get? b
 | [],_=>rfl
 | a::l,hb=>by unfold wo;rw[Heap.get?_update_other _ _ (fun e=>hb (by rw[e];exact List.mem_cons_self))];exact Jbh fun z=>hb (List.mem_cons_of_mem _ z)
theorem JdI{h base base':Heap}:∀{l:List Env},h.FunFrames base l->(∀b∈frs l,base'.get? b=none)->h.FunFrames base' l
 | [],_,_=>trivial
 | env::l,⟨hk,⟨L,o,hf,hn,ho,hd⟩,hr⟩,n=>by
  have e:frs (env::l)=L::frs l:=by unfold frs;rw[List.filterMap_cons,hf]
  rw[e] at n;exact⟨hk,⟨L,o,hf,n L List.mem_cons_self,ho,hd⟩,JdI hr fun b hb=>n b (List.mem_cons_of_mem _ hb)⟩
theorem JaK{h base:Heap}{l:List Env}(x:h.FunFrames base l){b:Addr}(hb:b∈frs l):base.get? b=none/\∃o,h.get? b=some o/\∀vs,o.data≠.fields vs:=x.mem hb
theorem ObjOk.there{P:Program}{w:World}{H:Hp}{h:Heap}{a:Addr}{o:HO}(x:ObjOk P w H h a o):∃u,h.get? a=some u:=by
 cases o with
 | lst xs=>obtain⟨_,_,_,_,e⟩:=x;exact⟨_,e⟩
 | tup xs=>obtain⟨_,_,_,p⟩:=x;obtain⟨o,e,_⟩:=p;exact⟨_,e⟩
 | dK kvs=>obtain⟨_,_,_,_,o,_,_,e,_⟩:=x;exact⟨_,e⟩
 | dT kvs=>obtain⟨_,_,_,_,o,_,_,e,_⟩:=x;exact⟨_,e⟩
 | set S n=>obtain⟨o,_,_,_,e,_⟩:=x;exact⟨_,e⟩
 | ins C dx fs=>obtain⟨_,_,_,e,_⟩:=x;exact⟨_,e⟩
 | own y=>obtain⟨_,e⟩:=x;exact⟨_,e⟩
 | xd fs=>obtain⟨_,⟨_,_,_,e,_⟩,_⟩:=x;exact⟨_,e⟩
 | rng lo hi=>obtain⟨_,_,_,e⟩:=x;exact⟨_,e⟩
 | frz ob u=>obtain⟨e,_⟩:=x;exact⟨_,e⟩
 | tbl ps=>exact⟨_,(show h.get? a=some _ from x)⟩
 | met f y=>exact⟨_,(show h.get? a=some _ from x)⟩
 | ext φ=>obtain⟨_,⟨_,e⟩,_⟩:=x;exact⟨_,e⟩

noncomputable def TrD(h base:Heap)(e:Addr)(cls:Value)(dct:Option Addr)(fl:Value):Prop :=
 ∃oe vs T oT ts,h.get? e=some oe/\(oe.cls=cls/\oe.dict=dct)/\oe.data=.fields vs/\vs[1]?=some (.ref T)/\base.get? T=none/\T≠e/\h.get? T=some oT/\oT.data=.fields ts/\ts[3]?=some fl
noncomputable def Fl(base:Heap)(l:List Env)(e:Addr)(cls:Value)(h:Heap):Prop :=
 base.StaysIn h/\base.get? e=none/\h.FunFrames base l/\(TrD h base e cls none .none\/∃oe vs,h.get? e=some oe/\(oe.cls=cls/\oe.dict=none)/\oe.data=.fields vs/\vs[1]?=some .none)
noncomputable def Cov(fs:List Addr)(H':Hp)(h h' base:Heap):Prop:=∀b o,(H' b≠none\/∃u,h.get? b=some u)->b∉fs->h'.get? b=some o->base.get? b=some o
structure XF (P:Program) (w:World) (l:List Env) (H:Hp) (h:Heap) (a:Addr) (cls:Value) (H':Hp) (base h':Heap):Prop where
 un:Un (frs l) [] H H' h h'
 hok:HOk P w H' h'
 fl:Fl base l a cls h'
 cov:Cov (frs l) H' h h' base
 free:H' a=none
 new:h.get? a=none
noncomputable def CX1(P:Program)(w:World):CXT:=fun l H s E e s'=>∃(a:Addr) (cls:Value) (H':Hp) (base:Heap),e=.ref a/\s'.os=s.os/\AllBare s'.gens/\XF P w l H s.heap a cls H' base s'.heap/\E cls (some a) H'
section
variable{P:Program}{w:World}{l:List Env}{H H':Hp}{h h1 h2 base base0:Heap}{a:Addr}{cls:Value}
theorem XF.on(x:XF P w l H h a cls H' base h1)(hf:h.FunFrames base0 l)(hn:∀b∈frs l,H b=none)(k:base.StaysIn h2)(us:h1.UpToSlots h2)(fl:Fl base l a cls h2):XF P w l H h a cls H' base h2:=by
 have ff:∀b∈frs l,∃o,h1.get? b=some o/\∀vs,o.data≠.fields vs:=fun b hb=>(JaK x.fl.2.2.1 hb).2
 have nfr:∀b u,H' b=some u->b∉frs l:=fun b u e hb=>by obtain⟨_,o,ho,_⟩:=JaK hf hb;rw[x.un.free b o ho (hn b hb) (by simp)] at e;cases e
 refine⟨⟨fun b o q n hb hx=>?_,fun b o q n hb hx=>?_,x.un.free,fun b o q hx=>?_,x.un.tups,x.un.frzs,x.un.tbls⟩,fun b u e=>?_,fl,fun b o hb hfr q=>?_,x.free,x.new⟩
 ·exact k b o (x.cov b o (.inr ⟨_,q⟩) hb (x.un.keep b o q n hb hx))
 ·obtain⟨sl,e1⟩:=x.un.slot b o q n hb hx;obtain⟨o',e2,nf⟩:=ff b hb;rw[e1] at e2;cases e2;obtain⟨sl',e3⟩:=us b _ e1 nf;exact⟨sl',e3⟩
 ·obtain⟨o',e1⟩:=x.un.there b o q hx
  by_cases hb:b∈frs l
  ·obtain⟨o2,e2,nf⟩:=ff b hb;obtain⟨sl',e3⟩:=us b _ e2 nf;exact⟨_,e3⟩
  ·exact⟨o',k b o' (x.cov b o' (.inr ⟨_,q⟩) hb e1)⟩
 ·refine(x.hok b u e).stay (fun c v hc q=>?_) (fun _ z=>z) fun _ _ z=>z
  have tr:∃u',H' c=some u':=by
   rcases hc with rfl|hc
   ·exact⟨_,e⟩
   ·exact⟨_,hc⟩
  obtain⟨u',e'⟩:=tr;exact k c v (x.cov c v (.inl (by rw[e'];intro z;cases z)) (nfr c u' e') q)
 ·have ex:∃o',h1.get? b=some o':=by
   rcases hb with hb|⟨u,hb⟩
   ·cases e:H' b with
    | none=>exact absurd e hb
    | some u=>exact(x.hok b u e).there
   ·exact x.un.there b u hb (by simp)
  obtain⟨o',e1⟩:=ex;have e2:=x.cov b o' hb hfr e1;have e3:=k b o' e2;rw[q] at e3;cases e3;exact e2
end
theorem JiE(o:Obj)(f:Array Value->Array Value):(o.mapFields f).dict=o.dict:=by obtain⟨c,d,dt,sl⟩:=o;cases dt <;> rfl
section
variable{M:Model}{A:Around}{E:Value->Shared->Prop}{s:Shared}{base:Heap}{env:Env}{outer l:List Env}{L e:Addr}{cls fl:Value}{dct:Option Addr}{Q:Unit->Shared->Prop}
theorem JfU{oe:Obj}{vs:Array Value}{head:Value}{had:Bool}(hfr:A.frames=some (env::outer))(hl:s.heap.FunFrames base (env::outer))(hf:env.frame=some L)
 (he:s.heap.get? e=some oe) (hkb:base.StaysIn s.heap) (hen:base.get? e=none) (hd:oe.data=.fields vs) (hsz:1<vs.size)
 (h:∀h',base.StaysIn h'->h'.FunFrames base (env::outer)->TrD h' base e oe.cls oe.dict (rawInt L)->s.heap.UpToSlots h'->Q () { s with heap:=h' }) :
 wpAny M A (do let a <- frameOf env;let pl <- entryPlaceOf L had;let b <- EntryCells.newEntry head a .none (rawInt L) .none pl;setField (.ref e) 1 b) Q E s:=by
 refine wpAny_bind (wpAny_frameOf_fun hfr hl hf fun h₁ hs₁=>wpAny_bind (wpAny_entryPlaceOf fun pl hpl=>?_));unfold EntryCells.newEntry newFields;refine wpAny_bind (wpAny_newObj_type ?_ (hpl.sizeOk5 _ _ _ _ _))
 have ne:e∉(env::outer).filterMap (·.frame):=fun hm=>by obtain⟨_,o,ho,nf⟩:=hl.mem hm;rw[he] at ho;cases ho;exact nf vs hd
 have e1:h₁.get? e=some oe:=(hs₁.2.1 e ne).trans he
 have b1:base.StaysIn h₁:=fun b o hb=>(hs₁.2.1 b fun hm=>by rw[(hl.mem hm).1] at hb;cases hb).trans (hkb b o hb)
 generalize hot:({ cls:=.type "traceback",dict:=none,data:=.fields ([head,.ref L,.none,rawInt L,.none]++(if pl.isEmpty then List.replicate 6 Value.none else pl)).toArray }:Obj)=ot
 have hotd:ot.data=.fields ([head,.ref L,.none,rawInt L,.none]++(if pl.isEmpty then List.replicate 6 Value.none else pl)).toArray:=by rw[<- hot]
 have hotf:ot.isFreed=false:=by rw[<- hot];rfl
 have e2:=Heap.get?_push_of_some (h:=h₁) ot e1;refine wpAny_setField e2 hd hsz ?_
 have d3:=Obj.data_mapFields hd (·.setIfInBounds 1 (Value.ref h₁.objs.size))
 have e3:=Heap.get?_update_self (Obj.mapFields (·.setIfInBounds 1 (Value.ref h₁.objs.size))) e2 (Obj.isFreed_of_fields d3)
 have tne:h₁.objs.size≠e:=Nat.ne_of_gt (Heap.lt_size e1)
 have t3:=(Heap.get?_update_other (h₁.push ot) (Obj.mapFields (·.setIfInBounds 1 (Value.ref h₁.objs.size))) (Ne.symm tne)).trans (Heap.get?_push_size h₁ hotf)
 have keep:∀b o,b≠e->h₁.get? b=some o->((h₁.push ot).update e (Obj.mapFields (·.setIfInBounds 1 (Value.ref h₁.objs.size)))).get? b=some o:=fun b o hb q=>by rw[Heap.get?_update_other _ _ (Ne.symm hb)];exact Heap.get?_push_of_some _ q
 have nrec:∀b o,s.heap.get? b=some o->(∀ws,o.data≠.fields ws)->b≠e:=fun b o hb nf z=>by rw[z,he] at hb;cases hb;exact nf vs hd
 refine h _ (fun b o hb=>keep b o (fun z=>by rw[z,hen] at hb;cases hb) (b1 b o hb)) (hl.of_keeps fun b o hb nf=>?_) ⟨_,_,h₁.objs.size,_,_,e3,⟨Obj.cls_mapFields _ _,JiE _ _⟩,d3,by simp[hsz],b1.fresh,tne,t3,hotd,by first|(simp;done)|(rcases hpl with rfl|⟨_,_,_,_,_,_,_,rfl⟩ <;> simp)⟩ fun b o hb nf=>?_
 ·obtain⟨sl,hs⟩:=hs₁.2.2 b o hb;exact⟨_,keep b _ (nrec b o hb nf) hs,rfl⟩
 ·obtain⟨sl,hs⟩:=hs₁.2.2 b o hb;exact⟨sl,keep b _ (nrec b o hb nf) hs⟩
theorem JaL(hkb:base.StaysIn s.heap)(hl:s.heap.FunFrames base l)(ht:TrD s.heap base e cls dct fl)
 (h:∀h',base.StaysIn h'->h'.FunFrames base l->TrD h' base e cls dct .none->s.heap.UpToSlots h'->Q () { s with heap:=h' }):wpAny M A (setFlight (.ref e) none) Q E s:=by
 obtain⟨oe,vs,T,oT,ts,he,hc,hd,h1,nT,hTe,hT,dT,h3⟩:=ht;have sz:3<ts.size:=(Array.getElem?_eq_some_iff.mp h3).1;unfold setFlight;refine wpAny_bind (wpAny_field he hd h1 ?_);rw[if_pos (show(Value.ref T != Value.none)=true from by simp)];have other:∀b,b≠T->(s.heap.update T (Obj.mapFields (·.setIfInBounds 3 ((none:Option Addr).elim Value.none fun f=>rawInt f)))).get? b=s.heap.get? b:=fun b hb=>Heap.get?_update_other _ _ (Ne.symm hb)
 have nrec:∀b o,s.heap.get? b=some o->(∀ws,o.data≠.fields ws)->b≠T:=fun b o hb nf z=>by rw[z,hT] at hb;cases hb;exact nf ts dT
 refine wpAny_setField hT dT sz (h _ (fun b o hb=>(other b fun z=>by rw[z,nT] at hb;cases hb).trans (hkb b o hb)) (hl.of_keeps fun b o hb nf=>⟨o,(other b (nrec b o hb nf)).trans hb,rfl⟩) ?_ fun b o hb nf=>⟨o.slots,(other b (nrec b o hb nf)).trans hb⟩);exact⟨oe,vs,T,_,_,(other e (Ne.symm hTe)).trans he,hc,hd,h1,nT,hTe,Heap.get?_update_self _ hT (Obj.isFreed_of_fields (Obj.data_mapFields dT _)),Obj.data_mapFields dT _,by simp[sz]⟩
theorem JdJ(hfr:A.frames=some (env::outer))(hf:env.frame=some L)(x:Fl base (env::outer) e cls s.heap)
 (hQ:∀h',base.StaysIn h'->h'.FunFrames base (env::outer)->TrD h' base e cls none (rawInt L)->s.heap.UpToSlots h'->Q () { s with heap:=h' }):wpAny M A (noteFrame (.ref e) env) Q E s:=by
 obtain⟨k1,k2,k3,tr|⟨oe,vs,he,hc,hd,h1⟩⟩:=x
 ·obtain⟨oe,vs,T,oT,ts,he,hc,hd,h1,nT,hTe,hT,dT,h3⟩:=tr;unfold noteFrame;simp only[hf];refine wpAny_bind (wpAny_field he hd h1 ?_);rw[if_pos (show(Value.ref T != Value.none)=true from by simp)];refine wpAny_bind (wpAny_field hT dT h3 ?_);rw[if_neg (show ¬((Value.none == rawInt L)=true) from by simp[rawInt])];refine wpAny_bind (wpAny_setField hT dT (Array.getElem?_eq_some_iff.mp h3).1 ?_);have other:∀b,b≠T->(s.heap.update T (Obj.mapFields (·.setIfInBounds 3 Value.none))).get? b=s.heap.get? b:=fun b hb=>Heap.get?_update_other _ _ (Ne.symm hb)
  have nrec:∀b o,s.heap.get? b=some o->(∀ws,o.data≠.fields ws)->b≠T:=fun b o hb nf z=>by rw[z,hT] at hb;cases hb;exact nf ts dT
  refine JfU hfr (k3.of_keeps fun b o hb nf=>⟨o,(other b (nrec b o hb nf)).trans hb,rfl⟩) hf ((other e (Ne.symm hTe)).trans he)
   (fun b o hb=>(other b fun z=>by rw[z,nT] at hb;cases hb).trans (k1 b o hb)) k2 hd (Array.getElem?_eq_some_iff.mp h1).1 fun h' x1 x2 x3 x4=>?_
  rw[hc.1,hc.2] at x3;exact hQ h' x1 x2 x3 fun b o hb nf=>x4 b o ((other b (nrec b o hb nf)).trans hb) nf
 ·unfold noteFrame;simp only[hf];refine wpAny_bind (wpAny_field he hd h1 ?_);rw[if_neg (by decide)];refine JfU hfr k3 hf he k1 k2 hd (Array.getElem?_eq_some_iff.mp h1).1 fun h' x1 x2 x3 x4=>?_
  rw[hc.1,hc.2] at x3;exact hQ h' x1 x2 x3 x4
theorem Jf5(hfr:A.frames=some (env::outer))(hf:env.frame=some L)(x:Fl base (env::outer) e cls s.heap)
 (hQ:∀h',Fl base (env::outer) e cls h'->Fl base outer e cls h'->s.heap.UpToSlots h'->Q () { s with heap:=h' }):wpAny M A (leaving env (.ref e)) Q E s:=by
 have k2:=x.2.1;unfold leaving;refine wpAny_bind (JdJ hfr hf x fun h1 x1 x2 x3 x4=>?_);refine JaL (s:={ s with heap:=h1 }) x1 x2 x3 fun h2 y1 y2 y3 y4=>?_
 exact hQ h2 ⟨y1,k2,y2,.inl y3⟩ ⟨y1,k2,y2.2.2,.inl y3⟩ (x4.trans y4)
end

noncomputable def XP(X:Cx)(pins:List (Addr×Obj))(σ:St)(E:XK)(e:Value)(s':Shared):Prop:=∃H s,Inv X pins σ H s/\CX1 X.prog X.w X.stack H s E e s'
section
variable{X:Cx}{pins:List (Addr×Obj)}{σ:St}{H H':Hp}{s s':Shared}{base:Heap}{a:Addr}{cls:Value}{E:XK}{e:Value}
theorem Inv.fly(I:Inv X pins σ H s)(ho:s'.os=s.os)(hg:AllBare s'.gens)(x:XF X.prog X.w X.stack H s.heap a cls H' base s'.heap):Inv X pins σ H' s':=I.call' ho x.un x.hok hg fun b hb=>nomatch hb
theorem XP.made{args:List Value}{h':Heap}{ea:Addr}(I:Inv X pins σ H s)(m:Heap.MadeExcOf s.heap h' ea cls args)(q:E cls (some ea) H):XP X pins σ E (.ref ea) { s with heap:=h' }:=by
 have nf:∀b∈frs X.stack,∃o,s.heap.get? b=some o:=fun b hb=>by obtain⟨_,o,ho,_⟩:=JaK I.stack hb;exact⟨o,ho⟩
 obtain⟨t,ht,_,_⟩:=m.there;refine⟨H,s,I,ea,cls,H,wo (frs X.stack) s.heap,rfl,rfl,I.bare,⟨⟨fun b o q _ _ _=>m.keeps b o q,fun b o q _ _ _=>⟨o.slots,m.keeps b o q⟩,fun _ _ _ n _=>n,fun b o q _=>⟨o,m.keeps b o q⟩,fun _ _ z=>z,fun _ _ _ z=>z,fun b ps z=>⟨#[],by rw[z];simp⟩⟩,I.hok.kept m.keeps,⟨fun b o q=>?_,?_,?_,.inr ⟨_,_,ht,⟨rfl,rfl⟩,rfl,rfl⟩⟩,fun b o hb hfr q=>?_,?_,m.new⟩,q⟩
 ·by_cases hb:b∈frs X.stack
  ·rw[Jeq hb] at q;cases q
  ·rw[Jbh hb] at q;exact m.keeps b o q
 ·by_cases hb:ea∈frs X.stack
  ·exact Jeq hb
  ·rw[Jbh hb];exact m.new
 ·exact(JdI I.stack fun b hb=>Jeq hb).of_keeps fun b o q _=>⟨o,m.keeps b o q,rfl⟩
 ·rw[Jbh hfr]
  have ex:∃u,s.heap.get? b=some u:=by
   rcases hb with hb|hb
   ·cases e:H b with
    | none=>exact absurd e hb
    | some u=>exact(I.hok b u e).there
   ·exact hb
  obtain⟨u,hu⟩:=ex;have:=m.keeps b u hu;have q':h'.get? b=some o:=q;rw[q'] at this;cases this;exact hu
 ·cases e:H ea with
  | none=>rfl
  | some u=>obtain⟨o,ho⟩:=(I.hok ea u e).there;rw[m.new] at ho;cases ho
theorem XP.leave{M:Model}{E':Value->Shared->Prop}{A:Around}(hA:A.frames=some X.stack)(hs:X.stack=X.env::X.outer)(hf:X.env.frame=some X.env.locals)(hx:X.ex=[])(x:XP X pins σ E e s') :
 wpAny M A (leaving X.env e) (fun _ s''=>CX1 X.prog X.w X.outer X.H₀ X.s₀ E e s'') E' s':=by
 obtain⟨H,s,I,a,cls,H',base,rfl,ho,hg,xf,q⟩:=x;have fl:=xf.fl;rw[hs] at fl hA;refine Jf5 hA hf fl fun h' f1 f2 us=>?_
 have y:=xf.on I.stack I.stkFree f1.1 us (by rw[hs];exact f1)
 have J:Inv X pins σ H' { s' with heap:=h' }:=I.fly ho hg y
 have hfs:frs X.stack=X.env.locals::frs X.outer:=by rw[hs];unfold frs;rw[List.filterMap_cons,hf]
 have nl:∀b o,X.s₀.heap.get? b=some o->b≠X.env.locals:=fun b o q z=>by have h1:=Heap.lt_size q;rw[z] at h1;exact absurd h1 (Nat.not_lt.mpr I.ok.above)
 refine⟨a,cls,H',base,rfl,J.os,hg,⟨?_,J.hok,f2,fun b o hb hfr q=>?_,y.free,?_⟩,q⟩
 ·have:=J.base;rw[hx] at this;exact this
 ·refine y.cov b o ?_ ?_ q
  ·rcases hb with hb|⟨u,hb⟩
   ·exact .inl hb
   ·exact .inr (I.base.there b u hb (by rw[hx];simp))
  ·rw[hfs];intro z;rcases List.mem_cons.mp z with z|z
   ·rcases hb with hb|⟨u,hb⟩
    ·rw[z] at hb;exact hb J.free
    ·exact nl b u hb z
   ·exact hfr z
 ·cases z:X.s₀.heap.get? a with
  | none=>rfl
  | some u=>obtain⟨o,e⟩:=I.base.there a u z (by rw[hx];simp);rw[y.new] at e;cases e
end
end L2

namespace L2
open PySem PySem.Spec PyProof.Rows PySem.Calls
abbrev VEm:List Value:=[.type "ValueError",.type "Exception",.type "BaseException",.type "object"]
section
variable{P:Program}{w:World}{K:Frag}{mg:Str->Option Value}{base:Heap}{N:List Str}{qual:Str}{scope:Scope}{f:Addr}{cd:Value}{A:Around}{outer:List Env}{s:Shared}{H:Hp}{E:XK}
noncomputable def XOk(X:Cx)(E:XK):Prop:=∀(pins:List (Addr×Obj)) (σ:St) (e:Value) (s':Shared),XP X pins σ E e s'->X.xe e s'
theorem Jmx:XOk (WX (CX1 P w) P w K mg base N qual scope f cd A outer s H E) E:=fun pins σ e s' x=>by
 have hA:(A.deeper (envOfC qual scope s.heap.objs.size f cd)).frames=some (WX (CX1 P w) P w K mg base N qual scope f cd A outer s H E).stack:=by obtain⟨H1,s1,I,_⟩:=x;exact I.ok.frames
 exact XP.leave hA rfl rfl rfl x
theorem Fun.okX{x qual:Str}{st:Stmt}{f:Addr}{fd:FuncData}{N ps:List Str}{k:Nat}{sp:Sp}(F:Fun K x qual st f fd)(S:FnScope N ps (Jg st))(len:∀vs H Q E,sp vs H Q E->vs.length=ps.length)
 (hbody:∀(cdv:Value) (A:Around) (outer:List Env) (s:Shared) (H:Hp) (vs:List V) (Q:VK) (E:XK),Room k (A.deeper (envOfC qual (Jg st) s.heap.objs.size f cdv))->sp vs H Q E ->
  ∃t,PSs (WX (CX1 P w) P w K mg base N qual (Jg st) f cdv A outer s H E) (JE st) t/\t { nx:=fun _ H'=>Q .non H',rt:=Q } (YB N vs) H):FnOk P w K mg base (CX1 P w) (k+1) f fd ps sp:=by
 obtain⟨oc,od,kV,doc,pm,an,cdv,ct,osl,rfl,lk,hcd⟩:=F.ex;exact JjR lk hcd S len fun A outer s H vs Q E hr hsp=>hbody cdv A outer s H vs Q E hr hsp
end
noncomputable def Jdc(C:Addr)(E:XK)(t:TA):TS:=fun D σ H=>t σ H fun vs H1=>vs.length<=sizeLine/\∀a,E (.ref C) (some a) H1
section
variable{X:Cx}{x:Str}{np cpos pos:Pos}{C:Addr}{E:XK}{e:Expr}{es:List Expr}{t:TA}
theorem Jh4{K:Frag}{h:Heap}{bmB:List Value}{newId:String}(X:K.In h)(q:excIn K C bmB newId=true):∃bm N nm q bs hdct sn sub ab col dd k0 k1 k2 k3 k5 mN,h.get? C=some (excClassObj nm q C N bs bm hdct sn sub ab col dd k0 k1 k2 k3 k5 newId)/\h.Ns N mN/\mN "__init__"=none/\OwnTail h bmB bm:=by
 unfold excIn at q;split at q
 ·rename_i dd cd sl ho;split at q
  ·rename_i C' bm k0 k1 k2 k3 n k5 hm hs;simp only[Bool.and_eq_true,beq_iff_eq,Bool.not_eq_true'] at q;obtain⟨⟨⟨⟨⟨rfl,rfl⟩,hdel⟩,ht⟩,hok⟩,hni⟩:=q;obtain⟨nm,bs,mro,ns,qn,hd,sn,sub,ab,col,del⟩:=cd;dsimp only at hm hdel hok hni;subst hm hdel
   have hsl:sl=#[k0,k1,k2,k3,some (.builtin n),k5]:=by obtain⟨l⟩:=sl;simp only at hs;rw[hs]
   subst hsl;exact⟨bm,ns,nm,qn,bs,hd,sn,sub,ab,col,dd,k0,k1,k2,k3,k5,_,X _ _ ho,.of_isNs (PySem.W.isNs_of_in X hok),PySem.W.nsMap_none_of_in X hok hni,PySem.W.tail_of_in X ht⟩
  ·cases q
 ·cases q
theorem JgP(ok:excIn X.K C VEm "ValueError.__new__"=true)(hg:Gl X x)(hm:X.mg x=some (.ref C))(hc:X.calm=true)(hx:XOk X E)(ha:PA X (e::es) t)(hdb:(x == ("__debug__":Str))=false:=by decide)
 (he:starEach (e::es) X.env=(false,eval e X.env)::starEach es X.env:=by rfl) (hpl:(backTo cpos (starEach es X.env)).any (·.1)=false:=by rfl) :
 PS X (.Raise (some (.Call (.Name x np) (e::es) [] cpos)) none pos) (Jdc C E t):=by
 intro pins s σ H D I h;obtain⟨tl,N,nm,q,bs,hdct,sn,sub,ab,col,dd,k0,k1,k2,k3,k5,mN,hC,hN,hni,T⟩:=Jh4 (h:=X.base) I.ok.mod.kin ok;refine wpAny_Raise_call_subU (C:=C) (nm:=nm) (q:=q) (N:=N) (bs:=bs) (bm:=tl) (hdct:=hdct) (sn:=sn) (sub:=sub) (ab:=ab) (col:=col) (dd:=dd) (k0:=k0) (k1:=k1) (k2:=k2) (k3:=k3) (k5:=k5)
  PySem.F.excBase_ValueError (by decide) PySem.F.excBase_ValueError (mN:=mN) (T.hasType PySem.F.excBase_ValueError.hasBase) (I.ok.hd hc) (by rw[he];show(false || (backTo cpos (starEach es X.env)).any (·.1))=false;rw[hpl];rfl) hni (UW I hg hm ⟨rfl,?_⟩ hdb)
 have h1:=ha cpos pins s σ H _ I h;rw[he] at h1 ⊢;refine Calls.evalArgs_plain (wpAny_mono h1 (fun us s₂ ⟨vs,H1,I1,r,hl,q⟩=>⟨rfl,by rw[<- r.length];exact hl,I1.bk _ _ hC,hN.keeps I1.bk,T.keeps I1.bk,fun h' a m=>hx pins σ _ _ (XP.made I1 m (q a))⟩) fun _ _ y=>y)
end
end L2

namespace L2
open PySem PySem.Spec PyProof.Rows PySem.Calls
noncomputable def XS(X:Cx)(pins:List (Addr×Obj))(E:St->XK)(e:Value)(s':Shared):Prop:=∃σ',XP X pins σ' (E σ') e s'
noncomputable def PX(X:Cx)(e:Expr)(T:XK->TE):Prop :=
 ∀(pins:List (Addr×Obj)) (s:Shared) (σ:St) (H:Hp) (Q:VK) (E:XK),Inv X pins σ H s->T E σ H Q->wpAny (model X.prog X.w) X.A (eval e X.env) (EP X pins σ Q) (XP X pins σ E) s
noncomputable def PCS(X:Cx)(st:Stmt)(T:(St->XK)->TS):Prop :=
 ∀(pins:List (Addr×Obj)) (s:Shared) (σ:St) (H:Hp) (D:Ends) (E:St->XK),Inv X pins σ H s->T E D σ H->wpAny (model X.prog X.w) X.A (exec st X.env) (SP X pins D) (XS X pins E) s
noncomputable def Jkf(X:Cx)(st:List Stmt)(T:(St->XK)->TS):Prop :=
 ∀(pins:List (Addr×Obj)) (s:Shared) (σ:St) (H:Hp) (D:Ends) (E:St->XK),Inv X pins σ H s->T E D σ H->wpAny (model X.prog X.w) X.A (execs st X.env) (SP X pins D) (XS X pins E) s
structure CalX (P:Program) (w:World) (K:Frag) (mg:Str->Option Value) (base:Heap) (x:Str) (k:Nat) (ps:List Str) (sp:Sp):Prop where
 ex:∃(f:Addr) (fd:FuncData),FnOk P w K mg base (CX1 P w) k f fd ps sp/\mg x=some (.ref f)/\keepIn K (.ref f)=true/\Binds K fd ps []
noncomputable def Jhq(T:XK->TE)(g:TG):(St->XK)->TS:=fun E D σ H=>T (E σ) σ H fun x H1=>g x σ H1 D.nx
section
variable{X:Cx}{k:Nat}{C:Addr}{ps:List Str}{sp:Sp}{x:Str}{p pos:Pos}{e:Expr}{es:List Expr}{t:TA}{st:Stmt}{rest:List Stmt}{T:XK->TE}{TS1:(St->XK)->TS}{u:TS}
theorem JiY(c:CalX X.prog X.w X.K X.mg X.base x k ps sp)(hr:Room k X.A)(hg:Gl X x)(ha:PA X.nox (e::es) t)(hdb:(x == ("__debug__":Str))=false:=by decide)
 (he:starEach (e::es) X.env=(false,eval e X.env)::starEach es X.env:=by rfl) (hpl:(backTo pos (starEach es X.env)).any (·.1)=false:=by rfl):PX X (.Call (.Name x p) (e::es) [] pos) (fun E=>Wz sp [] E t):=by
 obtain⟨f,fd,F,h1,h2,h3⟩:=c.ex;intro pins s σ H Q E I h;refine wpAny_Call_Name_kw (UW I hg h1 ?_ hdb);refine callWith_K (h₀:=X.base) I.ok.mod.kin h2 (wpAny_mono (ha pos pins s σ H _ (I.wish _) h) (fun us s1 ⟨vs,H1,I1,r,q⟩=>⟨I1.unwish.kIn,?_⟩) fun _ _ z=>False.elim z) he hpl;have I1:=I1.unwish;have r2:Vals (vs++[]) (us++[]):=r.append .nil;have hl:(us++[]).length=ps.length:=by rw[<- r2.length];exact F.len _ _ _ _ q
 refine wpAny_call (codeAny_mono (F.run X.A X.stack s1 H1 ⟨us,[]⟩ (us++[]) (vs++[]) Q E hr I1.env0 (h3 s1 us I1.kIn hl) r2 q) fun r s' hq=>?_)
 cases r with
 | error e=>exact⟨H1,s1,I1,hq⟩
 | ok fl =>
  cases fl with
  | ret u=>exact I1.after hq
  | next=>exact False.elim hq
  | brk=>exact False.elim hq
  | cont=>exact False.elim hq
theorem JgE(h:PCS X st TS1):Jkf X [st] TS1:=by
 intro pins s σ H D E I q;refine wpAny_execs_cons (thn (h pins s σ H D E I q) fun f s1 q=>?_)
 cases f with
 | next=>exact wpAny_execs_nil q
 | ret v=>exact q
 | brk=>exact q
 | cont=>exact q
theorem JiK{i:Nat}{x:Str}{pos':Pos}(hN:X.N.Nodup)(hi:X.N[i]?=some x)(hx:Loc X.env.scope x)(he:PX X e T)(hs:swapsWith e (some (.Name x pos')) pos.line X.env=pure false:=by rfl)(hf:X.fn x=true\/X.env.scope.names.lookup x=some .local:=by first|exact .inl rfl|exact .inr rfl|assumption) :
 PCS X (.Assign [.Name x pos'] e pos) (Jhq T (U4 i)):=by
 intro pins s σ H D E I h;refine wpAny_Assign_Name (wpAny_mono (he pins s σ H _ _ I h) (fun v s1 ⟨y,H1,I1,r1,q1⟩=>?_) fun _ _ z=>⟨σ,z⟩) hs;exact Vc I1 hN hi hx r1 (fun s2 I2=>⟨_,H1,I2,q1⟩) hf
end
end L2
namespace L2
open PySem PySem.Spec PyProof.Rows PySem.Calls LE
noncomputable abbrev Cx.hand(X:Cx)(a:Addr):Cx:={ X with A:=X.A.mark (some (.ref a)),calm:=false,xe:=fun _ _=>False }
noncomputable def Jmo(K:Frag)(CL:Addr)(i:Nat)(T:(St->XK)->TS)(th:TS):TS:=fun D σ H=>T (fun σ' c oa H'=>∃a,oa=some a/\exmOne K c (.ref CL)=some true ∧
 (H' a=none->th { nx:=fun σ2 H2=>D.nx (σ2.set i none) H2,rt:=D.rt,bk:=fun σ2 H2=>D.bk (σ2.set i none) H2,ct:=fun σ2 H2=>D.ct (σ2.set i none) H2 } (σ'.set i (some (.ref a))) (upd H' a (XO a c)))) D σ H
section
variable{X:Cx}{pins:List (Addr×Obj)}{σ:St}{H:Hp}{s:Shared}{a:Addr}
theorem Inv.hand(I:Inv X pins σ H s)(a:Addr):Inv (X.hand a) pins σ H s :=
 ⟨⟨I.ok.mod,I.ok.kind,I.ok.glob,I.ok.blt,I.ok.above,I.ok.inj,I.ok.has,I.ok.cab,(fun h=>nomatch h),I.ok.frames,I.ok.stk,I.ok.exf,I.ok.bs,I.ok.bsz,I.ok.noex,I.ok.exfs,I.ok.funs,I.ok.frf⟩,I.os,I.bare,I.base,I.loc,I.cell,I.free,I.freeC,I.pin,I.hok,I.len⟩
theorem Inv.unhand(hd:X.calm=true->X.A.handled=none)(I:Inv (X.hand a) pins σ H s):Inv X pins σ H s :=
 ⟨⟨I.ok.mod,I.ok.kind,I.ok.glob,I.ok.blt,I.ok.above,I.ok.inj,I.ok.has,I.ok.cab,hd,I.ok.frames,I.ok.stk,I.ok.exf,I.ok.bs,I.ok.bsz,I.ok.noex,I.ok.exfs,I.ok.funs,I.ok.frf⟩,I.os,I.bare,I.base,I.loc,I.cell,I.free,I.freeC,I.pin,I.hok,I.len⟩
theorem Inv.goes{i:Nat}{n:Str}{m:Str->Option Value}{v:Option Value}{h':Heap}{t':Nat}(I:Inv X pins σ H s)(hi:X.N[i]?=some n)(hn:s.heap.Ns X.env.locals m)
 (hl:∀(i:Nat) (x:Str) (v:V),X.N[i]?=some x->σ[i]?=some (some v)->Vis X.env.scope x->∃u,RelV v u/\JmE X.env s.heap m x u) (hN:X.N.Nodup) (hn':h'.Ns X.env.locals (fun x=>if x=n then v else m x)) (hs:Heap.SameBut X.env.locals s.heap h'):Inv X pins (σ.set i none) H { s with heap:=h',toks:=t' }:=by
 obtain⟨oL,_,_,hoL,_⟩:=id hn;have cne:=I.cne;have hiσ:i<σ.length:=by rw[I.len];exact(List.getElem?_eq_some_iff.mp hi).1
 refine⟨I.ok,I.os,I.bare,⟨fun b o e n hb hx=>?_,fun b o e n hb hx=>?_,I.base.free,fun b o e hx=>?_,I.base.tups,I.base.frzs,I.base.tbls⟩,⟨_,hn',fun j y v' e1 e2 e3=>?_⟩,fun y c e=>?_,I.free,I.freeC,fun p hp=>?_,fun b ob e=>?_,by simpa using I.len⟩
 ·exact(hs.2 b (Nat.ne_of_lt (Nat.lt_of_lt_of_le (Heap.lt_size e) I.ok.above))).trans (I.base.keep b o e n hb hx)
 ·obtain⟨sl,e1⟩:=I.base.slot b o e n hb hx;exact⟨sl,(hs.2 b (Nat.ne_of_lt (Nat.lt_of_lt_of_le (Heap.lt_size e) I.ok.above))).trans e1⟩
 ·obtain⟨o',e1⟩:=I.base.there b o e hx;exact⟨o',(hs.2 b (Nat.ne_of_lt (Nat.lt_of_lt_of_le (Heap.lt_size e) I.ok.above))).trans e1⟩
 ·by_cases hj:j=i
  ·subst hj;rw[List.getElem?_set_self hiσ] at e2;cases e2
  ·rw[List.getElem?_set_ne (Ne.symm hj)] at e2;obtain⟨u',r',q⟩:=hl j y v' e1 e2 e3;refine⟨u',r',?_⟩
   have hyn:y≠n:=fun z=>hj (by
    rw[z] at e1;have h1:=(List.getElem?_eq_some_iff.mp e1)
    have h2:=(List.getElem?_eq_some_iff.mp hi)
    exact(List.getElem_inj hN).mp (h1.2.trans h2.2.symm))
   rcases q with ⟨k1,k2⟩|⟨k1,c,k2,k3⟩
   ·exact .inl ⟨k1,by show(if y=n then v else m y)=some u';rw[if_neg hyn];exact k2⟩
   ·refine .inr ⟨k1,c,k2,?_⟩;obtain⟨oc,e4,e5⟩:=k3;exact⟨oc,(hs.2 c (cne y c k2)).trans e4,e5⟩
 ·obtain⟨v,oc,e4,e5⟩:=I.cell y c e;exact⟨v,oc,(hs.2 c (cne y c e)).trans e4,e5⟩
 ·obtain⟨h1,h2,h3,h4⟩:=I.pin p hp;exact⟨(hs.2 p.1 h3).trans h1,h2,h3,h4⟩
 ·refine(I.hok b ob e).stay (fun c w' hc q=>(hs.2 c ?_).trans q) (fun _ q=>q) fun _ _ q=>q
  rintro rfl;rcases hc with rfl|hc
  ·rw[I.free] at e;cases e
  ·rw[I.free] at hc;cases hc
theorem Inv.track{o:HO}(I:Inv X pins σ H s)(hx:X.ex=[])(ha:H a=none)(h0:X.s₀.heap.get? a=none)(hL:a≠X.env.locals)(hC:∀x c,X.env.cells.lookup x=some c->c≠a)(hP:∀p∈X.pn++pins,p.1≠a)(new:ObjOk X.prog X.w (upd H a o) s.heap a o):Inv X pins σ (upd H a o) s:=by
 have nt:∀b u,H b=some u->b≠a:=fun b u e z=>by rw[z,ha] at e;cases e
 refine⟨I.ok,I.os,I.bare,⟨I.base.keep,I.base.slot,fun b u e n hb=>?_,I.base.there,fun b xs e=>?_,fun b u xs e=>?_,fun b ps e=>?_⟩,I.loc,I.cell,?_,fun x c e=>?_,fun p hp=>?_,fun b u e=>?_,I.len⟩
 ·rw[Ji (fun z=>by rw[z,h0] at e;cases e)];exact I.base.free b u e n hb
 ·have:=I.base.tups b xs e;rw[Ji (nt _ _ this)];exact this
 ·have:=I.base.frzs b u xs e;rw[Ji (nt _ _ this)];exact this
 ·obtain⟨m,this⟩:=I.base.tbls b ps e;exact⟨m,by rw[Ji (nt _ _ this)];exact this⟩
 ·rw[Ji (Ne.symm hL)];exact I.free
 ·rw[Ji (hC x c e)];exact I.freeC x c e
 ·obtain⟨h1,h2,h3⟩:=I.pin p hp;exact⟨h1,by rw[Ji (hP p hp)];exact h2,h3⟩
 ·by_cases hb:b=a
  ·subst hb;rw[Jw] at e;cases e;exact new
  ·rw[Ji hb] at e;exact(I.hok b u e).stay (fun _ _ _ q=>q) (fun c q=>by rw[Ji (nt _ _ q)];exact q) fun c xs q=>by rw[Ji (nt _ _ q)];exact q
end
section
variable{X:Cx}{body suite:List Stmt}{b₀:Stmt}{i:Nat}{n cn:Str}{np hpos pos:Pos}{CL:Addr}{T:(St->XK)->TS}{th:TS}
theorem JlE(hs:X.stack=X.env::X.outer)(hf:X.env.frame=some X.env.locals)(hx:X.ex=[])(hN:X.N.Nodup)(hi:X.N[i]?=some n)(hk:X.env.kindOf n=some .local)(hg:Gl X cn)(hm:X.mg cn=some (.ref CL))
 (hb:Jkf X body T) (hh:∀a,PSs (X.hand a) (b₀::suite) th) (hdb:(cn == ("__debug__":Str))=false:=by decide) :
 PS X (.Try body [.ExceptHandler (some (.Name cn np)) (some n) (b₀::suite) hpos] [] [] pos) (Jmo X.K CL i T th):=by
 intro pins s σ H D I h;refine wpAny_Try_except (wpAny_mono (hb pins s σ H D _ I h) (fun f s1 q=>?_) fun e s1 ⟨σ',Hc,sc,Ic,a,cls,H',base,he,ho,hgn,xf,hE⟩=>?_)
 ·cases f with
  | next=>exact wpAny_execs_nil q
  | ret v=>exact q
  | brk=>exact q
  | cont=>exact q
 ·subst he;obtain⟨a',ea,hxm,hth⟩:=hE;cases ea;have fl:=xf.fl;rw[hs] at fl;have hfr:X.A.frames=some (X.env::X.outer):=by rw[<- hs];exact Ic.ok.frames
  refine JdJ hfr hf fl fun h1 x1 x2 x3 x4=>?_
  refine JaL (s:={ s1 with heap:=h1 }) x1 x2 x3 fun h2 y1 y2 y3 y4=>?_
  have J:Inv X pins σ' H' { s1 with heap:=h2 }:=Ic.fly ho hgn (xf.on Ic.stack Ic.stkFree y1 (x4.trans y4) (by rw[hs];exact⟨y1,fl.2.1,y2,.inl y3⟩))
  have LT:PySem.W.Looks (model X.prog X.w) h2 (typeOf (.ref a)) cls:=by obtain⟨oe,_,_,_,_,he,⟨hc,_⟩,_⟩:=y3;exact hc▸(PySem.W.Looks.ld he).andThen .now
  refine wpAny_handleBy_cons (codeAny_handlers_test (UW (X:=X.hand a) (J.hand a) hg hm ?_ hdb)) (by intro q;cases q);refine PySem.W.exm_one J.kIn LT hxm _ _ _ _ (fun _ _ q=>q) ?_;rw[if_pos rfl];refine codeAny_handlers_suite_as ?_;refine JaL (s:={ s1 with heap:=h2 }) y1 y2 y3 fun h3 z1 z2 z3 z4=>?_
  have Y3:=xf.on Ic.stack Ic.stkFree z1 ((x4.trans y4).trans z4) (by rw[hs];exact⟨z1,fl.2.1,z2,.inl z3⟩)
  have J3:Inv X pins σ' H' { s1 with heap:=h3 }:=Ic.fly ho hgn Y3;obtain⟨oe,vs,_,_,_,he,⟨hc,hdn⟩,hd,_⟩:=z3
  have ncl:notCls oe=true:=by unfold notCls;rw[hd]
  have was:∀b o,sc.heap.get? b=some o->b≠a:=fun b o q z=>by rw[z,xf.new] at q;cases q
  have J4:Inv X pins σ' (upd H' a (XO a cls)) { s1 with heap:=h3 }:=by
   refine J3.track hx xf.free ?_ ?_ (fun x c e=>?_) (fun p hp=>?_) ⟨⟨oe,he,hc,ncl,hdn⟩,⟨oe,he⟩,fun g1 g2 ⟨o,q,r⟩ k=>⟨o,k o q,r⟩⟩
   ·cases z:X.s₀.heap.get? a with
    | none=>rfl
    | some u=>obtain⟨o,e⟩:=Ic.base.there a u z (by rw[hx];simp);exact absurd rfl (was a o e)
   ·obtain⟨m,⟨o,_,_,e,_⟩,_⟩:=Ic.loc;exact Ne.symm (was _ o e)
   ·obtain⟨v,o,e,_⟩:=Ic.cell x c e;exact was c o e
   ·exact was _ _ (Ic.pin p hp).1
  refine Vc (X:=X.hand a) (J4.hand a) hN hi (.inl hk) (show RelV (.ref a) (.ref a) from rfl) (fun s4 I4=>?_) (.inr hk);refine wpAny_mono (hh a pins s4 _ _ _ I4 (hth xf.free)) (fun f s5 q=>?_) fun _ _ z=>False.elim z
  have hp:(X.env.scope.kind == .class || (X.env.scope.kind == .module && X.env.locals != X.env.globals))=false:=by rw[I.ok.kind];rfl
  cases f with
  | next=>obtain⟨σ5,H5,I5,q5⟩:=q;have I5':=I5.unhand I.ok.hd;obtain⟨m,hn,hl⟩:=id I5'.loc;exact wpAny_nameGoes_keeps hk hn hp fun h6 v n6 s6=>⟨_,H5,I5'.goes hi hn hl hN n6 s6,q5⟩
  | brk=>obtain⟨σ5,H5,I5,q5⟩:=q;have I5':=I5.unhand I.ok.hd;obtain⟨m,hn,hl⟩:=id I5'.loc;exact wpAny_nameGoes_keeps hk hn hp fun h6 v n6 s6=>⟨_,H5,I5'.goes hi hn hl hN n6 s6,q5⟩
  | cont=>obtain⟨σ5,H5,I5,q5⟩:=q;have I5':=I5.unhand I.ok.hd;obtain⟨m,hn,hl⟩:=id I5'.loc;exact wpAny_nameGoes_keeps hk hn hp fun h6 v n6 s6=>⟨_,H5,I5'.goes hi hn hl hN n6 s6,q5⟩
  | ret u=>obtain⟨v5,σ5,H5,I5,r5,q5⟩:=q;have I5':=I5.unhand I.ok.hd;obtain⟨m,hn,hl⟩:=id I5'.loc;exact wpAny_nameGoes_keeps hk hn hp fun h6 v n6 s6=>⟨v5,_,H5,I5'.goes hi hn hl hN n6 s6,r5,q5⟩
end
end L2

namespace L2
open PySem PySem.Spec PyProof.Rows PySem.Calls LE
structure ExcN (K:Frag) (n:Str):Prop where
 ex:∃c,nsIn K mainGlobals n=some (some (.ref c))/\excIn K c VEm "ValueError.__new__"=true
 pl:∀c,nsIn K mainGlobals n=some (some (.ref c))->findIn K (.ref c) "__getattribute__"=some (some (.builtin "BaseException.__getattribute__"))/\findIn K (.ref c) "__getattr__"=some none/\mroIn K c (.type "BaseException")=some true/\hasDictIn K c=true/\findIn K (.ref c) "__class__"=some (some (.builtin "object.__class__"))/\mroIn K c (.type "object")=some true
structure ExcG (K:Frag):Prop where
 hn:specialIn K (.builtin "object.__class__") "__get__"=some (some (.builtin "getset_descriptor.__get__"))
 htk:takesIn K (.builtin "object.__class__")=some true
section
variable{prog:Program}{w:World}{A:Around}{E:Value->Shared->Prop}{s:Shared}{K:Frag}{x C D:Addr}{ox:Obj}
theorem JeO{Q:Option Value->Shared->Prop}(X:K.In s.heap)(I:InstAt s.heap x ox D none)(hga:findIn K (.ref D) "__getattribute__"=some (some (.builtin "BaseException.__getattribute__")))
 (hgn:findIn K (.ref D) "__getattr__"=some none) (hmB:mroIn K D (.type "BaseException")=some true)
 (hf:findObj K D none "__class__"=some (.bind (.builtin "getset_descriptor.__get__") (.builtin "object.__class__"))) (hm:mroIn K D (.type "object")=some true)
 (h:Q (some (.ref D)) { s with toks:=s.toks+1 }):wpAny (model prog w) A (getAttr? (.ref x) "__class__") Q E s:=by
 obtain⟨hh,g,d,t,os⟩:=s;have L0:=I.type (M:=model prog w);have L1:=looks_findIn (M:=model prog w) X hga;have L2:=looks_findIn (M:=model prog w) X hgn;have f3:=PySem.F.attrBase_ValueError.ga.bind (.ref x);unfold getAttr? getAttrBy? getAttrBy;refine wpAny_bind (wpAny_mkText (wpAny_bind (wpAny_attempt (wpAny_holding (wpAny_bind (L0.at (wpAny_bind (L1.at ?_))))))));have hx2:(Value.builtin "BaseException.__getattribute__" == Value.builtin "object.__getattribute__")=false:=by decide +kernel
 have hx1:(onTheHeap (Value.ref D) && Value.builtin "BaseException.__getattribute__" == Value.builtin "object.__getattribute__")=false:=by rw[hx2];rfl
 repeat (any_goals (first|assumption|(with_reducible refine L0.at ?_)|(with_reducible refine L1.at ?_)|(with_reducible refine L2.at ?_)|wp_step))
 have LB:=PySem.W.looks_mroIn (M:=model prog w) X hmB
 have LF:=PySem.W.looks_find (M:=model prog w) X I hf
 have hk:builtinKind "BaseException.__getattribute__"=some .slot:=by decide +kernel
 have hsplit:splitId "BaseException.__getattribute__"=some ("BaseException","__getattribute__"):=by decide +kernel
 have hag:=PySem.F.args_bexc_ga (.ref x) (Value.str "__class__" t);refine codeAny_call_builtin PySem.F.attrBase_ValueError.ga.plain PySem.F.entry_bexc_ga ?_;simp only[List.cons_append,List.nil_append,checkBuiltinCall,hk,hsplit];refine wpAny_bind ?_;unfold isInstance
 repeat (first|(with_reducible refine L0.at ?_)|(with_reducible refine LB.at ?_)|(with_reducible refine LF.at ?_)|wp_step)
 refine PySem.W.class_get (s:=⟨hh,g,d,t+1,os⟩) (ox:=ox) (od:=none) X I hm ?_;show wpAny (model prog w) A.in1 (ret (Value.ref D)) _ _ _;refine wpAny_pure ?_;exact PySem.W.handed_on rfl (wpAny_pure h)
end
section
variable{K:Frag}{x D:Addr}{ox:Obj}
theorem ZI{a g:Value}{name:Str}(hc:(clsIn K D).isSome=true)(ha:findIn K (.ref D) name=some (some a))(hg:specialIn K a "__get__"=some (some g))(ht:takesIn K a=some true):findObj K D none name=some (.bind g a):=by obtain⟨cd,hc⟩:=Option.isSome_iff_exists.mp hc;unfold findObj;rw[hc,Option.bind_some,ha,Option.bind_some];simp[hg,ht]
theorem Jgh(hga:findIn K (.ref D) "__getattribute__"=some (some (.builtin "BaseException.__getattribute__")))(hgn:findIn K (.ref D) "__getattr__"=some none)(hmB:mroIn K D (.type "BaseException")=some true)(hdct:hasDictIn K D=true)(ha:findIn K (.ref D) "__class__"=some (some (.builtin "object.__class__")))
 (hn:specialIn K (.builtin "object.__class__") "__get__"=some (some (.builtin "getset_descriptor.__get__"))) (htk:takesIn K (.builtin "object.__class__")=some true) (hm:mroIn K D (.type "object")=some true) :
 PySem.W.KitX K (.ref x) (.ref D) (fun h=>InstAt h x ox D none) where
 ty:=fun _ _ _ I=>I.type
 it:=fun _ _ X _=>by
  obtain⟨cdD,hcD,_⟩:=any_some hdct;unfold clsIn at hcD;split at hcD
  ·rename_i c' d' cd' sl' ho;intro A' Q' E' s' k q;unfold isType loadHead;exact wpAny_bind (wpAny_loadPart (k _ _ (X _ _ ho)) (wpAny_pure q))
  ·cases hcD
 ne:=fun h tp dd its n sl X htp=>by
  obtain⟨cdD,hcD,_⟩:=any_some hdct;refine Bool.eq_false_iff.mpr fun q=>?_
  have e:D=tp:=Value.ref.inj (beq_iff_eq.mp q);subst e;unfold clsIn at hcD;split at hcD
  ·rename_i c' d' cd' sl' ho;have z:=(X _ _ ho).symm.trans htp;cases z
  ·cases hcD
 ca:=fun {_ _ _ _ _ s} X I k=>by have hf:findObj K D none "__class__"=some (.bind (.builtin "getset_descriptor.__get__") (.builtin "object.__class__")):=ZI (by obtain⟨cd,hc,_⟩:=any_some hdct;rw[hc];rfl) ha hn htk;exact JeO X I hga hgn hmB hf hm k
end
section
variable{X:Cx}
inductive TyX (K:Frag) (H:Hp):V->Value->Prop where
 | of {x:V} {t:Value} (h:TyS K H x t):TyX K H x t
 | exc {a c:Addr} {n:Str} (h:H a=some (XO a (.ref c))) (e:nsIn K mainGlobals n=some (some (.ref c))) (N:ExcN K n) (G:ExcG K):TyX K H (.ref a) (.ref c)
theorem JcK{pins:List (Addr×Obj)}{σ:St}{H:Hp}{s:Shared}{A:Around}{E:Value->Shared->Prop}{Q:Value->Shared->Prop}{c:Value}{b:Bool}{x:V}{u t:Value}(I:Inv X pins σ H s)(rx:RelV x u)(ty:TyX X.K H x t)(e:kitOne X.K t c=some b)(h:∀tk,Q (.bool b) { s with toks:=tk }) :
 wpAny (model X.prog X.w) A (call (.builtin "isinstance") [u,c]) Q E s:=by
 cases ty with
 | of z=>exact Zb I rx z e h
 | @exc a c' n z e' N G =>
  cases (show u=Value.ref a from rx);obtain⟨⟨o,h1,h2,h3,h4⟩,_⟩:=(show ObjOk X.prog X.w H s.heap a (XO a (.ref c')) from I.hok a _ z)
  obtain⟨q1,q2,q3,p2,p3,p4⟩:=N.pl c' e';exact kia_one (Jgh q1 q2 q3 p2 p3 G.hn G.htk p4) I.kIn ⟨h1,h2,h3,by rw[h4];trivial⟩ e (fun z=>nomatch z) h
noncomputable def JiZ(K:Frag):List V->Hp->VK->Prop:=fun vs H Q=>∃x c t tc b,vs=[x,c]/\TyX K H x t/\(∀u,RelV c u->u=tc)/\kitOne K t tc=some b/\Q (.bl b) H
theorem JfI:CallR X (.builtin "isinstance") (JiZ X.K):=by intro pins s σ H xs us Q I r h;obtain⟨x,c,t,tc,b,rfl,ty,hc,e,q⟩:=h;obtain⟨u,w',rfl,r1,r2⟩:=Jep r;cases hc w' r2;exact JcK I r1 ty e fun tk=>⟨.bl b,H,I.tok tk,rfl,q⟩
end
end L2

namespace LE
open PySem L2 LR
noncomputable abbrev Xv:=En->Option Str
section
variable(K:Frag)(C:Addr)
noncomputable def spR(n:Nat)(ex:List Sl->Option Str):Sp:=fun vs H Q W=>∃H0 as m,Same H0 H/\RRL K C H H0 H vs as/\as.all (fun s=>!JU s)=true/\as.length=n/\ex as=some m ∧
 ∀c a H0' H',nsIn K mainGlobals m=some (some (.ref c))->Step H H0 H H0' H'->W (.ref c) (some a) H'
noncomputable def spX(n:Nat)(f:List Sl->Option Sl)(ex:List Sl->Option Str):Sp:=fun vs H Q W=>spE K C n f vs H Q W\/spR K C n ex vs H Q W
noncomputable def SXE(W:XK)(te:TE)(ex:Xv):Prop:=∀(B H0 H:Hp) (σ:St) (E:En) (m:Str) (Q:VK),EnvR K C B H0 H σ E->ex E=some m ->
 (∀c a H0' H',nsIn K mainGlobals m=some (some (.ref c))->Step H H0 H H0' H'->W (.ref c) (some a) H')->te σ H Q
noncomputable def SXS(W:XK)(ts:TS)(ex:Xv):Prop:=∀(B H0 H:Hp) (σ:St) (E:En) (m:Str) (D:Ends),EnvR K C B H0 H σ E->ex E=some m ->
 (∀c a H0' H',nsIn K mainGlobals m=some (some (.ref c))->SStep B H0 H0' H'->W (.ref c) (some a) H')->ts D σ H
noncomputable def SXT(T:(St->XK)->TS)(ex:Xv):Prop:=∀(B H0 H:Hp) (σ:St) (E:En) (m:Str) (D:Ends) (W:St->XK),EnvR K C B H0 H σ E->ex E=some m ->
 (∀c a H0' H',nsIn K mainGlobals m=some (some (.ref c))->Step H H0 H H0' H'->W σ (.ref c) (some a) H')->T W D σ H
end
theorem Jju{K:Frag}{C:Addr}{n:Nat}{f:List Sl->Option Sl}{ex:List Sl->Option Str}{vs:List V}{H:Hp}{Q:VK}{W:XK}(h:spX K C n f ex vs H Q W):vs.length=n:=by
 rcases h with ⟨_,as,_,_,r,_,hl,_⟩|⟨_,as,_,_,r,_,hl,_⟩
 ·rw[r.len,hl]
 ·rw[r.len,hl]
noncomputable def Jkz:Xv:=fun _=>none
noncomputable def JdG(a:Es)(ea eb:Xv):Xv:=fun E=>match ea E with
 | some m=>some m
 | none=>match a E with
  | some (.nx E')=>eb E'
  | _=>none
noncomputable def Jky(c:En->Option Bool)(a b:Xv):Xv:=fun E=>(c E).bind fun k=>if k=true then a E else b E
noncomputable def exU(n:Nat)(ex:List Sl->Option Str)(as:En->Option (List Sl)):Xv:=fun E=>(as E).bind fun ss=>(VT ss).bind fun bs=>if bs.length=n then ex bs else none
noncomputable def JdF(m:Str)(as:En->Option (List Sl)):Xv:=fun E=>(as E).bind fun ss=>if ss.length<=1000 then some m else none
noncomputable def JfY(N:Nat)(b:Xv):List Sl->Option Str:=fun as=>b (as++List.replicate (N-as.length) .no)
section
variable{K:Frag}{C:Addr}{W:XK}{t:TA}{ev:En->Option (List Sl)}{te:TE}{ts us:TS}{et eu:Es}{xt xu:Xv}{ex:Xv}
theorem Jjh{n:Nat}{f:List Sl->Option Sl}{x:List Sl->Option Str}{W:XK}(ha:SA K C t ev):SE K C (Wz (spX K C n f x) [] W t) (eU n f ev):=by
 intro B H0 H σ E c Q I e q;obtain⟨ss,e1,e⟩:=bind_some e;obtain⟨bs,e2,e⟩:=bind_some e;split at e
 ·next hl=>refine WL (ha B H0 H σ E ss _ I e1 fun vs H1 H1' s1 r1=>?_);obtain⟨h1,h2⟩:=r1.pass s1.i e2;have f:=JT (Hs:=H) s1.i;exact .inl ⟨_,bs,c,f.i,h1,h2,hl,e,fun v H2 H2' s2 r2=>q v H2 H2' ((s1.comp f fun _ z=>z).comp s2 fun a z=>Same.free s1.h z) (r2.weak fun a z=>Same.free s1.h z)⟩
 ·cases e
theorem JjL{n:Nat}{f:List Sl->Option Sl}{x:List Sl->Option Str}(ha:SA K C t ev):SXE K C W (Wz (spX K C n f x) [] W t) (exU n x ev):=by
 intro B H0 H σ E m Q I e q;obtain⟨ss,e1,e⟩:=bind_some e;obtain⟨bs,e2,e⟩:=bind_some e;split at e
 ·next hl=>refine WL (ha B H0 H σ E ss _ I e1 fun vs H1 H1' s1 r1=>?_);obtain⟨h1,h2⟩:=r1.pass s1.i e2;have f:=JT (Hs:=H) s1.i;exact .inr ⟨_,bs,m,f.i,h1,h2,hl,e,fun c a H2 H2' hc s2=>q c a H2 H2' hc ((s1.comp f fun _ z=>z).comp s2 fun a z=>Same.free s1.h z)⟩
 ·cases e
theorem Jkb:SXS K C W ts Jkz:=fun _ _ _ _ _ _ _ _ e _=>by cases e
theorem Jmz(h1:SS K C ts et)(x1:SXS K C W ts xt)(x2:SXS K C W us xu):SXS K C W (JjA ts us) (JdG et xt xu):=by
 intro B H0 H σ E m D I e q;unfold JdG at e;split at e
 ·next m' hm=>cases e;exact x1 B H0 H σ E m _ I hm q
 ·split at e
  ·next E' hE=>refine h1 B H0 H σ E _ _ I hE ?_;exact fun σ' H1 H1' s1 I1=>x2 B H1 H1' σ' E' m D I1 e fun c a H2 H2' hc s2=>q c a H2 H2' hc (s1.trans s2)
  ·cases e
theorem JnH{c:TT}{ec:En->Option Bool}(hc:ST K C c ec)(x1:SXS K C W ts xt)(x2:SXS K C W us xu):SXS K C W (Jjy c ts us) (Jky ec xt xu):=by
 intro B H0 H σ E m D I e q;obtain⟨k,e1,e⟩:=bind_some e;refine hc B H0 H σ E k _ I e1 fun H1 H1' s1=>?_
 have s1':=s1.ss I.b
 cases k with
 | true=>rw[if_pos rfl] at e ⊢;exact x1 B H1 H1' σ E m D (I.step s1) e fun c a H2 H2' hc s2=>q c a H2 H2' hc (s1'.trans s2)
 | false=>rw[if_neg (by decide)] at e ⊢;exact x2 B H1 H1' σ E m D (I.step s1) e fun c a H2 H2' hc s2=>q c a H2 H2' hc (s1'.trans s2)
theorem JhF{m:Str}{c:Addr}(hc:nsIn K mainGlobals m=some (some (.ref c)))(ha:SA K C t ev):SXS K C W (Jdc c W t) (JdF m ev):=by
 intro B H0 H σ E m' D I e q;obtain⟨ss,e1,e⟩:=bind_some e;split at e
 ·next hl =>
  cases e;refine ha B H0 H σ E ss _ I e1 fun vs H1 H1' s1 r1=>⟨?_,fun a=>q c a H1 H1' hc (s1.ss I.b)⟩
  rw[r1.len];exact Nat.le_trans hl (by decide)
 ·cases e
theorem Jmy{T:XK->TE}{g:TG}{ex:Xv}(h:∀W,SXE K C W (T W) ex):SXT K C (Jhq T g) ex:=fun B H0 H σ E m D W I e q=>h (W σ) B H0 H σ E m _ I e q
end
section
variable{K:Frag}{C:Addr}{B H0 H:Hp}{σ:St}{E:En}
theorem JeN{N:List Str}{vs:List V}{as:List Sl}(i:Same H0 H)(ra:RRL K C H H0 H vs as)(ho:as.all (fun s=>!JU s)=true):EnvR K C H H0 H (L2.YB N vs) (as++List.replicate (N.length-as.length) .no):=by
 have lens:=ra.len
 have noOwn:∀(j:Nat) (s:Sl),as[j]?=some s->JU s=false:=fun j s e=>by
  have:=List.all_eq_true.mp ho s (List.mem_of_getElem? e)
  simpa using this
 have get:∀(j:Nat) (s:Sl),(as++List.replicate (N.length-as.length) Sl.no)[j]?=some s->s=.no\/as[j]?=some s:=fun j s e=>by
  by_cases hj:j<as.length
  ·rw[List.getElem?_append_left hj] at e;exact .inr e
  ·rw[List.getElem?_append_right (by omega),List.getElem?_replicate] at e;split at e
   ·cases e;exact .inl rfl
   ·cases e
 refine⟨Same.refl _,i,by simp[L2.YB,lens],fun j s e=>?_,fun j k s1 s2 v hjk e1 e2 w1 w2=>?_⟩
 ·rcases get j s e with z|z
  ·exact .inl z
  ·obtain⟨v,h1,h2⟩:=ra.get z;refine .inr ⟨v,?_,?_⟩
   ·unfold L2.YB;rw[List.getElem?_append_left (by have:=(List.getElem?_eq_some_iff.mp h1).1;simpa using this),List.getElem?_map,h1];rfl
   ·cases s with
    | no=>trivial
    | sh d=>exact h2
    | bo ds=>exact h2
    | own ds=>exact absurd (noOwn j _ z) (by simp[JU])
    | bd ks ds=>exact h2
    | bt ks ds=>exact h2
    | od ks ds=>exact absurd (noOwn j _ z) (by simp[JU])
    | ot ks ds=>exact absurd (noOwn j _ z) (by simp[JU])
 ·rcases get j _ e1 with z|z
  ·subst z;cases w1
  ·rw[noOwn j _ z] at w1;cases w1
theorem Jf6{N:List Str}{n:Nat}{b:Es}{x:Xv}{ts:TS}{vs:List V}{Q:VK}{W:XK}(hb:SS K C ts b)(hx:SXS K C W ts x)(h:spX K C n (YY N.length b) (JfY N.length x) vs H Q W):ts { nx:=fun _ H'=>Q .non H',rt:=Q } (L2.YB N vs) H:=by
 rcases h with h|⟨H0,as,m,i,ra,ho,hl,e,q⟩
 ·exact JZ hb h
 ·exact hx H H0 H _ _ m _ (JeN i ra ho) e fun c a H1 H1' hc s1=>q c a H1 H1' hc ⟨s1.b,s1.z,s1.n,s1.i⟩
theorem EnvR.del(I:EnvR K C B H0 H σ E)(i:Nat):EnvR K C B H0 H (σ.set i none) (E.set i .no):=by
 refine⟨I.b,I.h,by simp[I.len],fun j s e=>?_,fun j k s1 s2 v hjk e1 e2 o1 o2 e3 e4=>?_⟩
 ·rw[List.getElem?_set] at e
  by_cases hj:i=j
  ·rw[if_pos hj] at e;split at e
   ·cases e;exact .inl rfl
   ·cases e
  ·rw[if_neg hj] at e;rcases I.at' j s e with z|⟨v,h1,h2⟩
   ·exact .inl z
   ·exact .inr ⟨v,by rw[List.getElem?_set,if_neg hj];exact h1,h2⟩
 ·have ne:∀(j:Nat) (s:Sl),(E.set i Sl.no)[j]?=some s->JU s=true->i≠j/\E[j]?=some s:=fun j s e o=>by
   rw[List.getElem?_set] at e
   by_cases hj:i=j
   ·rw[if_pos hj] at e;split at e
    ·cases e;cases o
    ·cases e
   ·rw[if_neg hj] at e;exact⟨hj,e⟩
  obtain⟨n1,f1⟩:=ne j s1 e1 o1;obtain⟨n2,f2⟩:=ne k s2 e2 o2;rw[List.getElem?_set,if_neg n1] at e3;rw[List.getElem?_set,if_neg n2] at e4;exact I.sep j k s1 s2 v hjk f1 f2 o1 o2 e3 e4
end
noncomputable def Jlq(i:Nat):Out->Out
 | .nx E=>.nx (E.set i .no)
 | .rt r=>.rt r
 | .bk E=>.bk (E.set i .no)
 | .ct E=>.ct (E.set i .no)
noncomputable def Jcl(R:List Str)(i:Nat)(b:Es)(x:Xv)(h:Es):Es:=fun E=>match b E with
 | some o=>some o
 | none=>(x E).bind fun m=>if m∈R/\i<E.length then(h (E.set i (.sh (.exc m)))).map (Jlq i) else none
section
variable{K:Frag}{C:Addr}
theorem JnG{R:List Str}{CL:Addr}{i:Nat}{T:(St->XK)->TS}{th:TS}{b h:Es}{x:Xv}(hm:∀m∈R,∀c,nsIn K mainGlobals m=some (some (.ref c))->exmOne K (.ref c) (.ref CL)=some true)
 (hb:∀W,SS K C (T W) b) (hx:SXT K C T x) (hh:SS K C th h):SS K C (Jmo K CL i T th) (Jcl R i b x h):=by
 intro B H0 H σ E o D I e fin;unfold Jcl at e;split at e
 ·next o' hE=>cases e;exact hb _ B H0 H σ E o D I hE fin
 ·obtain⟨m,e1,e⟩:=bind_some e;split at e
  ·next hR =>
   obtain⟨o',e2,rfl⟩:=map_some e;refine hx B H0 H σ E m D _ I e1 fun c a H1 H1' hc s1=>⟨a,rfl,hm m hR.1 c hc,fun ha=>?_⟩
   have ha0:H1 a=none:=by
    cases z:H1 a with
    | none=>rfl
    | some u=>rw[s1.i a u z] at ha;cases ha
   have I1:=I.step s1
   have st:Step H1' H1 H1' (upd H1 a (XO a (.ref c))) (upd H1' a (XO a (.ref c))):=by
    refine⟨fun b u z=>?_,fun b u z=>?_,fun b u z=>?_,fun b u z=>?_⟩
    ·rw[Ji (Jy z ha)];exact z
    ·rw[Ji (Jy z ha0)];exact z
    ·by_cases hb:b=a
     ·subst hb;exact .inr (.inl ha)
     ·rw[Ji hb] at z;exact .inl z
    ·by_cases hb:b=a
     ·subst hb;rw[Jw] at z ⊢;exact z
     ·rw[Ji hb] at z ⊢;exact s1.i b u z
   have I2:EnvR K C B (upd H1 a (XO a (.ref c))) (upd H1' a (XO a (.ref c))) (σ.set i (some (.ref a))) (E.set i (.sh (.exc m))) :=
    I1.put' st hR.2 (show RR K C H1' _ _ (.ref a) (.sh (.exc m)) from RD.exc Jw hc) rfl
   have ss:SStep B H0 (upd H1 a (XO a (.ref c))) (upd H1' a (XO a (.ref c))):=(s1.ss I.b).trans (st.ss I1.b);refine hh B _ _ _ _ o' _ I2 e2 ?_
   cases o' with
   | nx E2=>exact fun σ' H2 H2' s2 I3=>fin _ H2 H2' (ss.trans s2) (I3.del i)
   | bk E2=>exact fun σ' H2 H2' s2 I3=>fin _ H2 H2' (ss.trans s2) (I3.del i)
   | ct E2=>exact fun σ' H2 H2' s2 I3=>fin _ H2 H2' (ss.trans s2) (I3.del i)
   | rt r=>exact fun v H2 H2' s2 r2=>fin v H2 H2' (ss.trans s2) r2
  ·cases e
end
noncomputable def exB(n m:Str):Bool:=n == m || m == "LumpError"
noncomputable def JnR(R:List Str)(m:Str):D->Option Bool
 | .exc n=>if n∈R then some (exB n m) else none
 | .non=>some false
 | _=>none
noncomputable def ZH(R:List Str)(m:Str)(a:Ev):Ev:=fun E=>(a E).bind fun s=>s.d.bind fun d=>(JnR R m d).map fun b=>.sh (.bl b)
noncomputable def JmR(R:List Str)(a:Ev):Ev:=fun E=>(a E).bind fun s=>s.d.bind fun d=>(match d with|.exc n=>if n∈R then some true else none|.non=>some false|_=>none).map fun b=>.sh (.bl b)
section
variable{K:Frag}{C:Addr}{te:TE}{ea:Ev}
structure IsiN (K:Frag) (R:List Str) (m:Str) (c:Addr):Prop where
 own:∀n∈R,ExcN K n
 g:ExcG K
 k:∀n∈R,∀c',nsIn K mainGlobals n=some (some (.ref c'))->kitOne K (.ref c') (.ref c)=some (exB n m)
 o:kitOne K (.type "NoneType") (.ref c)=some false
theorem V0{R:List Str}{m:Str}{c:Addr}(N:IsiN K R m c)(ha:SE K C te ea):SE K C (tCB (JiZ K) (Ub te (Ub (tC (.ref c)) Wp))) (ZH R m ea):=by
 intro B H0 H σ E r Q I e q;obtain⟨a,e1,e⟩:=bind_some e;obtain⟨d,e2,e⟩:=bind_some e;obtain⟨b,e3,rfl⟩:=map_some e;refine ha B H0 H σ E a _ I e1 fun x H1 H1' s1 r1=>?_
 have rd:=r1.dat s1.i e2
 cases d with
 | exc n =>
  have e3:(if n∈R then some (exB n m) else none)=some b:=e3;split at e3
  ·next hn=>cases e3;obtain⟨a',c',rfl,hx,hc⟩:=RD.excI rd;exact⟨_,_,_,_,_,rfl,.exc hx hc (N.own n hn) N.g,fun u z=>z,N.k n hn c' hc,q _ _ _ s1 (RD.bl _)⟩
  ·cases e3
 | non=>cases e3;cases RD.nonI rd;exact⟨_,_,_,_,_,rfl,.of (.of .non),fun u z=>z,N.o,q _ _ _ s1 (RD.bl _)⟩
 | _=>cases e3
end
end LE
namespace L2
open PySem PySem.Spec PyProof.Rows PySem.Calls LE
section
variable{X:Cx}
end
end L2
namespace LE
open PySem L2 LR
noncomputable def IsiL(K:Frag)(R:List Str):List Str->List Addr->Prop
 | [],[]=>True
 | m::ms,c::cs=>IsiN K R m c/\IsiL K R ms cs
 | _,_=>False
theorem IsiL.exc{K:Frag}{R:List Str}{n:Str}{c':Addr}(hn:n∈R)(hc:nsIn K mainGlobals n=some (some (.ref c'))):∀{ms:List Str} {cs:List Addr},IsiL K R ms cs->kitAny K (.ref c') (cs.map Value.ref)=some (ms.any (exB n))
 | [],[],_=>rfl
 | m::ms,c::cs,⟨h,t⟩=>by show(match kitOne K (.ref c') (.ref c) with|some true=>some true|some false=>kitAny K (.ref c') (cs.map Value.ref)|none=>none)=_;rw[h.k n hn c' hc,t.exc hn hc,List.any_cons];cases exB n m <;> rfl
theorem IsiL.non{K:Frag}{R:List Str}:∀{ms:List Str} {cs:List Addr},IsiL K R ms cs->kitAny K (.type "NoneType") (cs.map Value.ref)=some false
 | [],[],_=>rfl
 | m::ms,c::cs,⟨h,t⟩=>by show(match kitOne K (.type "NoneType") (.ref c) with | some true=>some true | some false=>kitAny K (.type "NoneType") (cs.map Value.ref) | none=>none)=_;rw[h.o,t.non]
section
variable{K:Frag}{C:Addr}{te:TE}{ea:Ev}
structure IsiV (K:Frag) (R:List Str):Prop where
 own:∀n∈R,ExcN K n
 g:ExcG K
 k:∀n∈R,∀c',nsIn K mainGlobals n=some (some (.ref c'))->kitOne K (.ref c') (.type "ValueError")=some true
theorem Jm4{K:Frag}:kitOne K (.type "NoneType") (.type "ValueError")=some false:=by kernel_rfl
theorem Jnv{R:List Str}(N:IsiV K R)(ha:SE K C te ea):SE K C (tCB (JiZ K) (Ub te (Ub (tC (.ty "ValueError")) Wp))) (JmR R ea):=by
 intro B H0 H σ E r Q I e q;obtain⟨a,e1,e⟩:=bind_some e;obtain⟨d,e2,e⟩:=bind_some e;obtain⟨b,e3,rfl⟩:=map_some e;refine ha B H0 H σ E a _ I e1 fun x H1 H1' s1 r1=>?_
 have rd:=r1.dat s1.i e2
 cases d with
 | exc n =>
  have e3:(if n∈R then some true else none)=some b:=e3;split at e3
  ·next hn=>cases e3;obtain⟨a',c',rfl,hx,hc⟩:=RD.excI rd;exact⟨_,_,_,_,_,rfl,.exc hx hc (N.own n hn) N.g,fun u z=>z,N.k n hn c' hc,q _ _ _ s1 (RD.bl _)⟩
  ·cases e3
 | non=>cases e3;cases RD.nonI rd;exact⟨_,_,_,_,_,rfl,.of (.of .non),fun u z=>z,Jm4,q _ _ _ s1 (RD.bl _)⟩
 | _=>cases e3
end
end LE

namespace L2
open PySem PySem.Spec PyProof.Rows PySem.Calls LE
theorem ZE:bootBuiltins "ValueError"=some (.type "ValueError"):=by decide +kernel
section
variable{X:Cx}{K:Frag}
theorem Yr(h:X.K=K):CallR X (.builtin "isinstance") (JiZ K):=by subst h;exact JfI
theorem JiX{body suite:List Stmt}{b₀:Stmt}{i:Nat}{n cn:Str}{np hpos pos:Pos}{CL:Addr}{T:(St->XK)->TS}{th:TS}(h:X.K=K)(hs:X.stack=X.env::X.outer)(hf:X.env.frame=some X.env.locals)(hx:X.ex=[])(hN:X.N.Nodup)(hi:X.N[i]?=some n)(hk:X.env.kindOf n=some .local)(hg:Gl X cn)(hm:X.mg cn=some (.ref CL))
 (hb:Jkf X body T) (hh:∀a,PSs (X.hand a) (b₀::suite) th) (hdb:(cn == ("__debug__":Str))=false:=by decide) :
 PS X (.Try body [.ExceptHandler (some (.Name cn np)) (some n) (b₀::suite) hpos] [] [] pos) (Jmo K CL i T th):=by subst h;exact JlE hs hf hx hN hi hk hg hm hb hh hdb
theorem Jfj{x:Str}{np cpos pos:Pos}{C:Addr}{E:XK}{e:Expr}{es:List Expr}{t:TA}(h:X.K=K)(ok:excIn K C VEm "ValueError.__new__"=true)(hg:Gl X x)(hm:X.mg x=some (.ref C))(hc:X.calm=true)(hx:XOk X E)(ha:PA X (e::es) t)(hdb:(x == ("__debug__":Str))=false:=by decide)
 (he:starEach (e::es) X.env=(false,eval e X.env)::starEach es X.env:=by rfl) (hpl:(backTo cpos (starEach es X.env)).any (·.1)=false:=by rfl) :
 PS X (.Raise (some (.Call (.Name x np) (e::es) [] cpos)) none pos) (Jdc C E t):=by subst h;exact JgP ok hg hm hc hx ha hdb he hpl
end
end L2
namespace LE
open PySem L2 LR
section
variable{K:Frag}{C:Addr}{ts:TS}
theorem Jes:SS K C ts Jdh:=fun _ _ _ _ _ _ _ _ e _=>by cases e
theorem JhE{T:XK->TE}{ea:Ev}{i:Nat}(h:∀W,SE K C (T W) ea)(W:St->XK):SS K C (Jhq T (U4 i) W) (Js i ea):=JG (te:=fun σ H Q=>T (W σ) σ H Q) fun B H0 H σ E r Q I e q=>h (W σ) B H0 H σ E r Q I e q
structure AtX (K:Frag) (n:Str) (c:Addr):Prop where
 ns:nsIn K mainGlobals n=some (some (.ref c))
 ok:excIn K c VEm "ValueError.__new__"=true
 ga:findIn K (.ref c) "__getattribute__"=some (some (.builtin "BaseException.__getattribute__"))
 gn:findIn K (.ref c) "__getattr__"=some none
 mb:mroIn K c (.type "BaseException")=some true
 hd:hasDictIn K c=true
 fi:findIn K (.ref c) "__class__"=some (some (.builtin "object.__class__"))
 mr:mroIn K c (.type "object")=some true
theorem AtX.n{n:Str}{c:Addr}(h:AtX K n c):ExcN K n:=⟨⟨c,h.ns,h.ok⟩,fun c' e=>by have:=h.ns.symm.trans e;cases this;exact⟨h.ga,h.gn,h.mb,h.hd,h.fi,h.mr⟩⟩
noncomputable def OwnL(K:Frag):List Str->List Addr->Prop
 | [],[]=>True
 | n::ns,c::cs=>AtX K n c/\OwnL K ns cs
 | _,_=>False
theorem JiJ:OwnL K [] []:=trivial
theorem JgD{ns:List Str}{cs:List Addr}{n:Str}{c:Addr}(h:AtX K n c)(t:OwnL K ns cs):OwnL K (n::ns) (c::cs):=⟨h,t⟩
theorem OwnL.all:∀{ns:List Str} {cs:List Addr},OwnL K ns cs->∀n∈ns,ExcN K n
 | [],[],_,n,h=>nomatch h
 | m::ns,c::cs,⟨h,t⟩,n,hn=>by
  rcases List.mem_cons.mp hn with e|e
  ·rw[e];exact h.n
  ·exact t.all n e
noncomputable def ExmL(K:Frag)(CL:Addr):List Addr->Prop
 | []=>True
 | c::cs=>exmOne K (.ref c) (.ref CL)=some true/\ExmL K CL cs
theorem Jh5{CL:Addr}:ExmL K CL []:=trivial
theorem JfZ{CL c:Addr}{cs:List Addr}(h:exmOne K (.ref c) (.ref CL)=some true)(t:ExmL K CL cs):ExmL K CL (c::cs):=⟨h,t⟩
theorem ExmL.all{CL:Addr}:∀{ns:List Str} {cs:List Addr},OwnL K ns cs->ExmL K CL cs->∀m∈ns,∀c,nsIn K mainGlobals m=some (some (.ref c))->exmOne K (.ref c) (.ref CL)=some true
 | [],[],_,_,n,h=>nomatch h
 | m::ns,c::cs,⟨h,t⟩,⟨h',t'⟩,n,hn=>fun c' e=>by
  rcases List.mem_cons.mp hn with z|z
  ·rw[z,h.ns] at e;cases e;exact h'
  ·exact t'.all t n z c' e
noncomputable def KitL(K:Frag)(m:Str)(c:Addr):List Str->List Addr->Prop
 | [],[]=>True
 | n::ns,d::ds=>kitOne K (.ref d) (.ref c)=some (exB n m)/\KitL K m c ns ds
 | _,_=>False
theorem Ul{m:Str}{c:Addr}:KitL K m c [] []:=trivial
theorem YQ{m n:Str}{c d:Addr}{ns:List Str}{ds:List Addr}{b:Bool}(h:kitOne K (.ref d) (.ref c)=some b)(e:exB n m=b)(t:KitL K m c ns ds):KitL K m c (n::ns) (d::ds):=⟨by rw[e];exact h,t⟩
theorem KitL.all{m:Str}{c:Addr}:∀{ns:List Str} {cs:List Addr},OwnL K ns cs->KitL K m c ns cs->∀n∈ns,∀c',nsIn K mainGlobals n=some (some (.ref c'))->kitOne K (.ref c') (.ref c)=some (exB n m)
 | [],[],_,_,n,h=>nomatch h
 | m::ns,c::cs,⟨h,t⟩,⟨h',t'⟩,n,hn=>fun c' e=>by
  rcases List.mem_cons.mp hn with z|z
  ·rw[z] at e ⊢;rw[h.ns] at e;cases e;exact h'
  ·exact t'.all t n z c' e
theorem Uk{m:Str}{c:Addr}{ns:List Str}{cs:List Addr}(o:OwnL K ns cs)(g:ExcG K)(k:KitL K m c ns cs)(z:kitOne K (.type "NoneType") (.ref c)=some false):IsiN K ns m c:=⟨o.all,g,k.all o,z⟩
noncomputable def KivL(K:Frag):List Addr->Prop
 | []=>True
 | c::cs=>kitOne K (.ref c) (.type "ValueError")=some true/\KivL K cs
theorem Jix:KivL K []:=trivial
theorem Jgi{c:Addr}{cs:List Addr}(h:kitOne K (.ref c) (.type "ValueError")=some true)(t:KivL K cs):KivL K (c::cs):=⟨h,t⟩
theorem KivL.all:∀{ns:List Str} {cs:List Addr},OwnL K ns cs->KivL K cs->∀n∈ns,∀c',nsIn K mainGlobals n=some (some (.ref c'))->kitOne K (.ref c') (.type "ValueError")=some true
 | [],[],_,_,n,h=>nomatch h
 | m::ns,c::cs,⟨h,t⟩,⟨h',t'⟩,n,hn=>fun c' e=>by
  rcases List.mem_cons.mp hn with z|z
  ·rw[z,h.ns] at e;cases e;exact h'
  ·exact t'.all t n z c' e
theorem Jiu{ns:List Str}{cs:List Addr}(o:OwnL K ns cs)(g:ExcG K)(k:KivL K cs):IsiV K ns:=⟨o.all,g,k.all o⟩
end
section
variable(K:Frag)(C:Addr)
end
section
variable{K:Frag}{C:Addr}{W:XK}{ta te:TE}{t tr:TA}{ea:Ev}{xa xr ex:Xv}{wi:TI}
end
end LE

namespace LE
open PySem L2 LR
section
variable{K:Frag}{C:Addr}{W:XK}{t:TS}{et:Es}{xt:Xv}
end
end LE
namespace L2
open PySem PySem.Spec PyProof.Rows PySem.Calls LE
structure RoomH (k:Nat) (A:Around):Prop where
 dp:A.depth+3*k+5<recursionLimit
 un:A.units+16*k+200<cLine
theorem Room.h{k:Nat}{A:Around}(r:Room k A):RoomH k A:=⟨r.dp,r.un⟩
theorem RoomH.mono{j k:Nat}{A:Around}(r:RoomH k A)(h:j<=k):RoomH j A:=⟨by have:=r.dp;omega,by have:=r.un;omega⟩
theorem RoomH.mark{k:Nat}{A:Around}(r:RoomH k A)(v:Option Value):RoomH k (A.mark v):=⟨r.dp,r.un⟩
theorem RoomH.deeper{k:Nat}{A:Around}(r:RoomH (k+1) A)(env:Env):RoomH k (A.deeper env) :=
 ⟨by have:=r.dp;show A.depth+1+3*k+5<_;omega,by have:=r.un;show A.units+3+16*k+200<_;omega⟩
theorem RoomH.units{k:Nat}{A:Around}(r:RoomH k A):A.units+64<cLine:=by have:=r.un;omega
noncomputable abbrev cxH(P:Program)(w:World)(K:Frag)(mg:Str->Option Value)(base:Heap)(N:List Str)(qual:Str)(scope:Scope)(f:Addr)(cd:Value)(A:Around)(outer:List Env)(s:Shared)(H:Hp)(E:XK):Cx :=
 { WX CX0 P w K mg base N qual scope f cd A outer s H E with calm:=false,xe:=fun _ _=>False }
structure FnH (P:Program) (w:World) (K:Frag) (mg:Str->Option Value) (base:Heap) (k:Nat) (f:Addr) (fd:FuncData) (ps:List Str) (sp:Sp):Prop where
 len:∀vs H Q E,sp vs H Q E->vs.length=ps.length
 run:∀(A:Around) (outer:List Env) (s:Shared) (H:Hp) (args:Args) (us:List Value) (vs:List V) (Q:VK) (E:XK),RoomH k A->Env0 P w K mg base A outer s H->BindsTo s fd args (ps.zip us)->Vals vs us->sp vs H Q E ->
  codeAny (model P w) A (.call (.ref f) args) (CR CX0 outer P w H s Q E) s
theorem JkH{P:Program}{w:World}{K:Frag}{mg:Str->Option Value}{base:Heap}{k:Nat}{f:Addr}{name qual:Str}{params:Arguments}{body:List Stmt}{scope:Scope}{dV kV doc pm cdv ct oc:Value}{an od:Option Addr}
 {osl:Array (Option Value)} {N ps:List Str} {sp:Sp} (lk:K.lookup f=some ⟨oc,od,.func (fnOf name qual params body scope dV kV doc pm an cdv ct),osl⟩) (hcd:codeIn K cdv qual=true) (S:FnScope N ps scope)
 (len:∀vs H Q E,sp vs H Q E->vs.length=ps.length)
 (hbody:∀(A:Around) (outer:List Env) (s:Shared) (H:Hp) (vs:List V) (Q:VK) (E:XK),RoomH k (A.deeper (envOfC qual scope s.heap.objs.size f cdv))->sp vs H Q E ->
  ∃t,PSs (cxH P w K mg base N qual scope f cdv A outer s H E) body t/\t { nx:=fun _ H'=>Q .non H',rt:=Q } (YB N vs) H) :
 FnH P w K mg base (k+1) f (fnOf name qual params body scope dV kV doc pm an cdv ct) ps sp:=by
 refine⟨len,fun A outer s H args us vs Q E hr e0 hb r hsp=>?_⟩;have hl:=len _ _ _ _ hsp;have KX:K.In s.heap:=e0.mod.kin.keeps fun b o e=>(e0.bs b o e).1
 have lim:s.heap.NoLimit:=e0.mod.nolimit.keeps fun b o e=>(e0.bs b o e).1
 have hkind:∀y∈ps.zip us,scope.names.lookup y.1=some .local\/(scope.names.lookup y.1=some .cell/\((cellsFrom (s.heap.objs.size+1) scope.names []).lookup y.1).isSome=true):=fun⟨n,v⟩ hy=>by
  rcases S.par n (List.of_mem_zip hy).1 with q|q
  ·exact .inl q
  ·exact .inr ⟨q,cellsFrom_some _ _ _ (.inl q)⟩
 have dep:A.depth<recursionLimit:=by have:=hr.dp;omega
 refine codeAny_call_function dep (KX _ _ lk) rfl S.co S.gen rfl (PySem.W.codeRec_of KX hcd) (hb _ _ _ _ ?_);refine wpAny_newFunctionEnv_cells S.kind hkind fun env he s1 x=>?_
 subst he;refine⟨lim.keeps x.toInCall.keep,codeAny_func ?_⟩;obtain⟨t,ht,hq⟩:=hbody A outer s H vs Q E (hr.deeper _) hsp;have e1:Env0 P w K mg base { A with handled:=none } outer s H:=⟨e0.frames,e0.mod,e0.bs,e0.bsz,e0.funs,e0.frf,e0.hok,e0.bare⟩
 have I0:Inv (WX CX0 P w K mg base N qual scope f cdv { A with handled:=none } outer s H E) [] (YB N vs) H s1:=Z1 S rfl e1 hl r x
 have I:Inv (cxH P w K mg base N qual scope f cdv A outer s H E) [] (YB N vs) H s1 :=
  ⟨⟨I0.ok.mod,I0.ok.kind,I0.ok.glob,I0.ok.blt,I0.ok.above,I0.ok.inj,I0.ok.has,I0.ok.cab,(fun h=>nomatch h),Around.frames_deeper e0.frames,I0.ok.stk,I0.ok.exf,I0.ok.bs,I0.ok.bsz,I0.ok.noex,I0.ok.exfs,I0.ok.funs,I0.ok.frf⟩,I0.os,I0.bare,I0.base,I0.loc,I0.cell,I0.free,I0.freeC,I0.pin,I0.hok,I0.len⟩
 refine wpAny_mono (ht [] s1 (YB N vs) H _ I hq) (fun fl s' hs=>?_) fun e s' hs=>False.elim hs
 have fin:∀{σ':St} {H':Hp} {v:V} {u:Value},Inv (cxH P w K mg base N qual scope f cdv A outer s H E) [] σ' H' s'->RelV v u->Q v H'->CE outer P w H s Q u s' :=
  fun {σ' H' v u} J rv q=>⟨v,H',J.os,J.bare,J.base,J.hok,rv,q⟩
 cases fl with
 | ret u=>obtain⟨v,σ',H',J,rv,q⟩:=hs;exact fin J rv q
 | next=>obtain⟨σ',H',J,q⟩:=hs;exact fin (v:=V.non) (u:=Value.none) J rfl q
 | brk=>obtain⟨_,_,_,q⟩:=hs;exact False.elim q
 | cont=>obtain⟨_,_,_,q⟩:=hs;exact False.elim q
theorem Fun.okH{P:Program}{w:World}{K:Frag}{mg:Str->Option Value}{base:Heap}{x qual:Str}{st:Stmt}{f:Addr}{fd:FuncData}{N ps:List Str}{k:Nat}{sp:Sp}(F:Fun K x qual st f fd)(S:FnScope N ps (Jg st))(len:∀vs H Q E,sp vs H Q E->vs.length=ps.length)
 (hbody:∀(cdv:Value) (A:Around) (outer:List Env) (s:Shared) (H:Hp) (vs:List V) (Q:VK) (E:XK),RoomH k (A.deeper (envOfC qual (Jg st) s.heap.objs.size f cdv))->sp vs H Q E ->
  ∃t,PSs (cxH P w K mg base N qual (Jg st) f cdv A outer s H E) (JE st) t/\t { nx:=fun _ H'=>Q .non H',rt:=Q } (YB N vs) H):FnH P w K mg base (k+1) f fd ps sp:=by
 obtain⟨oc,od,kV,doc,pm,an,cdv,ct,osl,rfl,lk,hcd⟩:=F.ex;exact JkH lk hcd S len fun A outer s H vs Q E hr hsp=>hbody cdv A outer s H vs Q E hr hsp
theorem FnH.ok{P:Program}{w:World}{K:Frag}{mg:Str->Option Value}{base:Heap}{k:Nat}{f:Addr}{fd:FuncData}{ps:List Str}{sp:Sp}(F:FnH P w K mg base k f fd ps sp):FnOk P w K mg base CX0 k f fd ps sp :=
 ⟨F.len,fun A outer s H args us vs Q E hr=>F.run A outer s H args us vs Q E hr.h⟩
structure CalH (P:Program) (w:World) (K:Frag) (mg:Str->Option Value) (base:Heap) (x:Str) (k:Nat) (ps:List Str) (sp:Sp):Prop where
 ex:∃(f:Addr) (fd:FuncData),FnH P w K mg base k f fd ps sp/\mg x=some (.ref f)/\keepIn K (.ref f)=true/\Binds K fd ps []
section
variable{X:Cx}{k:Nat}{ps:List Str}{sp:Sp}{x:Str}{p pos:Pos}{e:Expr}{es:List Expr}{t:TA}
theorem JgF(c:CalH X.prog X.w X.K X.mg X.base x k ps sp)(hr:RoomH k X.A)(hg:Gl X x)(ha:PA X (e::es) t)(hdb:(x == ("__debug__":Str))=false:=by decide)
 (he:starEach (e::es) X.env=(false,eval e X.env)::starEach es X.env:=by rfl) (hpl:(backTo pos (starEach es X.env)).any (·.1)=false:=by rfl):PE X (.Call (.Name x p) (e::es) [] pos) (Wz sp [] E0 t):=by
 obtain⟨f,fd,F,h1,h2,h3⟩:=c.ex;intro pins s σ H Q I h;refine wpAny_Call_Name_kw (UW I hg h1 ?_ hdb);refine callWith_K (h₀:=X.base) I.ok.mod.kin h2 (thn (ha pos pins s σ H _ I h) fun us s1 ⟨vs,H1,I1,r,q⟩=>⟨I1.kIn,?_⟩) he hpl;have r2:Vals (vs++[]) (us++[]):=r.append .nil;have hl:(us++[]).length=ps.length:=by rw[<- r2.length];exact F.len _ _ _ _ q
 refine wpAny_call (codeAny_mono (F.run X.A X.stack s1 H1 ⟨us,[]⟩ (us++[]) (vs++[]) Q E0 hr I1.env0 (h3 s1 us I1.kIn hl) r2 q) fun r s' hq=>?_)
 cases r with
 | error e=>exact False.elim hq
 | ok fl =>
  cases fl with
  | ret u=>exact I1.after hq
  | next=>exact False.elim hq
  | brk=>exact False.elim hq
  | cont=>exact False.elim hq
end
end L2

namespace L2
open PySem PySem.Spec PyProof.Rows PySem.Calls LE
structure CalMX (P:Program) (w:World) (K:Frag) (mg:Str->Option Value) (base:Heap) (x:Str) (C:Addr) (k:Nat) (ps:List Str) (sp:Sp):Prop where
 ex:∃(f:Addr) (fd:FuncData),Mk K C f/\FnOk P w K mg base (CX1 P w) k f fd ps sp/\mg x=some (.ref C)/\Binds K fd ps []
section
variable{X:Cx}{k:Nat}{C:Addr}{ps:List Str}{sp:Sp}{x:Str}{p pos:Pos}{e:Expr}{es:List Expr}{t:TA}
end
end L2
namespace LE
open PySem L2 LR
section
variable(K:Frag)(C:Addr)
end
section
variable{K:Frag}{C:Addr}{W:XK}{t:TA}{ev:En->Option (List Sl)}{H0 H H2:Hp}
noncomputable def JfB(ss:List Sl):Bool:=ss.all fun s=>!JU s
theorem RRL.more{vs:List V}{ss:List Sl}(st:Same H H2):JfB ss=true->RRL K C H H0 H vs ss->RRL K C H2 H0 H2 vs ss:=fun ho r=>by
 revert ho
 induction r with
 | nil=>exact fun _=>.nil
 | @cons v s vs ss h _ ih =>
  intro ho
  have hs:JU s=false/\JfB ss=true:=by unfold JfB at ho ⊢;rw[List.all_cons,Bool.and_eq_true] at ho;exact⟨by simpa using ho.1,ho.2⟩
  refine .cons ?_ (ih hs.2)
  cases s with
  | no=>exact h
  | sh d=>exact h
  | bo ds=>obtain⟨l,xs,e,g,q⟩:=h;exact⟨l,xs,e,st _ _ g,q⟩
  | bd ks ds=>obtain⟨l,xs,e,g,q⟩:=h;exact⟨l,xs,e,st _ _ g,q⟩
  | bt ks ds=>obtain⟨l,xs,e,g,q⟩:=h;exact⟨l,xs,e,st _ _ g,q⟩
  | own ds=>exact absurd hs.1 (by simp[JU])
  | od ks ds=>exact absurd hs.1 (by simp[JU])
  | ot ks ds=>exact absurd hs.1 (by simp[JU])
end
end LE

namespace L2
open PySem PySem.Spec PyProof.Rows PySem.Calls
theorem JaH(a b:Bool):MeetsSeq.EqGives (.bool a) (.bool b) (a == b):=fun prog w A E s Q h=>by
 unfold eqBool;show wpAny _ _ (if (Value.bool a == Value.bool b)=true then _ else _) Q E s
 by_cases hab:(Value.bool a == Value.bool b)=true
 ·rw[if_pos hab];have e:a=b:=by have:=eq_of_beq hab;injection this
  subst e;exact wpAny_bind (wpAny_rule (wpAny_pure (by simpa using h)))
 ·rw[if_neg hab];exact wpAny_bind (PyProof.Rows.eq_bool (wpAny_truthy_bool h))
theorem Jbo:∀{bs:List Bool} {its:List Value},Vals (bs.map V.bl) its->its=bs.map Value.bool
 | [],_,r=>by cases r;rfl
 | b::bs,_,r=>by
  cases r with
  | cons h t=>cases (show _=Value.bool b from h);rw[Jbo t];rfl
noncomputable def Jeb:V->List V->Hp->VK->Prop:=fun x vs H Q=>∃(l:Addr) (bs:List Bool) (b:Bool),x=.ref l/\vs=[.bl b]/\H l=some (.lst (bs.map V.bl))/\Q (.int (bs.count b:Nat)) H
noncomputable def efB(b:Bool):Value->Bool:=fun v=>match v with
 | .bool a=>a == b
 | _=>false
theorem ZT(b:Bool):∀bs:List Bool,(bs.map Value.bool).countP (efB b)=bs.count b
 | []=>rfl
 | a::bs=>by rw[List.map_cons,List.countP_cons,ZT b bs,List.count_cons];rfl
section
variable{X:Cx}
theorem Jfb:MtR X "list.count" Jeb:=by
 intro pins s σ H x vs v us Q I rx rv h;obtain⟨l,bs,b,rfl,rfl,hH,q⟩:=h;cases rx;obtain⟨u,rfl,hu⟩:=rv.one;cases (show u=Value.bool b from hu);obtain⟨z,its,n,r,hl,e⟩:=I.lstM hH;cases Jbo r;refine call_meets F.slot_list_count ⟨_,e,rfl⟩ F.entry_list_count (F.args_list_count_2 _ _) (MeetsSeq.list_count l (bs.map Value.bool).toArray n (.bool b) (efB b) (fun y hy=>?_)) ⟨e,?_⟩
 ·have hy':y∈bs.map Value.bool:=by simpa using hy
  obtain⟨a,_,rfl⟩:=List.mem_map.mp hy';exact JaH a b
 ·refine⟨.int (bs.count b:Nat),H,I.tok _,⟨s.toks,?_⟩,q⟩;show Value.int (((bs.map Value.bool).countP (efB b):Nat):Int) s.toks=_;rw[ZT]
end
end L2
namespace LE
open PySem L2 LR
noncomputable def lst?:Sl->Option (List D)
 | .bo ds=>some ds
 | .own ds=>some ds
 | .sh (.lst ds)=>some ds
 | _=>none
noncomputable def eMB(f:List Bool->Bool->Option Int)(o a:Ev):Ev:=fun E=>(o E).bind fun s=>(lst? s).bind fun ds=>(bls? ds).bind fun bs=>(a E).bind fun y=>(bool? y).bind fun b=>(f bs b).map fun i=>.sh (.int i)
noncomputable def JmT(bs:List Bool)(b:Bool):Option Int:=some (bs.count b:Nat)
section
variable{K:Frag}{C:Addr}{to te:TE}{eo ea:Ev}{Hs H0 H:Hp}{v:V}
theorem RR.lst{s:Sl}{ds:List D}(i:Same H0 H)(r:RR K C Hs H0 H v s)(e:lst? s=some ds):∃l xs,v=.ref l/\H l=some (.lst xs)/\RDL K C H0 xs ds:=by
 cases s with
 | bo es=>cases e;exact r
 | own es=>cases e;obtain⟨l,xs,e,h,_,_,q⟩:=r;exact⟨l,xs,e,h,q⟩
 | sh d =>
  cases d with
  | lst es=>cases e;obtain⟨l,xs,e,h,q⟩:=RD.lstI r;exact⟨l,xs,e,i _ _ h,q⟩
  | _=>cases e
 | _=>cases e
theorem Jn1{rm:V->List V->Hp->VK->Prop}{f:List Bool->Bool->Option Int}(hm:∀(l:Addr) (bs:List Bool) (b:Bool) (i:Int) (H:Hp) (Q:VK),H l=some (.lst (bs.map V.bl))->f bs b=some i->Q (.int i) H->rm (.ref l) [.bl b] H Q)
 (ho:SE K C to eo) (ha:SE K C te ea):SE K C (tBM K "list" rm to (Ub te Wp)) (eMB f eo ea):=by
 intro B H0 H σ E r Q I e q;obtain⟨s,e1,e⟩:=bind_some e;obtain⟨ds,e2,e⟩:=bind_some e;obtain⟨bs,e3,e⟩:=bind_some e;obtain⟨y,e4,e⟩:=bind_some e;obtain⟨b,e5,e⟩:=bind_some e;obtain⟨i,e6,rfl⟩:=map_some e;refine ho B H0 H σ E s _ I e1 fun x H1 H1' s1 r1=>?_
 obtain⟨l,xs,rfl,hl,rl⟩:=r1.lst s1.i e2;refine⟨.inl ⟨rfl,_,.of hl⟩,?_⟩;refine ha B H1 H1' σ E y _ (I.step s1) e4 fun u H2 H2' s2 r2=>?_
 rw[Vh e5] at r2;cases RD.blI r2;rw[WS e3] at rl;have hx:=RDL.bls rl;subst hx;exact hm l bs b i H2' Q (s2.h _ _ hl) e6 (q _ _ _ (s1.trans s2) (RD.int i))
theorem Jjj(ho:SE K C to eo)(ha:SE K C te ea):SE K C (tBM K "list" Jeb to (Ub te Wp)) (eMB JmT eo ea) :=
 Jn1 (fun l bs b i H Q h e q=>by cases e;exact⟨l,bs,b,rfl,rfl,h,q⟩) ho ha
end
end LE

namespace LE
open PySem L2 LR
section
variable{K:Frag}{C:Addr}
end
end LE

namespace PySem
abbrev Jkg(h:Heap)(z TI TO a:Addr)(f:Bool):Prop :=
 h.get? z=some { cls:=.type "zip",dict:=none,data:=.fields #[rawInt a,.bool f,.bool false,.ref TI,.ref TO],slots:=#[] }
section
variable{prog:Program}{w:World}{A:Around}{E:Value->Shared->Prop}{s:Shared}{z TI TO i1 i2 a:Addr}{f:Bool}{oa:Obj}{p1 p2:List Addr}{n1 n2 k:Nat}{P1 P2:Nat->Value->Prop}{S1 S2:Nat->Heap->Prop}
end
end PySem

namespace PySem
section
variable{prog:Program}{w:World}{A:Around}{E:Value->Shared->Prop}{s:Shared}{b1 b2:Bool}{a1 a2 z TI TO i1 i2 S:Addr}{xs ys:Array Value}{i:Nat}
def LzSt(b1 b2:Bool)(a1 a2 z TI TO i1 i2 S:Addr)(xs ys:Array Value)(i:Nat)(h:Heap):Prop :=
 IsPair h TI (.ref i1) (.ref i2)/\(IsItr b1 h i1 a1 i/\IsSq b1 h a1 xs)/\(IsItr b2 h i2 a2 i/\IsSq b2 h a2 ys) ∧
 ((IsZip h z TI TO .none/\∃u v,IsPair h TO u v)\/∃a f oa,Jkg h z TI TO a f/\h.get? a=some oa/\a≠S/\a≠z/\a≠i1/\a≠i2)
theorem IsSq.keep{b:Bool}{h h':Heap}{a:Addr}{xs:Array Value}(q:IsSq b h a xs)(k:∀o,h.get? a=some o->h'.get? a=some o):IsSq b h' a xs:=by
 cases b with
 | true=>obtain⟨o,e,r⟩:=q;exact⟨o,k o e,r⟩
 | false=>obtain⟨o,e,r⟩:=q;exact⟨o,k o e,r⟩
theorem IsItr.keep'{b:Bool}{h h':Heap}{j a:Addr}{i:Nat}(q:IsItr b h j a i)(k:∀o,h.get? j=some o->h'.get? j=some o):IsItr b h' j a i:=by
 cases b with
 | true=>obtain⟨o,e,r⟩:=q;exact⟨o,k o e,r⟩
 | false=>obtain⟨o,e,r⟩:=q;exact⟨o,k o e,r⟩
theorem LzSt.keep{h h':Heap}(x:LzSt b1 b2 a1 a2 z TI TO i1 i2 S xs ys i h)(k:∀b o,b≠S->h.get? b=some o->h'.get? b=some o)(n:S∉[z,TI,TO,i1,i2,a1,a2]):LzSt b1 b2 a1 a2 z TI TO i1 i2 S xs ys i h':=by
 simp only[List.mem_cons,List.mem_nil_iff,or_false,not_or] at n;obtain⟨n1,n2,n3,n4,n5,n6,n7⟩:=n;obtain⟨x1,x2,x3,x4⟩:=x;refine⟨k _ _ (Ne.symm n2) x1,⟨IsItr.keep' x2.1 fun o e=>k _ o (Ne.symm n4) e,IsSq.keep x2.2 fun o e=>k _ o (Ne.symm n6) e⟩,⟨IsItr.keep' x3.1 fun o e=>k _ o (Ne.symm n5) e,IsSq.keep x3.2 fun o e=>k _ o (Ne.symm n7) e⟩,?_⟩;rcases x4 with ⟨y1,u,v,y2⟩|⟨a,f,oa,y1,y2,y3⟩
 ·exact .inl ⟨k _ _ (Ne.symm n1) y1,u,v,k _ _ (Ne.symm n3) y2⟩
 ·exact .inr ⟨a,f,oa,k _ _ (Ne.symm n1) y1,k _ _ y3.1 y2,y3⟩
end
structure LzG (xs ys:Array Value) (lo:Addr) (h:Heap) (as:List Addr):Prop where
 rise:as.Pairwise (·<·)
 above:∀a∈as,lo<a
 pairs:∀(j:Nat) (a:Addr),as[j]?=some a->∃u v,xs[j]?=some u/\ys[j]?=some v/\IsPair h a u v
theorem LzG.there{xs ys:Array Value}{lo:Addr}{h:Heap}{as:List Addr}(g:LzG xs ys lo h as){a:Addr}(ha:a∈as):a<h.objs.size:=by obtain⟨j,hj⟩:=List.mem_iff_getElem?.mp ha;obtain⟨_,_,_,_,e⟩:=g.pairs j a hj;exact Heap.lt_size e
section
variable{prog:Program}{w:World}{A:Around}{s:Shared}{R:Result->Shared->Prop}{b1 b2:Bool}{a1 a2 z TI TO i1 i2 S:Addr}{xs ys:Array Value}
end
end PySem

namespace PySem
open PySem.Calls PyProof.Rows PyProof.V PySem.Spec
section
variable{prog:Program}{w:World}{A:Around}{E:Value->Shared->Prop}{s:Shared}{b1 b2:Bool}{a1 a2 z TI TO i1 i2:Addr}{xs ys:Array Value}
end
end PySem

namespace L2
open PySem PySem.Spec PyProof.Rows
end L2

namespace LE
open PySem L2 LR
section
variable{K:Frag}{C:Addr}
end
end LE

namespace L2
open PySem PySem.Spec PyProof.Rows
section
variable{X:Cx}{pins:List (Addr×Obj)}{σ:St}{H:Hp}{s:Shared}{a:Addr}{kvs:List (Key×V)}{k:Key}{z:V}{u r:Value}{A:Around}{E:Value->Shared->Prop}
end
section
variable{X:Cx}{o e f:Expr}{apos cpos:Pos}{td ty tx:TE}
end
end L2
namespace LE
open PySem L2 LR
section
variable(K:Frag)(C:Addr)(j:Nat)
noncomputable def Left(σ:St)(E:En)(σ':St)(E':En):Prop:=σ'[j]?=σ[j]?/\∀(i:Nat) (s:Sl),E'[i]?=some s->JU s=true->E[i]?=some s/\σ'[i]?=σ[i]?
end
section
variable{K:Frag}{C:Addr}{j:Nat}
theorem Left.refl(σ:St)(E:En):Left j σ E σ E:=⟨rfl,fun _ _ e _=>⟨e,rfl⟩⟩
theorem Left.trans{σ σ1 σ2:St}{E E1 E2:En}(a:Left j σ E σ1 E1)(b:Left j σ1 E1 σ2 E2):Left j σ E σ2 E2 :=
 ⟨b.1.trans a.1,fun i s e o=>by obtain⟨h1,h2⟩:=b.2 i s e o;obtain⟨h3,h4⟩:=a.2 i s h1 o;exact⟨h3,h2.trans h4⟩⟩
end
end LE

namespace LE
open PySem L2 LR
section
variable(K:Frag)(C:Addr)
structure Grp (B H0 H:Hp) (σ:St) (E:En) (j c:Nat) (ks:List Int) (dss:List (List D)) (l:Addr) (ls:List Addr):Prop where
 at':σ[j]?=some (some (.ref l))
 dict:H l=some (dkO ks (ls.map V.ref))
 l0:H0 l=none
 lb:B l=none
 len:ks.length=ls.length
 len2:dss.length=ls.length
 cnt:ks.length<=c
 lists:∀(m:Nat) (a:Addr) (ds:List D),ls[m]?=some a->dss[m]?=some ds->ds.length<=c/\∃xs,H a=some (.lst xs)/\H0 a=none/\B a=none/\RDL K C H0 xs ds
 nd:(l::ls).Nodup
 own:∀(i:Nat) (s:Sl) (a:Addr),E[i]?=some s->JU s=true->σ[i]?=some (some (.ref a))->a∉l::ls
end
section
variable{K:Frag}{C:Addr}{B H0 H H0' H':Hp}{σ σ':St}{E E':En}{j c:Nat}{ks:List Int}{dss:List (List D)}{l:Addr}{ls:List Addr}
theorem Grp.there(g:Grp K C B H0 H σ E j c ks dss l ls){a:Addr}(ha:a∈l::ls):∃o,H a=some o/\isT o=false/\H0 a=none/\B a=none:=by
 rcases List.mem_cons.mp ha with z|z
 ·subst z;exact⟨_,g.dict,rfl,g.l0,g.lb⟩
 ·obtain⟨m,hm⟩:=List.mem_iff_getElem?.mp z;have hl:m<dss.length:=by rw[g.len2];exact(List.getElem?_eq_some_iff.mp hm).1
  obtain⟨_,xs,h1,h2,h3,_⟩:=g.lists m a dss[m] hm (List.getElem?_eq_getElem hl);exact⟨_,h1,rfl,h2,h3⟩
theorem Grp.off(g:Grp K C B H0 H σ E j c ks dss l ls)(st:Step H H0 H H0' H'){a:Addr}(ha:a∈l::ls):H0' a=none:=by
 obtain⟨o,h1,h2,h3,_⟩:=g.there ha
 cases z:H0' a with
 | none=>rfl
 | some u =>
  rcases st.n a u z with y|y|y
  ·rw[h3] at y;cases y
  ·rw[h1] at y;cases y
  ·have:=st.i a u z;rw[st.h a o h1] at this;cases this;rw[h2] at y;cases y
theorem Grp.step(g:Grp K C B H0 H σ E j c ks dss l ls)(st:Step H H0 H H0' H'):Grp K C B H0' H' σ E j c ks dss l ls :=
 ⟨g.at',st.h _ _ g.dict,g.off st List.mem_cons_self,g.lb,g.len,g.len2,g.cnt,fun m a ds e1 e2=>by obtain⟨h0,xs,h1,h2,h3,h4⟩:=g.lists m a ds e1 e2;exact⟨h0,xs,st.h _ _ h1,g.off st (List.mem_cons_of_mem _ (List.mem_of_getElem? e1)),h3,h4.mono st.z⟩,g.nd,g.own⟩
theorem Grp.left(g:Grp K C B H0 H σ E j c ks dss l ls)(f:Left j σ E σ' E'):Grp K C B H0 H σ' E' j c ks dss l ls :=
 ⟨f.1.trans g.at',g.dict,g.l0,g.lb,g.len,g.len2,g.cnt,g.lists,g.nd,fun i s a e o q=>by obtain⟨h1,h2⟩:=f.2 i s e o;exact g.own i s a h1 o (by rw[<- h2];exact q)⟩
theorem Grp.free(g:Grp K C B H0 H σ E j c ks dss l ls){a:Addr}(ha:a∈l::ls):∀(i:Nat) (s:Sl),E[i]?=some s->JU s=true->σ[i]?≠some (some (.ref a)):=fun i s e o q=>g.own i s a e o q ha
theorem EnvR.fresh(I:EnvR K C B H0 H σ E){p:Addr}(hp:H p=none):∀(i:Nat) (s:Sl),E[i]?=some s->JU s=true->σ[i]?≠some (some (.ref p)):=fun i s e o q=>by
 rcases I.at' i s e with z|⟨v,q1,q2⟩
 ·subst z;cases o
 ·rw[q1] at q;cases q
  cases s with
  | own es=>obtain⟨l',ys,p1,p2,_⟩:=q2;cases p1;rw[hp] at p2;cases p2
  | od ks es=>obtain⟨l',ys,p1,p2,_⟩:=q2;cases p1;rw[hp] at p2;cases p2
  | ot ks es=>obtain⟨l',ys,p1,p2,_⟩:=q2;cases p1;rw[hp] at p2;cases p2
  | _=>cases o
end
end LE

namespace LE
open PySem L2 LR
section
variable{K:Frag}{C:Addr}{B H0 H H0' H':Hp}{σ σ':St}{E E':En}{j c:Nat}{ks:List Int}{dss:List (List D)}{l:Addr}{ls:List Addr}
noncomputable def JeS(H0 H:Hp)(ls:List Addr):Hp:=fun a=>if a∈ls then H a else H0 a
theorem Jak{Hz:Hp}:∀{ls:List Addr} {dss:List (List D)},dss.length=ls.length->(∀(m:Nat) (a:Addr) (ds:List D),ls[m]?=some a->dss[m]?=some ds->∃xs,Hz a=some (.lst xs)/\RDL K C Hz xs ds)->RDL K C Hz (ls.map V.ref) (dss.map .lst)
 | [],[],_,_=>.nil
 | [],_::_,h,_=>by simp at h
 | _::_,[],h,_=>by simp at h
 | a::ls,ds::dss,h,f=>by obtain⟨xs,h1,h2⟩:=f 0 a ds rfl rfl;exact .cons (.mkL h1 h2) (Jak (by simpa using h) fun m a ds e1 e2=>f (m+1) a ds (by simpa using e1) (by simpa using e2))
theorem Grp.done(I:EnvR K C B H0 H σ E)(g:Grp K C B H0 H σ E j c ks dss l ls)(hj:j<E.length):SStep B H0 (JeS H0 H ls) H/\EnvR K C B (JeS H0 H ls) H σ (E.set j (.od ks (dss.map .lst))):=by
 have out:∀{a:Addr},a∉ls->JeS H0 H ls a=H0 a:=fun {a} h=>if_neg h
 have inn:∀{a:Addr},a∈ls->JeS H0 H ls a=H a:=fun {a} h=>if_pos h
 have z:Same H0 (JeS H0 H ls):=fun a o e=>by
  by_cases c:a∈ls
  ·rw[inn c];exact I.h a o e
  ·rw[out c];exact e
 have i:Same (JeS H0 H ls) H:=fun a o e=>by
  by_cases c:a∈ls
  ·rw[inn c] at e;exact e
  ·rw[out c] at e;exact I.h a o e
 have ln:l∉ls:=(List.nodup_cons.mp g.nd).1;refine⟨⟨I.b,z,fun a o e=>?_,i⟩,I.b,i,by simp[I.len],fun k s e=>?_,fun k m s t v hkm e1 e2 o1 o2 e3 e4=>?_⟩
 ·by_cases c:a∈ls
  ·exact .inr (.inl (g.there (List.mem_cons_of_mem _ c)).choose_spec.2.2.2)
  ·rw[out c] at e;exact .inl e
 ·rw[List.getElem?_set] at e
  by_cases c:j=k
  ·subst c;rw[if_pos rfl,if_pos hj] at e;have e':=Option.some.inj e;subst e';refine .inr ⟨_,g.at',l,ls.map V.ref,rfl,g.dict,by rw[out ln];exact g.l0,g.lb,by rw[List.length_map,g.len2];exact g.len,Jak g.len2 fun m a ds q1 q2=>?_⟩;obtain⟨_,xs,h1,_,_,h4⟩:=g.lists m a ds q1 q2;exact⟨xs,by rw[inn (List.mem_of_getElem? q1)];exact h1,h4.mono z⟩
  ·rw[if_neg c] at e;rcases I.at' k s e with y|⟨v,q1,q2⟩
   ·exact .inl y
   ·refine .inr ⟨v,q1,?_⟩
    cases s with
    | no=>trivial
    | sh d=>exact RD.mono z q2
    | bo es=>obtain⟨l',ys,p1,p2,p3⟩:=q2;exact⟨l',ys,p1,p2,p3.mono z⟩
    | bd ks es=>obtain⟨l',ys,p1,p2,p3,p4⟩:=q2;exact⟨l',ys,p1,p2,p3,p4.mono z⟩
    | bt ks es=>obtain⟨l',ys,p1,p2,p3,p4⟩:=q2;exact⟨l',ys,p1,p2,p3,p4.mono z⟩
    | own es=>obtain⟨l',ys,p1,p2,p3,p4,p5⟩:=q2;subst p1;have:=g.own k _ l' e rfl q1;exact⟨l',ys,rfl,p2,by rw[out fun m=>this (List.mem_cons_of_mem _ m)];exact p3,p4,p5.mono z⟩
    | od ks es=>obtain⟨l',ys,p1,p2,p3,p4,p5,p6⟩:=q2;subst p1;have:=g.own k _ l' e rfl q1;exact⟨l',ys,rfl,p2,by rw[out fun m=>this (List.mem_cons_of_mem _ m)];exact p3,p4,p5,p6.mono z⟩
    | ot ks es=>obtain⟨l',ys,p1,p2,p3,p4,p5,p6⟩:=q2;subst p1;have:=g.own k _ l' e rfl q1;exact⟨l',ys,rfl,p2,by rw[out fun m=>this (List.mem_cons_of_mem _ m)];exact p3,p4,p5,p6.mono z⟩
 ·have get:∀(i:Nat) (s:Sl),(E.set j (Sl.od ks (dss.map .lst)))[i]?=some s->i=j\/(i≠j/\E[i]?=some s):=fun i s e=>by
   rw[List.getElem?_set] at e
   by_cases c:j=i
   ·exact .inl c.symm
   ·rw[if_neg c] at e;exact .inr ⟨fun z=>c z.symm,e⟩
  rcases get k s e1 with y1|⟨n1,y1⟩
  ·subst y1;rcases get m t e2 with y2|⟨n2,y2⟩
   ·exact hkm y2.symm
   ·rw[g.at'] at e3;have e3':=Option.some.inj (Option.some.inj e3);subst e3';exact g.own m t l y2 o2 e4 List.mem_cons_self
  ·rcases get m t e2 with y2|⟨n2,y2⟩
   ·subst y2;rw[g.at'] at e4;have e4':=Option.some.inj (Option.some.inj e4);subst e4';exact g.own k s l y1 o1 e3 List.mem_cons_self
   ·exact I.sep k m s t v hkm y1 y2 o1 o2 e3 e4
end
end LE

namespace L2
open PySem PySem.Spec PyProof.Rows
noncomputable def Jac:List Int->List Int->Bool
 | [],_=>true
 | _::_,[]=>false
 | x::xs,y::ys=>if x=y then Jac xs ys else decide (x<=y)
theorem Ze(x y:Int)(xs ys:List Int):Jac (x::xs) (y::ys)=if x=y then Jac xs ys else decide (x<=y):=rfl
section
open PySem.SeqAt
open PySem.AutoSeq1 (wpAny_loadPart')
open PySem.MeetsSeq PySem.MeetsSeq2 PySem.MeetsSeq3
end
section
variable{prog:Program}{w:World}{A:Around}{E:Value->Shared->Prop}{s:Shared}
end
end L2
namespace LE
open PySem L2 LR
noncomputable def JnS:Sl->Sl->Option Sl
 | .sh (.tup ds),.sh (.tup es)=>(ints? ds).bind fun ns=>(ints? es).map fun ms=>.sh (.bl (Jac ns ms))
 | _,_=>none
section
variable{K:Frag}{C:Addr}
theorem Jik(a b c d:Int):JnS (.sh (.tup [.int a,.int b])) (.sh (.tup [.int c,.int d]))=some (.sh (.bl (if a=c then decide (b<=d) else decide (a<=c)))):=by
 show some (Sl.sh (.bl (Jac [a,b] [c,d])))=_;rw[Ze];split
 ·rw[Ze];split
  ·next h=>rw[h];simp[Jac]
  ·rfl
 ·rfl
end
end LE

namespace L2
open PySem PySem.Spec PyProof.Rows
section
open PySem.SeqAt
open PySem.AutoSeq1 (wpAny_loadPart')
open PySem.MeetsSeq PySem.MeetsSeq2 PySem.MeetsSeq3
end
section
variable{prog:Program}{w:World}{A:Around}{E:Value->Shared->Prop}{s:Shared}
end
end L2
namespace LE
open PySem L2 LR
section
variable{K:Frag}{C:Addr}
end
end LE

namespace L2
open PySem PySem.Spec PyProof.Rows
end L2
namespace LE
open PySem L2 LR
section
variable{K:Frag}{C:Addr}
end
end LE

namespace LE
open PySem L2 LR
section
variable{K:Frag}{C:Addr}{W:XK}{t:TA}{ev:En->Option (List Sl)}{ts us:TS}{x:Xv}{H:Hp}
end
end LE

namespace PySem
open PySem.Calls PyProof.Rows PyProof.V PySem.Spec
section
variable{prog:Program}{w:World}{A:Around}{E:Value->Shared->Prop}{s:Shared}{r a:Addr}{xs:Array Value}{n:Nat}
end
end PySem
namespace L2
open PySem PySem.Spec PyProof.Rows
end L2
namespace LE
open PySem L2 LR
section
variable{K:Frag}{C:Addr}
end
end LE

namespace L2
open PySem PySem.Spec PyProof.Rows PySem.Calls
section
variable{X:Cx}
end
end L2
namespace L2
open PySem PySem.Spec PyProof.Rows PySem.Calls
section
variable{X:Cx}{es:List Expr}{t:TA}{x:Str}{j:Nat}{p:Pos}
structure PSi (X:Cx) (st:Stmt) (ts:TS):Prop where
 out:PS X st ts
structure PSsi (X:Cx) (ss:List Stmt) (ts:TS):Prop where
 out:PSs X ss ts
end
end L2

namespace LE
open PySem L2 LR
noncomputable def JmJ(ys:List Str)(r:En->Option (List Sl)):En->Option (List Sl):=fun E=>(r E).map fun ss=>ys.map (fun y=>.sh (.str y))++ss
section
variable{K:Frag}{C:Addr}{te:TE}{ea:Ev}{tl th:TO}{el eh:Option Ev}{m:Bool}
end
end LE

namespace L2
open PySem PySem.Spec PyProof.Rows PySem.Calls
section
variable{X:Cx}
end
end L2
namespace LE
open PySem L2 LR
section
variable{K:Frag}{C:Addr}{to te:TE}{eo ea:Ev}{Hs H0 H:Hp}{v:V}
end
end LE

namespace L2
open PySem PySem.Spec PyProof.Rows PySem.Calls
section
variable{X:Cx}
end
end L2
namespace LE
open PySem L2 LR
section
variable{K:Frag}{C:Addr}
end
end LE

namespace PySem
open AutoSeq1 (wpAny_loadPart')
section
variable{prog:Program}{w:World}{A:Around}{E:Value->Shared->Prop}{s:Shared}
end
section
variable{prog:Program}{w:World}{A:Around}{E:Value->Shared->Prop}{s:Shared}
end
section
variable{prog:Program}{w:World}{A:Around}{E:Value->Shared->Prop}{s:Shared}{b:Bool}{a e it:Addr}{xs:Array Value}
end
end PySem
namespace L2
open PySem PySem.Spec PyProof.Rows
end L2
namespace LE
open PySem L2 LR
section
variable{K:Frag}{C:Addr}{m:Bool}
end
end LE

namespace L2
open PySem PySem.Spec PyProof.Rows PySem.Calls
section
variable{X:Cx}{K:Frag}{e:Expr}{te:TE}{p2 pos:Pos}
end
end L2
namespace LE
open PySem L2 LR
section
variable{K:Frag}{C:Addr}{te:TE}{ea:Ev}
end
end LE

namespace LE
open PySem L2 LR
section
variable{K:Frag}{C:Addr}
end
end LE

namespace L2
open PySem PySem.Spec PyProof.Rows
structure Blk1 (X:Cx) (sc:Scope) (cl:List (Str×Addr)) (y:Str) (N':List Str) (imp:List (Option Nat)):Prop where
 clos:closureFor sc X.env=pure cl
 kind:sc.kind=.function
 cf:∀n,cellsFrom n sc.names cl=(y,n)::cl
 cf0:∀n,cellsFrom n sc.names []=[(y,n)]
 names:∀y∈sc.names,y.2=.local->sc.names.lookup y.1=some .local
 sub:∀p∈cl,X.env.cells.lookup p.1=some p.2
 has:∀z∈(relabel sc X.env).names,(z.2=.cell\/z.2=.free)->z.1=y\/(cl.lookup z.1).isSome=true
 len:imp.length=N'.length
 im:∀p∈imp.zip N',∀k,p.1=some k->p.2≠y/\X.N[k]?=some p.2/\(X.env.scope.names.lookup p.2=some .cell\/X.env.scope.names.lookup p.2=some .free)/\((relabel sc X.env).names.lookup p.2=some .cell\/(relabel sc X.env).names.lookup p.2=some .free)
section
variable{X:Cx}{tg iter elt:Expr}{ifs:List Expr}{sc:Scope}{cl:List (Str×Addr)}{y:Str}{N':List Str}{imp:List (Option Nat)}{pos:Pos}{wi:TI}{g:TG}{tt:TT}{te:TE}
theorem Blk1.subL(B:Blk1 X sc cl y N' imp):∀x c,cl.lookup x=some c->X.env.cells.lookup x=some c:=fun x c e=>B.sub (x,c) (UX e)
end
end L2

namespace L2
open PySem PySem.W PyProof.Rows
structure Pm (p:Array Nat) (N:Nat):Prop where
 size:p.size=N
 low:∀a,a<N->p.getD a 0<N
 inj:∀a b,a<N->b<N->p.getD a 0=p.getD b 0->a=b
theorem Jlf{l:List Nat}(nd:l.Nodup){a b:Nat}(h1:a<l.length)(h2:b<l.length)(e:l[a]=l[b]):a=b:=by
 rcases Nat.lt_trichotomy a b with c|c|c
 ·exact absurd e (List.pairwise_iff_getElem.mp nd a b h1 h2 c)
 ·exact c
 ·exact absurd e.symm (List.pairwise_iff_getElem.mp nd b a h2 h1 c)
theorem Pm.of{p:Array Nat}{N:Nat}(h:p.toList.Perm (List.range N)):Pm p N:=by
 have hz:p.size=N:=by have:=h.length_eq;simpa using this
 have get:∀a,a<N->p.toList[a]?=some (p.getD a 0):=fun a ha=>by rw[Array.getElem?_toList,Array.getElem?_eq_getElem (by omega)];simp[Array.getD,show a<p.size by omega]
 refine⟨hz,fun a ha=>?_,fun a b ha hb e=>?_⟩
 ·have:=h.mem_iff.mp (List.mem_of_getElem? (get a ha))
  simpa using this
 ·have nd:p.toList.Nodup:=h.nodup_iff.mpr List.nodup_range
  have ga:=get a ha
  have gb:=get b hb;rw[e] at ga;obtain⟨h1,e1⟩:=List.getElem?_eq_some_iff.mp ga;obtain⟨h2,e2⟩:=List.getElem?_eq_some_iff.mp gb;exact Jlf nd h1 h2 (e1.trans e2.symm)
section
variable{N:Nat}{lt:Nat->Nat->Bool}{cmp:Nat->Nat->(Bool->Shared->Prop)->Shared->Prop}{I:Shared->Prop}
end
end L2

namespace L2
open PySem PySem.W PyProof.Rows
section
variable{prog:Program}{w:World}{A:Around}{E:Value->Shared->Prop}{s:Shared}
end
end L2

namespace L2
open PySem PySem.W PyProof.Rows
noncomputable abbrev PrI:=Int×Int
noncomputable def TupP(h:Heap)(v:Value)(p:PrI):Prop:=∃a o n t u,v=.ref a/\h.get? a=some o/\o.cls=.type "tuple"/\o.data=.seq #[.int p.1 t,.int p.2 u] n
section
variable{prog:Program}{w:World}{A:Around}{E:Value->Shared->Prop}{s:Shared}
theorem TupP.off{h h1:Heap}{a:Addr}{vs:Array Value}{n:Nat}{v:Value}{p:PrI}(ho:h.get? a=some (seqObj "list" vs n))(keep:∀b ob,b≠a->h.get? b=some ob->h1.get? b=some ob)(t:TupP h v p):TupP h1 v p:=by obtain⟨b,o,m,t,u,rfl,hb,hc,hd⟩:=t;refine⟨b,o,m,t,u,rfl,keep b o (fun e=>?_) hb,hc,hd⟩;subst e;rw[ho] at hb;cases hb;have z:(Value.type "list":Value)=.type "tuple":=hc;exact absurd z (by decide)
end
end L2

namespace L2
open PySem PySem.Spec PySem.W PyProof.Rows
section
variable{prog:Program}{w:World}{A:Around}{E:Value->Shared->Prop}{s:Shared}
end
section
variable{X:Cx}
end
end L2

namespace L2
open PySem PySem.Spec PySem.W PyProof.Rows
noncomputable def RawD(h:Heap)(d:Addr)(es:Array DictEntry)(ep:Nat):Prop:=∃o,h.get? d=some o/\o.ExactDict/\o.data=.dict es ep
section
variable{prog:Program}{w:World}{A:Around}{E:Value->Shared->Prop}{s:Shared}{it d v:Addr}{i ep:Nat}{es:Array DictEntry}
theorem RawD.at{h h':Heap}(x:RawD h d es ep)(e:∀o,h.get? d=some o->h'.get? d=some o):RawD h' d es ep:=let ⟨o,ho,r⟩:=x;⟨o,e _ ho,r⟩
theorem RawD.lt{h:Heap}(x:RawD h d es ep):d<h.objs.size:=let ⟨_,ho,_⟩:=x;Heap.lt_size ho
end
end L2

namespace L2
open PySem PySem.Spec PySem.W PyProof.Rows
theorem KT.get{H:Hp}:∀{kvs:List (List Key×V)} {xs:List (List Key×Addr×Value)},KT H kvs xs->kvs.length=xs.length/\∀(i:Nat) (k:List Key×V) (x:List Key×Addr×Value),kvs[i]?=some k->xs[i]?=some x->k.1=x.1/\H x.2.1=some (.tup (k.1.map kV))
 | _,_,.nil=>⟨rfl,fun i k x e=>by simp at e⟩
 | _,_,.cons h t=>by
  obtain⟨h1,h2⟩:=KT.get t;refine⟨by simp[h1],fun i k x e1 e2=>?_⟩
  cases i with
  | zero=>simp at e1 e2;subst e1 e2;exact⟨h.1,h.2.1⟩
  | succ i=>exact h2 i k x (by simpa using e1) (by simpa using e2)
end L2

namespace L2
open PySem PySem.Spec PySem.W PyProof.Rows
end L2
namespace LE
open PySem L2 LR
section
variable{K:Frag}{C:Addr}{Hs H0 H:Hp}
end
noncomputable def Sl.dt:Sl->Option (List (Int×Int)×List D)
 | .bt ks ds=>some (ks,ds)
 | .ot ks ds=>some (ks,ds)
 | _=>none
noncomputable def pr?:Sl->Option (Int×Int)
 | .sh (.tup [.int a,.int b])=>some (a,b)
 | _=>none
section
variable{K:Frag}{C:Addr}{Hs H0 H:Hp}{td ty te tk1 tk2:TE}{ed ek ea k1 k2:Ev}
theorem RR.dt{v:V}{s:Sl}{p:List (Int×Int)×List D}(r:RR K C Hs H0 H v s)(e:s.dt=some p):∃l xs,v=.ref l/\H l=some (dtO p.1 xs)/\p.1.length=p.2.length/\RDL K C H0 xs p.2:=by
 cases s with
 | bt ks ds=>cases e;exact r
 | ot ks ds=>cases e;obtain⟨l,xs,h1,h2,_,_,h3⟩:=r;exact⟨l,xs,h1,h2,h3⟩
 | _=>cases e
noncomputable def Jm2:List Sl->Option (Int×Int)
 | [.sh (.int a),.sh (.int b)]=>some (a,b)
 | _=>none
end
end LE

namespace LE
open PySem L2 LR
section
variable{K:Frag}{C:Addr}
theorem RDL.eraseIdx{H:Hp}:∀{xs:List V} {ds:List D} (k:Nat),RDL K C H xs ds->RDL K C H (xs.eraseIdx k) (ds.eraseIdx k)
 | [],[],_,h=>by simpa using h
 | [],_::_,_,h=>by have:=h.1;simp at this
 | _::_,[],_,h=>by have:=h.1;simp at this
 | x::xs,d::ds,0,h=>by simpa using h.tail
 | x::xs,d::ds,k+1,h=>by rw[List.eraseIdx_cons_succ,List.eraseIdx_cons_succ];exact .cons h.head (RDL.eraseIdx k h.tail)
end
end LE

namespace LE
open PySem L2 LR
section
variable{X:Cx}
end
section
variable{K:Frag}{C:Addr}
end
end LE

namespace L2
open PySem
noncomputable def Ris(xs:Array Nat):Prop:=xs.toList.Pairwise (·<·)
theorem Ris.lt{xs:Array Nat}(r:Ris xs){i j:Nat}(h:i<j)(hj:j<xs.size):xs[i]'(by omega)<xs[j]:=by
 have:=List.pairwise_iff_getElem.mp r i j (by simp;omega) (by simpa using hj) h
 simpa using this
noncomputable def TOk(led:Bool)(t:SetTable):Prop:=(t.plain=true->Ris t.place)/\t.led=led
end L2

namespace L2
open PySem PyProof.Rows
structure SetS (prog:Program) (w:World) (led:Bool) (h:Heap) (a:Addr) (S:Int->Bool) (n:Nat) (o:Obj) (es:Array (Int×Value)) (ep:Nat) (t:SetTable):Prop where
 got:h.get? a=some o
 ex:o.ExactSet
 data:o.data=.set es ep t
 els:ElemsOf (intKind prog w) es.toList
 mem:∀k,S k=true↔∃e∈es.toList,(intKind prog w).is k e.2=true
 few:es.size<scanBound
 fits:t.fits es.size=true
 size:es.size=n
 tok:TOk led t
noncomputable def SetL(prog:Program)(w:World)(led:Bool)(h:Heap)(a:Addr)(S:Int->Bool)(n:Nat):Prop:=∃o es ep t,SetS prog w led h a S n o es ep t
section
variable{prog:Program}{w:World}{A:Around}{E:Value->Shared->Prop}{s:Shared}{led:Bool}{a:Addr}{S:Int->Bool}{n:Nat}
theorem SetL.as{h:Heap}{S':Int->Bool}{n':Nat}(x:SetL prog w led h a S n)(e:∀k,S k=S' k)(en:n=n'):SetL prog w led h a S' n':=by have:S=S':=funext e;subst this en;exact x
end
section
variable{prog:Program}{w:World}{A:Around}{R:Result->Shared->Prop}{I:Addr}{fp wr:List Addr}{G:Array GenState->Array GenState->Prop}{n:Nat}{P:Nat->Value->Prop}{St:Nat->Shared->Prop}
end
end L2

namespace L2
open PySem PyProof.Rows
section
variable{prog:Program}{w:World}{A:Around}{E:Value->Shared->Prop}{s:Shared}
end
end L2

namespace L2
open PySem PyProof.Rows PySem.W
end L2

namespace L2
open PySem PyProof.Rows PySem.W
noncomputable def SIt(h:Heap)(I d:Addr)(f:Value)(i n ep:Nat):Prop:=∃o,h.get? I=some o/\o.cls=.type "set_iterator"/\o.data=.fields #[f,.int i 0,.ref d,.int n 0,.int ep 0]
section
variable{prog:Program}{w:World}{A:Around}{E:Value->Shared->Prop}{s:Shared}{I d:Addr}{f:Value}{i n ep:Nat}{es:Array (Int×Value)}{t:SetTable}{o:Obj}
theorem SIt.type{s:Shared}(x:SIt s.heap I d f i n ep):s.TypeIs (.ref I) "set_iterator":=let ⟨o,ho,hc,_⟩:=x;⟨o,ho,hc⟩
theorem SIt.at{h h':Heap}(x:SIt h I d f i n ep)(e:∀o,h.get? I=some o->h'.get? I=some o):SIt h' I d f i n ep:=let ⟨o,ho,r⟩:=x;⟨o,e _ ho,r⟩
noncomputable def SHas(h:Heap)(d:Addr)(es:Array (Int×Value))(ep:Nat)(t:SetTable):Prop:=∃o,h.get? d=some o/\o.ExactSet/\o.data=.set es ep t
theorem SHas.at{h h':Heap}(x:SHas h d es ep t)(e:∀o,h.get? d=some o->h'.get? d=some o):SHas h' d es ep t:=let ⟨o,ho,r⟩:=x;⟨o,e _ ho,r⟩
end
end L2

namespace L2
open PySem PyProof.Rows PySem.W PySem.Spec
section
variable{prog:Program}{w:World}{A:Around}{E:Value->Shared->Prop}{s:Shared}{d:Addr}{ep:Nat}{es:Array (Int×Value)}{t:SetTable}
end
section
variable{X:Cx}
theorem PE.imp{e:Expr}{t1 t2:TE}(h:PE X e t1)(i:∀σ H Q,t2 σ H Q->t1 σ H Q):PE X e t2:=fun pins s σ H Q I x=>h pins s σ H Q I (i σ H Q x)
end
section
variable{X:Cx}{e:Expr}{te:TE}{p1 p2 q1 q2:Pos}
end
end L2

namespace LE
open PySem L2 LR
section
variable{K:Frag}{C:Addr}{td:TE}{ed:Ev}
end
end LE

namespace L2
open PySem PyProof.Rows PySem.W PySem.Spec
section
variable{X:Cx}
end
end L2
namespace LE
open PySem L2 LR
section
variable{K:Frag}{C:Addr}
end
end LE

namespace L2
open PySem PyProof.Rows PySem.W PySem.Spec
end L2
namespace LE
open PySem L2 LR
section
variable{K:Frag}{C:Addr}
end
end LE

namespace L2
open PySem PyProof.Rows PySem.W PySem.Spec
theorem Je6:typeLookup (.type "list") "keys"=pure none:=by rw[typeLookup_type,builtinLookup_eq_fast];kernel_rfl
section
variable{prog:Program}{w:World}{A:Around}{E:Value->Shared->Prop}{s:Shared}
theorem Jev{a:Addr}{o:Obj}{xs:Array Value}{k:Nat}{Q:Option Value->Shared->Prop}(hx:s.heap.get? a=some o)(hc:o.cls=.type "list")(hdat:o.data=.seq xs k)(hd:o.dict=none)(hA:A.handled=none)
 (h:∀h' tk,(∀b ob,s.heap.get? b=some ob->h'.get? b=some ob)->Q none { s with heap:=h',toks:=tk }):wpAny (model prog w) A (getAttr? (.ref a) "keys") Q E s:=by
 obtain⟨c,dct,dat,sl⟩:=o;simp only at hc hdat hd;subst hc hdat hd;obtain⟨hp,g,d,tk,os⟩:=s;have hT:∀tk',(⟨hp,g,d,tk',os⟩:Shared).TypeIs (.ref a) "list":=fun _=>⟨_,hx,rfl⟩
 have f1:=sub_AttributeError
 have f3:=PySem.F.slot_list_getattribute.lookup
 have f4:=PySem.F.slot_list_getattribute.bind (.ref a)
 have f5:=am_list_getattr_none
 have hmiss:=Je6;unfold getAttr? getAttrBy? getAttrBy
 repeat (any_goals (first | assumption | exact hT _ | ((with_reducible show wpAny _ _ (call (Value.builtin "list.__getattribute__") _ _) _ _ _);refine call_meets PySem.F.slot_list_getattribute (hT _) am_entry_list_getattribute (PySem.F.args_list_getattribute_2 _ _) (meets_getattribute_miss_list a xs k sl "keys" _ hmiss (by decide)) ⟨hx,hA,fun h' tk' e hx'=>?_⟩) | wp_step))
 obtain⟨t',u',he⟩:=hx'.there;show wpAny _ _ (getattributeRaised _ _ _ _ _ _ _) _ _ _;unfold getattributeRaised
 repeat (any_goals (first|assumption|wp_step))
 exact h h' tk' hx'.of.keeps
end
theorem Jao:entryFor table "dict.update.loop"=some Builtin.«dict.update.loop»:=entryFor_of_tree (by kernel_rfl)
theorem Vm:plainId "dict.update.loop"=true:=by decide +kernel
noncomputable def Vp(ps:Nat->Int×Value)(i:Nat):List (Key×Value):=(List.range i).foldl (fun acc j=>stored acc (.inl (ps j).1) (ps j).2) []
theorem Vu(ps:Nat->Int×Value)(i:Nat):Vp ps (i+1)=stored (Vp ps i) (.inl (ps i).1) (ps i).2:=by unfold Vp;rw[List.range_succ,List.foldl_append];rfl
theorem ZW(ps:Nat->Int×Value):∀i,(Vp ps i).length<=i
 | 0=>Nat.le_refl _
 | i+1=>by rw[Vu];have:=ZW ps i;have:=stored_length_le (Vp ps i) (.inl (ps i).1:Key) (ps i).2;omega
section
variable{prog:Program}{w:World}{A:Around}{R:Result->Shared->Prop}{I:Addr}{fp wr:List Addr}{G:Array GenState->Array GenState->Prop}{n:Nat}{P:Nat->Value->Prop}{St:Nat->Shared->Prop}
theorem JeJ(W:WalksS prog w A.in1 I fp wr G n P St)(d:Addr)(hf:d∉fp)(ps:Nat->Int×Value)(h0:Heap)
 (hv:∀i v,P i v->∃b ob c t,v=.ref b/\h0.get? b=some ob/\b∉d::wr/\ob.cls=.type "tuple"/\ob.data=.seq #[.int (ps i).1 t,(ps i).2] c) (hb:n<=10000) :
 ∀(k i:Nat) (s:Shared),n-i=k->i<=n->St i s->(∀b o,b∉d::wr->h0.get? b=some o->s.heap.get? b=some o)->s.heap.DictOf (JC prog w) d (Vp ps i) ->
  (∀s',Moved (d::wr) G s s'->s'.heap.DictOf (JC prog w) d (Vp ps n)->R (.ok (.ret .none)) s') ->
  codeAny (model prog w) A (.builtin "dict.update.loop" ⟨[.ref d,.ref I,.int (i:Int) 0,.none],[]⟩) R s:=by
 have hw:d∉wr:=fun h=>hf (W.sub _ h)
 have up:∀b∈wr,b∈d::wr:=fun b hb=>List.mem_cons_of_mem _ hb
 intro k
 induction k with
 | zero =>
  intro i s hk hi st old hD hR;obtain rfl:i=n:=by omega
  refine codeAny_builtin Jao ?_;rw[Around.under_plainId Vm _];show wpAny _ A.in1 (pyNext (.ref I) >>= _) _ _ s;refine wpAny_bind (W.done s _ _ st fun s' hm=>?_);show wpAny _ A.in1 (Builtin.Dict.addKeywords d [] >>= fun _=>ret Value.none) _ _ s';obtain⟨o,es,ep,ho,r⟩:=hD;exact wpAny_bind (wpAny_pure (wpAny_pure (hR s' (hm.mono up) ⟨o,es,ep,hm.heap d _ hw ho,r⟩)))
 | succ k ih =>
  intro i s hk hi st old hD hR;have lt:i<n:=by omega
  refine codeAny_builtin Jao ?_;rw[Around.under_plainId Vm _];show wpAny _ A.in1 (pyNext (.ref I) >>= _) _ _ s;refine wpAny_bind (W.item i s _ _ lt st fun v s' hP st' hm=>?_);obtain⟨b,ob,c,t,rfl,hb0,hbn,hbc,hbd⟩:=hv i v hP;have hbs:s'.heap.get? b=some ob:=hm.heap b _ (fun m=>hbn (up b m)) (old b ob hbn hb0)
  have hD':s'.heap.DictOf (JC prog w) d (Vp ps i):=by obtain⟨o,es,ep,ho,r⟩:=hD;exact⟨o,es,ep,hm.heap d _ hw ho,r⟩
  show wpAny _ A.in1 (holding [Value.ref b] _ >>= _) _ _ s';refine wpAny_bind (wpAny_holding ?_);refine wpAny_bind (wpAny_tryCatch ?_);unfold Builtin.Dict.pairItems;refine wpAny_bind (wpAny_typeOf (T:="tuple") ⟨ob,hbs,hbc⟩ ?_);rw[if_pos (by decide)];unfold seqItems?;refine wpAny_bind (wpAny_bind (wpAny_load hbs ?_));rw[hbd];refine wpAny_pure (wpAny_pure ?_)
  show wpAny _ A.in1 (holding [_,_] (dictSet d (.int (ps i).1 t) (ps i).2)) _ _ s';refine wpAny_holding (wpAny_dictSet_pairs (knd:=JC prog w) (k:=.inl (ps i).1) (Wx _ _ _ _) hD' (fun h' hd sb=>?_) (by have:=ZW ps i;show _<=16777216;omega));rw[<- Vu] at hd;refine wpAny_pure ⟨plainId_quiet Vm _,?_⟩
  have e:(Value.int ((i:Int)+1) 0)=.int ((i+1:Nat):Int) 0:=by congr 1
  show codeAny _ A (.builtin "dict.update.loop" ⟨[.ref d,.ref I,.int ((i:Int)+1) 0,.none],[]⟩) R _;rw[e];refine ih (i+1) _ (by omega) lt (W.frame _ s' _ _ st' (Nat.le_succ _) fun b hb o e=>?_) (fun b o hb e=>?_) hd fun s'' hm'' hS''=>?_
  ·rw[sb.2 b (fun h:b=d=>hf (by rw[<- h];exact hb))];exact e
  ·rw[sb.2 b (fun h:b=d=>hb (by rw[h];exact List.mem_cons_self))];exact hm.heap b _ (fun m=>hb (up b m)) (old b o hb e)
  ·refine hR s'' (Moved.trans W.gtrans ((hm.mono up).then_heap (Nat.le_succ _) fun b o hb e=>?_) hm'') hS'';rw[sb.2 b (fun h:b=d=>hb (by rw[h];exact List.mem_cons_self))];exact e
end
section
variable{prog:Program}{w:World}{A:Around}{E:Value->Shared->Prop}{s:Shared}
theorem Jcr{l:Addr}{items:Array Value}{o:Obj}{nl:Nat}{ps:Nat->Int×Value}{Q:Value->Shared->Prop}(hh:A.handled=none)(hl:s.heap.get? l=some o)(hlc:o.cls=.type "list")(hld:o.data=.seq items nl)(hldc:o.dict=none)
 (hi:∀i v,items[i]?=some v->∃b ob c t,v=.ref b/\s.heap.get? b=some ob/\ob.cls=.type "tuple"/\ob.data=.seq #[.int (ps i).1 t,(ps i).2] c) (hn:items.size<=10000)
 (h:∀h' tk,h'.DictOf (JC prog w) s.heap.objs.size (Vp ps items.size)->(∀b ob,s.heap.get? b=some ob->h'.get? b=some ob)->Q (.ref s.heap.objs.size) { s with heap:=h',toks:=tk }) :
 wpAny (model prog w) A (call (.type "dict") [.ref l]) Q E s:=by
 refine callType_codes (Q₁:=fun obj s1=>obj=.ref s.heap.objs.size/\s1={ s with heap:=s.heap.push { cls:=.type "dict",data:=.dict #[] } }) PySem.F.kt_called_dict (PySem.F.kt_typeCall_dict_1 _) PySem.F.entry_dict_init (kt_code_dict_new _ ⟨rfl,rfl⟩) ?_;rintro obj s1 ⟨rfl,rfl⟩;have new:(s.heap.push { cls:=.type "dict",data:=.dict #[] }).DictOf (JC prog w) s.heap.objs.size []:=Heap.DictOf.new s.heap;have hl':(s.heap.push { cls:=.type "dict",data:=.dict #[] }).get? l=some o:=Heap.get?_push_of_some _ hl
 have lt:l<s.heap.objs.size:=Heap.lt_size hl;refine⟨new.typeIs,PySem.F.args_dict_init_2 _ _,?_⟩;unfold Builtin.«dict.__init__»;refine wpAny_bind ?_;unfold Builtin.Dict.selfAndRest;refine wpAny_bind (wpAny_notOrdered_dict new.typeIs ?_)
 show wpAny _ _ (pure (s.heap.objs.size,[Value.ref l])) _ _ _;refine wpAny_pure ?_
 show wpAny _ _ (Builtin.Dict.updateFrom "dict.__init__" s.heap.objs.size (.ref l) [] .none) _ _ _;unfold Builtin.Dict.updateFrom;refine wpAny_bind (wpAny_typeOf (T:="list") ⟨o,hl',hlc⟩ ?_);rw[if_pos (by decide)];refine wpAny_bind (Jev (A:=A.in1.in1) hl' hlc hld hldc (by simpa using hh) fun h1 tk1 k1=>?_);rw[if_pos (by rfl)];refine wpAny_bind (wpAny_rule ?_)
 have hl1:h1.IsList l items:=⟨o,k1 l o hl',hlc,nl,hld⟩
 refine wpAny_bind (wpAny_pyIter_list hl1 ?_);have old1:∀b ob,s.heap.get? b=some ob->h1.get? b=some ob:=fun b ob e=>k1 b ob (Heap.get?_push_of_some _ e)
 have dlt:s.heap.objs.size<h1.objs.size:=by obtain⟨od,_,_,hod,_⟩:=new;exact Heap.lt_size (k1 _ _ hod)
 have off:s.heap.objs.size∉[h1.objs.size,l]:=by simp only[List.mem_cons,List.mem_singleton,List.not_mem_nil,or_false,not_or];exact⟨Nat.ne_of_lt dlt,Nat.ne_of_gt lt⟩
 have l1:l<h1.objs.size:=Nat.lt_trans lt dlt;refine wpAny_pure ⟨plainId_quiet Vm _,?_⟩;refine JeJ (A:=A.in1) ((Walks.list (by simpa using hh) _ l (Nat.ne_of_lt l1) items).toS) s.heap.objs.size off ps s.heap (fun i v hv=>?_) hn (items.size-0) 0 _ (by omega) (Nat.zero_le _)
  ⟨⟨_,Heap.get?_push_size _ rfl,rfl,rfl⟩,hl1.push _⟩ (fun b ob _ e=>Heap.get?_push_of_some _ (old1 b ob e)) ?_ fun s' hm hD=>?_
 ·obtain⟨b,ob,c,t,e,hb,hc,hd⟩:=hi i v hv;have hbl:=Heap.lt_size hb;refine⟨b,ob,c,t,e,hb,?_,hc,hd⟩;simp only[List.mem_cons,List.mem_singleton,List.not_mem_nil,or_false,not_or];exact⟨Nat.ne_of_lt hbl,Nat.ne_of_lt (Nat.lt_trans hbl dlt)⟩
 ·obtain⟨od,es,ep,hod,r⟩:=new;exact⟨od,es,ep,Heap.get?_push_of_some _ (k1 _ _ hod),r⟩
 ·obtain⟨h',g',d',tk',os'⟩:=s';have eg:g'=s.gens:=hm.gens;have ed:d'=s.drawn:=hm.drawn;have eo:os'=s.os:=hm.os;subst eg;subst ed;subst eo;refine⟨rfl,h h' tk' hD fun b ob e=>hm.heap b ob ?_ (Heap.get?_push_of_some _ (old1 b ob e))⟩;have hbl:=Heap.lt_size e;simp only[List.mem_cons,List.mem_singleton,List.not_mem_nil,or_false,not_or];exact⟨Nat.ne_of_lt hbl,Nat.ne_of_lt (Nat.lt_trans hbl dlt)⟩
end
end L2

namespace L2
open PySem PyProof.Rows PySem.W PySem.Spec
theorem Zl{α β:Type}{r:α->β->Prop}:∀{a:List α} {b:List β},a.length=b.length->(∀(i:Nat) (x:α) (y:β),a[i]?=some x->b[i]?=some y->r x y)->Paired r a b
 | [],[],_,_=>.nil
 | [],_::_,h,_=>by simp at h
 | _::_,[],h,_=>by simp at h
 | x::a,y::b,h,k=>.cons (k 0 x y rfl rfl) (Zl (by simpa using h) fun i x y e1 e2=>k (i+1) x y (by simpa using e1) (by simpa using e2))
theorem ZV{f:Nat->Int×Value}:∀(n:Nat),(∀i j,i<n->j<n->(f i).1=(f j).1->i=j)->Vp f n=(List.range n).map fun j=>((Sum.inl (f j).1:Key),(f j).2)
 | 0,_=>rfl
 | n+1,h=>by
  have ih:=ZV n fun i j hi hj=>h i j (by omega) (by omega)
  rw[Vu,ih,List.range_succ,List.map_append];unfold stored;rw[if_neg]
  ·rfl
  ·rw[List.any_eq_true];rintro⟨x,hx,e⟩;obtain⟨j,hj,rfl⟩:=List.mem_map.mp hx;have hj':j<n:=by simpa using hj
   have:=h j n (by omega) (by omega) (by simpa using e);omega
theorem JhT:bootBuiltins "dict"=some (.type "dict"):=by decide +kernel
noncomputable def JgZ(K:Frag):List V->Hp->VK->Prop:=fun xs H Q=>∃(a:Addr) (vs:List V) (ps:List PrI),xs=[.ref a]/\SqL K H a vs/\vs.length=ps.length/\ps.length<=1000/\(ps.map (·.1)).Nodup ∧
 (∀(i:Nat) (v:V) (p:PrI),vs[i]?=some v->ps[i]?=some p->∃b,v=.ref b/\SqT K H b [.int p.1,.int p.2])/\∀l,H l=none->Q (.ref l) (upd H l (LE.dkO (ps.map (·.1)) (ps.map fun p=>V.int p.2)))
theorem Jcs{X:Cx}{K:Frag}(hK:X.K=K)(hc:X.calm=true):CallR X (.type "dict") (JgZ K):=by
 subst hK;intro pins s σ H xs us Q I r h;obtain⟨a,vs,ps,rfl,hq,hlen,hn,nd,tp,q⟩:=h;obtain⟨u,rfl,rx⟩:=Vd r;cases rx;obtain⟨its,r',pl,hz⟩:=I.list hq;have il:=r'.length;have hh:X.A.handled=none:=I.ok.hd hc
 have tup:∀i:Nat,∃y:Int×Value,∀v,its[i]?=some v->∃b ob c t,v=.ref b/\s.heap.get? b=some ob/\ob.cls=.type "tuple"/\ob.data=.seq #[.int y.1 t,y.2] c/\∃p u,ps[i]?=some p/\y.1=p.1/\y.2=.int p.2 u:=fun i=>by
  by_cases hi:i<vs.length
  ·obtain⟨b,eb,hb⟩:=tp i vs[i] (ps[i]'(by omega)) (List.getElem?_eq_getElem hi) (List.getElem?_eq_getElem (by omega));obtain⟨u',hu,rel⟩:=r'.get (List.getElem?_eq_getElem hi);rw[eb] at rel;cases rel;obtain⟨its2,r2,⟨o,ho,hcl,n,hd⟩,_⟩:=I.tuple hb
   cases r2 with
   | cons x1 r3=>cases r3 with
    | cons x2 r4=>cases r4;obtain⟨t1,rfl⟩:=x1;obtain⟨t2,rfl⟩:=x2;refine⟨((ps[i]'(by omega)).1,.int (ps[i]'(by omega)).2 t2),fun v hv=>?_⟩;rw[hu] at hv;cases hv;exact⟨b,o,n,t1,rfl,ho,hcl,hd,_,t2,List.getElem?_eq_getElem (by omega),rfl,rfl⟩
  ·exact⟨(0,.none),fun v hv=>by have:=(List.getElem?_eq_some_iff.mp hv).1;omega⟩
 obtain⟨f,hf⟩:=Classical.axiomOfChoice tup
 have at0:∀(i:Nat) (hi:i<ps.length),∃u,f i=((ps[i]).1,.int (ps[i]).2 u):=fun i hi=>by obtain⟨_,_,_,_,_,_,_,_,p,u,e1,e2,e3⟩:=hf i its[i] (List.getElem?_eq_getElem (by omega));rw[List.getElem?_eq_getElem hi] at e1;cases e1;exact⟨u,Prod.ext e2 e3⟩
 obtain⟨ol,hol,hcl,nl,hdl⟩:=pl.isList
 have hdn:ol.dict=none:=by obtain⟨n,_,e,_,e2,_⟩:=pl;rw[e] at hol;cases hol;exact e2
 have hne:H s.heap.objs.size=none:=I.hok.fresh (Nat.le_refl _);refine Jcr (ps:=f) hh hol hcl hdl hdn (fun i v hv=>?_) (by rw[List.size_toArray];omega) fun h' tk hD old=>?_
 ·obtain⟨b,ob,c,t,e1,e2,e3,e4,_⟩:=hf i v (by simpa using hv);exact⟨b,ob,c,t,e1,e2,e3,e4⟩
 ·have ez:its.toArray.size=ps.length:=by rw[List.size_toArray];omega
  rw[ez,ZV ps.length (fun i j hi hj e=>by
   obtain⟨u1,e1⟩:=at0 i hi;obtain⟨u2,e2⟩:=at0 j hj;rw[e1,e2] at e;have e':(ps.map (·.1))[i]'(by simpa using hi)=(ps.map (·.1))[j]'(by simpa using hj):=by simpa using e
   exact(List.getElem_inj nd).mp e')] at hD
  refine⟨.ref s.heap.objs.size,_,I.laid (t':=tk) old (Nat.le_refl _) (show ObjOk X.prog X.w _ _ _ (LE.dkO (ps.map (·.1)) (ps.map fun p=>V.int p.2)) from⟨?_,?_,_,?_,hD⟩),rfl,q _ hne⟩
  ·rw[List.length_zip,List.length_map,List.length_map,List.length_map];show _<=16777216;omega
  ·have:=I.big
   have ne:s.heap.objs.size≠sysModules:=fun e=>by rw[e] at this;exact absurd this (Nat.lt_irrefl _)
   exact beq_eq_false_iff_ne.mpr ne
  ·refine Zl (by simp) fun i x y e1 e2=>?_
   have hi:i<ps.length:=by have:=(List.getElem?_eq_some_iff.mp e2).1;simpa using this
   obtain⟨u,eu⟩:=at0 i hi;rw[List.getElem?_map,List.getElem?_range hi] at e2;cases e2;rw[List.getElem?_zip_eq_some] at e1;obtain⟨e3,e4⟩:=e1;simp only[List.map_map,List.getElem?_map,List.getElem?_eq_getElem hi,Option.map_some,Option.some.injEq,Function.comp] at e3 e4;show x.1=Sum.inl (f i).1/\RelV x.2 (f i).2;rw[eu];exact⟨e3.symm,by rw[<- e4];exact⟨u,rfl⟩⟩
end L2
namespace LE
open PySem L2 LR
noncomputable def prs?:List D->Option (List PrI)
 | []=>some []
 | .tup [.int a,.int b]::r=>(prs? r).map ((a,b)::·)
 | _=>none
theorem Jd6:∀ps:List PrI,prs? (ps.map prE)=some ps
 | []=>rfl
 | p::ps=>by show(prs? (ps.map prE)).map _=_;rw[Jd6 ps];rfl
theorem Jb2:∀{ds:List D} {ps:List PrI},prs? ds=some ps->ds=ps.map prE
 | [],ps,e=>by cases e;rfl
 | d::ds,ps,e=>by
  unfold prs? at e;split at e
  ·rename_i h;cases h
  ·rename_i a b r h;cases h;obtain⟨qs,e1,rfl⟩:=map_some e;rw[Jb2 e1];rfl
  ·cases e
noncomputable def JcA(a:Ev):Ev:=fun E=>(a E).bind fun s=>s.r.bind fun ds=>(prs? ds).bind fun ps=>if ps.length<=1000/\(ps.map (·.1)).Nodup then some (.od (ps.map (·.1)) (ps.map fun p=>.int p.2)) else none
section
variable{K:Frag}{C:Addr}{td:TE}{ed:Ev}
theorem Jjk(ha:SE K C td ed):SE K C (tCB (JgZ K) (Ub td Wp)) (JcA ed):=by
 intro B H0 H σ E r Q I e q;obtain⟨s,e1,e⟩:=bind_some e;obtain⟨ds,e2,e⟩:=bind_some e;obtain⟨ps,e3,e⟩:=bind_some e;split at e
 ·next hp =>
  cases e;refine ha B H0 H σ E s _ I e1 fun x H1 H1' s1 r1=>?_
  obtain⟨l,ys,rfl,h,r2⟩:=r1.r s1.i e2;rw[Jb2 e3] at r2;refine⟨l,ys,ps,rfl,h,by rw[r2.1,List.length_map],hp.1,hp.2,fun i v p h1 h2=>?_,fun z hz=>?_⟩
  ·have rd:=r2.2 i v (prE p) h1 (by rw[List.getElem?_map,h2];rfl);obtain⟨b,zs,rfl,hb,rl⟩:=RD.tupI (rd.mono s1.i)
   have:zs=[.int p.1,.int p.2]:=(RDL.ints (ns:=[p.1,p.2]) rl)
   subst this;exact⟨b,rfl,hb⟩
  ·exact Jgw (ks:=ps.map (·.1)) (xs:=ps.map fun p=>V.int p.2) (ds:=ps.map fun p=>D.int p.2) s1.i s1.h hz (by simp) (by have:=Jb5 (K:=K) (C:=C) (H:=H1) (ps.map (·.2));rw[List.map_map,List.map_map] at this;exact this) fun v H2 H2' s3 r3=>q v H2 H2' (s1.comp s3 fun _ y=>y) r3
 ·cases e
end
end LE

end
open L2 LR
local macro_rules | `(tactic| walk_at "side")=>`(tactic| first | decide | exact⟨by decide,by decide,by decide⟩ | exact⟨by decide,by decide⟩ | (show(0:Int)<_;omega) | (show(0:Int)<_/\_<(1073741824:Int);omega) | exact Or.inl ⟨by omega,by omega⟩ | exact Or.inr ⟨by omega,by omega⟩ | assumption)
local macro_rules | `(tactic| walk_at "rd1")=>`(tactic| with_reducible first | refine Jl6 ?_ | refine JlN ?_ | refine JlS ?_ | refine Jl4 ?_ | refine Ji3 ?_ | refine Jja ?_ | refine Jnp ?_ | refine Jns ?_ | refine Jje ?_ | refine Jnr ?_ | refine Jjf ?_ | refine JlM ?_ | refine Jnq ?_ | refine Jl2 ?_ | refine Jjc ?_ | refine Ji1 ?_ | refine Jl3 ?_ | refine JlR ?_ | refine Ji2 ?_ | refine Jl1 ?_ | refine Jnm ?_ | refine WL ?_ | refine LR.Jee ?_ | refine Jl7 ?_ | refine JlY ?_ | refine Jno ?_ | refine Jg6 ?_ | refine Ji5 ?_ | refine Jg5 ?_ | refine Ji4 ?_ | refine JlQ ?_ | refine Jjd ?_ | refine Jg4 ?_ | refine Jl9 ?_ | refine JnY ?_ | refine Jnn ?_ | refine Jn0 ?_ | refine Ji0 ?_ | refine JlO ?_ | refine JlZ ?_ | refine JlP ?_ | refine Jl0 ?_ | refine JlT ?_ | refine Jjb ?_ | refine Jg7 ?_ | refine Jg8 ?_ | refine Exists.intro _ (And.intro (LR.Jmt _ _ _) ?_))
local macro_rules | `(tactic| walk_at "rd2")=>`(tactic| first | ((with_reducible refine JnZ ?hc ?_);(case hc=>walk_at "side")) | ((with_reducible refine Jl8 (v:=?vv) ?hx ?_);(case hx=>exact rfl)) | (with_reducible refine Exists.intro _ (And.intro (Eq.refl (V.bl _)) ?_)))
local macro_rules | `(tactic| walk_at "rd")=>`(tactic| repeat (first | walk_at "rd1" | walk_at "rd2"))
noncomputable section
namespace LK
open PySem L2 LR LE
noncomputable def JW:List Sl->Option Sl:=YY 5 (Jr (xIf (tOr? (tNot? (tTru? (JfS (Jc 0)))) (tOr? (tNot? (tTru? (JeL "tuple" (e1 UD (Jc 0))))) (tB? (e2 fNe (eF Ux (aC (e1 UD (Jc 0)) a0)) (eF Ux (aC (Jc 1) a0)))))) (YU (eC (.bl false))) Yx)
 (Jr (V6 (iR1 (aC (eF Ux (aC (Jc 1) a0)) a0)) (.nm 2) (Jr (Js 3 (e2 fIx (e1 UD (Jc 0)) (Jc 2)))
 (Jr (xIf (tOr? (tNot? (tTru? (JeL "tuple" (Jc 3)))) (tOr? (tB? (e2 fNe (eF Ux (aC (Jc 3) a0)) (eC (.int 2)))) (tB? (e2 fNe (Jc 3) (e2 fIx (Jc 1) (Jc 2)))))) (YU (eC (.bl false))) Yx)
 (V6 (iV 3) (.nm 4) (xIf (tOr? (tNot? (tTru? (JeL "int" (Jc 4)))) (tTru? (JeL "bool" (Jc 4)))) (YU (eC (.bl false))) Yx)))))
 (YU (eC (.bl true)))))
noncomputable def Yl:List Sl->Option Sl:=YY 5 (Jr (V7 1 (Vt a0))
 (Jr (V6 (iV 0) (.tp (.cons (.nm 2) (.cons (.nm 3) .nil))) (xIf (tAnd? (tTru? (Jc 1)) (tB? (e2 fEq (eF W4 (aC (e2 fIx (Jc 1) (e1 Wa (eC (.int 1)))) a0)) (Jc 2)))) (Jr (JjJ 1 4 some)
 (Jbi 1 (V8 (aC (e2 fIx (Jc 4) (eC (.int 0))) (aC (e2 JS (e2 fIx (Jc 4) (eC (.int 1))) (Jc 3)) a0))))) (xIf (tB? (e2 fGt (Jc 3) (eC (.int 0)))) (Jbi 1 (V8 (aC (Jc 2) (aC (Jc 3) a0)))) Yx)))
 (Ve 1)))
noncomputable def Yk:List Sl->Option Sl:=YY 2 (YU (Uw (JbE true (aC (e1 UD (Jc 0)) a0)) (.tp (.cons (.nm 0) (.cons (.nm 1) .nil))) yes? (V8 (aC (e2 JS (e2 fIx (Jc 1) (eC (.int 0))) (e2 JbB (e2 JbB (eC (.int 2)) (Jc 2)) (Jc 0))) (aC (e2 JS (e2 fIx (Jc 1) (eC (.int 1))) (Jc 2)) a0))) [none,none,some 1]))
noncomputable def YW:List Sl->Option Sl:=YY 1 (YU (Uw (JkN true (aC (e1 UD (Jc 0)) (aC (eSl (e1 UD (Jc 0)) (some (eC (.int 1))) none) a0))) (.tp (.cons (.nm 0) (.cons (.nm 1) .nil))) yes? (e2 UJ (e2 fIx (Jc 1) (eC (.int 0))) (eF W4 (aC (Jc 0) a0))) [none,none]))
noncomputable def Ym:List Sl->Option Sl:=YY 1 (YU (eF JdH (aC (e2 JS (Uw (iE true (e1 UD (Jc 0))) (.tp (.cons (.nm 0) (.cons (.nm 1) .nil))) yes? (Jc 1) [none,none]) (eU 1 YW (aC (Jc 0) a0))) a0)))
noncomputable def Yo:List Sl->Option Sl:=YY 5 (Jr (Js 2 (eF JaJ (aC (e1 UD (Jc 0)) a0)))
 (Jr (Js 3 (Jc 1))
 (Jr (Uz (tAnd? (tB? (e2 fGt (Jc 3) (eC (.int 0)))) (tTru? (e1 UD (Jc 2)))) (Jr (Js 4 (eF JeQ (aC (Jc 3) (aC (eU 1 Ym (aC (Jc 2) a0)) a0))))
 (Jr (Js 2 (eF JaJ (aC (eU 1 Yl (aC (eU 2 Yk (aC (Jc 2) (aC (e1 Wa (Jc 4)) a0))) a0)) a0)))
 (JhA (fun i j=>i-j) 3 (Jc 4)))) 1000000)
 (Ve 2))))
noncomputable def YF:List Sl->Option Sl:=YY 2 (YU (eF Jih (aC (Uw (iE true (e1 UD (Jc 0))) (.tp (.cons (.nm 0) (.cons (.nm 1) .nil))) yes? (Jcz fLe fLt (Jc 0) (Jc 2) (e2 JS (Jc 0) (Jc 1))) [none,none,some 1]) a0)))
noncomputable def YX:List Sl->Option Sl:=YY 2 (YU (eIf (tAnd? (tTru? (eU 2 YF (aC (Jc 0) (aC (e2 UJ (Jc 1) (eC (.int 1))) a0)))) (tNot? (tTru? (eU 2 YF (aC (Jc 0) (aC (Jc 1) a0)))))) (eC (.int 1)) (eC (.int 0))))
noncomputable def Yz:List Sl->Option Sl:=YY 6 (Jr (Js 1 (eU 2 Yo (aC (Jc 0) (aC (eC (.int 1)) a0))))
 (Jr (V7 2 JdB)
 (Jr (V6 (JbE false (aC (e1 UD (Jc 0)) a0)) (.tp (.cons (.nm 3) (.cons (.nm 4) .nil))) (Jr (Js 5 (e2 UJ (e2 UJ (eF W4 (aC (Jc 4) a0)) (eC (.int 1))) (e2 JbB (eC (.int 2)) (Jc 3))))
 (Jar 2 (Jc 5) (e2 JS (JaE (Jc 2) (Jc 5) (eC (.int 0))) (eC (.int 1))))))
 (Jer 2 (YU (Uw (JcH (Jc 2)) (.tp (.cons (.nm 0) (.cons (.nm 1) .nil))) yes? (V8 (aC (Jc 0) (aC (Jc 1) (aC (eU 2 YX (aC (Jc 2) (aC (Jc 0) a0))) a0)))) [none,none,some 1]))))))
noncomputable def Yh:List Sl->Option Sl:=YY 2 (YU (eF W4 (aC (Uw (iE true (e1 UD (Jc 0))) (.tp (.cons (.nm 0) (.cons (.nm 1) .nil))) yes? (eF Jil (aC (eC (.int 0)) (aC (eF JeQ (aC (Jc 1) (aC (e2 UJ (Jc 2) (Jc 0)) a0))) a0))) [none,none,some 1]) a0)))
noncomputable def YH:List Sl->Option Sl:=YY 8 (Jr (V7 2 (Vt a0))
 (Jr (Js 3 (eC (.int 0)))
 (Jr (V6 (JbE false (aC (Jc 1) a0)) (.tp (.cons (.nm 4) (.cons (.nm 5) .nil))) (Jr (Js 6 (eU 2 Yh (aC (Jc 0) (aC (Jc 5) a0))))
 (Jr (Js 7 (e2 UJ (Jc 6) (Jc 3)))
 (Jr (Jbi 2 (V8 (aC (e2 UJ (e2 JS (Jc 5) (e2 JbB (eC (.int 2)) (Jc 4))) (Jc 7)) (aC (e2 JS (Jc 7) (eC (.int 1))) a0))))
 (Js 3 (Jc 6))))))
 (Ve 2))))
noncomputable def JY:List Sl->Option Sl:=YY 5 (Jr (xIf (tB? (e2 fGt (e2 JS (eF Ux (aC (e1 UD (Jc 0)) a0)) (eF W4 (aC (Uw (iE true (Jc 1)) (.tp (.cons (.nm 0) (.cons (.nm 1) .nil))) yes? (Jc 1) [none,none]) a0))) (eC (.int 30)))) Jdh Yx)
 (Jr (V7 2 (Uw (iE true (e1 UD (Jc 0))) (.tp (.cons (.nm 0) (.cons (.nm 1) .nil))) yes? (e2 JS (Jc 0) (Jc 1)) [none,none]))
 (Jr (V6 (iV 1) (.tp (.cons (.nm 3) (.cons (.nm 4) .nil))) (JhC 2 (e2 JeR (Vt (aC (Jc 3) a0)) (Jc 4))))
 (YU (eF JaJ (aC (eU 2 YH (aC (Jc 0) (aC (eF WH (aC (Jc 2) a0)) a0))) a0))))))
noncomputable def Ys:List Sl->Option Str:=JfY 5 (JdG (xIf (tB? (e2 fGt (e2 JS (eF Ux (aC (e1 UD (Jc 0)) a0)) (eF W4 (aC (Uw (iE true (Jc 1)) (.tp (.cons (.nm 0) (.cons (.nm 1) .nil))) yes? (Jc 1) [none,none]) a0))) (eC (.int 30)))) Jdh Yx)
 (Jky (tB? (e2 fGt (e2 JS (eF Ux (aC (e1 UD (Jc 0)) a0)) (eF W4 (aC (Uw (iE true (Jc 1)) (.tp (.cons (.nm 0) (.cons (.nm 1) .nil))) yes? (Jc 1) [none,none]) a0))) (eC (.int 30)))) (JdF "TooMany" (aC (eC (.str "a row has at most 30 stretches")) a0)) Jkz) Jkz)
noncomputable def J2:List Sl->Option Sl:=YY 2 (Jr (Js 1 (Vt (aC (ZH ["TooMany"] "BadRow" (Jc 0)) (aC (ZH ["TooMany"] "TooMany" (Jc 0)) (aC (ZH ["TooMany"] "BadText" (Jc 0)) (aC (ZH ["TooMany"] "BadSeats" (Jc 0)) a0))))))
 (Jr (Js 1 (e2 JS (Jc 1) (Vt (aC (ZH ["TooMany"] "BadTable" (Jc 0)) (aC (ZH ["TooMany"] "BadDeed" (Jc 0)) (aC (ZH ["TooMany"] "Unlike" (Jc 0)) (aC (ZH ["TooMany"] "NoRow" (Jc 0)) a0)))))))
 (YU (WA (e2 fEq (eMB JmT (Jc 1) (eC (.bl true))) (eC (.int 1))) (WA (ZH ["TooMany"] "LumpError" (Jc 0)) (JmR ["TooMany"] (Jc 0)))))))
noncomputable def Yj:List Sl->Option Sl:=YY 4 (Jr (V7 2 (Vt a0))
 (Jr (V6 (iR1 (aC (eF Ux (aC (Jc 0) a0)) a0)) (.nm 3) (xIf (tAnd? (tB? (e2 fEq (e2 fIx (Jc 0) (Jc 3)) (eC (.int 1)))) (tAnd? (tB? (e2 fGt (Jc 3) (eC (.int 0)))) (tB? (e2 fEq (e2 fIx (Jc 0) (e2 UJ (Jc 3) (eC (.int 1)))) (eC (.int 1)))))) (VE 2 (e1 Wa (eC (.int 1))) (V8 (aC (e2 fIx (e2 fIx (Jc 2) (e1 Wa (eC (.int 1)))) (eC (.int 0))) (aC (e2 JS (e2 fIx (e2 fIx (Jc 2) (e1 Wa (eC (.int 1)))) (eC (.int 1))) (eC (.int 1))) a0)))) (xIf (tB? (e2 fEq (e2 fIx (Jc 0) (Jc 3)) (eC (.int 1)))) (Jbi 2 (V8 (aC (e2 JS (Jc 1) (Jc 3)) (aC (eC (.int 1)) a0)))) Yx)))
 (Ve 2)))
noncomputable def J7:List Sl->Option Sl:=YY 9 (Jr (Js 3 (JcA (Jc 2)))
 (Jr (V7 4 (Vt a0))
 (Jr (V7 5 (Vt a0))
 (Jr (V6 (iR1 (aC (eF Ux (aC (Jc 0) a0)) a0)) (.nm 6) (Jr (Js 7 (eF Jf0 (aC (WA (e2 fGt (Jc 6) (eC (.int 0))) (WA (e2 fEq (e2 fIx (Jc 0) (e2 UJ (Jc 6) (eC (.int 1)))) (eC (.int 1))) (e2 fEq (e2 fIx (Jc 0) (Jc 6)) (eC (.int 0))))) a0)))
 (Jr (Js 8 (e2 JS (JaE (Jc 3) (e2 JS (Jc 1) (Jc 6)) (eC (.int 0))) (Jc 7)))
 (Jr (xIf (tB? (e2 fGt (Jc 8) (eC (.int 0)))) (Jbi 5 (V8 (aC (e2 JS (Jc 1) (Jc 6)) (aC (Jc 8) (aC (Jc 7) a0))))) Yx)
 (JhC 4 (e2 JS (e2 JeR (Vt (aC (eC (.int 1)) (aC (eC (.int 0)) a0))) (Jc 8)) (Vt (aC (e2 fIx (Jc 0) (Jc 6)) a0))))))))
 (JjI 5 (JjI 4 (YU (V8 (aC (Jc 4) (aC (Jc 5) a0))))))))))
noncomputable def JV:List Sl->Option Sl:=YY 7 (Jr (V7 3 (Uw (iR2 (aC (Jc 1) (aC (Jc 2) a0))) (.nm 0) yes? (eC (.int 0)) [none]))
 (Jr (V6 (iV 0) (.tp (.cons (.nm 4) (.cons (.nm 5) .nil))) (V6 (iR2 (aC (Jc 4) (aC (e2 JS (Jc 4) (Jc 5)) a0))) (.nm 6) (VE 3 (e2 UJ (Jc 6) (Jc 1)) (eC (.int 1)))))
 (Ve 3)))
noncomputable def JF:List Sl->Option Sl:=YY 2 (Jr (xIf (tB? (e2 fLt (Jc 1) (eF Ux (aC (Jc 0) a0)))) (YU (e2 fIx (Jc 0) (Jc 1))) Yx)
 (YU (eC (.int 0))))
noncomputable def Ya:List Sl->Option Sl:=YY 6 (Jr (V7 3 JdB)
 (Jr (V6 (iR1 (aC (e2 UE (eU 2 JF (aC (Jc 0) (aC (eC (.int 1)) a0))) (eC (.int 9))) a0)) (.nm 4) (Jr (Js 5 (eU 2 JF (aC (Jc 0) (aC (e2 JS (eC (.int 23)) (Jc 4)) a0))))
 (Jar 3 (e2 JS (Jc 1) (e2 UE (e2 W1 (Jc 5) (eC (.int 3))) (e2 UJ (Jc 2) (Jc 1)))) (e2 JS (eC (.int 1)) (e2 UE (Jc 5) (eC (.int 3)))))))
 (YU (Uw (iE true (JcB (Jc 3))) (.nm 0) yes? (V8 (aC (Jc 0) (aC (Jkq (Jc 1) (Jc 0)) a0))) [none,some 3]))))
noncomputable def Yn:List Sl->Option Sl:=YY 9 (Jr (V7 5 (Vt a0))
 (Jr (Js 6 (Jc 3))
 (Jr (V6 (iR1 (aC (Jc 2) a0)) (.nm 7) (Jr (Js 8 (e2 JS (eC (.int 1)) (e2 UE (eU 2 JF (aC (Jc 0) (aC (e2 JS (Jc 1) (e2 JbB (eC (.int 2)) (Jc 7))) a0))) (Jc 4))))
 (Jr (Jbi 5 (V8 (aC (Jc 6) (aC (Jc 8) a0))))
 (Js 6 (e2 JS (e2 JS (e2 JS (Jc 6) (Jc 8)) (eC (.int 1))) (e2 UE (eU 2 JF (aC (Jc 0) (aC (e2 JS (e2 JS (Jc 1) (eC (.int 1))) (e2 JbB (eC (.int 2)) (Jc 7))) a0))) (Jc 4)))))))
 (Ve 5))))
noncomputable def JcE:List Sl->Option Sl:=YY 17 (Jr (Js 1 (eU 2 JF (aC (Jc 0) (aC (eC (.int 0)) a0))))
 (Jr (Js 2 (e2 UJ (e2 UE (e2 W1 (eU 2 JF (aC (Jc 0) (aC (eC (.int 1)) a0))) (eC (.int 9))) (eC (.int 2001))) (eC (.int 1000))))
 (Jr (Js 3 (e2 UE (Jc 1) (eC (.int 11))))
 (Jr (xIf (tB? (e2 fEq (e2 UE (Jc 1) (eC (.int 9))) (eC (.int 4)))) (Js 3 (e2 JS (eC (.int 23)) (e2 UE (e2 W1 (Jc 1) (eC (.int 9))) (eC (.int 8))))) Yx)
 (Jr (Js 4 (eU 5 Yn (aC (Jc 0) (aC (eC (.int 2)) (aC (Jc 3) (aC (Jc 2) (aC (e2 fIx (Vt (aC (eC (.int 3)) (aC (eC (.int 6)) a0))) (e2 UE (e2 W1 (Jc 1) (eC (.int 99))) (eC (.int 2)))) a0)))))))
 (Jr (Js 5 (Jc 2))
 (Jr (xIf (tB? (e2 fGt (Jc 3) (eC (.int 0)))) (Js 5 (e2 JS (e2 fIx (e2 fIx (Jc 4) (e1 Wa (eC (.int 1)))) (eC (.int 0))) (e2 fIx (e2 fIx (Jc 4) (e1 Wa (eC (.int 1)))) (eC (.int 1))))) Yx)
 (Jr (Js 6 (e2 UJ (Jc 2) (eC (.int 5))))
 (Jr (Js 7 (eU 3 Ya (aC (Jc 0) (aC (Jc 6) (aC (e2 JS (Jc 5) (eC (.int 5))) a0)))))
 (Jr (JjH (.tp (.cons (.nm 8) (.cons (.nm 9) .nil))) (eU 3 J7 (aC (eU 3 JV (aC (Jc 4) (aC (Jc 6) (aC (e2 JS (Jc 5) (eC (.int 6))) a0)))) (aC (Jc 6) (aC (Jc 7) a0)))))
 (Jr (Js 10 (eU 2 Yj (aC (Jc 8) (aC (Jc 6) a0))))
 (Jr (Js 11 (eF JaJ (aC (eF W3 (aC (Jc 4) a0)) a0)))
 (Jr (Js 12 (eF W3 (aC (Jc 7) a0)))
 (Jr (Js 13 (eC .non))
 (Jr (Js 14 (eC (.bl false)))
 (Jr (Jcl ["TooMany"] 15 (Js 13 (eU 2 JY (aC (Jc 11) (aC (Jc 12) a0)))) (exU 2 Ys (aC (Jc 11) (aC (Jc 12) a0))) (Js 14 (eU 1 J2 (aC (Jc 15) a0))))
 (Jr (xIf (tOr? (tB? (e2 fGt (eF Ux (aC (Jc 10) a0)) (eC (.int 30)))) (tTru? (Jc 14))) (YU (WA (e2 fGt (eF Ux (aC (Jc 10) a0)) (eC (.int 30))) (Jc 14))) Yx)
 (Jr (xIf (tOr? (tNot? (tTru? (eU 2 JW (aC (Jc 13) (aC (Jc 10) a0))))) (tB? (e2 fNe (Jc 12) (Jc 7)))) (YU (eC (.bl false))) Yx)
 (Jr (V7 16 (eU 1 Yz (aC (Jc 13) a0)))
 (Jr (xIf (tB? (e2 fNe (Jc 16) (Jc 9))) (YU (eC (.bl false))) Yx)
 (Jr (JhB 16)
 (Jr (xIf (tB? (e2 fNe (eU 1 Yz (aC (Jc 13) a0)) (Jc 9))) (YU (eC (.bl false))) Yx)
 (YU (WA (eU 2 JW (aC (eU 2 Yo (aC (Jc 13) (aC (eC (.int 1)) a0))) (aC (Jc 4) a0))) (eU 2 JW (aC (Jc 11) (aC (Jc 4) a0)))))))))))))))))))))))))))
end LK
end
namespace LK
open PySem L2 LR LE
local macro_rules | `(tactic| omega)=>`(tactic| first | lia | omega (config:={}))
local macro_rules | `(tactic| walk_at "sd")=>`(tactic| first | omega (config:={}) | assumption | (simp only[List.length_append,List.length_map,List.length_reverse,List.length_cons,List.length_nil,List.length_singleton];omega (config:={})))
local macro_rules | `(tactic| walk_at "ev")=>`(tactic| simp (disch:=walk_at "sd") only[YY,Jjs,Int.reduceToNat,List.length_cons,List.length_nil,Nat.reduceAdd,Nat.reduceSub,Nat.reduceLT,Nat.reduceLeDiff,Nat.lt_irrefl,Nat.zero_lt_succ,Nat.succ_lt_succ_iff,List.reduceReplicate,List.cons_append,List.nil_append,List.append_nil,List.set_cons_zero,List.set_cons_succ,List.getElem?_cons_succ,List.getElem?_cons_zero,List.length_map,List.length_reverse,List.length_set,Option.bind_some,Option.map_some,Option.bind_none,Option.map_none,if_true,if_false,ite_true,ite_false,decide_true,decide_false,Bool.not_true,Bool.not_false,Bool.and_true,Bool.true_and,reduceIte,reduceCtorEq,Bool.false_eq_true,List.map_cons,List.map_nil,if_pos,
 Jr,xIf,YU,Ve,Yx,V7,Js,JjH,Jbi,JhC,VE,JjJ,JhA,JdB,Sl.dt,pr?,Jm2,Jkq,JaE,Jar,Jer,JcH,JhB,JcB,JcA,Jd6,lst?,JmJ,Jik,Jf0,Sl.dk,int?,JjI,Jir,V6,tB?,tTru?,tAnd?,tOr?,tNot?,Jms,e2,e1,Jc,eF,eC,aC,a0,eU,VT,Sl.pass,V8,Vt,W5,Sl.frz,WA,eIf,Jcz,sh?,bool?,str?,keep?,JeL,JfS,tyN,D.isRow,Jgx,Jli,Jjp,Jjq,Jjn,Jjo,JhX,JhY,
 JmU,Jin,Jim,Jij,Jio,Jh9,Jig,Jid,Jic,Jh7,Jh6,Jie,Jif,Jia,Jh8,Jib,JkF,JkD,JkC,JkG,JkB,JkE,JmX,JmW,JmZ,JmV,JmY,W3,Jil,JeQ,UD,Sl.q,Sl.r,Sl.m,Sl.d,Sl.it,fEq,fNe,Jkv,Jkw,Jku,JfW,Jks,Jkt,Jkr,JkA,JeZ,JeX,Jgd,Je1,Je2,JeY,Jge,Je0,iE,iV,iR1,iR2,Uw,VO,JkN,JbE,WH,JdH,W9,eSl,WZ,fSl,Vw,JkP,Jhf,Jk4,Jiv,Jk3,Jk7,Jk5,Jk6,JmH,JmI,JhL,Jfz,JnM,JnN,JnO,JnP,JnQ,eq_self])
noncomputable section
theorem Wh(ns:List Int)(k:Int)(hk:0<=k):JF [.sh (.fz (ns.map .int)),.sh (.int k)]=some (.sh (.int (cell ns k))):=by
 unfold JF;walk_at "ev"
 by_cases h:k<(ns.length:Int)
 ·simp only[h,Jav,Jbk hk h];walk_at "ev"
 ·simp only[h,JfL h];walk_at "ev"
theorem Good.cons'{p:Pr}{ps:List Pr}(g:Good (p::ps)):Good ps:=⟨fun i q e=>g.one (i+1) q (by simpa using e),fun i q r e1 e2=>g.gap (i+1) q r (by simpa using e1) (by simpa using e2)⟩
theorem Good.all{ps:List Pr}(g:Good ps):∀p∈ps,1<=p.2:=fun p hp=>by obtain⟨i,hi,e⟩:=List.mem_iff_getElem.mp hp;exact g.one i p (by simp[hi,e])
theorem Good.first{p:Pr}:∀{ps:List Pr},Good (p::ps)->∀q∈ps,p.1+p.2<q.1
 | [],_,q,hq=>nomatch hq
 | r::ps,g,q,hq=>by
  have h1:=g.gap 0 p r rfl rfl;rcases List.mem_cons.mp hq with z|z
  ·rw[z];exact h1
  ·have h2:=Good.first (Good.cons' g) q z
   have h3:=g.one 1 r rfl;omega
theorem Good.pw:∀{ps:List Pr},Good ps->ps.Pairwise fun p q=>p.1+p.2<q.1
 | [],_=>.nil
 | p::ps,g=>.cons (Good.first g) (Good.pw (Good.cons' g))
theorem Jbm{α:Type}{xs:List α}{x:α}(h:xs[xs.length-1]?=some x):atI xs (-1)=some x:=by
 have hl:=(List.getElem?_eq_some_iff.mp h).1;unfold atI ixN;rw[if_neg (by omega),if_pos (by omega)]
 have:((-1:Int)+(xs.length:Int)).toNat=xs.length-1:=by omega
 rw[this];exact h
theorem W2(p:Pr):fIx (.sh (prE p)) (.sh (.int 0))=some (.sh (.int p.1)):=rfl
theorem JaI(p:Pr):fIx (.sh (prE p)) (.sh (.int 1))=some (.sh (.int p.2)):=rfl
noncomputable def UB:List Pr->List Int
 | []=>[]
 | [_]=>[]
 | p::q::r=>(q.1-(p.1+p.2))::UB (q::r)
theorem ZZ:∀ps:List Pr,UB ps=(List.zip ps (ps.drop 1)).map fun pq=>pq.2.1-(pq.1.1+pq.1.2)
 | []=>rfl
 | [_]=>rfl
 | p::q::r=>by rw[UB,ZZ (q::r)];rfl
theorem ZY:∀ps:List Pr,(UB ps).length=ps.length-1
 | []=>rfl
 | [_]=>rfl
 | p::q::r=>by rw[UB,List.length_cons,ZY (q::r)];simp
theorem JfP{α:Type}(xs:List α):Jcy xs (some 1) none=xs.drop 1:=by
 unfold Jcy;have e:HT.sIx xs.length 0 (some 1)=min 1 xs.length:=rfl;rw[e,show HT.sIx xs.length xs.length none=xs.length from rfl]
 cases xs with
 | nil=>rfl
 | cons x xs=>simp
theorem Jla(ps:List Pr)(h:ps.length<=1000):YW [.sh (.row (ps.map prE))]=some (.own ((UB ps).map .int)):=by
 unfold YW;walk_at "ev";rw[JfP,<- List.map_drop,JjM];walk_at "ev";have hz:(List.zip ps (ps.drop 1)).length<=16777216:=by rw[List.length_zip];omega
 rw[if_pos hz,Yp (g:=fun pq=>D.int (pq.2.1-(pq.1.1+pq.1.2)))]
 ·walk_at "ev";rw[ZZ,List.map_map];rfl
 ·intro pq _;walk_at "ev";rw[W2];walk_at "ev";rw[Vj (ns:=[pq.1.1,pq.1.2]) rfl];walk_at "ev";simp
theorem Y9{α:Type}{xs:List α}{k:Nat}{x:α}(h:xs[k]?=some x):atI xs (k:Int)=some x:=by obtain⟨h1,h2⟩:=List.getElem?_eq_some_iff.mp h;rw[Jbl h1,h2]
theorem Good.mk'{p:Pr}{ps:List Pr}(h1:1<=p.2)(h2:∀q,ps[0]?=some q->p.1+p.2<q.1)(g:Good ps):Good (p::ps):=by
 refine⟨fun i q e=>?_,fun i q r e1 e2=>?_⟩
 ·cases i with
  | zero=>simp at e;subst e;exact h1
  | succ i=>exact g.one i q (by simpa using e)
 ·cases i with
  | zero=>simp at e1;subst e1;exact h2 r (by simpa using e2)
  | succ i=>exact g.gap i q r (by simpa using e1) (by simpa using e2)
noncomputable def byF(k:Int)(ps:List Pr):List Pr:=ps.mapIdx fun i p=>(p.1+2*k*(i:Int),p.2+k)
theorem Jay(k:Int)(ps:List Pr):(byF k ps).length=ps.length:=by unfold byF;rw[List.length_mapIdx]
theorem Jax{k:Int}{ps:List Pr}{i:Nat}{x:Pr}(e:(byF k ps)[i]?=some x):∃p,ps[i]?=some p/\x=(p.1+2*k*(i:Int),p.2+k):=by unfold byF at e;rw[List.getElem?_mapIdx,Option.map_eq_some_iff] at e;obtain⟨p,h,rfl⟩:=e;exact⟨p,h,rfl⟩
theorem JmK(a b:Int)(ps:List Pr):byF a (byF b ps)=byF (a+b) ps:=by
 refine List.ext_getElem? fun i=>?_
 unfold byF;rw[List.getElem?_mapIdx,List.getElem?_mapIdx,List.getElem?_mapIdx,Option.map_map]
 cases ps[i]? with
 | none=>rfl
 | some p=>show some (p.1+2*b*(i:Int)+2*a*(i:Int),p.2+b+a)=some (p.1+2*(a+b)*(i:Int),p.2+(a+b));rw[Int.mul_add,Int.add_mul];congr 2 <;> omega
theorem Jdq(ps:List Pr):byF 0 ps=ps:=by
 refine List.ext_getElem? fun i=>?_
 unfold byF;rw[List.getElem?_mapIdx]
 cases ps[i]? with
 | none=>rfl
 | some p=>simp
structure Wide (c:Int) (ps:List Pr):Prop where
 one:∀(i:Nat) (p:Pr),ps[i]?=some p->c<=p.2
 gap:∀(i:Nat) (p q:Pr),ps[i]?=some p->ps[i+1]?=some q->c<=q.1-(p.1+p.2)
theorem Wide.good{c:Int}{ps:List Pr}(h:1<=c)(w:Wide c ps):Good ps:=⟨fun i p e=>by have:=w.one i p e;omega,fun i p q e1 e2=>by have:=w.gap i p q e1 e2;omega⟩
theorem Wide.bys{c k:Int}{ps:List Pr}(w:Wide c ps):Wide (c+k) (byF k ps):=by
 refine⟨fun i x e=>?_,fun i x y e1 e2=>?_⟩
 ·obtain⟨p,h,rfl⟩:=Jax e;have:=w.one i p h;dsimp only;omega
 ·obtain⟨p,h1,rfl⟩:=Jax e1;obtain⟨q,h2,rfl⟩:=Jax e2;have:=w.gap i p q h1 h2;have em:2*k*((i+1:Nat):Int)=2*k*(i:Int)+2*k:=by rw[Int.natCast_add,Int.mul_add];simp
  dsimp only;rw[em];omega
theorem Wide.mono{c c':Int}{ps:List Pr}(h:c'<=c)(w:Wide c ps):Wide c' ps:=⟨fun i p e=>by have:=w.one i p e;omega,fun i p q e1 e2=>by have:=w.gap i p q e1 e2;omega⟩
theorem Wide.cons{c:Int}{p:Pr}{ps:List Pr}(w:Wide c (p::ps)):Wide c ps:=⟨fun i q e=>w.one (i+1) q (by simpa using e),fun i q r e1 e2=>w.gap (i+1) q r (by simpa using e1) (by simpa using e2)⟩
noncomputable def clF:Pr->List Pr->List Pr
 | cur,[]=>[cur]
 | cur,p::r=>if cur.1+cur.2=p.1 then clF (cur.1,cur.2+p.2) r else if 0<p.2 then cur::clF p r else clF cur r
noncomputable def clN:List Pr->List Pr
 | []=>[]
 | p::r=>if 0<p.2 then clF p r else clN r
theorem JfM:∀(cur:Pr) (r:List Pr),Good (cur::r)->clF cur r=cur::r
 | cur,[],_=>rfl
 | cur,p::r,g=>by
  have h1:=g.gap 0 cur p rfl rfl
  have h2:=g.one 1 p rfl;rw[clF,if_neg (by omega),if_pos (by omega),JfM p r (Good.cons' g)]
theorem JfN{ps:List Pr}(g:Good ps):clN ps=ps:=by
 cases ps with
 | nil=>rfl
 | cons p r=>rw[clN,if_pos (by have:=g.one 0 p rfl;omega),JfM p r g]
theorem VG:∀(cur:Pr) (r:List Pr),1<=cur.2->Wide 0 r->(∀q,r[0]?=some q->cur.1+cur.2<=q.1)->Good (clF cur r)/\∃q,(clF cur r)[0]?=some q/\q.1=cur.1
 | cur,[],h,_,_=>⟨Good.mk' h (fun q e=>by simp at e) Good.nil,cur,rfl,rfl⟩
 | cur,p::r,h,w,hq=>by
  have h0:=w.one 0 p rfl
  have hb:=hq p rfl
  have nx:∀q,r[0]?=some q->p.1+p.2<=q.1:=fun q e=>by have:=w.gap 0 p q rfl (by simpa using e);omega
  rw[clF];split
  ·next e=>exact VG (cur.1,cur.2+p.2) r (by dsimp only;omega) w.cons fun q e'=>by have:=nx q e';dsimp only;omega
  ·next e =>
   split
   ·next hp=>obtain⟨g,q,e1,e2⟩:=VG p r (by omega) w.cons nx;exact⟨Good.mk' h (fun q' e'=>by rw[e1] at e';cases e';omega) g,cur,rfl,rfl⟩
   ·next hp=>exact VG cur r h w.cons fun q e'=>by have:=nx q e';omega
theorem Jbs:∀(ps:List Pr),Wide 0 ps->Good (clN ps)
 | [],_=>Good.nil
 | p::r,w=>by
  rw[clN];split
  ·next h=>exact(VG p r (by omega) w.cons fun q e=>by have:=w.gap 0 p q rfl (by simpa using e);omega).1
  ·exact Jbs r w.cons
theorem WE:∀(cur:Pr) (r:List Pr),(clF cur r).length<=r.length+1/\((clF cur r).length=r.length+1->(∀p∈r,0<p.2)/\∀(i:Nat) (p q:Pr),(cur::r)[i]?=some p->(cur::r)[i+1]?=some q->p.1+p.2≠q.1)
 | cur,[]=>⟨Nat.le_refl _,fun _=>⟨fun p hp=>(by cases hp),fun i p q _ e=>(by simp at e)⟩⟩
 | cur,p::r=>by
  rw[clF,List.length_cons];split
  ·next e=>have ih:=(WE (cur.1,cur.2+p.2) r).1;exact⟨by omega,fun h=>by omega⟩
  ·next e =>
   split
   ·next hp =>
    obtain⟨i1,i2⟩:=WE p r;refine⟨by rw[List.length_cons];omega,fun h=>?_⟩;obtain⟨a1,a2⟩:=i2 (by rw[List.length_cons] at h;omega);refine⟨fun q hq=>?_,fun i x y e1 e2=>?_⟩
    ·rcases List.mem_cons.mp hq with z|z
     ·rw[z];exact hp
     ·exact a1 q z
    ·cases i with
     | zero=>simp at e1 e2;subst e1 e2;exact e
     | succ i=>exact a2 i x y (by simpa using e1) (by simpa using e2)
   ·have ih:=(WE cur r).1;exact⟨by omega,fun h=>by omega⟩
theorem WF:∀(ps:List Pr),(clN ps).length<=ps.length/\((clN ps).length=ps.length->(∀p∈ps,0<p.2)/\∀(i:Nat) (p q:Pr),ps[i]?=some p->ps[i+1]?=some q->p.1+p.2≠q.1)
 | []=>⟨Nat.le_refl _,fun _=>⟨fun p hp=>(by cases hp),fun i p q e=>(by simp at e)⟩⟩
 | p::r=>by
  rw[clN,List.length_cons];split
  ·next hp=>obtain⟨i1,i2⟩:=WE p r;refine⟨i1,fun h=>?_⟩;obtain⟨a1,a2⟩:=i2 h;exact⟨fun q hq=>(List.mem_cons.mp hq).elim (fun z=>z▸hp) (a1 q),a2⟩
  ·have ih:=(WF r).1;exact⟨by omega,fun h=>by omega⟩
noncomputable def thF(ps:List Pr):List Pr:=clN (byF (-1) ps)
noncomputable def thN:Nat->List Pr->List Pr
 | 0,ps=>ps
 | n+1,ps=>thN n (thF ps)
theorem JjD(a b:Nat):∀ps:List Pr,thN (a+b) ps=thN b (thN a ps):=by
 induction a with
 | zero=>intro ps;rw[Nat.zero_add];rfl
 | succ a ih=>intro ps;rw[Nat.succ_add];exact ih (thF ps)
theorem Jen:∀n,thN n []=[]
 | 0=>rfl
 | n+1=>Jen n
theorem Zz{ps:List Pr}(g:Good ps):Good (thF ps):=Jbs _ (by
 have w:Wide 1 ps:=⟨fun i p e=>g.one i p e,fun i p q e1 e2=>by have:=g.gap i p q e1 e2;omega⟩
 exact w.bys (k:=-1))
theorem Jcg:∀(n:Nat) {ps:List Pr},Good ps->Good (thN n ps)
 | 0,_,g=>g
 | n+1,_,g=>Jcg n (Zz g)
theorem Jhs:∀(n:Nat) {c:Int} {ps:List Pr},Wide c ps->1<=c->((n:Int)<=c)->thN n ps=clN (byF (-(n:Int)) ps)
 | 0,c,ps,w,h1,_=>by show ps=clN (byF (-((0:Nat):Int)) ps);rw[show -((0:Nat):Int)=0 by simp,Jdq,JfN (w.good h1)]
 | n+1,c,ps,w,h1,hn=>by
  show thN n (thF ps)=_
  by_cases h:n=0
  ·subst h;rfl
  ·have w1:Wide (c+-1) (byF (-1) ps):=w.bys
   have e:thF ps=byF (-1) ps:=JfN (w1.good (by omega));rw[e,Jhs n w1 (by omega) (by omega),JmK];congr 2;omega
noncomputable def JfA(c:Int)(ps:List Pr):Prop:=(∃p∈ps,p.2=c)\/∃(i:Nat) (p q:Pr),ps[i]?=some p/\ps[i+1]?=some q/\q.1-(p.1+p.2)=c
theorem Jhu{c:Int}{ps:List Pr}(t:JfA c ps):(clN (byF (-c) ps)).length<ps.length:=by
 obtain⟨h1,h2⟩:=WF (byF (-c) ps);rw[Jay] at h1 h2;rcases Nat.lt_or_ge (clN (byF (-c) ps)).length ps.length with h|h
 ·exact h
 ·obtain⟨a1,a2⟩:=h2 (by omega)
  exfalso
  rcases t with ⟨p,hp,e⟩|⟨i,p,q,e1,e2,e⟩
  ·obtain⟨i,hi,rfl⟩:=List.mem_iff_getElem.mp hp
   have hx:(byF (-c) ps)[i]?=some (ps[i].1+2*-c*(i:Int),ps[i].2+-c):=by unfold byF;rw[List.getElem?_mapIdx,List.getElem?_eq_getElem hi];rfl
   have:=a1 _ (List.mem_of_getElem? hx);dsimp only at this;omega
  ·have hx:(byF (-c) ps)[i]?=some (p.1+2*-c*(i:Int),p.2+-c):=by unfold byF;rw[List.getElem?_mapIdx,e1];rfl
   have hy:(byF (-c) ps)[i+1]?=some (q.1+2*-c*((i+1:Nat):Int),q.2+-c):=by unfold byF;rw[List.getElem?_mapIdx,e2];rfl
   have:=a2 i _ _ hx hy
   have em:2*-c*((i+1:Nat):Int)=2*-c*(i:Int)+2*-c:=by rw[Int.natCast_add,Int.mul_add];simp
   dsimp only at this;rw[em] at this;omega
noncomputable def zs(n:Nat):List Int:=List.replicate n 0
noncomputable def os(n:Nat):List Int:=List.replicate n 1
noncomputable def blk:Int->List Pr->List Int
 | _,[]=>[]
 | pos,p::r=>zs (p.1-pos).toNat++(os p.2.toNat++blk (p.1+p.2) r)
theorem J9(pos:Int)(p:Pr)(r:List Pr):blk pos (p::r)=zs (p.1-pos).toNat++(os p.2.toNat++blk (p.1+p.2) r):=rfl
noncomputable def thL:List Int->List Int
 | []=>[]
 | [x]=>[x]
 | x::y::r=>if x=1/\y=0 then thL r else x::thL (y::r)
theorem Jdi(a b:Nat):zs a++zs b=zs (a+b):=by unfold zs;rw[List.replicate_append_replicate]
theorem JgB(a b:Nat):os a++os b=os (a+b):=by unfold os;rw[List.replicate_append_replicate]
theorem Vn(n:Nat):zs (n+1)=0::zs n:=rfl
theorem Jd3(n:Nat):os (n+1)=1::os n:=rfl
theorem Jhr(r:List Int):thL (0::r)=0::thL r:=by
 cases r with
 | nil=>rfl
 | cons y r=>rw[thL,if_neg (by simp)]
theorem Jbe:∀(n:Nat) (r:List Int),thL (zs n++r)=zs n++thL r
 | 0,r=>rfl
 | n+1,r=>by rw[Vn,List.cons_append,Jhr,Jbe n r];rfl
theorem Jdd:∀(n:Nat) (r:List Int),thL (os (n+1)++0::r)=os n++thL r
 | 0,r=>by show thL (1::0::r)=_;rw[thL,if_pos ⟨rfl,rfl⟩];rfl
 | n+1,r=>by
  show thL (1::1::(os n++0::r))=_;rw[thL,if_neg (by simp)]
  have:=Jdd n r;rw[Jd3,List.cons_append] at this;rw[this];rfl
noncomputable def byR:Int->List Pr->List Pr
 | _,[]=>[]
 | c,p::r=>(p.1-c,p.2-1)::byR (c+2) r
theorem Jdp:∀(ps:List Pr) (c:Int),byR c ps=ps.mapIdx fun i p=>(p.1+2*(-1)*(i:Int)-c,p.2+-1)
 | [],c=>rfl
 | p::r,c=>by
  rw[byR,List.mapIdx_cons,Jdp r (c+2)];congr 1
  ·congr 1;simp
  ·refine List.ext_getElem? fun i=>?_
   rw[List.getElem?_mapIdx,List.getElem?_mapIdx]
   cases r[i]? with
   | none=>rfl
   | some q=>simp only[Option.map_some,Int.natCast_add];congr 2;omega
theorem Jdo(ps:List Pr):byR 0 ps=byF (-1) ps:=by
 rw[Jdp];unfold byF;congr 1
 funext i p
 congr 1;omega
theorem Jht:∀(ps:List Pr) (c pos:Int) (n:Nat),Good ps->(∀q,ps[0]?=some q->pos<=q.1)->ps≠[]->1<=n ->
 thL (blk pos ps++zs n)=blk (pos-c) (byR c ps)++zs (n-1)
 | [],c,pos,n,_,_,h,_=>absurd rfl h
 | p::r,c,pos,n,g,hp,_,hn=>by
  have h1:=g.one 0 p rfl
  have h2:=hp p rfl;obtain⟨l,hl⟩:∃l:Nat,p.2.toNat=l+1:=⟨p.2.toNat-1,by omega⟩
  rw[blk,byR,blk,List.append_assoc,Jbe,hl];have e1:(p.1-c-(pos-c)).toNat=(p.1-pos).toNat:=by congr 1;omega
  have e2:(p.2-1).toNat=l:=by omega
  dsimp only;rw[e1,e2,List.append_assoc,List.append_assoc,List.append_assoc];congr 1
  cases r with
  | nil =>
   obtain⟨m,rfl⟩:∃m,n=m+1:=⟨n-1,by omega⟩
   show thL (os (l+1)++([]++zs (m+1)))=os l++([]++zs m)
   rw[List.nil_append,List.nil_append,Vn,Jdd];congr 1;have:=Jbe m [];rw[List.append_nil] at this;rw[this];exact List.append_nil _
  | cons q r =>
   have h3:=g.gap 0 p q rfl rfl;obtain⟨a,ha⟩:∃a:Nat,(q.1-(p.1+p.2)).toNat=a+1:=⟨(q.1-(p.1+p.2)).toNat-1,by omega⟩
   have e:blk (p.1+p.2) (q::r)=0::blk (p.1+p.2+1) (q::r):=by rw[blk,blk,ha,Vn,List.cons_append];congr 2;congr 1;omega
   rw[e,List.cons_append,Jdd];congr 1;rw[Jht (q::r) (c+2) (p.1+p.2+1) n (Good.cons' g) (fun q' e'=>by simp at e';subst e';omega) (by simp) hn];congr 2;omega
theorem Jbn{e:Int}{p:Pr}{r:List Pr}{n:Nat}(h:p.2=0)(hp:e<=p.1)(hr:∀q,r[0]?=some q->p.1<=q.1):∃m,n<=m/\blk e (p::r)++zs n=blk e r++zs m:=by
 cases r with
 | nil=>refine⟨(p.1-e).toNat+n,by omega,?_⟩;rw[J9,h];show zs _++([]++[])++zs n=[]++zs _;rw[List.append_nil,List.append_nil,Jdi,List.nil_append]
 | cons q r =>
  have:=hr q rfl;refine⟨n,Nat.le_refl _,?_⟩;rw[J9 e p,h]
  show zs _++([]++(blk (p.1+0) (q::r)))++zs n=_;rw[List.nil_append,J9,J9,<- List.append_assoc (zs _) (zs _),Jdi];congr 3;omega
theorem JaC:∀(r:List Pr) (cur:Pr) (pos:Int) (n:Nat),1<=cur.2->Wide 0 r->(∀q,r[0]?=some q->cur.1+cur.2<=q.1)->∃m,n<=m/\blk pos (cur::r)++zs n=blk pos (clF cur r)++zs m
 | [],cur,pos,n,_,_,_=>⟨n,Nat.le_refl _,rfl⟩
 | p::r,cur,pos,n,h,w,hq=>by
  have h0:=w.one 0 p rfl
  have hb:=hq p rfl
  have nx:∀q,r[0]?=some q->p.1+p.2<=q.1:=fun q e=>by have:=w.gap 0 p q rfl (by simpa using e);omega
  rw[clF];split
  ·next e =>
   obtain⟨m,hm,em⟩:=JaC r (cur.1,cur.2+p.2) pos n (by dsimp only;omega) w.cons fun q e'=>by have:=nx q e';dsimp only;omega
   refine⟨m,hm,?_⟩;rw[<- em,blk,blk,blk];dsimp only;rw[show(p.1-(cur.1+cur.2)).toNat=0 by omega,show(cur.2+p.2).toNat=cur.2.toNat+p.2.toNat by omega,<- JgB,show cur.1+(cur.2+p.2)=p.1+p.2 by omega];simp[zs]
  ·next e =>
   split
   ·next hp=>obtain⟨m,hm,em⟩:=JaC r p (cur.1+cur.2) n (by omega) w.cons nx;refine⟨m,hm,?_⟩;rw[J9 pos cur,J9 pos cur,List.append_assoc,List.append_assoc,em];simp only[List.append_assoc]
   ·next hp =>
    obtain⟨m,hm,em⟩:=Jbn (e:=cur.1+cur.2) (p:=p) (r:=r) (n:=n) (by omega) hb (fun q e'=>by have:=nx q e';omega);obtain⟨m2,hm2,em2⟩:=JaC r cur pos m h w.cons fun q e'=>by have:=nx q e';omega
    refine⟨m2,by omega,?_⟩;rw[<- em2,J9 pos cur,List.append_assoc,List.append_assoc,em,J9 pos cur];simp only[List.append_assoc]
theorem Jdr:∀(ps:List Pr) (pos:Int) (n:Nat),Wide 0 ps->(∀q,ps[0]?=some q->pos<=q.1)->∃m,n<=m/\blk pos ps++zs n=blk pos (clN ps)++zs m
 | [],pos,n,_,_=>⟨n,Nat.le_refl _,rfl⟩
 | p::r,pos,n,w,hp=>by
  have h0:=w.one 0 p rfl
  have hb:=hp p rfl
  have nx:∀q,r[0]?=some q->p.1+p.2<=q.1:=fun q e=>by have:=w.gap 0 p q rfl (by simpa using e);omega
  rw[clN];split
  ·next h=>exact JaC r p pos n (by omega) w.cons nx
  ·next h =>
   obtain⟨m,hm,em⟩:=Jbn (e:=pos) (p:=p) (r:=r) (n:=n) (by omega) hb (fun q e'=>by have:=nx q e';omega);obtain⟨m2,hm2,em2⟩:=Jdr r pos m w.cons fun q e'=>by have:=nx q e';omega
   exact⟨m2,by omega,by rw[em,em2]⟩
theorem JeT{ps:List Pr}(g:Good ps):Wide 1 ps:=⟨fun i p e=>g.one i p e,fun i p q e1 e2=>by have:=g.gap i p q e1 e2;omega⟩
theorem JjC{ps:List Pr}{pos:Int}{n:Nat}(g:Good ps)(hp:∀q,ps[0]?=some q->pos<=q.1)(hne:ps≠[])(hn:1<=n):∃m,n-1<=m/\thL (blk pos ps++zs n)=blk pos (thF ps)++zs m:=by
 have e:=Jht ps 0 pos n g hp hne hn;rw[Jdo,Int.sub_zero] at e
 have w:Wide 0 (byF (-1) ps):=((JeT g).bys (k:=-1)).mono (by decide)
 obtain⟨m,hm,em⟩:=Jdr (byF (-1) ps) pos (n-1) w fun q e'=>by obtain⟨p,h1,rfl⟩:=Jax e';have:=hp p h1;simp;exact this
 exact⟨m,hm,by rw[e,em];rfl⟩
noncomputable def tkS(x prev pos:Int)(acc:List Pr):List Pr :=
 if x=1/\prev=1 then acc.dropLast++[((acc.getLastD (0,0)).1,(acc.getLastD (0,0)).2+1)] else if x=1 then acc++[(pos,1)] else acc
noncomputable def tk:Int->Int->List Pr->List Int->List Pr
 | _,_,acc,[]=>acc
 | prev,pos,acc,x::r=>tk x (pos+1) (tkS x prev pos acc) r
theorem Jhw:∀(n:Nat) (prev pos:Int) (acc:List Pr) (r:List Int),tk prev pos acc (zs (n+1)++r)=tk 0 (pos+(n+1:Nat)) acc r
 | 0,prev,pos,acc,r=>by show tk 0 (pos+1) (tkS 0 prev pos acc) r=_;unfold tkS;rw[if_neg (by simp),if_neg (by simp)];rfl
 | n+1,prev,pos,acc,r=>by show tk 0 (pos+1) (tkS 0 prev pos acc) (zs (n+1)++r)=_;rw[Jhw n];unfold tkS;rw[if_neg (by simp),if_neg (by simp)];congr 1;omega
theorem Jeo:∀(n:Nat) (pos:Int) (acc:List Pr) (p:Pr) (r:List Int),tk 1 pos (acc++[p]) (os n++r)=tk 1 (pos+(n:Int)) (acc++[(p.1,p.2+(n:Int))]) r
 | 0,pos,acc,p,r=>by simp[os]
 | n+1,pos,acc,p,r=>by
  show tk 1 (pos+1) (tkS 1 1 pos (acc++[p])) (os n++r)=_;unfold tkS;rw[if_pos ⟨rfl,rfl⟩,List.dropLast_concat,List.getLastD_concat,Jeo n];congr 1
  ·omega
  ·congr 3;dsimp only;omega
theorem JnB(n:Nat)(prev pos:Int)(acc:List Pr)(r:List Int)(h:prev≠1):tk prev pos acc (os (n+1)++r)=tk 1 (pos+(n+1:Nat)) (acc++[(pos,((n+1:Nat):Int))]) r:=by
 show tk 1 (pos+1) (tkS 1 prev pos acc) (os n++r)=_;unfold tkS;rw[if_neg (by simp[h]),if_pos rfl,Jeo];congr 1
 ·omega
 ·congr 3;dsimp only;omega
theorem Jmr:∀(n:Nat) (prev pos:Int) (acc:List Pr),tk prev pos acc (zs n)=acc
 | 0,_,_,_=>rfl
 | n+1,prev,pos,acc=>by have:=Jhw n prev pos acc [];rw[List.append_nil] at this;rw[this];rfl
theorem Jhv:∀(ps:List Pr) (prev pos:Int) (acc:List Pr) (n:Nat),Good ps->(∀q,ps[0]?=some q->pos<=q.1/\(prev=1->pos<q.1))->tk prev pos acc (blk pos ps++zs n)=acc++ps
 | [],prev,pos,acc,n,_,_=>by rw[blk,List.nil_append,Jmr,List.append_nil]
 | p::r,prev,pos,acc,n,g,hp=>by
  have h1:=g.one 0 p rfl;obtain⟨h2,h3⟩:=hp p rfl;obtain⟨l,hl⟩:∃l:Nat,p.2.toNat=l+1:=⟨p.2.toNat-1,by omega⟩
  rw[blk,List.append_assoc,List.append_assoc,hl]
  have key:∀prev',prev'≠1->tk prev' p.1 acc (os (l+1)++(blk (p.1+p.2) r++zs n))=acc++p::r:=fun prev' hne=>by
   rw[JnB _ _ _ _ _ hne];have e1:p.1+((l+1:Nat):Int)=p.1+p.2:=by omega
   have e2:(p.1,((l+1:Nat):Int))=p:=by
    have:((l+1:Nat):Int)=p.2:=by omega
    rw[this]
   rw[e1,e2,Jhv r 1 (p.1+p.2) (acc++[p]) n (Good.cons' g) fun q e=>by have:=g.gap 0 p q rfl (by simpa using e);exact⟨by omega,fun _=>by omega⟩]
   rw[List.append_assoc];rfl
  by_cases hz:(p.1-pos).toNat=0
  ·rw[hz];have e:pos=p.1:=by omega
   subst e;exact key prev fun z=>by have:=h3 z;omega
  ·obtain⟨a,ha⟩:∃a:Nat,(p.1-pos).toNat=a+1:=⟨(p.1-pos).toNat-1,by omega⟩
   rw[ha,Jhw,show pos+((a+1:Nat):Int)=p.1 by omega];exact key 0 (by decide)
noncomputable def JH(ps:List Pr)(x:Int):Int:=(ps.map fun p=>max 0 (min p.2 (x-p.1))).sum
theorem Uu(p:Pr)(ps:List Pr)(x:Int):JH (p::ps) x=max 0 (min p.2 (x-p.1))+JH ps x:=by unfold JH;rw[List.map_cons,List.sum_cons]
theorem WR{ps:List Pr}{x:Int}(h:∀p∈ps,x<=p.1):JH ps x=0:=by
 induction ps with
 | nil=>rfl
 | cons p ps ih=>have h1:=h p List.mem_cons_self;rw[Uu,ih fun q hq=>h q (List.mem_cons_of_mem _ hq)];omega
noncomputable def J5(ps:List Pr)(y:Int):Bool:=ps.any fun p=>decide (p.1<=y) && decide (y<p.1+p.2)
theorem has_iff{ps:List Pr}{y:Int}:J5 ps y=true↔∃p∈ps,p.1<=y/\y<p.1+p.2:=by unfold J5;rw[List.any_eq_true];simp
theorem JaO{ps:List Pr}{y:Int}(h:∀p∈ps,p.1<=y->p.1+p.2<=y):J5 ps y=false:=by
 cases e:J5 ps y with
 | false=>rfl
 | true=>obtain⟨p,hp,h1,h2⟩:=has_iff.mp e;have:=h p hp h1;omega
theorem Jm6{l d:Int}(h0:0<=d)(h1:d<l):max 0 (min l (d+1))=max 0 (min l d)+1:=by rw[Int.min_eq_right (by omega),Int.min_eq_right (by omega),Int.max_eq_right (by omega),Int.max_eq_right h0]
theorem Jld{l d:Int}(hl:0<=l)(h:d<0\/l<=d):max 0 (min l (d+1))=max 0 (min l d):=by
 rcases h with h|h
 ·rw[Int.min_eq_right (by omega),Int.min_eq_right (by omega),Int.max_eq_left (by omega),Int.max_eq_left (by omega)]
 ·rw[Int.min_eq_left (by omega),Int.min_eq_left h]
theorem WQ(y:Int):∀{ps:List Pr},Good ps->JH ps (y+1)=JH ps y+(if J5 ps y=true then 1 else 0)
 | [],_=>rfl
 | p::ps,g=>by
  have ih:=WQ y (Good.cons' g)
  have hp:=g.one 0 p rfl;rw[Uu,Uu,ih]
  by_cases h1:p.1<=y/\y<p.1+p.2
  ·have e1:J5 (p::ps) y=true:=has_iff.mpr ⟨p,List.mem_cons_self,h1⟩
   have e2:J5 ps y=false:=JaO fun q hq hy=>by
    have:=Good.first g q hq
    omega
   rw[e1,e2,if_pos rfl,if_neg (by simp),show y+1-p.1=y-p.1+1 by omega,Jm6 (show 0<=y-p.1 by omega) (show y-p.1<p.2 by omega)]
   generalize max 0 (min p.2 (y-p.1))=m
   omega
  ·have e1:J5 (p::ps) y=J5 ps y:=by
    unfold J5;rw[List.any_cons]
    have:(decide (p.1<=y) && decide (y<p.1+p.2))=false:=by
     cases h:(decide (p.1<=y) && decide (y<p.1+p.2)) with
     | false=>rfl
     | true=>rw[Bool.and_eq_true,decide_eq_true_eq,decide_eq_true_eq] at h;exact absurd h h1
    rw[this,Bool.false_or]
   rw[e1,show y+1-p.1=y-p.1+1 by omega,Jld (show 0<=p.2 by omega) (show y-p.1<0\/p.2<=y-p.1 by omega),Int.add_assoc]
theorem Yq(p:Pr)(ps:List Pr)(x:Int):J5 (p::ps) x=((decide (p.1<=x) && decide (x<p.1+p.2)) || J5 ps x):=by unfold J5;rw[List.any_cons]
theorem Vv{p:Pr}{ps:List Pr}{x:Int}(h1:p.1<=x)(h2:x<p.1+p.2):J5 (p::ps) x=true:=has_iff.mpr ⟨p,List.mem_cons_self,h1,h2⟩
theorem WI{p:Pr}{ps:List Pr}{x:Int}(h:p.1+p.2<=x):J5 (p::ps) x=J5 ps x:=by rw[Yq];have:decide (x<p.1+p.2)=false:=decide_eq_false (by omega);rw[this,Bool.and_false,Bool.false_or]
theorem YZ{ps:List Pr}{x:Int}(h:∀p∈ps,x<p.1):J5 ps x=false:=JaO fun p hp hx=>by have:=h p hp;omega
theorem JdP:∀{ps qs:List Pr},Good ps->Good qs->(∀x,J5 ps x=J5 qs x)->ps=qs
 | [],[],_,_,_=>rfl
 | [],q::qs,_,g,h=>by have:=h q.1;rw[Vv (Int.le_refl _) (by have:=g.one 0 q rfl;omega)] at this;cases this
 | p::ps,[],g,_,h=>by have:=h p.1;rw[Vv (Int.le_refl _) (by have:=g.one 0 p rfl;omega)] at this;cases this
 | p::ps,q::qs,g,g',h=>by
  have hp:=g.one 0 p rfl
  have hq:=g'.one 0 q rfl
  have le:∀{p:Pr} {ps:List Pr} {x:Int},Good (p::ps)->J5 (p::ps) x=true->p.1<=x:=fun {p ps x} g e=>by
   obtain⟨r,hr,h1,h2⟩:=has_iff.mp e;rcases List.mem_cons.mp hr with z|z
   ·rw[<- z];exact h1
   ·have:=Good.first g r z
    have:=g.one 0 p rfl;omega
  have e1:p.1=q.1:=by
   have a:=le g' (x:=p.1) (by rw[<- h];exact Vv (Int.le_refl _) (by omega))
   have b:=le g (x:=q.1) (by rw[h];exact Vv (Int.le_refl _) (by omega));omega
  have off:∀{p:Pr} {ps:List Pr},Good (p::ps)->J5 (p::ps) (p.1+p.2)=false:=fun {p ps} g=>by rw[WI (Int.le_refl _)];exact YZ fun z hz=>Good.first g z hz
  have e2:p.2=q.2:=by
   have a:=h (p.1+p.2);rw[off g] at a
   have b:=h (q.1+q.2);rw[off g'] at b
   by_cases c:p.2<q.2
   ·rw[Vv (p:=q) (by omega) (by omega)] at a;cases a
   ·by_cases c':q.2<p.2
    ·rw[Vv (p:=p) (by omega) (by omega)] at b;cases b
    ·omega
  have e:p=q:=Prod.ext e1 e2;subst e;rw[JdP (Good.cons' g) (Good.cons' g') fun x=>?_]
  by_cases c:p.1+p.2<=x
  ·have:=h x
   rwa [WI c,WI c] at this
  ·rw[YZ fun z hz=>by have:=Good.first g z hz;omega,YZ fun z hz=>by have:=Good.first g' z hz;omega]
theorem Je8(a b:Int):a<b\/b<=a:=by omega
theorem Vs{ps:List Pr}(h:∀p∈ps,0<=p.2){x y:Int}(hxy:x<=y):JH ps x<=JH ps y:=by
 induction ps with
 | nil=>exact Int.le_refl _
 | cons p r ih =>
  have i:=ih fun q hq=>h q (List.mem_cons_of_mem _ hq)
  rw[Uu,Uu];exact Int.add_le_add (Int.max_le.mpr ⟨Int.le_max_left _ _,Int.le_trans (Int.le_min.mpr ⟨Int.min_le_left _ _,Int.le_trans (Int.min_le_right _ _) (by omega)⟩) (Int.le_max_right _ _)⟩) i
theorem US{ps:List Pr}(g:Good ps){a:Int}:∀n:Nat,JH ps (a+(n:Int))<=JH ps a+(n:Int)/\((∀y,a<=y->y<a+(n:Int)->J5 ps y=true)->JH ps (a+(n:Int))=JH ps a+(n:Int))/\((∀y,a<=y->y<a+(n:Int)->J5 ps y=false)->JH ps (a+(n:Int))=JH ps a)
 | 0=>by simp
 | n+1=>by
  obtain⟨i1,i2,i3⟩:=US g (a:=a) n;have e:a+((n+1:Nat):Int)=a+(n:Int)+1:=by omega
  rw[e,WQ (a+(n:Int)) g];refine⟨by split <;> omega,fun h=>?_,fun h=>?_⟩
  ·rw[if_pos (h (a+(n:Int)) (by omega) (by omega)),i2 fun y h1 h2=>h y h1 (by omega)];omega
  ·rw[if_neg (by rw[h (a+(n:Int)) (by omega) (by omega)];simp),i3 fun y h1 h2=>h y h1 (by omega),Int.add_zero]
theorem UG{ps:List Pr}(g:Good ps){x y:Int}(h:x<=y):JH ps y<=JH ps x+(y-x):=by have:=(US g (a:=x) (y-x).toNat).1;rw[show x+((y-x).toNat:Int)=y by omega] at this;omega
theorem Jcp{ps:List Pr}(g:Good ps){x y:Int}(h:x<=y)(hb:∀z,x<=z->z<y->J5 ps z=true):JH ps y=JH ps x+(y-x):=by
 have:=(US g (a:=x) (y-x).toNat).2.1 fun z h1 h2=>hb z h1 (by omega (config:={}))
 rw[show x+((y-x).toNat:Int)=y by omega (config:={})] at this;omega (config:={})
theorem Jco{ps:List Pr}(g:Good ps){x y:Int}(h:x<=y)(hb:∀z,x<=z->z<y->J5 ps z=false):JH ps y=JH ps x:=by
 have:=(US g (a:=x) (y-x).toNat).2.2 fun z h1 h2=>hb z h1 (by omega (config:={}))
 rw[show x+((y-x).toNat:Int)=y by omega (config:={})] at this;omega (config:={})
noncomputable def edF(ps:List Pr):Nat->Int->List Int->List Pr
 | _,_,[]=>[]
 | i,c,s::r=>(s+2*(i:Int)-(JH ps s-c),JH ps s-c+1)::edF ps (i+1) (JH ps s) r
noncomputable def flF(ps:List Pr):Int->List Int->List Pr
 | _,[]=>[]
 | c,s::r=>(s-(JH ps s-c),JH ps s-c)::flF ps (JH ps s) r
theorem JjQ(ps:List Pr):∀(sp:List Int) (i:Nat) (c:Int),byR (2*(i:Int)) (edF ps i c sp)=flF ps c sp
 | [],_,_=>rfl
 | s::r,i,c=>by
  rw[edF,byR,flF];congr 1
  ·congr 1 <;> dsimp only <;> omega
  ·rw[<- JjQ ps r (i+1) (JH ps s)];congr 1
theorem JcC(ps:List Pr):∀(sp:List Int) (i:Nat) (c:Int),(edF ps i c sp).length=sp.length
 | [],_,_=>rfl
 | s::r,i,c=>by rw[edF,List.length_cons,List.length_cons,JcC ps r]
theorem JdC{ps:List Pr}(g:Good ps):∀(sp:List Int) (i:Nat) (s0:Int),(s0::sp).Pairwise (·<=·)->Good (edF ps i (JH ps s0) sp)
 | [],_,_,_=>Good.nil
 | s::r,i,s0,hs=>by
  obtain⟨h1,h2⟩:=List.pairwise_cons.mp hs;have h3:=h1 s List.mem_cons_self;have m1:=Vs (fun p hp=>by have:=Good.all g p hp;omega) h3;rw[edF];refine Good.mk' (by dsimp only;omega) (fun q e=>?_) (JdC g r (i+1) s h2)
  cases r with
  | nil=>simp[edF] at e
  | cons s' r=>obtain⟨h4,_⟩:=List.pairwise_cons.mp h2;have h5:=h4 s' List.mem_cons_self;have l1:=UG g h5;simp[edF] at e;subst e;dsimp only;omega
theorem JdL{ps:List Pr}(g:Good ps):∀(sp:List Int) (s0:Int),(s0::sp).Pairwise (·<=·)->Wide 0 (flF ps (JH ps s0) sp)
 | [],_,_=>⟨fun i p e=>by simp[flF] at e,fun i p q e=>by simp[flF] at e⟩
 | s::r,s0,hs=>by
  obtain⟨h1,h2⟩:=List.pairwise_cons.mp hs;have h3:=h1 s List.mem_cons_self;have m1:=Vs (fun p hp=>by have:=Good.all g p hp;omega) h3;have ih:=JdL g r s h2;rw[flF];refine⟨fun i p e=>?_,fun i p q e1 e2=>?_⟩
  ·cases i with
   | zero=>simp at e;subst e;dsimp only;omega
   | succ i=>exact ih.one i p (by simpa using e)
  ·cases i with
   | zero =>
    simp at e1;subst e1
    cases r with
    | nil=>simp[flF] at e2
    | cons s' r=>obtain⟨h4,_⟩:=List.pairwise_cons.mp h2;have h5:=h4 s' List.mem_cons_self;have l1:=UG g h5;simp[flF] at e2;subst e2;dsimp only;omega
   | succ i=>exact ih.gap i p q (by simpa using e1) (by simpa using e2)
theorem Jf4{ps:List Pr}(g:Good ps):∀(sp:List Int) (s0:Int),(s0::sp).Pairwise (·<=·)->(∀p∈ps,s0<p.1+p.2->p.1+p.2∈sp) ->
 (∀x,s0<=x->J5 (flF ps (JH ps s0) sp) x=J5 ps x)/\∀x,x<s0->J5 (flF ps (JH ps s0) sp) x=false
 | [],s0,_,he=>by
  refine⟨fun x hx=>?_,fun x hx=>rfl⟩
  have:J5 ps x=false:=JaO fun p hp h1=>by
   rcases Je8 s0 (p.1+p.2) with z|z
   ·cases he p hp z
   ·omega
  rw[this];rfl
 | s::r,s0,hs,he=>by
  obtain⟨h1,h2⟩:=List.pairwise_cons.mp hs;have h3:=h1 s List.mem_cons_self;have hr:∀t∈r,s<=t:=(List.pairwise_cons.mp h2).1
  have lip:=UG g h3
  obtain⟨i1,i2⟩:=Jf4 g r s h2 fun p hp h=>by
   rcases List.mem_cons.mp (he p hp (by omega)) with z|z
   ·omega
   ·exact z
  have run:∀y,s0<=y->y<s->J5 ps y=true->∀z,y<=z->z<s->J5 ps z=true:=fun y y1 y2 hy z z1 z2=>by
   obtain⟨p,hp,a1,a2⟩:=has_iff.mp hy
   have:s<=p.1+p.2:=by
    rcases List.mem_cons.mp (he p hp (by omega)) with w|w
    ·omega
    ·exact hr _ w
   exact has_iff.mpr ⟨p,hp,by omega,by omega⟩
  rw[flF];refine⟨fun x hx=>?_,fun x hx=>?_⟩
  ·rw[Yq];rcases Je8 x s with hxs|hxs
   ·rw[i2 x hxs,Bool.or_false];dsimp only
    cases hb:J5 ps x with
    | true =>
     have f1:=Jcp g (x:=x) (y:=s) (by omega) fun z z1 z2=>run x hx hxs hb z z1 z2
     have f2:=Vs (ps:=ps) (fun p hp=>by have:=Good.all g p hp;omega) hx;rw[decide_eq_true (by omega),decide_eq_true (by omega)];rfl
    | false =>
     have f1:=Jco g (x:=s0) (y:=x+1) (by omega) fun z z1 z2=>by
      cases hz:J5 ps z with
      | false=>rfl
      | true=>have:=run z z1 (by omega) hz x (by omega) hxs;rw[hb] at this;cases this
     have f2:=UG g (x:=x+1) (y:=s) (by omega);rw[decide_eq_false (by omega)];rfl
   ·rw[i1 x hxs];dsimp only;rw[decide_eq_false (p:=x<_) (by omega),Bool.and_false,Bool.false_or]
  ·rw[Yq,i2 x (by omega)];dsimp only;rw[decide_eq_false (by omega)];rfl
theorem Jk9(ps:List Pr)(sp:List Int):∃s0,(∀p∈ps,s0<p.1)/\∀s∈sp,s0<s:=by
 have h1:∃a,∀p∈ps,a<p.1:=by
  induction ps with
  | nil=>exact⟨0,fun p hp=>by cases hp⟩
  | cons p r ih =>
   obtain⟨a,ha⟩:=ih;refine⟨min a (p.1-1),fun q hq=>?_⟩;rcases List.mem_cons.mp hq with z|z
   ·subst z;omega (config:={})
   ·have:=ha q z;omega (config:={})
 have h2:∃a,∀s∈sp,a<s:=by
  induction sp with
  | nil=>exact⟨0,fun p hp=>by cases hp⟩
  | cons p r ih =>
   obtain⟨a,ha⟩:=ih;refine⟨min a (p-1),fun q hq=>?_⟩;rcases List.mem_cons.mp hq with z|z
   ·subst z;omega (config:={})
   ·have:=ha q z;omega (config:={})
 obtain⟨a,ha⟩:=h1;obtain⟨b,hb⟩:=h2;exact⟨min a b,fun p hp=>by have:=ha p hp;omega (config:={}),fun s hs=>by have:=hb s hs;omega (config:={})⟩
theorem WD(x:Int):∀(r:List Pr) (cur:Pr),(∀p∈r,0<=p.2)->0<=cur.2->J5 (clF cur r) x=J5 (cur::r) x
 | [],cur,_,_=>rfl
 | p::r,cur,h,hc=>by
  have h0:=h p List.mem_cons_self
  have hr:=fun q hq=>h q (List.mem_cons_of_mem p hq)
  rw[clF];split
  ·next e=>rw[WD x r _ hr (by dsimp only;omega),Yq,Yq,Yq,<- Bool.or_assoc];congr 1;rw[Bool.eq_iff_iff];simp only[Bool.or_eq_true,Bool.and_eq_true,decide_eq_true_eq];constructor <;> intro z <;> omega
  ·split
   ·rw[Yq,WD x r p hr h0,<- Yq]
   ·rw[WD x r cur hr hc,Yq,Yq cur,Yq p];rw[show(decide (p.1<=x) && decide (x<p.1+p.2))=false by
     rw[Bool.and_eq_false_iff];rcases Je8 x p.1 with z|z
     ·exact .inl (decide_eq_false (by omega))
     ·exact .inr (decide_eq_false (by omega)),Bool.false_or]
theorem Jds(x:Int):∀(ps:List Pr),(∀p∈ps,0<=p.2)->J5 (clN ps) x=J5 ps x
 | [],_=>rfl
 | p::r,h=>by
  have h0:=h p List.mem_cons_self
  have hr:=fun q hq=>h q (List.mem_cons_of_mem p hq)
  rw[clN];split
  ·exact WD x r p hr h0
  ·rw[Jds x r hr,Yq p];rw[show(decide (p.1<=x) && decide (x<p.1+p.2))=false by
    rw[Bool.and_eq_false_iff];rcases Je8 x p.1 with z|z
    ·exact .inl (decide_eq_false (by omega))
    ·exact .inr (decide_eq_false (by omega)),Bool.false_or]
theorem Jbf{ps:List Pr}(g:Good ps){sp:List Int}(hs:sp.Pairwise (·<=·))(he:∀p∈ps,p.1+p.2∈sp):Good (edF ps 0 0 sp)/\thF (edF ps 0 0 sp)=ps:=by
 obtain⟨s0,l1,l2⟩:=Jk9 ps sp;have hb:JH ps s0=0:=WR fun p hp=>by have:=l1 p hp;omega
 have hs':(s0::sp).Pairwise (·<=·):=List.pairwise_cons.mpr ⟨fun s h=>by have:=l2 s h;omega,hs⟩
 have ge:=JdC g sp 0 s0 hs'
 have wd:=JdL g sp s0 hs';obtain⟨f1,f2⟩:=Jf4 g sp s0 hs' fun p hp _=>he p hp
 rw[hb] at ge wd f1 f2;refine⟨ge,?_⟩
 have e:thF (edF ps 0 0 sp)=clN (flF ps 0 sp):=by unfold thF;rw[<- Jdo,<- JjQ ps sp 0 0];rfl
 refine JdP (Zz ge) g fun x=>?_
 rw[e,Jds x _ fun p hp=>by obtain⟨i,hi,rfl⟩:=List.mem_iff_getElem.mp hp;exact wd.one i _ (by simp)]
 rcases Je8 x s0 with z|z
 ·rw[f2 x z,YZ fun p hp=>by have:=l1 p hp;omega]
 ·exact f1 x z
theorem JaF(ps:List Pr):∀(sp:List Int) (i:Nat) (c:Int) (j:Nat) (q:Pr),(edF ps i c sp)[j]?=some q->∃s,sp[j]?=some s/\q.1+q.2-1-2*((i+j:Nat):Int)=s
 | [],_,_,j,q,e=>by simp[edF] at e
 | s::r,i,c,0,q,e=>by simp[edF] at e;subst e;exact⟨s,rfl,by dsimp only;omega⟩
 | s::r,i,c,j+1,q,e=>by obtain⟨s',h1,h2⟩:=JaF ps r (i+1) (JH ps s) j q (by simpa [edF] using e);exact⟨s',by simpa using h1,by rw[<- h2];congr 1;omega⟩
noncomputable def Ud:List Pr->Int->List Pr
 | [],s=>[(s,1)]
 | p::r,s=>if p.1=s then(p.1,p.2+1)::r else p::Ud r s
theorem UK(s:Int):∀a:List Pr,(Ud a s).map (·.1)=YI (a.map (·.1)) s
 | []=>rfl
 | p::r=>by
  have ih:=UK s r;unfold YI JaN at ih ⊢;rw[Ud,List.map_cons,List.any_cons]
  by_cases h:p.1=s
  ·rw[if_pos h,decide_eq_true h,Bool.true_or,if_pos rfl];rfl
  ·rw[if_neg h,decide_eq_false h,Bool.false_or,List.map_cons,ih];split <;> rfl
theorem JbJ:∀(ks:List Int) (vs:List Int) (s:Int),s∉ks->look ks vs s=none
 | [],_,_,_=>rfl
 | _::_,[],_,_=>rfl
 | k::ks,v::vs,s,h=>by rw[look,if_neg fun e=>h (by rw[e];exact List.mem_cons_self)];exact JbJ ks vs s fun m=>h (List.mem_cons_of_mem _ m)
theorem Jcb:∀(ks:List Int) (vs:List Int) (s v:Int),s∉ks->setK ks vs s v=vs
 | [],_,_,_,_=>rfl
 | _::_,[],_,_,_=>rfl
 | k::ks,x::vs,s,v,h=>by rw[setK,if_neg fun e=>h (by rw[e];exact List.mem_cons_self),Jcb ks vs s v fun m=>h (List.mem_cons_of_mem _ m)]
theorem hasK_mem{ks:List Int}{s:Int}:JaN ks s=true↔s∈ks:=by
 unfold JaN;rw[List.any_eq_true];constructor
 ·rintro⟨k,hk,e⟩;rw[decide_eq_true_eq] at e;subst e;exact hk
 ·intro h;exact⟨s,h,decide_eq_true rfl⟩
theorem Z0(s:Int):∀a:List Pr,(a.map (·.1)).Nodup->(Ud a s).map (·.2)=putDs (a.map (·.1)) (a.map (·.2)) s ((look (a.map (·.1)) (a.map (·.2)) s).getD 0+1)
 | [],_=>rfl
 | p::r,hn=>by
  rw[List.map_cons,List.nodup_cons] at hn;have ih:=Z0 s r hn.2;rw[Ud,List.map_cons,List.map_cons]
  by_cases h:p.1=s
  ·rw[if_pos h];unfold putDs;rw[if_pos (hasK_mem.mpr (by rw[h];exact List.mem_cons_self)),look,if_pos h,setK,if_pos h,Jcb _ _ _ _ (by rw[<- h];exact hn.1)];rfl
  ·rw[if_neg h,List.map_cons,ih,look,if_neg h];unfold putDs
   have e:JaN (p.1::r.map (·.1)) s=JaN (r.map (·.1)) s:=by unfold JaN;rw[List.any_cons,decide_eq_false h,Bool.false_or]
   rw[e];split
   ·rw[setK,if_neg h]
   ·rfl
theorem U8{ks:List Int}(s:Int)(h:ks.Nodup):(YI ks s).Nodup:=by
 unfold YI;split
 ·exact h
 ·next c =>
  rw[List.nodup_append];refine⟨h,by simp,fun a ha b hb=>?_⟩;have:b=s:=by simpa using hb
  subst this;intro e;subst e;exact c (hasK_mem.mpr ha)
noncomputable def lk(k:Int):List Pr->Int
 | []=>0
 | p::r=>if p.1=k then p.2 else lk k r
theorem JdT(k s:Int):∀a:List Pr,lk k (Ud a s)=lk k a+(if s=k then 1 else 0)
 | []=>by simp[Ud,lk]
 | p::r=>by
  rw[Ud]
  by_cases h:p.1=s
  ·rw[if_pos h,lk,lk];dsimp only
   by_cases c:p.1=k
   ·rw[if_pos c,if_pos c,if_pos (by omega)]
   ·rw[if_neg c,if_neg c,if_neg (by omega),Int.add_zero]
  ·rw[if_neg h,lk,lk,JdT k s r]
   by_cases c:p.1=k
   ·rw[if_pos c,if_pos c,if_neg (by omega),Int.add_zero]
   ·rw[if_neg c,if_neg c]
theorem JcP{a:List Pr}(hn:(a.map (·.1)).Nodup){p:Pr}(hp:p∈a):lk p.1 a=p.2:=by
 induction a with
 | nil=>cases hp
 | cons q r ih =>
  rw[List.map_cons,List.nodup_cons] at hn;rw[lk];rcases List.mem_cons.mp hp with z|z
  ·subst z;rw[if_pos rfl]
  ·rw[if_neg fun e=>hn.1 (by rw[e];exact List.mem_map.mpr ⟨p,z,rfl⟩)];exact ih hn.2 z
noncomputable def VI(L:List Int):List Pr:=L.foldl Ud []
theorem JaD:∀(L:List Int) (a:List Pr),(a.map (·.1)).Nodup->((L.foldl Ud a).map (·.1)).Nodup/\(∀k,lk k (L.foldl Ud a)=lk k a+(L.count k:Int))/\∀k,k∈(L.foldl Ud a).map (·.1)↔k∈a.map (·.1)\/k∈L
 | [],a,h=>⟨h,fun k=>by simp,fun k=>by simp⟩
 | s::L,a,h=>by
  have hk:=UK s a
  have hn:((Ud a s).map (·.1)).Nodup:=by rw[hk];exact U8 s h
  obtain⟨i1,i2,i3⟩:=JaD L (Ud a s) hn;refine⟨i1,fun k=>?_,fun k=>?_⟩
  ·rw[List.foldl_cons,i2 k,JdT,List.count_cons]
   by_cases c:s=k
   ·rw[if_pos c,if_pos (by simpa using c)];omega
   ·rw[if_neg c,if_neg (by simpa using c)];omega
  ·rw[List.foldl_cons,i3 k,hk];unfold YI;split
   ·next c =>
    have c':=hasK_mem.mp c;constructor
    ·rintro(z|z)
     ·exact .inl z
     ·exact .inr (List.mem_cons_of_mem _ z)
    ·rintro(z|z)
     ·exact .inl z
     ·rcases List.mem_cons.mp z with w|w
      ·subst w;exact .inl c'
      ·exact .inr w
   ·rw[List.mem_append,List.mem_singleton,List.mem_cons,or_assoc]
theorem Jkn(L:List Int):((VI L).map (·.1)).Nodup/\(∀p∈VI L,p.2=(L.count p.1:Int)/\p.1∈L)/\∀k∈L,(k,(L.count k:Int))∈VI L:=by
 obtain⟨i1,i2,i3⟩:=JaD L [] (by simp)
 have v:∀p∈VI L,p.2=(L.count p.1:Int):=fun p hp=>by rw[<- JcP i1 hp];have:=i2 p.1;rw[show lk p.1 []=0 from rfl,Int.zero_add] at this;exact this
 refine⟨i1,fun p hp=>⟨v p hp,?_⟩,fun k hk=>?_⟩
 ·have:=(i3 p.1).mp (List.mem_map.mpr ⟨p,hp,rfl⟩)
  simpa using this
 ·obtain⟨p,hp,e⟩:=List.mem_map.mp ((i3 k).mpr (.inr hk));subst e;rw[<- v p hp];exact hp
theorem JbK(ps:List Pr)(x:Int)(h:ps.length<=1000):YF [.sh (.row (ps.map prE)),.sh (.int x)]=some (.sh (.bl (J5 ps x))):=by
 unfold YF;walk_at "ev";rw[Yp (g:=fun p=>D.bl (decide (p.1<=x) && decide (x<p.1+p.2)))]
 ·walk_at "ev";rw[Jii (ns:=ps.map fun p=>decide (p.1<=x) && decide (x<p.1+p.2)) (by simp[Sl.q])];walk_at "ev";unfold J5;rw[List.any_map];rfl
 ·intro p hp;simp only[prE];walk_at "ev"
  by_cases c:p.1<=x
  ·simp only[c];walk_at "ev"
  ·simp only[c];walk_at "ev";rfl
theorem JiB(ps:List Pr)(x:Int)(h:ps.length<=1000):Yh [.sh (.row (ps.map prE)),.sh (.int x)]=some (.sh (.int (JH ps x))):=by
 unfold Yh;walk_at "ev";rw[Yp (g:=fun p=>D.int (max 0 (min p.2 (x-p.1))))]
 ·walk_at "ev";rw[Vj (ns:=ps.map fun p=>max 0 (min p.2 (x-p.1))) (by simp[Sl.q])];walk_at "ev";rfl
 ·intro p hp;simp only[prE];walk_at "ev"
theorem WJ{α β:Type}(f:Nat->α->β)(xs:List α):xs.mapIdx f=xs.zipIdx.map fun x=>f x.2 x.1:=by
 refine List.ext_getElem? fun i=>?_
 rw[List.getElem?_mapIdx,List.getElem?_map,List.getElem?_zipIdx,Option.map_map];simp;rfl
theorem JnV(ps:List Pr)(k:Int)(h:ps.length<=1000):Yk [.sh (.row (ps.map prE)),.sh (.int k)]=some (.own ((byF k ps).map prE)):=by
 unfold Yk;walk_at "ev";rw[W0,WJ,Yp (g:=fun x:Pr×Nat=>prE (x.1.1+2*k*(x.2:Int),x.1.2+k))]
 ·rw[if_pos (by rw[List.length_map,List.length_zipIdx];omega (config:={}))];walk_at "ev";rw[show ps.zipIdx.map (fun x=>prE (x.1.1+2*k*(x.2:Int),x.1.2+k))=(byF k ps).map prE by unfold byF;rw[WJ,List.map_map];rfl]
 ·intro x hx
  have hx2:x.2<ps.length:=by have:=List.snd_lt_of_mem_zipIdx hx;omega (config:={})
  walk_at "ev";rw[W2,JaI];walk_at "ev";rfl
theorem JnL{ps:List Pr}(g:Good ps)(hne:ps≠[]):∃c,(ps.map (·.2)++UB ps).min?=some c/\1<=c/\Wide c ps/\JfA c ps:=by
 cases hm:(ps.map (·.2)++UB ps).min? with
 | none =>
  rw[List.min?_eq_none_iff] at hm
  cases ps with
  | nil=>exact absurd rfl hne
  | cons p r=>simp at hm
 | some c =>
  obtain⟨h1,h2⟩:=List.min?_eq_some_iff.mp hm
  have gg:∀(ps:List Pr) (x:Int),x∈UB ps->∃(i:Nat) (p q:Pr),ps[i]?=some p/\ps[i+1]?=some q/\q.1-(p.1+p.2)=x:=by
   intro ps
   induction ps with
   | nil=>intro x hx;cases hx
   | cons p r ih =>
    intro x hx
    cases r with
    | nil=>cases hx
    | cons q r =>
     rcases List.mem_cons.mp hx with z|z
     ·exact⟨0,p,q,rfl,rfl,z.symm⟩
     ·obtain⟨i,a,b,e1,e2,e3⟩:=ih x z;exact⟨i+1,a,b,by simpa using e1,by simpa using e2,e3⟩
  have gm:∀(ps:List Pr) (i:Nat) (p q:Pr),ps[i]?=some p->ps[i+1]?=some q->q.1-(p.1+p.2)∈UB ps:=by
   intro ps
   induction ps with
   | nil=>intro i p q e;simp at e
   | cons a r ih =>
    intro i p q e1 e2
    cases r with
    | nil=>simp at e2
    | cons b r =>
     cases i with
     | zero=>simp at e1 e2;subst e1 e2;exact List.mem_cons_self
     | succ i=>exact List.mem_cons_of_mem _ (ih i p q (by simpa using e1) (by simpa using e2))
  have w:Wide c ps:=⟨fun i p e=>h2 _ (List.mem_append_left _ (List.mem_map.mpr ⟨p,List.mem_of_getElem? e,rfl⟩)),fun i p q e1 e2=>h2 _ (List.mem_append_right _ (gm ps i p q e1 e2))⟩
  have t:JfA c ps:=by
   rcases List.mem_append.mp h1 with z|z
   ·obtain⟨p,hp,e⟩:=List.mem_map.mp z;exact .inl ⟨p,hp,e⟩
   ·exact .inr (gg ps c z)
  refine⟨c,rfl,?_,w,t⟩;rcases t with ⟨p,hp,e⟩|⟨i,p,q,e1,e2,e⟩
  ·have:=Good.all g p hp;omega
  ·have:=g.gap i p q e1 e2;omega
theorem Jgq(ps:List Pr)(h:ps.length<=1000):Ym [.sh (.row (ps.map prE))]=some (match (ps.map (·.2)++UB ps).min? with|some c=>.sh (.int c)|none=>.sh .non):=by
 have hgl:=ZY ps;unfold Ym;walk_at "ev";rw[Yp (g:=fun p=>D.int p.2)]
 ·walk_at "ev";rw[Jla _ h];walk_at "ev";rw[show ps.map (fun p=>D.int p.2)++(UB ps).map .int=(ps.map (·.2)++UB ps).map D.int by rw[List.map_append,List.map_map];rfl];walk_at "ev";cases (ps.map (·.2)++UB ps).min? <;> rfl
 ·intro p hp;simp only[prE];walk_at "ev"
noncomputable def UU(acc:List Pr)(p:Pr):List Pr:=match acc[acc.length-1]? with
 | some q=>if q.1+q.2=p.1 then acc.dropLast++[(q.1,q.2+p.2)] else if 0<p.2 then acc++[p] else acc
 | none=>if 0<p.2 then acc++[p] else acc
theorem VH:∀(r acc:List Pr) (cur:Pr),r.foldl UU (acc++[cur])=acc++clF cur r
 | [],acc,cur=>rfl
 | p::r,acc,cur=>by
  have e:(acc++[cur])[(acc++[cur]).length-1]?=some cur:=by simp
  have es:UU (acc++[cur]) p=if cur.1+cur.2=p.1 then acc++[(cur.1,cur.2+p.2)] else if 0<p.2 then acc++[cur]++[p] else acc++[cur]:=by unfold UU;rw[e];dsimp only;rw[List.dropLast_concat]
  rw[List.foldl_cons,clF,es];split
  ·exact VH r acc _
  ·split
   ·rw[VH r (acc++[cur]) p,List.append_assoc];rfl
   ·exact VH r acc cur
theorem ZR:∀ps:List Pr,ps.foldl UU []=clN ps
 | []=>rfl
 | p::r=>by
  rw[List.foldl_cons,clN];show r.foldl UU (if 0<p.2 then []++[p] else [])=_;split
  ·exact VH r [] p
  ·exact ZR r
theorem Jgp(ps:List Pr)(h:ps.length<=1000):Yl [.sh (.lst (ps.map prE))]=some (.own ((clN ps).map prE)):=by
 unfold Yl;walk_at "ev";rw[Option.bind_assoc];refine Uy (fun(rest:List Pr) (acc:List Pr) E=>∃j2 j3 j4,E=[.sh (.lst (ps.map prE)),.own (acc.map prE),j2,j3,j4]/\acc.length+rest.length<=1000) UU [] ⟨.no,.no,.no,rfl,by simpa using h⟩ ?_ ?_
 ·rintro p rest acc E ⟨j2,j3,j4,rfl,hz⟩;rw[List.length_cons] at hz;simp only[prE];walk_at "ev"
  cases he:acc[acc.length-1]? with
  | none =>
   have hn:acc=[]:=by
    cases acc with
    | nil=>rfl
    | cons a acc=>simp at he
   subst hn;rw[show(!(([]:List Pr).map prE).isEmpty)=false from rfl];walk_at "ev";have es:UU [] p=if 0<p.2 then [p] else []:=rfl
   rw[es]
   by_cases c:0<p.2
   ·rw[decide_eq_true c,if_pos c];walk_at "ev";exact⟨.sh (.int p.1),.sh (.int p.2),j4,rfl,by simp at hz ⊢;omega⟩
   ·rw[decide_eq_false c,if_neg c];walk_at "ev";exact⟨.sh (.int p.1),.sh (.int p.2),j4,rfl,by simp at hz ⊢;omega⟩
  | some q =>
   have hl0:acc.length-1<acc.length:=(List.getElem?_eq_some_iff.mp he).1
   have hne:(!(acc.map prE).isEmpty)=true:=by cases acc with|nil=>simp at he|cons _ _=>rfl
   have hgq:(acc.map prE)[acc.length-1]?=some (prE q):=by rw[List.getElem?_map,he];rfl
   have es:UU acc p=if q.1+q.2=p.1 then acc.dropLast++[(q.1,q.2+p.2)] else if 0<p.2 then acc++[p] else acc:=by unfold UU;rw[he]
   have hdl:acc.dropLast.length=acc.length-1:=List.length_dropLast;rw[hne,Jav,Jbm he,es];walk_at "ev";rw[Vj (s:=.sh (prE q)) (ns:=[q.1,q.2]) rfl];walk_at "ev";rw[show([q.1,q.2]:List Int).sum=q.1+q.2 by simp]
   by_cases c:q.1+q.2=p.1
   ·rw[decide_eq_true c,if_pos c,hgq];walk_at "ev";rw[<- List.map_dropLast];walk_at "ev";rw[W2,JaI];walk_at "ev";refine⟨.sh (.int p.1),.sh (.int p.2),.sh (prE q),?_,by rw[List.length_append,List.length_singleton];omega⟩;rw[List.map_append];rfl
   ·rw[decide_eq_false c,if_neg c];walk_at "ev"
    by_cases c2:0<p.2
    ·rw[decide_eq_true c2,if_pos c2];walk_at "ev";refine⟨.sh (.int p.1),.sh (.int p.2),j4,?_,by rw[List.length_append,List.length_singleton];omega⟩;rw[List.map_append];rfl
    ·rw[decide_eq_false c2,if_neg c2];walk_at "ev";exact⟨.sh (.int p.1),.sh (.int p.2),j4,rfl,by omega⟩
 ·rintro E' ⟨j2,j3,j4,rfl,_⟩;rw[ZR];walk_at "ev"
noncomputable abbrev wC:En->Option Bool:=(tAnd? (tB? (e2 fGt (Jc 3) (eC (.int 0)))) (tTru? (e1 UD (Jc 2))))
noncomputable abbrev wB:Es:=(Jr (Js 4 (eF JeQ (aC (Jc 3) (aC (eU 1 Ym (aC (Jc 2) a0)) a0)))) (Jr (Js 2 (eF JaJ (aC (eU 1 Yl (aC (eU 2 Yk (aC (Jc 2) (aC (e1 Wa (Jc 4)) a0))) a0)) a0))) (JhA (fun i j=>i-j) 3 (Jc 4))))
theorem VD(x y:Sl)(left:List Pr)(n:Nat)(j4:Sl)(fuel:Nat)(h:n=0\/left=[]) :
 ((Uz wC wB (fuel+1) [x,y,.sh (.row (left.map prE)),.sh (.int (n:Int)),j4]).bind (Jc9 (Ve 2))).bind JeM=some (.sh (.row ((thN n left).map prE))):=by
 have e:thN n left=left:=by
  rcases h with rfl|rfl
  ·rfl
  ·exact Jen n
 rw[e,Uz]
 have hc:wC [x,y,.sh (.row (left.map prE)),.sh (.int (n:Int)),j4]=some false:=by
  show tAnd? _ _ _=_;walk_at "ev";rcases h with rfl | rfl
  ·rw[show decide ((0:Int)<((0:Nat):Int))=false from rfl];walk_at "ev"
  ·by_cases c:(0:Int)<(n:Int)
   ·rw[decide_eq_true c];walk_at "ev";rfl
   ·rw[decide_eq_false c];walk_at "ev"
 rw[hc];walk_at "ev"
theorem Jhz(x y:Sl):∀(m fuel:Nat) (left:List Pr) (n:Nat) (j4:Sl),Good left->left.length<=m->left.length<=30->m<fuel ->
 ((Uz wC wB fuel [x,y,.sh (.row (left.map prE)),.sh (.int (n:Int)),j4]).bind (Jc9 (Ve 2))).bind JeM=some (.sh (.row ((thN n left).map prE))):=by
 intro m
 induction m with
 | zero =>
  intro fuel left n j4 g hm _ hf;obtain⟨f,rfl⟩:∃f,fuel=f+1:=⟨fuel-1,by omega⟩
  exact VD x y left n j4 f (.inr (List.eq_nil_of_length_eq_zero (by omega)))
 | succ m ih =>
  intro fuel left n j4 g hm h30 hf;obtain⟨f,rfl⟩:∃f,fuel=f+1:=⟨fuel-1,by omega⟩
  by_cases h0:n=0\/left=[]
  ·exact VD x y left n j4 f h0
  ·have hn:n≠0:=fun z=>h0 (.inl z)
   have hl:left≠[]:=fun z=>h0 (.inr z)
   obtain⟨c,hc,c1,w,t⟩:=JnL g hl;obtain⟨a,ha⟩:∃a:Nat,(a:Int)=min (n:Int) c:=⟨(min (n:Int) c).toNat,by omega⟩
   have hcl:=Jgq left (by omega);rw[hc] at hcl
   have et:thN a left=clN (byF (-(a:Int)) left):=Jhs a w c1 (by omega)
   have gt:Good (thN a left):=Jcg a g
   have lt:=(WF (byF (-(a:Int)) left)).1;rw[Jay,<- et] at lt
   have hcond:wC [x,y,.sh (.row (left.map prE)),.sh (.int (n:Int)),j4]=some true:=by
    show tAnd? _ _ _=_;walk_at "ev";rw[decide_eq_true (show(0:Int)<(n:Int) by omega)];walk_at "ev"
    cases left with
    | nil=>exact absurd rfl hl
    | cons _ _=>rfl
   have hbody:wB [x,y,.sh (.row (left.map prE)),.sh (.int (n:Int)),j4]=some (.nx [x,y,.sh (.row ((thN a left).map prE)),.sh (.int ((n-a:Nat):Int)),.sh (.int (a:Int))]):=by show Jr _ _ _=_;walk_at "ev";rw[hcl];walk_at "ev";rw[<- ha,JnV _ _ (by omega)];walk_at "ev";rw[Jgp _ (by rw[Jay];omega),<- et];walk_at "ev";rw[WG rfl gt (by omega)];walk_at "ev";rw[show(n:Int)-(a:Int)=((n-a:Nat):Int) by omega]
   have fin:thN n left=thN (n-a) (thN a left):=by rw[<- JjD];congr 1;omega
   rw[Uz,hcond,Option.bind_some,if_pos rfl,hbody,Option.bind_some,fin];dsimp only
   by_cases hac:(a:Int)=c
   ·have fw:=Jhu t;rw[<- hac,<- et] at fw;exact ih f _ _ _ gt (by omega) (by omega) (by omega)
   ·obtain⟨f',rfl⟩:∃f',f=f'+1:=⟨f-1,by omega⟩
    exact VD x y _ _ _ f' (.inl (by omega))
theorem Jad(ps:List Pr)(n:Nat)(g:Good ps)(h30:ps.length<=30):Yo [.sh (.row (ps.map prE)),.sh (.int (n:Int))]=some (.sh (.row ((thN n ps).map prE))):=by unfold Yo;rw[show ∀(k:Nat) (s:Es) (ss:List Sl),YY k s ss=YY k s ss from fun _ _ _=>rfl];have hw:=Jhz (.sh (.row (ps.map prE))) (.sh (.int (n:Int))) 30 1000000 ps n .no g h30 h30 (by decide);walk_at "ev";rw[WG rfl g h30];walk_at "ev";exact hw
noncomputable abbrev Tr:=Int×Int×Int
noncomputable def trE(t:Tr):D:=.tup [.int t.1,.int t.2.1,.int t.2.2]
theorem Jm3:Kd trE 2:=⟨fun _=>rfl,fun _=>by simp[trE,D.py,D.pyL,PyData.depth,PyData.depthAll],fun a b=>by obtain⟨a1,a2,a3⟩:=a;obtain⟨b1,b2,b3⟩:=b;simp[trE,D.py,D.pyL,PyData.eqv,PyData.eqvAll]⟩
theorem JfV(a b:List Tr):eqA (.lst (a.map trE)) (.lst (b.map trE))=some (decide (a=b)):=(JcM Jm3).eq (by decide) a b
noncomputable def owF(left:List Pr)(s:Int):Int:=if J5 left (s-1)=true/\J5 left s=false then 1 else 0
theorem Jlb(ps:List Pr)(s:Int)(h:ps.length<=1000):YX [.sh (.row (ps.map prE)),.sh (.int s)]=some (.sh (.int (owF ps s))):=by
 unfold YX owF;walk_at "ev";rw[JbK _ _ h];walk_at "ev"
 cases h1:J5 ps (s-1) with
 | false=>walk_at "ev";rw[if_neg (by simp)]
 | true =>
  walk_at "ev";rw[JbK _ _ h];walk_at "ev"
  cases h2:J5 ps s with
  | false=>walk_at "ev";rw[if_pos (by simp)]
  | true=>walk_at "ev";rw[if_neg (by simp)]
theorem Zf{α β:Type}(f:α->β):∀(ks:List Int) (vs:List α) (n:Int),look ks (vs.map f) n=(look ks vs n).map f
 | [],_,_=>rfl
 | _::_,[],_=>rfl
 | k::ks,v::vs,n=>by
  rw[List.map_cons];simp only[look];split
  ·rfl
  ·exact Zf f ks vs n
theorem Jca{α β:Type}(f:α->β):∀(ks:List Int) (vs:List α) (n:Int) (v:α),setK ks (vs.map f) n (f v)=(setK ks vs n v).map f
 | [],_,_,_=>rfl
 | _::_,[],_,_=>rfl
 | k::ks,x::vs,n,v=>by rw[List.map_cons];simp only[setK,List.map_cons];rw[Jca f ks vs n v];split <;> rfl
theorem Jai{α β:Type}(f:α->β)(ks:List Int)(vs:List α)(n:Int)(v:α):putDs ks (vs.map f) n (f v)=(putDs ks vs n v).map f:=by
 unfold putDs;split
 ·exact Jca f ks vs n v
 ·rw[List.map_append];rfl
theorem JbI(ks:List Int)(vs:List Int)(n z:Int):(look ks (vs.map D.int) n).getD (.int z)=.int ((look ks vs n).getD z):=by rw[Zf];cases look ks vs n <;> rfl
theorem JbF(a:List Pr)(s:Int):(Ud a s).length<=a.length+1:=by
 induction a with
 | nil=>simp[Ud]
 | cons p r ih =>
  rw[Ud];split
  ·simp
  ·simp only[List.length_cons];omega
theorem JkT(a:List Pr):JcL (a.map (·.1)) ((a.map (·.2)).map D.int)=a.map prE:=by
 unfold JcL
 induction a with
 | nil=>rfl
 | cons p r ih=>simp only[List.map_cons,List.zipWith_cons_cons,ih];rfl
noncomputable def spF(qs:List Pr):List Int:=qs.zipIdx.map fun x=>x.1.1+x.1.2-1-2*(x.2:Int)
noncomputable def JR(qs:List Pr):List Tr:=(VI (spF qs)).map fun p=>(p.1,p.2,owF (thF qs) p.1)
theorem JhV(L:List Int):∀a:List Pr,(L.foldl Ud a).length<=a.length+L.length:=by
 induction L with
 | nil=>intro a;simp
 | cons s L ih=>intro a;have h1:=ih (Ud a s);have h2:=JbF a s;rw[List.foldl_cons,List.length_cons];omega
theorem Jgt(qs:List Pr)(g:Good qs)(h30:qs.length<=30):Yz [.sh (.row (qs.map prE))]=some (.own ((JR qs).map trE)):=by
 have h1:=Jad qs 1 g h30;rw[show((1:Nat):Int)=1 from rfl,show thN 1 qs=thF qs from rfl] at h1
 have hl:=(WF (byF (-1) qs)).1;rw[Jay,show clN (byF (-1) qs)=thF qs from rfl] at hl;unfold Yz;walk_at "ev";rw[h1];walk_at "ev";rw[W0,WJ,Option.bind_assoc];refine Uy (f:=fun x:Pr×Nat=>D.tup [.int (x.2:Int),prE x.1]) (fun(rest:List (Pr×Nat)) (a:List Pr) E=>∃j3 j4 j5,E=[.sh (.row (qs.map prE)),.sh (.row ((thF qs).map prE)),.od (a.map (·.1)) ((a.map (·.2)).map .int),j3,j4,j5]/\(a.map (·.1)).Nodup/\a.length+rest.length<=30)
  (fun a x=>Ud a (x.1.1+x.1.2-1-2*(x.2:Int))) [] ⟨.no,.no,.no,rfl,by simp,by simpa using h30⟩ ?_ ?_
 ·rintro x rest a E ⟨j3,j4,j5,rfl,hn,hz⟩;rw[List.length_cons] at hz;have hil:=JbF a (x.1.1+x.1.2-1-2*(x.2:Int));walk_at "ev";rw[Vj (s:=.sh (prE x.1)) (ns:=[x.1.1,x.1.2]) rfl];walk_at "ev";rw[show([x.1.1,x.1.2]:List Int).sum=x.1.1+x.1.2 by simp];rw[JbI];walk_at "ev";rw[Jai,<- UK,<- Z0 _ _ hn];refine⟨.sh (.int (x.2:Int)),.sh (prE x.1),_,rfl,?_,by omega⟩;rw[UK];exact U8 _ hn
 ·rintro E' ⟨j3,j4,j5,rfl,hn,_⟩
  have ef:qs.zipIdx.foldl (fun a x=>Ud a (x.1.1+x.1.2-1-2*(x.2:Int))) []=VI (spF qs):=by unfold VI spF;rw[List.foldl_map]
  have hcl:=JhV (spF qs) []
  have hsl:(spF qs).length=qs.length:=by unfold spF;simp
  rw[ef];walk_at "ev";rw[JkT,Yp (g:=fun p=>trE (p.1,p.2,owF (thF qs) p.1))]
  ·rw[if_pos (by rw[List.length_map];show(VI (spF qs)).length<=_;unfold VI;simp at hcl;omega)];walk_at "ev";unfold JR;rw[List.map_map];rfl
  ·intro p hp;simp only[prE];walk_at "ev";rw[Jlb _ _ (by omega)];walk_at "ev";rfl
theorem JiC(ps:List Pr)(sp:List Int)(hp:ps.length<=1000)(hs:sp.length<=1000):YH [.sh (.row (ps.map prE)),.sh (.lst (sp.map .int))]=some (.own ((edF ps 0 0 sp).map prE)):=by
 unfold YH;walk_at "ev";rw[W0,WJ,Option.bind_assoc];refine Uy (f:=fun x:Int×Nat=>D.tup [.int (x.2:Int),.int x.1]) (fun(rest:List (Int×Nat)) (s:List Pr×Int) E=>∃j4 j5 j6 j7,E=[.sh (.row (ps.map prE)),.sh (.lst (sp.map .int)),.own (s.1.map prE),.sh (.int s.2),j4,j5,j6,j7]/\s.1.length+rest.length<=1000)
  (fun s x=>(s.1++[(x.1+2*(x.2:Int)-(JH ps x.1-s.2),JH ps x.1-s.2+1)],JH ps x.1)) ([],0) ⟨.no,.no,.no,.no,rfl,by simpa using hs⟩ ?_ ?_
 ·rintro x rest ⟨acc,c⟩ E ⟨j4,j5,j6,j7,rfl,hz⟩;rw[List.length_cons] at hz;dsimp only at hz ⊢;walk_at "ev";rw[JiB _ _ hp];walk_at "ev";refine⟨.sh (.int (x.2:Int)),.sh (.int x.1),.sh (.int (JH ps x.1)),.sh (.int (JH ps x.1-c)),?_,by rw[List.length_append,List.length_singleton];omega (config:={})⟩;rw[List.map_append];rfl
 ·rintro E' ⟨j4,j5,j6,j7,rfl,_⟩
  have ef:∀(sp:List Int) (i:Nat) (acc:List Pr) (c:Int),((sp.zipIdx i).foldl (fun(s:List Pr×Int) x=>(s.1++[(x.1+2*(x.2:Int)-(JH ps x.1-s.2),JH ps x.1-s.2+1)],JH ps x.1)) (acc,c)).1=acc++edF ps i c sp:=by
   intro sp
   induction sp with
   | nil=>intro i acc c;simp[edF]
   | cons s r ih=>intro i acc c;rw[List.zipIdx_cons,List.foldl_cons,ih,edF,List.append_assoc];rfl
  rw[ef,List.nil_append];walk_at "ev"
noncomputable def Jt(ps:List Pr):List Int:=ps.map fun p=>p.1+p.2
noncomputable def JD(prs:List Pr):List Int:=prs.flatMap fun p=>List.replicate p.2.toNat p.1
theorem Jm5(ps prs:List Pr)(g:Good ps)(hn:∀p∈prs,0<=p.2)(h:(ps.length:Int)+(prs.map (·.2)).sum<=30)(hp:ps.length<=30)(hq:prs.length<=30) :
 JY [.sh (.row (ps.map prE)),.sh (.lst (prs.map prE))]=some (.sh (.row ((edF ps 0 0 (JN (Jt ps++JD prs))).map prE))):=by
 have ml:∀(prs:List Pr),(∀p∈prs,0<=p.2)->((JD prs).length:Int)=(prs.map (·.2)).sum:=by
  intro prs
  induction prs with
  | nil=>intro _;rfl
  | cons p r ih =>
   intro hn;have h1:=ih fun q hq=>hn q (List.mem_cons_of_mem _ hq)
   have h2:=hn p List.mem_cons_self;unfold JD at *;rw[List.flatMap_cons,List.length_append,List.length_replicate,List.map_cons,List.sum_cons];omega
 have hml:=ml prs hn
 have hsl:(JN (Jt ps++JD prs)).length=ps.length+(JD prs).length:=by rw[(Jz _).length_eq,List.length_append];unfold Jt;rw[List.length_map]
 have ge:=(Jbf g (Ua (Jt ps++JD prs)) fun p hp=>(Jz _).mem_iff.mpr (List.mem_append_left _ (List.mem_map.mpr ⟨p,hp,rfl⟩))).1
 have el:=JcC ps (JN (Jt ps++JD prs)) 0 0;unfold JY;walk_at "ev";rw[Yp (g:=fun p=>D.int p.2)]
 ·walk_at "ev";rw[Vj (ns:=prs.map (·.2)) (by simp[Sl.q])];walk_at "ev";rw[decide_eq_false (by omega)];walk_at "ev";rw[Yp (g:=fun p=>D.int (p.1+p.2))]
  ·walk_at "ev";rw[show ps.map (fun p=>D.int (p.1+p.2))=(Jt ps).map D.int by unfold Jt;rw[List.map_map];rfl,Option.bind_assoc];refine Uy (fun(rest:List Pr) (L:List Int) E=>∃j3 j4,E=[.sh (.row (ps.map prE)),.sh (.lst (prs.map prE)),.own (L.map .int),j3,j4]/\(L.length:Int)+(rest.map (·.2)).sum<=30/\∀p∈rest,0<=p.2) (fun L p=>L++List.replicate p.2.toNat p.1) (Jt ps) ⟨.no,.no,rfl,by unfold Jt;rw[List.length_map];exact h,hn⟩ ?_ ?_
   ·rintro p rest L E ⟨j3,j4,rfl,hz,hr⟩;have h2:=hr p List.mem_cons_self
    have hs:0<=(rest.map (·.2)).sum:=by
     have:=ml rest fun q hq=>hr q (List.mem_cons_of_mem _ hq)
     omega
    rw[List.map_cons,List.sum_cons] at hz;simp only[prE];walk_at "ev";rw[Jf1 (d:=D.int p.1) rfl (Vw ⟨by omega,by omega⟩) (by omega)];walk_at "ev";rw[List.length_replicate,if_pos (by omega)];refine⟨.sh (.int p.1),.sh (.int p.2),?_,by rw[List.length_append,List.length_replicate];omega,fun q hq=>hr q (List.mem_cons_of_mem _ hq)⟩;rw[List.map_append,List.map_replicate]
   ·rintro E' ⟨j3,j4,rfl,_,_⟩
    have ef:∀(prs:List Pr) (L:List Int),prs.foldl (fun L p=>L++List.replicate p.2.toNat p.1) L=L++JD prs:=by
     intro prs
     induction prs with
     | nil=>intro L;simp[JD]
     | cons p r ih=>intro L;rw[List.foldl_cons,ih];unfold JD;rw[List.flatMap_cons,List.append_assoc]
    rw[ef];have hlt:(Jt ps++JD prs).length<64:=by rw[List.length_append];unfold Jt;rw[List.length_map];omega
    walk_at "ev";rw[JiC _ _ (by omega) (by omega)];walk_at "ev";rw[WG rfl ge (by omega)];walk_at "ev"
  ·intro p hp;simp only[prE];walk_at "ev"
 ·intro p hp;simp only[prE];walk_at "ev"
theorem JcZ{qs:List Pr}(g:Good qs)(s:Int):owF qs s=if s∈Jt qs then 1 else 0:=by
 unfold owF
 by_cases c:s∈Jt qs
 ·rw[if_pos c];obtain⟨p,hp,rfl⟩:=List.mem_map.mp c;have h1:=Good.all g p hp;rw[if_pos];refine⟨has_iff.mpr ⟨p,hp,by omega,by omega⟩,?_⟩
  cases h:J5 qs (p.1+p.2) with
  | false=>rfl
  | true =>
   obtain⟨q,hq,a1,a2⟩:=has_iff.mp h;have pw:=Good.pw g;obtain⟨i,hi,rfl⟩:=List.mem_iff_getElem.mp hp;obtain⟨j,hj,rfl⟩:=List.mem_iff_getElem.mp hq;rcases Nat.lt_trichotomy i j with z|z|z
   ·have:=List.pairwise_iff_getElem.mp pw i j hi hj z;omega
   ·subst z;omega
   ·have:=List.pairwise_iff_getElem.mp pw j i hj hi z;omega
 ·rw[if_neg c,if_neg];rintro⟨h1,h2⟩;obtain⟨p,hp,a1,a2⟩:=has_iff.mp h1;refine c (List.mem_map.mpr ⟨p,hp,?_⟩);rcases Je8 s (p.1+p.2) with z|z
  ·rw[has_iff.mpr ⟨p,hp,by omega,z⟩] at h2;cases h2
  ·omega
theorem JhZ{ps:List Pr}(g:Good ps):(Jt ps).Pairwise (·<·):=by
 unfold Jt;rw[List.pairwise_map];refine(Good.pw g).imp_of_mem fun {a b} _ hb h=>?_
 have:=Good.all g b hb;omega
theorem JdE{ps:List Pr}(g:Good ps):(Jt ps).Nodup:=(JhZ g).imp fun {a b} h=>by omega
theorem Jny(k:Int)(ps:List Pr):spF (byF (k+1) ps)=Jt (byF k ps):=by
 unfold spF Jt;refine List.ext_getElem? fun i=>?_
 rw[List.getElem?_map,List.getElem?_map,List.getElem?_zipIdx];unfold byF;rw[List.getElem?_mapIdx,List.getElem?_mapIdx]
 cases ps[i]? with
 | none=>rfl
 | some p =>
  simp only[Option.map_some];congr 1;have e:2*(k+1)*(i:Int)=2*k*(i:Int)+2*(i:Int):=by rw[Int.mul_add,Int.add_mul];simp
  simp only[Nat.zero_add];rw[e];omega
theorem Jhh(ps:List Pr)(sp:List Int):spF (edF ps 0 0 sp)=sp:=by
 refine List.ext_getElem? fun i=>?_
 unfold spF;rw[List.getElem?_map,List.getElem?_zipIdx,Option.map_map]
 cases h:(edF ps 0 0 sp)[i]? with
 | none=>rw[List.getElem?_eq_none_iff,JcC] at h;rw[List.getElem?_eq_none h];rfl
 | some q=>obtain⟨s,h1,h2⟩:=JaF ps sp 0 0 i q h;rw[h1];simp only[Option.map_some,Function.comp];rw[Nat.zero_add] at h2;rw[Nat.zero_add,h2]
theorem ZU:∀{l:List Int} {k:Int},l.Nodup->k∈l->l.count k=1
 | [],_,_,h=>by cases h
 | a::l,k,hn,h=>by
  rw[List.nodup_cons] at hn;rw[List.count_cons]
  by_cases c:a=k
  ·subst c;rw[List.count_eq_zero.mpr hn.1];simp
  ·have hm:k∈l:=(List.mem_cons.mp h).resolve_left fun z=>c z.symm
   rw[ZU hn.2 hm];simp[c]
noncomputable def kyL:Nat->List Int->List Int
 | _,[]=>[]
 | _,[_]=>[]
 | n,x::y::r=>if x=1/\y=0 then(n:Int)::kyL n r else kyL (n+1) (y::r)
theorem Jgj{n:Nat}{x:Int}{r:List Int}(h:¬(x=1/\r[0]?=some 0)):kyL n (x::r)=kyL (n+1) r:=by
 cases r with
 | nil=>rfl
 | cons y r=>rw[kyL,if_neg fun z=>h ⟨z.1,by rw[z.2];rfl⟩]
theorem Jgk:∀(a n:Nat) (r:List Int),kyL n (zs a++r)=kyL (n+a) r
 | 0,n,r=>rfl
 | a+1,n,r=>by rw[Vn,List.cons_append,Jgj (by simp),Jgk a (n+1) r];congr 1;omega
theorem JcN:∀(l n:Nat) (r:List Int),kyL n (os (l+1)++0::r)=((n+l:Nat):Int)::kyL (n+l) r
 | 0,n,r=>by show kyL n (1::0::r)=_;rw[kyL,if_pos ⟨rfl,rfl⟩];rfl
 | l+1,n,r=>by
  show kyL n (1::1::(os l++0::r))=_;rw[kyL,if_neg (by simp)]
  have:=JcN l (n+1) r;rw[Jd3,List.cons_append] at this;rw[this,show n+1+l=n+(l+1) by omega]
theorem VR:∀(a n:Nat),kyL n (zs a)=[]
 | 0,_=>rfl
 | 1,_=>rfl
 | a+2,n=>by
  show kyL n (0::0::zs a)=[]
  rw[kyL,if_neg (by simp)];exact VR (a+1) (n+1)
theorem We:∀(ls:List Int) (n:Nat) (e:Int),e∈kyL n ls->(n:Int)<=e/\e<=(n:Int)+((thL ls).length:Int)
 | [],n,e,h=>by simp[kyL] at h
 | [x],n,e,h=>by simp[kyL] at h
 | x::y::r,n,e,h=>by
  rw[kyL] at h;rw[thL];split at h
  ·next c =>
   rw[if_pos c];rcases List.mem_cons.mp h with z|z
   ·subst z;omega
   ·exact We r n e z
  ·next c=>rw[if_neg c];have:=We (y::r) (n+1) e h;rw[List.length_cons];omega
noncomputable def spR:Int->List Pr->List Int
 | _,[]=>[]
 | d,p::r=>(p.1+p.2-1-d)::spR (d+2) r
theorem Jgl:∀(ps:List Pr) (pos:Int) (n m:Nat),Good ps->(∀q,ps[0]?=some q->pos<=q.1)->1<=m->kyL n (blk pos ps++zs m)=spR (pos-(n:Int)) ps
 | [],pos,n,m,_,_,_=>by rw[blk,List.nil_append,VR];rfl
 | p::r,pos,n,m,g,hp,hm=>by
  have h1:=g.one 0 p rfl
  have h2:=hp p rfl;obtain⟨l,hl⟩:∃l:Nat,p.2.toNat=l+1:=⟨p.2.toNat-1,by omega⟩
  rw[J9,List.append_assoc,List.append_assoc,Jgk,hl,spR]
  cases r with
  | nil =>
   obtain⟨k,rfl⟩:∃k,m=k+1:=⟨m-1,by omega⟩
   rw[blk,List.nil_append,Vn,JcN,VR];show _=_::[]
   congr 1;omega
  | cons q r =>
   have h3:=g.gap 0 p q rfl rfl;obtain⟨a,ha⟩:∃a:Nat,(q.1-(p.1+p.2)).toNat=a+1:=⟨(q.1-(p.1+p.2)).toNat-1,by omega⟩
   have e:blk (p.1+p.2) (q::r)=0::blk (p.1+p.2+1) (q::r):=by rw[J9,J9,ha,Vn,List.cons_append];congr 2;congr 1;omega
   rw[e,List.cons_append,JcN];congr 1
   ·omega
   ·rw[Jgl (q::r) (p.1+p.2+1) (n+(p.1-pos).toNat+l) m (Good.cons' g) (fun q' e'=>by simp at e';subst e';omega) hm];congr 1;omega
theorem Jhg:∀(ps:List Pr) (d:Int) (i:Nat),spR (d+2*(i:Int)) ps=(ps.zipIdx i).map fun x=>x.1.1+x.1.2-1-2*(x.2:Int)-d
 | [],_,_=>rfl
 | p::r,d,i=>by rw[spR,List.zipIdx_cons,List.map_cons];have:=Jhg r d (i+1);rw[show d+2*((i+1:Nat):Int)=d+2*(i:Int)+2 by omega] at this;rw[this];congr 1;dsimp only;omega
theorem Jhj(ps:List Pr)(d:Int):spR d ps=(spF ps).map (·-d):=by have:=Jhg ps d 0;rw[show d+2*((0:Nat):Int)=d by omega] at this;rw[this];unfold spF;rw[List.map_map];rfl
theorem Jcw:∀(L:List Int) (a:List Pr),(a.map (·.1)).Pairwise (·<·)->(∀k∈a.map (·.1),∀s∈L,k<=s)->L.Pairwise (·<=·)->((L.foldl Ud a).map (·.1)).Pairwise (·<·)
 | [],a,h,_,_=>h
 | s::L,a,h,hk,hL=>by
  obtain⟨l1,l2⟩:=List.pairwise_cons.mp hL;rw[List.foldl_cons];have e:(Ud a s).map (·.1)=YI (a.map (·.1)) s:=UK s a;refine Jcw L (Ud a s) ?_ (fun k hk' t ht=>?_) l2
  ·rw[e];unfold YI;split
   ·exact h
   ·next c =>
    rw[List.pairwise_append];refine⟨h,by simp,fun k hk' t ht=>?_⟩;have ht':t=s:=by simpa using ht
    subst ht';have h1:=hk k hk' t List.mem_cons_self;have h2:k≠t:=fun z=>c (hasK_mem.mpr (by rw[<- z];exact hk'))
    omega
  ·rw[e] at hk';unfold YI at hk';split at hk'
   ·exact hk k hk' t (List.mem_cons_of_mem _ ht)
   ·rcases List.mem_append.mp hk' with z|z
    ·exact hk k z t (List.mem_cons_of_mem _ ht)
    ·have z':k=s:=by simpa using z
     subst z';exact l1 t ht
theorem Jhi:∀{ps:List Pr} (i:Nat),Good ps->((ps.zipIdx i).map fun x=>x.1.1+x.1.2-1-2*(x.2:Int)).Pairwise (·<=·)
 | [],_,_=>.nil
 | [p],i,_=>by simp
 | p::q::r,i,g=>by
  have ih:=Jhi (i+1) (Good.cons' g)
  have h1:=g.gap 0 p q rfl rfl
  have h2:=g.one 1 q rfl;rw[List.zipIdx_cons,List.map_cons];refine List.pairwise_cons.mpr ⟨fun t ht=>?_,ih⟩;rw[List.zipIdx_cons,List.map_cons] at ih ht
  have hq:p.1+p.2-1-2*(i:Int)<=q.1+q.2-1-2*((i+1:Nat):Int):=by omega
  rcases List.mem_cons.mp ht with z|z
  ·subst z;exact hq
  ·have:=(List.pairwise_cons.mp ih).1 t z;dsimp only at this ⊢;omega
theorem Jga(n t:Nat)(h:t<n):(zs n)[t]?=some 0:=by unfold zs;rw[List.getElem?_replicate,if_pos h]
theorem JkK(n t:Nat)(h:t<n):(os n)[t]?=some 1:=by unfold os;rw[List.getElem?_replicate,if_pos h]
theorem Jdl:∀(qs:List Pr) (pos:Int) (m t:Nat),Good qs->(∀q,qs[0]?=some q->pos<=q.1)->t<(blk pos qs++zs m).length->(blk pos qs++zs m)[t]?=some (if J5 qs (pos+(t:Int))=true then 1 else 0)
 | [],pos,m,t,_,_,h=>by
  rw[blk,List.nil_append] at h ⊢;have h':t<m:=by simpa [zs] using h
  rw[Jga _ _ h'];rfl
 | p::r,pos,m,t,g,hp,h=>by
  have h1:=g.one 0 p rfl
  have h2:=hp p rfl
  have nx:∀q,r[0]?=some q->p.1+p.2<=q.1:=fun q e=>by have:=g.gap 0 p q rfl (by simpa using e);omega (config:={})
  rw[J9,List.append_assoc,List.append_assoc] at h ⊢;have zl:(zs (p.1-pos).toNat).length=(p.1-pos).toNat:=by simp[zs]
  have ol:(os p.2.toNat).length=p.2.toNat:=by simp[os]
  rw[List.length_append,List.length_append,zl,ol] at h
  by_cases c1:t<(p.1-pos).toNat
  ·rw[List.getElem?_append_left (by rw[zl];exact c1),Jga _ _ c1,YZ fun q hq=>?_]
   ·rfl
   ·rcases List.mem_cons.mp hq with z|z
    ·subst z;omega (config:={})
    ·have:=Good.first g q z;omega (config:={})
  ·rw[List.getElem?_append_right (by rw[zl];omega (config:={})),zl]
   by_cases c2:t-(p.1-pos).toNat<p.2.toNat
   ·rw[List.getElem?_append_left (by rw[ol];exact c2),JkK _ _ c2,Vv (by omega (config:={})) (by omega (config:={}))];rfl
   ·rw[List.getElem?_append_right (by rw[ol];omega (config:={})),ol,Jdl r (p.1+p.2) m _ (Good.cons' g) nx (by omega (config:={})),WI (p:=p) (by omega (config:={}))];congr 4;omega (config:={})
noncomputable def Wg(k:Int)(qs:List Pr):List Tr:=((JR qs).filter fun t=>decide (t.2.1>t.2.2)).map fun t=>(k,t.1,t.2.1-t.2.2)
theorem Jmh(qs:List Pr):(spF qs).length=qs.length:=by unfold spF;simp
theorem Jgo{k:Int}{qs:List Pr}{t:Tr}(h:t∈Wg k qs):t.1=k:=by obtain⟨u,_,e⟩:=List.mem_map.mp h;rw[<- e]
theorem VL:∀(r:List Pr) (cur:Pr) (e:Int),e∈Jt (clF cur r)->e∈Jt (cur::r)
 | [],_,_,h=>h
 | p::r,cur,e,h=>by
  unfold Jt at h ⊢;rw[clF] at h;split at h
  ·next c =>
   have:=VL r _ e h;unfold Jt at this;simp only[List.map_cons,List.mem_cons] at this ⊢;rcases this with z|z
   ·exact .inr (.inl (by omega))
   ·exact .inr (.inr z)
  ·split at h
   ·rw[List.map_cons,List.mem_cons] at h;rcases h with z|z
    ·rw[z];simp
    ·have:=VL r p e z;unfold Jt at this;rw[List.map_cons];exact List.mem_cons_of_mem _ this
   ·have:=VL r cur e h;unfold Jt at this;simp only[List.map_cons,List.mem_cons] at this ⊢;rcases this with z|z
    ·exact .inl z
    ·exact .inr (.inr z)
theorem Jbx:∀(ps:List Pr) (e:Int),e∈Jt (clN ps)->e∈Jt ps
 | [],_,h=>h
 | p::r,e,h=>by
  rw[clN] at h;split at h
  ·exact VL r p e h
  ·have:=Jbx r e h;unfold Jt at this ⊢;rw[List.map_cons];exact List.mem_cons_of_mem _ this
theorem Jh0{qs:List Pr}{e:Int}(h:e∈Jt (thF qs)):e∈spF qs:=by
 have:=Jbx _ e h
 have z:=Jny (-1) qs;rw[show(-1:Int)+1=0 by omega,Jdq] at z;rw[z];exact this
theorem JdM{α:Type}(f:α->Int)(k:α->Bool):∀(l:List α),(∀x∈l,k x=false->f x=0)->((l.filter k).map f).sum=(l.map f).sum
 | [],_=>rfl
 | x::l,h=>by
  have ih:=JdM f k l fun y hy=>h y (List.mem_cons_of_mem _ hy)
  rw[List.map_cons,List.sum_cons]
  cases c:k x with
  | true=>rw[List.filter_cons_of_pos c,List.map_cons,List.sum_cons,ih]
  | false=>rw[List.filter_cons_of_neg (by rw[c];simp),ih,h x List.mem_cons_self c,Int.zero_add]
theorem JdY{α β:Type}{p:Pt}{b:Es}{f:α->D}(R:List α->β->En->Prop)(g:β->α->β):∀{as:List α} {E:En} (s:β) (h0:R as s E)
 (h:∀a as s E,R (a::as) s E->okS (R as (g s a)) ((p.bind (f a) E).bind b)),∃E',R [] (as.foldl g s) E'/\Uc p b (as.map f) E=some (.nx E')
 | [],E,s,h0,_=>⟨E,h0,rfl⟩
 | a::as,E,s,h0,h=>by
  obtain⟨E2,e2,r2⟩:=Zi (h a as s E h0);obtain⟨E',h1,h2⟩:=JdY R g (as:=as) (E:=E2) (g s a) r2 h;refine⟨E',h1,?_⟩;rw[List.map_cons,Uc]
  cases hp:p.bind (f a) E with
  | none=>rw[hp] at e2;rcases e2 with e2|e2 <;> cases e2
  | some E1=>rw[hp,Option.bind_some] at e2;rw[Option.bind_some];rcases e2 with e2|e2 <;> (rw[e2,Option.bind_some];exact h2)
theorem Zg(prs:List Pr)(s:Int):((JD prs).count s:Int)=(prs.map fun p=>if p.1=s then((p.2.toNat:Nat):Int) else 0).sum:=by
 induction prs with
 | nil=>rfl
 | cons p r ih =>
  unfold JD at *;rw[List.flatMap_cons,List.count_append,List.map_cons,List.sum_cons,<- ih,List.count_replicate];split <;> rename_i c
  ·have c':p.1=s:=by simpa using c
   rw[if_pos c'];omega
  ·have c':¬p.1=s:=by simpa using c
   rw[if_neg c'];omega
theorem Jd1{a:List Pr}(f:Pr->Int)(hn:(a.map (·.1)).Nodup)(s:Int):(a.map fun p=>if p.1=s then f p else 0).sum=if s∈a.map (·.1) then f (s,lk s a) else 0:=by
 induction a with
 | nil=>rfl
 | cons p r ih =>
  rw[List.map_cons,List.nodup_cons] at hn;rw[List.map_cons,List.sum_cons,ih hn.2,lk]
  by_cases c:p.1=s
  ·subst c;rw[if_pos rfl,if_pos rfl,if_neg hn.1,if_pos (by simp)];simp
  ·rw[if_neg c,if_neg c,Int.zero_add];have:(s∈(p::r).map (·.1))=(s∈r.map (·.1)):=by simp[Ne.symm c]
   simp only[this]
noncomputable def Ja2(l:List Tr):List Pr:=l.map fun t=>(t.2.1,t.2.2)
theorem Jfr{q:List Pr}(g:Good q)(k:Int):JN (Jt (thF q)++JD (Ja2 (Wg k q)))=spF q:=by
 obtain⟨c1,c2,c3⟩:=Jkn (spF q);have gt:=Zz g;have nd:=JdE gt;refine List.Perm.eq_of_pairwise (le:=(·<=·)) (fun a b _ _ h1 h2=>by omega) (Ua _) (Jhi 0 g) ((Jz _).trans (List.perm_iff_count.mpr fun s=>?_));rw[List.count_append]
 have e1:((JD (Ja2 (Wg k q))).count s:Int)=if s∈spF q then((spF q).count s:Int)-(if s∈Jt (thF q) then 1 else 0) else 0:=by
  rw[Zg];unfold Ja2 Wg;rw[List.map_map,List.map_map];refine Eq.trans (show _=(((JR q).filter fun t=>decide (t.2.1>t.2.2)).map fun t=>if t.1=s then(((t.2.1-t.2.2).toNat:Nat):Int) else 0).sum from rfl) ?_;rw[JdM]
  ·unfold JR;rw[List.map_map];have f2:((VI (spF q)).map ((fun t:Tr=>if t.1=s then(((t.2.1-t.2.2).toNat:Nat):Int) else 0) ∘ fun p:Pr=>((p.1,p.2,owF (thF q) p.1):Tr))).sum=((VI (spF q)).map fun p=>if p.1=s then(((p.2-owF (thF q) p.1).toNat:Nat):Int) else 0).sum:=rfl;rw[f2,Jd1 (fun p=>(((p.2-owF (thF q) p.1).toNat:Nat):Int)) c1];have mm:s∈(VI (spF q)).map (·.1)↔s∈spF q:=⟨fun h=>by obtain⟨p,hp,e⟩:=List.mem_map.mp h;rw[<- e];exact(c2 p hp).2,fun h=>List.mem_map.mpr ⟨_,c3 s h,rfl⟩⟩
   by_cases h:s∈spF q
   ·rw[if_pos (mm.mpr h),if_pos h,JcP c1 (c3 s h) (p:=(s,((spF q).count s:Int)))];dsimp only;rw[JcZ gt];have:0<(spF q).count s:=List.count_pos_iff.mpr h;split <;> omega
   ·rw[if_neg fun z=>h (mm.mp z),if_neg h]
  ·intro t ht c;have c':=of_decide_eq_false c;split
   ·omega
   ·rfl
 have e2:(Jt (thF q)).count s=if s∈Jt (thF q) then 1 else 0:=by
  split
  ·next h=>exact ZU nd h
  ·next h=>exact List.count_eq_zero.mpr h
 rw[e2]
 by_cases h:s∈spF q
 ·rw[if_pos h] at e1;have:0<(spF q).count s:=List.count_pos_iff.mpr h;split at e1 <;> rename_i c
  ·rw[if_pos c];omega
  ·rw[if_neg c];omega
 ·rw[if_neg h] at e1;rw[if_neg fun z=>h (Jh0 z),List.count_eq_zero.mpr h];omega
noncomputable def putF(ps prs:List Pr):List Pr:=edF ps 0 0 (JN (Jt ps++JD prs))
noncomputable abbrev Gp:=Int×List Pr
theorem JdW{k:Int}{q:List Pr}{t:Tr}(h:t∈Wg k q):1<=t.2.2:=by unfold Wg at h;obtain⟨u,hu,e⟩:=List.mem_map.mp h;obtain⟨_,c⟩:=List.mem_filter.mp hu;have:=of_decide_eq_true c;rw[<- e];dsimp only;omega
noncomputable def zl(k:Int)(gs:List Gp):List Pr:=List.zip (k::gs.map (·.1)) (gs.map (·.1))
theorem JdV{q:List Pr}(g:Good q)(k:Int):((Wg k q).map (·.2.1)).Pairwise (·<·):=by
 have h:=Jcw (spF q) [] (by simp) (fun _ h=>by simp at h) (Jhi 0 g)
 have e:(Wg k q).map (·.2.1)=(((JR q).filter fun t=>decide (t.2.1>t.2.2)).map (·.1)):=by unfold Wg;rw[List.map_map];rfl
 rw[e]
 have e2:(JR q).map (·.1)=(VI (spF q)).map (·.1):=by unfold JR;rw[List.map_map];rfl
 have h':((JR q).map (·.1)).Pairwise (·<·):=by rw[e2];exact h
 rw[List.pairwise_map] at h' ⊢;exact h'.filter _
theorem JcO:∀{a b:List Pr},(a.map (·.1)).Pairwise (·<·)->(b.map (·.1)).Pairwise (·<·)->(∀p∈a,1<=p.2)->(∀p∈b,1<=p.2)->(∀x,lk x a=lk x b)->a=b
 | [],[],_,_,_,_,_=>rfl
 | [],q::b,_,_,_,h,e=>by
  have:=e q.1;rw[lk,lk,if_pos rfl] at this
  have:=h q List.mem_cons_self;omega
 | p::a,[],_,_,h,_,e=>by
  have:=e p.1;rw[lk,lk,if_pos rfl] at this
  have:=h p List.mem_cons_self;omega
 | p::a,q::b,ha,hb,h1,h2,e=>by
  rw[List.map_cons,List.pairwise_cons] at ha hb
  have out:∀{l:List Pr} {x:Int},(∀y∈l.map (·.1),x<y)->lk x l=0:=fun {l x} h=>by
   induction l with
   | nil=>rfl
   | cons r l ih=>rw[lk,if_neg fun z=>by have:=h r.1 (by simp);omega];exact ih fun y hy=>h y (by rw[List.map_cons];exact List.mem_cons_of_mem _ hy)
  have hp:=h1 p List.mem_cons_self
  have hq:=h2 q List.mem_cons_self
  have ek:p.1=q.1:=by
   rcases Int.lt_trichotomy p.1 q.1 with z|z|z
   ·have:=e p.1;rw[lk,if_pos rfl,lk,if_neg (by omega),out fun y hy=>by have:=hb.1 y hy;omega] at this;omega
   ·exact z
   ·have:=e q.1;rw[lk,if_neg (by omega),lk,if_pos rfl,out fun y hy=>by have:=ha.1 y hy;omega] at this;omega
  have ev:p.2=q.2:=by have:=e p.1;rw[lk,if_pos rfl,lk,if_pos ek.symm] at this;exact this
  have:p=q:=Prod.ext ek ev;subst this;rw[JcO ha.2 hb.2 (fun r hr=>h1 r (List.mem_cons_of_mem _ hr)) (fun r hr=>h2 r (List.mem_cons_of_mem _ hr)) fun x=>?_]
  have:=e x;rw[lk,lk] at this
  by_cases c:p.1=x
  ·subst c;rw[out ha.1,out hb.1]
  ·rwa [if_neg c,if_neg c] at this
theorem JaS:∀{a:List Pr} {x:Int},x∉a.map (·.1)->lk x a=0
 | [],_,_=>rfl
 | p::r,x,h=>by rw[lk,if_neg fun z=>h (by rw[<- z];simp)];exact JaS fun m=>h (by rw[List.map_cons];exact List.mem_cons_of_mem _ m)
theorem JdU{a:List Pr}(hn:(a.map (·.1)).Nodup)(h:∀p∈a,1<=p.2)(x:Int):lk x a=((JD a).count x:Int):=by
 rw[Zg,Jd1 (fun p=>((p.2.toNat:Nat):Int)) hn];split
 ·next m=>obtain⟨p,hp,e⟩:=List.mem_map.mp m;subst e;rw[JcP hn hp];have:=h p hp;dsimp only;omega
 ·next m=>exact JaS m
theorem Jd5(l:List Tr):(Ja2 l).map (·.1)=l.map (·.2.1):=by unfold Ja2;rw[List.map_map];rfl
theorem Jk8{q:List Pr}(g:Good q)(k x:Int):lk x (Ja2 (Wg k q))+((Jt (thF q)).count x:Int)=((spF q).count x:Int):=by
 have pw:=JdV g k;rw[JdU (by rw[Jd5];exact pw.imp fun {a b} h=>by omega) fun p hp=>by obtain⟨u,hu,e⟩:=List.mem_map.mp hp;rw[<- e];exact JdW hu]
 have:=((Jz (Jt (thF q)++JD (Ja2 (Wg k q)))).count_eq x)
 rw[Jfr g k,List.count_append] at this;omega
theorem JgO(k:Int)(l:List Tr)(h:∀t∈l,t.1=k):l=(Ja2 l).map fun p=>(k,p.1,p.2):=by
 unfold Ja2;rw[List.map_map];refine(List.map_id' l).symm.trans (List.map_congr_left fun t ht=>?_);show t=(k,t.2.1,t.2.2)
 rw[<- h t ht]
theorem JiA{ps prs:List Pr}(g:Good ps)(hp:∀p∈prs,1<=p.2)(pw:(prs.map (·.1)).Pairwise (·<·))(k:Int):Good (putF ps prs)/\thF (putF ps prs)=ps/\Wg k (putF ps prs)=prs.map fun p=>(k,p.1,p.2):=by
 have hs:(JN (Jt ps++JD prs)).Pairwise (·<=·):=Ua _
 have he:∀p∈ps,p.1+p.2∈JN (Jt ps++JD prs):=fun p h=>(Jz _).mem_iff.mpr (List.mem_append.mpr (.inl (List.mem_map.mpr ⟨p,h,rfl⟩)))
 obtain⟨g1,th⟩:=Jbf g hs he;have g1:Good (putF ps prs):=g1;have th:thF (putF ps prs)=ps:=th;refine⟨g1,th,?_⟩;rw[JgO k (Wg k (putF ps prs)) fun t ht=>Jgo ht];refine congrArg (List.map _) (JcO (by rw[Jd5];exact JdV g1 k) pw (fun p hp=>by obtain⟨u,hu,e⟩:=List.mem_map.mp hp;rw[<- e];exact JdW hu) hp fun x=>?_)
 have e1:=Jk8 g1 k x
 have e2:spF (putF ps prs)=JN (Jt ps++JD prs):=Jhh _ _;rw[th,e2,(Jz _).count_eq x,List.count_append] at e1
 have e3:=JdU (pw.imp fun {a b} h=>by omega) hp (x:=x);omega
theorem JeK{α:Type}{xs:List α}{k:Nat}{x:α}(h:xs[k]?=some x):xs.drop k=x::xs.drop (k+1):=by obtain⟨h1,h2⟩:=List.getElem?_eq_some_iff.mp h;rw[List.drop_eq_getElem_cons h1,h2]
noncomputable def Yd:Int->List Pr->Int
 | e,[]=>e
 | _,p::r=>Yd (p.1+p.2) r
theorem UA:∀(ps:List Pr) (pos:Int),Good ps->(∀q,ps[0]?=some q->pos<=q.1)->pos<=Yd pos ps
 | [],pos,_,_=>Int.le_refl _
 | p::r,pos,g,hp=>by
  have h1:=g.one 0 p rfl
  have h2:=hp p rfl
  have:=UA r (p.1+p.2) (Good.cons' g) fun q e=>by have:=g.gap 0 p q rfl (by simpa using e);omega
  show pos<=Yd (p.1+p.2) r;omega
theorem VF:∀(ps:List Pr) (pos:Int),Good ps->(∀q,ps[0]?=some q->pos<=q.1)->(((blk pos ps).length:Nat):Int)=Yd pos ps-pos
 | [],pos,_,_=>by simp[blk,Yd]
 | p::r,pos,g,hp=>by
  have h1:=g.one 0 p rfl
  have h2:=hp p rfl
  have ih:=VF r (p.1+p.2) (Good.cons' g) fun q e=>by have:=g.gap 0 p q rfl (by simpa using e);omega
  rw[J9,List.length_append,List.length_append];simp only[zs,os,List.length_replicate];show _=Yd (p.1+p.2) r-pos;omega
theorem Jmg(A:List Int)(g i m:Nat)(h:g+i<m):(A++(zs g++(os i++zs (m-g-i)))).set (A.length+g+i) 1=A++(zs g++(os (i+1)++zs (m-g-(i+1)))):=by
 rw[List.set_append_right _ _ (by omega),List.set_append_right _ _ (by simp only[zs,List.length_replicate];omega),List.set_append_right _ _ (by simp only[zs,os,List.length_replicate];omega)];congr 2;simp only[zs,os,List.length_replicate];rw[show A.length+g+i-A.length-g-i=0 by omega];obtain⟨k,hk⟩:∃k,m-g-i=k+1:=⟨m-g-i-1,by omega⟩
 rw[hk,show m-g-(i+1)=k by omega];show os i++1::zs k=os (i+1)++zs k;rw[<- JgB,List.append_assoc];rfl
theorem JcQ(ps:List Pr)(low high:Int)(g:Good ps)(hp:∀q,ps[0]?=some q->low<=q.1)(hh:Yd low ps<=high)(hl:high-low<=10000)(h1:-100000<=low)(h2:low<=100000) :
 JV [.sh (.lst (ps.map prE)),.sh (.int low),.sh (.int high)]=some (.own ((blk low ps++zs (high-Yd low ps).toNat).map .int)):=by
 have hge:=UA ps low g hp;unfold JV;walk_at "ev"
 have hr:rng low (high-low).toNat=(List.range (high-low).toNat).map (fun(i:Nat)=>D.int (low+(i:Int))):=rfl
 have hin:(Wb low && Wb high)=true:=by rw[Vw ⟨by omega,by omega⟩,Vw ⟨by omega,by omega⟩];rfl
 rw[hr,Yp (g:=fun _=>D.int 0)]
 ·rw[if_pos (by rw[List.length_map,List.length_range];omega)];walk_at "ev";rw[Option.bind_assoc]
  have e0:(List.range (high-low).toNat).map (fun _=>D.int 0)=([]++zs (high-low).toNat).map D.int:=by rw[List.nil_append];unfold zs;rw[List.map_replicate];exact List.ext_getElem? fun i=>by simp[List.getElem?_replicate];split <;> simp_all
  rw[e0];refine Uy (fun(rest:List Pr) (s:Int×List Int) E=>∃j4 j5 j6,E=[.sh (.lst (ps.map prE)),.sh (.int low),.sh (.int high),.own ((s.2++zs (high-s.1).toNat).map .int),j4,j5,j6]/\Good rest/\(∀q,rest[0]?=some q->s.1<=q.1)/\((s.2.length:Nat):Int)=s.1-low/\low<=s.1/\Yd s.1 rest<=high)
   (fun s p=>(p.1+p.2,s.2++(zs (p.1-s.1).toNat++os p.2.toNat))) (low,[]) ⟨.no,.no,.no,rfl,g,hp,by simp,Int.le_refl _,hh⟩ ?_ ?_
  ·rintro p rest ⟨pos,A⟩ E ⟨j4,j5,j6,rfl,gr,hpr,hA,hlo,hen⟩;dsimp only at *;have k1:=gr.one 0 p rfl;have k2:=hpr p rfl;have k3:p.1+p.2<=Yd (p.1+p.2) rest:=UA rest _ (Good.cons' gr) fun q e=>by have:=gr.gap 0 p q rfl (by simpa using e);omega
   have k4:Yd pos (p::rest)=Yd (p.1+p.2) rest:=rfl;simp only[prE];walk_at "ev"
   have hin2:(Wb p.1 && Wb (p.1+p.2))=true:=by rw[Vw ⟨by omega,by omega⟩,Vw ⟨by omega,by omega⟩];rfl
   rw[show rng p.1 (p.1+p.2-p.1).toNat=(List.range (p.1+p.2-p.1).toNat).map (fun(i:Nat)=>D.int (p.1+(i:Int))) from rfl];have hn:(p.1+p.2-p.1).toNat=p.2.toNat:=by omega
   rw[hn]
   generalize hM:(high-pos).toNat=M
   generalize hG:(p.1-pos).toNat=G
   have key:(Uc (.nm 6) (VE 3 (e2 UJ (Jc 6) (Jc 1)) (eC (.int 1))) ((List.range p.2.toNat).map fun(i:Nat)=>D.int (p.1+(i:Int))) [.sh (.lst (ps.map prE)),.sh (.int low),.sh (.int high),.own ((A++zs M).map .int),.sh (.int p.1),.sh (.int p.2),j6]).bind (fun(o:Out)=>match o with|.nx [a,b,c,d,e,f,_]=>some (Out.nx [a,b,c,d,e,f,.no])|_=>none)=some (Out.nx [.sh (.lst (ps.map prE)),.sh (.int low),.sh (.int high),.own ((A++(zs G++os p.2.toNat)++zs (M-G-p.2.toNat)).map .int),.sh (.int p.1),.sh (.int p.2),.no]):=by
    refine U6 (fun i E=>∃j6,E=[.sh (.lst (ps.map prE)),.sh (.int low),.sh (.int high),.own ((A++(zs G++(os i++zs (M-G-i)))).map .int),.sh (.int p.1),.sh (.int p.2),j6]) ⟨j6,?_⟩ ?_ ?_
    ·show _=[_,_,_,Sl.own ((A++(zs G++(zs (M-G-0)))).map D.int),_,_,_]
     rw[Jdi,show G+(M-G-0)=M by omega]
    ·rintro i E hi ⟨j6,rfl⟩;walk_at "ev"
     have hix:ixN (A++(zs G++(os i++zs (M-G-i)))).length (p.1+(i:Int)-low)=some (A.length+G+i):=by
      unfold ixN
      have hlen:(A++(zs G++(os i++zs (M-G-i)))).length=A.length+M:=by simp only[List.length_append,zs,os,List.length_replicate];omega
      rw[hlen,if_pos (by omega),if_pos (by omega)];congr 1;omega
     rw[hix];walk_at "ev";refine⟨.sh (.int (p.1+(i:Int))),?_⟩;rw[<- List.map_set,Jmg A G i M (by omega)]
    ·rintro E' ⟨j6,rfl⟩;dsimp only;simp only[List.append_assoc]
   cases hx:Uc (.nm 6) (VE 3 (e2 UJ (Jc 6) (Jc 1)) (eC (.int 1))) ((List.range p.2.toNat).map fun(i:Nat)=>D.int (p.1+(i:Int))) [.sh (.lst (ps.map prE)),.sh (.int low),.sh (.int high),.own ((A++zs M).map .int),.sh (.int p.1),.sh (.int p.2),j6] with
   | none=>rw[hx] at key;cases key
   | some o =>
    rw[hx,Option.bind_some] at key;split at key
    ·next a b c d e f j =>
     cases key;rw[Jgx];refine⟨.sh (.int p.1),.sh (.int p.2),j,?_,Good.cons' gr,fun q e=>by have:=gr.gap 0 p q rfl (by simpa using e);omega,?_,by omega,hen⟩
     ·rw[show M-G-p.2.toNat=(high-(p.1+p.2)).toNat by omega]
     ·simp only[List.length_append,zs,os,List.length_replicate];omega
    ·cases key
  ·rintro E' ⟨j4,j5,j6,rfl,_,_,_,_,_⟩
   have ef:∀(ps:List Pr) (pos:Int) (A:List Int),(ps.foldl (fun(s:Int×List Int) p=>(p.1+p.2,s.2++(zs (p.1-s.1).toNat++os p.2.toNat))) (pos,A))=(Yd pos ps,A++blk pos ps):=by
    intro ps
    induction ps with
    | nil=>intro pos A;simp[Yd,blk]
    | cons p r ih=>intro pos A;rw[List.foldl_cons,ih,J9];simp only[List.append_assoc];rfl
   rw[ef];dsimp only;walk_at "ev"
 ·intro i hi;walk_at "ev"
noncomputable def prv(ls:List Int):Nat->Int
 | 0=>0
 | i+1=>ls.getD i 0
theorem Jlc(ls:List Int)(low:Int)(hl:ls.length<=10000):Yj [.sh (.lst (ls.map .int)),.sh (.int low)]=some (.own ((tk 0 low [] ls).map prE)):=by
 unfold Yj;walk_at "ev";rw[Jha,Option.bind_assoc,show((ls.length:Int)).toNat=ls.length by simp];refine U6 (fun i E=>∃acc j3,E=[.sh (.lst (ls.map .int)),.sh (.int low),.own (acc.map prE),j3]/\tk (prv ls i) (low+(i:Int)) acc (ls.drop i)=tk 0 low [] ls/\(prv ls i=1->acc≠[])/\acc.length<=i) ⟨[],.no,rfl,by simp[prv],(fun z=>absurd z (show ¬((0:Int)=1) by decide)),Nat.le_refl _⟩ ?_ ?_
 ·rintro i E hi ⟨acc,j3,rfl,ht,hne,hal⟩;have hi':i<ls.length:=by simpa using hi
  obtain⟨x,hx⟩:∃x,ls[i]?=some x:=⟨ls[i],by simp⟩
  have hg:(ls.map D.int)[i]?=some (.int x):=by rw[List.getElem?_map,hx];rfl
  have hpx:prv ls (i+1)=x:=by show ls.getD i 0=x;rw[List.getD_eq_getElem?_getD,hx];rfl
  rw[JeK hx] at ht
  have nxt:∀acc' j3',tkS x (prv ls i) (low+(i:Int)) acc=acc'->(x=1->acc'≠[])->acc'.length<=i+1->∃acc j3,[Sl.sh (.lst (ls.map .int)),.sh (.int low),.own (acc'.map prE),j3']=[.sh (.lst (ls.map .int)),.sh (.int low),.own (acc.map prE),j3]/\tk (prv ls (i+1)) (low+((i+1:Nat):Int)) acc (ls.drop (i+1))=tk 0 low [] ls/\(prv ls (i+1)=1->acc≠[])/\acc.length<=i+1:=fun acc' j3' e h1 h2=>⟨acc',j3',rfl,by rw[hpx,<- ht,<- e,show low+((i+1:Nat):Int)=low+(i:Int)+1 by omega];rfl,by rw[hpx];exact h1,h2⟩
  walk_at "ev";rw[Y9 hg];walk_at "ev"
  by_cases c1:x=1
  ·rw[decide_eq_true c1];walk_at "ev"
   by_cases c2:0<i
   ·have hp:ls[i-1]?=some (prv ls i):=by
     obtain⟨k,rfl⟩:∃k,i=k+1:=⟨i-1,by omega⟩
     show ls[k]?=some (ls.getD k 0);rw[List.getD_eq_getElem?_getD,List.getElem?_eq_getElem (by omega)];rfl
    have hg1:(ls.map D.int)[i-1]?=some (.int (prv ls i)):=by rw[List.getElem?_map,hp];rfl
    rw[decide_eq_true (by omega)];walk_at "ev";rw[show((i:Int)-1)=((i-1:Nat):Int) by omega,Y9 hg1];walk_at "ev"
    by_cases c3:prv ls i=1
    ·rw[decide_eq_true c3];walk_at "ev"
     obtain⟨q,hq⟩:∃q,acc[acc.length-1]?=some q:=by
      have:=hne c3
      have:0<acc.length:=by cases acc with|nil=>exact absurd rfl this|cons _ _=>simp
      exact⟨acc[acc.length-1],by simp⟩
     have hgq:(acc.map prE)[(acc.map prE).length-1]?=some (prE q):=by rw[List.length_map,List.getElem?_map,hq];rfl
     rw[Jbm hgq];walk_at "ev";rw[W2,JaI];walk_at "ev";have hl0:acc.length-1<acc.length:=(List.getElem?_eq_some_iff.mp hq).1
     have hix:ixN acc.length (-1)=some (acc.length-1):=by unfold ixN;rw[if_neg (by omega),if_pos (by omega)];congr 1;omega
     rw[hix];walk_at "ev"
     have hlast:acc.getLastD (0,0)=q:=by rw[List.getLastD_eq_getLast?,List.getLast?_eq_getElem?,hq];rfl
     have hset:(acc.map prE).set (acc.length-1) (.tup [.int q.1,.int (q.2+1)])=(acc.dropLast++[(q.1,q.2+1)]).map prE:=by
      have:acc=acc.dropLast++[q]:=by
       have hne':acc≠[]:=hne c3
       have:=List.dropLast_concat_getLast hne';rw[List.getLast_eq_getElem] at this;rw[(List.getElem?_eq_some_iff.mp hq).2] at this;exact this.symm
      rw[show(D.tup [.int q.1,.int (q.2+1)])=prE (q.1,q.2+1) from rfl,<- List.map_set];congr 1;obtain⟨bs,hb⟩:∃bs,acc=bs++[q]:=⟨_,this⟩
      rw[hb];simp
     rw[hset];refine nxt (acc.dropLast++[(q.1,q.2+1)]) _ ?_ (fun _=>by simp) (by rw[List.length_append,List.length_dropLast,List.length_singleton];omega);unfold tkS;rw[if_pos ⟨c1,c3⟩,hlast]
    ·rw[decide_eq_false c3];walk_at "ev";rw[show acc.map prE++[D.tup [.int (low+(i:Int)),.int 1]]=(acc++[(low+(i:Int),1)]).map prE by rw[List.map_append];rfl];refine nxt (acc++[(low+(i:Int),1)]) _ ?_ (fun _=>by simp) (by rw[List.length_append,List.length_singleton];omega);unfold tkS;rw[if_neg fun z=>c3 z.2,if_pos c1]
   ·have hp:prv ls i=0:=by
     obtain rfl:i=0:=by omega
     rfl
    rw[decide_eq_false (by omega)];walk_at "ev";rw[show acc.map prE++[D.tup [.int (low+(i:Int)),.int 1]]=(acc++[(low+(i:Int),1)]).map prE by rw[List.map_append];rfl];refine nxt (acc++[(low+(i:Int),1)]) _ ?_ (fun _=>by simp) (by rw[List.length_append,List.length_singleton];omega);unfold tkS;rw[if_neg fun z=>by rw[hp] at z;exact absurd z.2 (by decide),if_pos c1]
  ·rw[decide_eq_false c1];walk_at "ev";refine nxt acc _ ?_ (fun z=>absurd z c1) (by omega);unfold tkS;rw[if_neg fun z=>c1 z.1,if_neg c1]
 ·rintro E' ⟨acc,j3,rfl,ht,_,_⟩;rw[List.drop_length] at ht;have ht':acc=tk 0 low [] ls:=ht;rw[ht'];walk_at "ev"
theorem V9:∀(ps:List Pr) (low:Int) (q:Pr),ps[ps.length-1]?=some q->Yd low ps=q.1+q.2
 | [],low,q,e=>by simp at e
 | [p],low,q,e=>by simp at e;subst e;rfl
 | p::p'::r,low,q,e=>V9 (p'::r) (p.1+p.2) q (by simpa using e)
theorem JdD:∀(ps:List Pr) (low b:Int),low<=b->(∀p∈ps,p.1+p.2<=b)->Yd low ps<=b
 | [],low,b,h,_=>h
 | p::r,low,b,_,hp=>JdD r (p.1+p.2) b (hp p List.mem_cons_self) fun q hq=>hp q (List.mem_cons_of_mem _ hq)
theorem JbL(ps:List Pr)(h:ps.length<=1000):JW [.sh (.row (ps.map prE)),.sh (.lst (ps.map prE))]=some (.sh (.bl true)):=by
 unfold JW;walk_at "ev";rw[Jha,Option.bind_assoc];refine U6 (fun i E=>∃j2 j3 j4,E=[.sh (.row (ps.map prE)),.sh (.lst (ps.map prE)),j2,j3,j4]) ⟨.no,.no,.no,rfl⟩ ?_ ?_
 ·rintro i E hi ⟨j2,j3,j4,rfl⟩;have hi':i<ps.length:=by simpa using hi
  have hg:(ps.map prE)[i]?=some (prE ps[i]):=by simp[hi']
  walk_at "ev";rw[Y9 hg];simp only[prE];walk_at "ev";rw[Y9 hg];walk_at "ev";rw[show D.tup [.int ps[i].1,.int ps[i].2]=prE ps[i] from rfl,JfW];simp only[prE];walk_at "ev";rw[Uc];walk_at "ev";rw[Uc];walk_at "ev";rw[Uc];walk_at "ev";exact⟨_,_,_,rfl⟩
 ·rintro E' ⟨j2,j3,j4,rfl⟩;walk_at "ev"
noncomputable def p10:Nat->List Int
 | 0=>[]
 | n+1=>1::0::p10 n
noncomputable def fl(m:Nat->Nat):Nat->List Int->List Int
 | _,[]=>[]
 | k,x::r=>p10 (m k)++x::fl m (k+1) r
theorem JbC{m m':Nat->Nat}:∀(L:List Int) (k:Nat),(∀j,k<=j->m j=m' j)->fl m k L=fl m' k L
 | [],_,_=>rfl
 | x::r,k,h=>by rw[fl,fl,h k (Nat.le_refl _),JbC r (k+1) fun j hj=>h j (by omega)]
theorem Jf3(m:Nat->Nat):∀(L M:List Int) (k:Nat),fl m k (L++M)=fl m k L++fl m (k+L.length) M
 | [],M,k=>rfl
 | x::r,M,k=>by rw[List.cons_append,fl,fl,Jf3 m r M (k+1),List.append_assoc,List.length_cons,show k+1+r.length=k+(r.length+1) by omega];rfl
theorem JdK:∀(L:List Int) (k:Nat) (m:Nat->Nat),(∀j,k<=j->m j=(kyL k L).count (j:Int))->(∀e∈kyL k L,e<(k:Int)+((thL L).length:Int))->fl m k (thL L)=L
 | [],k,m,_,_=>rfl
 | [x],k,m,h,_=>by have:=h k (Nat.le_refl _);rw[thL,fl,this];rfl
 | x::y::r,k,m,h,hk=>by
  rw[thL]
  by_cases c:x=1/\y=0
  ·rw[if_pos c];have eK:kyL k (x::y::r)=(k:Int)::kyL k r:=by rw[kyL,if_pos c]
   have eT:thL (x::y::r)=thL r:=by rw[thL,if_pos c]
   rw[eK] at h hk;rw[eT] at hk;have k0:=hk (k:Int) List.mem_cons_self;have mk:=h k (Nat.le_refl _);rw[List.count_cons_self] at mk
   have ih:=JdK r k (fun j=>if j=k then m k-1 else m j) (fun j hj=>by
    by_cases c:j=k
    ·subst c;rw[if_pos rfl];omega
    ·rw[if_neg c,h j hj,List.count_cons_of_ne (by omega)]) fun e he=>hk e (List.mem_cons_of_mem _ he)
   cases hT:thL r with
   | nil=>rw[hT,List.length_nil] at k0;omega
   | cons z t=>rw[hT,fl] at ih;simp only[if_true] at ih;rw[fl,mk,p10];rw[JbC (m':=fun j=>if j=k then m k-1 else m j) t (k+1) fun j hj=>by rw[if_neg (by omega)]];rw[show m k-1=(kyL k r).count (k:Int) by omega] at ih ⊢;rw[List.cons_append,List.cons_append,ih,c.1,c.2]
  ·rw[if_neg c];have eK:kyL k (x::y::r)=kyL (k+1) (y::r):=by rw[kyL,if_neg c]
   have eT:thL (x::y::r)=x::thL (y::r):=by rw[thL,if_neg c]
   rw[eK] at h hk;rw[eT,List.length_cons] at hk;have ih:=JdK (y::r) (k+1) m (fun j hj=>h j (by omega)) fun e he=>by have:=hk e he;omega
   have m0:m k=0:=by
    rw[h k (Nat.le_refl _)];refine List.count_eq_zero.mpr fun hm=>?_
    have:=(We _ _ _ hm).1;omega
   rw[fl,m0,ih];rfl
theorem Jbd:∀(L:List Int) (k:Nat),(thL L).length+2*(kyL k L).length=L.length
 | [],_=>rfl
 | [x],_=>rfl
 | x::y::r,k=>by
  rw[thL,kyL]
  by_cases c:x=1/\y=0
  ·rw[if_pos c,if_pos c];have:=Jbd r k;simp only[List.length_cons];omega
  ·rw[if_neg c,if_neg c];have:=Jbd (y::r) (k+1);simp only[List.length_cons] at this ⊢;omega
theorem JaG:∀(ps:List Pr) (pos:Int),Good ps->∀e∈Jt ps,e<=Yd pos ps
 | [],_,_,e,h=>by simp[Jt] at h
 | p::r,pos,g,e,h=>by
  show e<=Yd (p.1+p.2) r
  have ge:p.1+p.2<=Yd (p.1+p.2) r:=UA r _ (Good.cons' g) fun q e=>by have:=g.gap 0 p q rfl (by simpa using e);omega
  unfold Jt at h;rw[List.map_cons] at h;rcases List.mem_cons.mp h with z|z
  ·omega
  ·exact JaG r (p.1+p.2) (Good.cons' g) e z
theorem Jf2{ps prs:List Pr}(g:Good ps){low:Int}{n:Nat}(hp:∀q,ps[0]?=some q->low<=q.1)(hn:1<=n)
 (hr:∀s∈JD prs,low<=s/\s<low+((blk low ps++zs n).length:Int)) :
 Good (putF ps prs)/\(∀q,(putF ps prs)[0]?=some q->low<=q.1)/\∃n',1<=n'/\(blk low (putF ps prs)++zs n').length=(blk low ps++zs n).length+2*(putF ps prs).length ∧
  ∀m:Nat->Nat,(∀k:Nat,m k=(Jt ps++JD prs).count (low+(k:Int)))->fl m 0 (blk low ps++zs n)=blk low (putF ps prs)++zs n':=by
 have all:∀p∈ps,low<=p.1:=fun p h=>by
  cases ps with
  | nil=>cases h
  | cons q r =>
   have h1:=hp q rfl
   have h2:=g.one 0 q rfl;rcases List.mem_cons.mp h with z|z
   ·rw[z];exact h1
   ·have:=Good.first g p z;omega
 obtain⟨gq,tq⟩:=Jbf g (sp:=JN (Jt ps++JD prs)) (Ua _) fun p h=>(Jz _).mem_iff.mpr (List.mem_append_left _ (List.mem_map.mpr ⟨p,h,rfl⟩))
 have sq:=Jhh ps (JN (Jt ps++JD prs))
 have bl:=VF ps low g hp
 have hge:=UA ps low g hp
 have zl:∀k,(zs k).length=k:=fun k=>by simp[zs]
 have bd:∀s∈JN (Jt ps++JD prs),low<=s/\s<Yd low ps+(n:Int):=fun s h=>by
  rcases List.mem_append.mp ((Jz _).mem_iff.mp h) with z|z
  ·have h1:=JaG ps low g s z;obtain⟨p,hp',rfl⟩:=List.mem_map.mp z
   have h2:=all p hp'
   have h3:=Good.all g p hp';exact⟨by omega,by omega⟩
  ·have:=hr s z;rw[List.length_append,zl] at this;omega
 have head:∀q,(putF ps prs)[0]?=some q->low<=q.1:=fun q e=>by
  unfold putF at e
  cases hs:JN (Jt ps++JD prs) with
  | nil=>rw[hs] at e;simp[edF] at e
  | cons s r=>rw[hs] at e bd;have b1:=(bd s List.mem_cons_self).1;have l1:=UG g b1;have l0:JH ps low=0:=WR all;simp[edF] at e;rw[<- e];dsimp only;omega
 refine⟨gq,head,?_⟩;show ∃n',_
 have tq':thF (putF ps prs)=ps:=tq
 have sq':spF (putF ps prs)=JN (Jt ps++JD prs):=sq
 have gq':Good (putF ps prs):=gq
 have spt:∀(j:Nat) (q:Pr),(putF ps prs)[j]?=some q->∃s∈JN (Jt ps++JD prs),q.1+q.2-1-2*(j:Int)=s:=fun j q e=>by obtain⟨s,h1,h2⟩:=JaF ps _ 0 0 j q e;exact⟨s,List.mem_of_getElem? h1,by rw[<- h2];congr 2;omega⟩
 generalize putF ps prs=q at *
 have blq:=VF q low gq' head
 have hgq:=UA q low gq' head
 by_cases c:q=[]
 ·subst c;have e0:JN (Jt ps++JD prs)=[]:=sq'.symm;have e1:Jt ps++JD prs=[]:=List.Perm.eq_nil ((Jz _).symm.trans (by rw[e0]));have p0:ps=[]:=tq'.symm;subst p0;refine⟨n,hn,by simp[blk],fun m hm=>?_⟩;rw[blk,List.nil_append]
  have ez:thL (zs n)=zs n:=by have:=Jbe n [];rw[List.append_nil] at this;rw[this];exact List.append_nil _
  have:=JdK (zs n) 0 m (fun j _=>by rw[VR,hm j,e1];rfl) fun e he=>by rw[VR] at he;cases he
  rw[ez] at this;exact this
 ·have pos:0<q.length:=List.length_pos_iff.mpr c;obtain⟨l,hl⟩:∃l,q[q.length-1]?=some l:=⟨q[q.length-1],by simp⟩
  have el:=V9 q low l hl;obtain⟨s,hs1,hs2⟩:=spt _ _ hl
  have hs:=bd s hs1;obtain⟨n',hn'⟩:∃n':Nat,(n':Int)=(n:Int)+Yd low ps+2*(q.length:Int)-Yd low q:=⟨((n:Int)+Yd low ps+2*(q.length:Int)-Yd low q).toNat,by omega⟩
  have h1:1<=n':=by omega
  have lenE:(blk low q++zs n').length=(blk low ps++zs n).length+2*q.length:=by rw[List.length_append,List.length_append,zl,zl];omega
  refine⟨n',h1,lenE,fun m hm=>?_⟩;have ky:=Jgl q low 0 n' gq' head h1;rw[show low-((0:Nat):Int)=low by simp,Jhj,sq'] at ky;obtain⟨x,_,ex⟩:=JjC gq' head c h1;rw[tq'] at ex;have lt:=Jbd (blk low q++zs n') 0;rw[ky,List.length_map,<- sq',Jmh,lenE,ex,List.length_append,List.length_append,zl,zl] at lt;have xn:x=n:=by omega
  rw[xn] at ex;rw[<- ex];refine JdK _ 0 m (fun j _=>?_) fun e he=>?_
  ·rw[hm j,ky,<- (Jz (Jt ps++JD prs)).count_eq]
   generalize JN (Jt ps++JD prs)=M
   induction M with
   | nil=>rfl
   | cons a M ih =>
    rw[List.map_cons,List.count_cons,List.count_cons,ih];congr 1
    by_cases z:a=low+(j:Int)
    ·rw[if_pos (by simp[z]),if_pos (by simp[z];omega)]
    ·rw[if_neg (by simpa using z),if_neg (by simp;omega)]
  ·rw[ky] at he;obtain⟨s,hs,rfl⟩:=List.mem_map.mp he;have:=bd s hs;rw[ex,List.length_append,zl];omega
noncomputable def owL(L:List Int)(k:Nat):Int:=if 0<k/\L.getD (k-1) 0=1/\L.getD k 0=0 then 1 else 0
theorem Jj2:∀n:Nat,(List.replicate n [D.int 1,D.int 0]).flatten=(p10 n).map D.int
 | 0=>rfl
 | n+1=>by rw[List.replicate_succ,List.flatten_cons,Jj2 n];rfl
theorem Jg9{n:Nat}(h:n<=4):JeR (.own [.int 1,.int 0]) (.sh (.int (n:Int)))=some (.own ((p10 n).map .int)):=by show(if _ then _ else _)=_;rw[if_pos ⟨Vw ⟨by omega,by omega⟩,(show 2*((n:Int).toNat)<=16777216 by omega)⟩,show((n:Int)).toNat=n by omega,Jj2]
theorem JaZ:∀n,(p10 n).length=2*n
 | 0=>rfl
 | n+1=>by rw[p10,List.length_cons,List.length_cons,JaZ n];omega
theorem JcF{m:Nat->Nat}(h:∀k,m k<=4):∀(L:List Int) (k:Nat),(fl m k L).length<=9*L.length
 | [],_=>Nat.le_refl _
 | x::r,k=>by
  have:=JcF h r (k+1)
  have:=h k;rw[fl,List.length_append,JaZ,List.length_cons,List.length_cons];omega
theorem JbQ:∀(prs:List Pr) (x:Int),(prs.map (·.1)).Nodup->(∀p∈prs,0<=p.2)->(((JD prs).count x:Nat):Int)=(look (prs.map (·.1)) (prs.map (·.2)) x).getD 0
 | [],_,_,_=>rfl
 | p::r,x,nd,h=>by
  rw[List.map_cons,List.nodup_cons] at nd;have ih:=JbQ r x nd.2 fun q hq=>h q (List.mem_cons_of_mem _ hq)
  have hp:=h p List.mem_cons_self
  have e:JD (p::r)=List.replicate p.2.toNat p.1++JD r:=rfl;rw[e,List.count_append,List.map_cons,List.map_cons,look]
  by_cases c:p.1=x
  ·rw[if_pos c,List.count_replicate,if_pos (by simp[c])]
   have z:(JD r).count x=0:=by have:look (r.map (·.1)) (r.map (·.2)) x=none:=JbJ _ _ _ (by rw[<- c];exact nd.1);rw[this] at ih;simp only[Option.getD_none] at ih;omega
   rw[z];simp only[Option.getD_some];omega
  ·rw[if_neg c,List.count_replicate,if_neg (by simp;exact c),Nat.zero_add];exact ih
theorem JdX{P:Int->Prop}(h0:P 0):∀(ks vs:List Int) (x:Int),(∀v∈vs,P v)->P ((look ks vs x).getD 0)
 | [],_,_,_=>h0
 | _::_,[],_,_=>h0
 | k::ks,v::vs,x,h=>by
  rw[look]
  by_cases c:k=x
  ·rw[if_pos c];exact h v List.mem_cons_self
  ·rw[if_neg c];exact JdX h0 ks vs x fun w hw=>h w (List.mem_cons_of_mem _ hw)
theorem JgC{ps:List Pr}(g:Good ps){low:Int}{n:Nat}(hp:∀q,ps[0]?=some q->low<=q.1){t:Nat}(ht:t<(blk low ps++zs n).length):owL (blk low ps++zs n) t=if low+(t:Int)∈Jt ps then 1 else 0:=by
 have gt:∀k,k<(blk low ps++zs n).length->(blk low ps++zs n).getD k 0=if J5 ps (low+(k:Int))=true then 1 else 0:=fun k hk=>by rw[List.getD_eq_getElem?_getD,Jdl ps low n k g hp hk];rfl
 rw[<- JcZ g];unfold owL owF;rw[gt t ht]
 by_cases c0:0<t
 ·rw[gt (t-1) (by omega),show low+((t-1:Nat):Int)=low+(t:Int)-1 by omega];cases h0:J5 ps (low+(t:Int)-1) <;> cases h1:J5 ps (low+(t:Int)) <;> simp[c0]
 ·have hb:J5 ps (low+(t:Int)-1)=false:=by
   refine YZ fun q hq=>?_
   cases ps with
   | nil=>cases hq
   | cons p r =>
    have h1:=hp p rfl
    have h2:=g.one 0 p rfl;rcases List.mem_cons.mp hq with z|z
    ·rw[z];omega
    ·have:=Good.first g q z;omega
  rw[hb];simp[c0]
theorem Jlr(L:List Int)(t:Nat)(ht:t<L.length)(x1 x2 x3 x4 x5 j7 j8:Sl)(T:Es):(Jr (Js 7 (eF Jf0 (aC (WA (e2 fGt (Jc 6) (eC (.int 0))) (WA (e2 fEq (e2 fIx (Jc 0) (e2 UJ (Jc 6) (eC (.int 1)))) (eC (.int 1))) (e2 fEq (e2 fIx (Jc 0) (Jc 6)) (eC (.int 0))))) a0))) T) [.sh (.lst (L.map .int)),x1,x2,x3,x4,x5,.sh (.int (t:Int)),j7,j8]=T [.sh (.lst (L.map .int)),x1,x2,x3,x4,x5,.sh (.int (t:Int)),.sh (.int (owL L t)),j8]:=by
 have gt:(L.map D.int)[t]?=some (.int (L.getD t 0)):=by rw[List.getElem?_map,List.getD_eq_getElem?_getD,List.getElem?_eq_getElem ht];rfl
 walk_at "ev"
 by_cases c0:0<t
 ·have gp:(L.map D.int)[t-1]?=some (.int (L.getD (t-1) 0)):=by rw[List.getElem?_map,List.getD_eq_getElem?_getD,List.getElem?_eq_getElem (by omega)];rfl
  rw[decide_eq_true (by omega)];walk_at "ev";rw[show((t:Int)-1)=((t-1:Nat):Int) by omega,Y9 gp];walk_at "ev"
  by_cases c1:L.getD (t-1) 0=1
  ·rw[decide_eq_true c1];walk_at "ev";rw[Y9 gt];walk_at "ev"
   by_cases c2:L.getD t 0=0
   ·rw[decide_eq_true c2,show owL L t=1 from if_pos ⟨c0,c1,c2⟩];walk_at "ev"
   ·rw[decide_eq_false c2,show owL L t=0 from if_neg fun z=>c2 z.2.2];walk_at "ev"
  ·rw[decide_eq_false c1,show owL L t=0 from if_neg fun z=>c1 z.2.1];walk_at "ev"
 ·rw[decide_eq_false (by omega),show owL L t=0 from if_neg fun z=>c0 z.1];walk_at "ev"
noncomputable def ctN(low:Int)(m:Nat->Nat)(L:List Int):Nat->List Tr
 | 0=>[]
 | i+1=>if 0<m i then ctN low m L i++[(low+(i:Int),(m i:Int),owL L i)] else ctN low m L i
theorem Jdv(low:Int)(m:Nat->Nat)(L:List Int):∀i,(ctN low m L i).length<=i
 | 0=>Nat.le_refl _
 | i+1=>by
  have:=Jdv low m L i;rw[ctN];split
  ·rw[List.length_append,List.length_singleton];omega
  ·omega
theorem Jgs(L:List Int)(low:Int)(prs:List Pr)(m:Nat->Nat)(hl:L.length<=1000)(hp:prs.length<=1000)(nd:(prs.map (·.1)).Nodup)(hm:∀t,t<L.length->(m t:Int)=(look (prs.map (·.1)) (prs.map (·.2)) (low+(t:Int))).getD 0+owL L t)(hm4:∀t,m t<=4) :
 J7 [.sh (.lst (L.map .int)),.sh (.int low),.sh (.lst (prs.map prE))]=some (.sh (.tup [.lst ((fl m 0 L).map .int),.lst ((ctN low m L L.length).map trE)])):=by
 unfold J7;walk_at "ev";rw[if_pos ⟨hp,nd⟩];walk_at "ev";rw[Jha,Option.bind_assoc];refine U6 (fun i E=>∃j6 j7 j8,E=[.sh (.lst (L.map .int)),.sh (.int low),.sh (.lst (prs.map prE)),.sh (.dct (prs.map (·.1)) (prs.map fun p=>.int p.2)),.own ((fl m 0 (L.take i)).map .int),.own ((ctN low m L i).map trE),j6,j7,j8]) ⟨.no,.no,.no,rfl⟩ ?_ ?_
 ·rintro i E hi ⟨j6,j7,j8,rfl⟩;have ht:i<L.length:=by simpa using hi
  have gt:(L.map D.int)[i]?=some (.int (L.getD i 0)):=by rw[List.getElem?_map,List.getD_eq_getElem?_getD,List.getElem?_eq_getElem ht];rfl
  have fe:fl m 0 (L.take (i+1))=fl m 0 (L.take i)++(p10 (m i)++[L.getD i 0]):=by rw[List.take_add_one,Jf3,List.length_take,show min i L.length=i by omega,List.getElem?_eq_getElem ht,List.getD_eq_getElem?_getD,List.getElem?_eq_getElem ht,Nat.zero_add];rfl
  have fl1:=JcF hm4 (L.take i) 0;rw[List.length_take] at fl1
  have cl:=Jdv low m L i
  have pl:=JaZ (m i)
  have m4:=hm4 i
  have mE:=hm i ht
  show okS _ (Option.bind (some _) _);rw[Option.bind_some];refine(congrArg (okS _) (Jlr L i ht _ _ _ _ _ j7 j8 _)).mpr ?_;walk_at "ev";rw[show(prs.map fun p=>D.int p.2)=(prs.map (·.2)).map D.int by rw[List.map_map];rfl,JbI];walk_at "ev";rw[<- mE]
  by_cases c:0<m i
  ·rw[decide_eq_true (by omega)];walk_at "ev";rw[Jg9 m4];walk_at "ev";rw[Y9 gt];walk_at "ev";refine⟨.sh (.int (i:Int)),.sh (.int (owL L i)),.sh (.int (m i:Int)),?_⟩;rw[fe,ctN,if_pos c];simp only[List.map_append,List.map_cons,List.map_nil];rfl
  ·rw[decide_eq_false (by omega)];walk_at "ev";rw[Jg9 m4];walk_at "ev";rw[Y9 gt];walk_at "ev";refine⟨.sh (.int (i:Int)),.sh (.int (owL L i)),.sh (.int (m i:Int)),?_⟩;rw[fe,ctN,if_neg c];simp only[List.map_append,List.map_cons,List.map_nil]
 ·rintro E' ⟨j6,j7,j8,rfl⟩;rw[show((L.length:Int)).toNat=L.length by simp,List.take_length];walk_at "ev"
theorem Vi(low:Int)(m:Nat->Nat)(L:List Int):∀(i:Nat) (t:Tr),t∈ctN low m L i↔∃k,k<i/\0<m k/\t=(low+(k:Int),(m k:Int),owL L k)
 | 0,t=>by simp[ctN]
 | i+1,t=>by
  have ih:=Vi low m L i t;rw[ctN]
  by_cases c:0<m i
  ·rw[if_pos c,List.mem_append,ih,List.mem_singleton];constructor
   ·rintro(⟨k,h1,h2,h3⟩|h)
    ·exact⟨k,by omega,h2,h3⟩
    ·exact⟨i,by omega,c,h⟩
   ·rintro⟨k,h1,h2,h3⟩
    by_cases e:k=i
    ·subst e;exact .inr h3
    ·exact .inl ⟨k,by omega,h2,h3⟩
  ·rw[if_neg c,ih];constructor
   ·rintro⟨k,h1,h2,h3⟩;exact⟨k,by omega,h2,h3⟩
   ·rintro⟨k,h1,h2,h3⟩;exact⟨k,by
     have:k≠i:=fun e=>by subst e;exact c h2
     omega,h2,h3⟩
theorem Jcx(low:Int)(m:Nat->Nat)(L:List Int):∀i,((ctN low m L i).map (·.1)).Pairwise (·<·)
 | 0=>List.Pairwise.nil
 | i+1=>by
  have ih:=Jcx low m L i;rw[ctN];split
  ·rw[List.map_append];refine List.pairwise_append.mpr ⟨ih,by simp,fun a ha b hb=>?_⟩;obtain⟨t,ht,rfl⟩:=List.mem_map.mp ha;obtain⟨k,hk,_,rfl⟩:=(Vi low m L i t).mp ht;simp only[List.map_cons,List.map_nil,List.mem_singleton] at hb;subst hb;show low+(k:Int)<low+(i:Int)
   omega
  ·exact ih
theorem Jgn:∀{a:List Pr} {p:Pr},(a.map (·.1)).Pairwise (·<·)->p∈a->lk p.1 a=p.2
 | q::a,p,h,hp=>by
  rw[List.map_cons] at h;obtain⟨h1,h2⟩:=List.pairwise_cons.mp h;rw[lk];rcases List.mem_cons.mp hp with e|e
  ·rw[e,if_pos rfl]
  ·have:=h1 p.1 (List.mem_map_of_mem e);rw[if_neg (by omega)];exact Jgn h2 e
theorem Jfs{ps prs:List Pr}(g:Good ps){low:Int}{n:Nat}(hlow:∀q,ps[0]?=some q->low<=q.1)(hn:1<=n)(hr:∀s∈JD prs,low<=s/\s<low+((blk low ps++zs n).length:Int))(m:Nat->Nat)(hm:∀k:Nat,m k=(Jt ps++JD prs).count (low+(k:Int))) :
 JR (putF ps prs)=ctN low m (blk low ps++zs n) (blk low ps++zs n).length:=by
 have hs:(JN (Jt ps++JD prs)).Pairwise (·<=·):=Ua _
 have he:∀p∈ps,p.1+p.2∈JN (Jt ps++JD prs):=fun p h=>(Jz _).mem_iff.mpr (List.mem_append.mpr (.inl (List.mem_map.mpr ⟨p,h,rfl⟩)))
 have th:thF (putF ps prs)=ps:=(Jbf g hs he).2
 have e2:spF (putF ps prs)=JN (Jt ps++JD prs):=Jhh _ _
 have kp:=Jcw (JN (Jt ps++JD prs)) [] (by simp) (fun _ h=>by simp at h) hs;obtain⟨i1,i2,i3⟩:=JaD (JN (Jt ps++JD prs)) [] (by simp)
 have win:∀x∈Jt ps++JD prs,∃k:Nat,k<(blk low ps++zs n).length/\x=low+(k:Int):=fun x hx=>by
  have b:low<=x/\x<low+((blk low ps++zs n).length:Int):=by
   rcases List.mem_append.mp hx with h|h
   ·have bl:=VF ps low g hlow
    have le:=JaG ps low g x h;obtain⟨p,hp,rfl⟩:=List.mem_map.mp h
    have a:=Good.all g p hp
    have f:low<=p.1:=by
     obtain⟨i,hi⟩:=List.mem_iff_getElem?.mp hp
     cases ps with
     | nil=>simp at hp
     | cons q r =>
      have:=hlow q rfl;rcases List.mem_cons.mp hp with e|e
      ·rw[e];exact this
      ·have:=Good.first g p e
       have:=Good.all g q (by simp);omega
    rw[List.length_append];have:((zs n).length:Int)=n:=by simp[zs]
    constructor
    ·show low<=p.1+p.2;omega
    ·have le':p.1+p.2<=Yd low ps:=le
     show p.1+p.2<_;omega
   ·exact hr x h
  exact⟨(x-low).toNat,by omega,by omega⟩
 have key:VI (JN (Jt ps++JD prs))=(ctN low m (blk low ps++zs n) (blk low ps++zs n).length).map fun t=>(t.1,t.2.1):=by
  refine JcO kp ?_ (fun p hp=>?_) (fun p hp=>?_) fun x=>?_
  ·rw[List.map_map];exact Jcx low m _ _
  ·have h1:=i2 p.1;rw[Jgn kp hp] at h1
   have h2:=(i3 p.1).mp (List.mem_map_of_mem hp);simp only[List.map_nil,List.not_mem_nil,false_or] at h2
   have:=List.count_pos_iff.mpr h2;simp only[lk] at h1;omega
  ·obtain⟨t,ht,rfl⟩:=List.mem_map.mp hp;obtain⟨k,hk,h0,rfl⟩:=(Vi low m _ _ t).mp ht;show(1:Int)<=(m k:Int);omega
  ·have h1:=i2 x;simp only[lk,Int.zero_add] at h1
   have pw2:(((ctN low m (blk low ps++zs n) (blk low ps++zs n).length).map fun t=>((t.1,t.2.1):Pr)).map (·.1)).Pairwise (·<·):=by rw[List.map_map];exact Jcx low m _ _
   show lk x (List.foldl Ud [] _)=_;rw[h1,(Jz _).count_eq x]
   by_cases c:x∈Jt ps++JD prs
   ·obtain⟨k,hk,rfl⟩:=win x c;have mk:=hm k;have pos:0<m k:=by rw[mk];exact List.count_pos_iff.mpr c
    have mem:((low+(k:Int),(m k:Int)):Pr)∈(ctN low m (blk low ps++zs n) (blk low ps++zs n).length).map fun t=>((t.1,t.2.1):Pr):=List.mem_map.mpr ⟨_,(Vi low m _ _ _).mpr ⟨k,hk,pos,rfl⟩,rfl⟩
    have:=Jgn pw2 mem;rw[this,mk]
   ·rw[List.count_eq_zero.mpr c]
    symm
    refine JaS fun z=>?_
    obtain⟨p,hp,e⟩:=List.mem_map.mp z;obtain⟨t,ht,rfl⟩:=List.mem_map.mp hp;obtain⟨k,hk,h0,rfl⟩:=(Vi low m _ _ t).mp ht;have e':low+(k:Int)=x:=e;rw[hm k,e'] at h0;exact c (List.count_pos_iff.mp h0)
 unfold JR;rw[e2,th,key,List.map_map]
 conv=>rhs;rw[<- List.map_id (ctN low m (blk low ps++zs n) (blk low ps++zs n).length)]
 refine List.map_congr_left fun t ht=>?_
 obtain⟨k,hk,h0,rfl⟩:=(Vi low m _ _ t).mp ht;show((low+(k:Int),(m k:Int),owF ps (low+(k:Int))):Tr)=(low+(k:Int),(m k:Int),owL _ k)
 rw[JcZ g,JgC g hlow hk]
theorem JgV{ks:List Int}{n x:Int}(h:x∈YI ks n):x∈ks\/x=n:=by
 unfold YI at h;split at h
 ·exact .inl h
 ·rcases List.mem_append.mp h with e|e
  ·exact .inl e
  ·exact .inr (by simpa using e)
theorem Jcc:∀(ks:List Int) (vs:List Int) (n v x:Int),x∈setK ks vs n v->x∈vs\/x=v
 | k::ks,d::ds,n,v,x,h=>by
  rw[setK] at h;rcases List.mem_cons.mp h with e|e
  ·split at e
   ·exact .inr e
   ·exact .inl (e▸List.mem_cons_self)
  ·exact(Jcc ks ds n v x e).imp (List.mem_cons_of_mem _) id
 | [],ds,n,v,x,h=>.inl (by simpa [setK] using h)
 | _::_,[],n,v,x,h=>by simp[setK] at h
theorem JgU{ks vs:List Int}{n v x:Int}(h:x∈putDs ks vs n v):x∈vs\/x=v:=by
 unfold putDs at h;split at h
 ·exact Jcc ks vs n v x h
 ·rcases List.mem_append.mp h with e|e
  ·exact .inl e
  ·exact .inr (by simpa using e)
theorem JaT:∀{ks vs:List Int} {x:Int},ks.length=vs.length->x∈ks->∃v∈vs,look ks vs x=some v
 | k::ks,[],x,h,_=>by simp at h
 | k::ks,v::vs,x,h,hx=>by
  rw[look]
  by_cases c:k=x
  ·rw[if_pos c];exact⟨v,List.mem_cons_self,rfl⟩
  ·rw[if_neg c];rcases List.mem_cons.mp hx with e|e
   ·exact absurd e.symm c
   ·obtain⟨w,hw,e2⟩:=JaT (by simpa using h) e;exact⟨w,List.mem_cons_of_mem _ hw,e2⟩
theorem JiD(ns:List Int)(low high:Int)(hw:low<high)(hb:high-low<=1000):∃prs:List Pr,prs.length<=8/\(prs.map (·.1)).Pairwise (·<·)/\(∀p∈prs,low<=p.1/\p.1<high/\1<=p.2/\p.2<=3) ∧
 Ya [.sh (.fz (ns.map .int)),.sh (.int low),.sh (.int high)]=some (.own (prs.map prE)):=by
 obtain⟨n,hn⟩:∃n:Nat,(n:Int)=cell ns 1 % 9:=⟨(cell ns 1 % 9).toNat,by omega⟩
 have go:=JdY (p:=.nm 4) (b:=(Jr (Js 5 (eU 2 JF (aC (Jc 0) (aC (e2 JS (eC (.int 23)) (Jc 4)) a0)))) (Jar 3 (e2 JS (Jc 1) (e2 UE (e2 W1 (Jc 5) (eC (.int 3))) (e2 UJ (Jc 2) (Jc 1)))) (e2 JS (eC (.int 1)) (e2 UE (Jc 5) (eC (.int 3))))))) (f:=fun i:Nat=>D.int (i:Int))
  (fun(rest:List Nat) (_:Unit) E=>∃ks vs j4 j5,E=[.sh (.fz (ns.map .int)),.sh (.int low),.sh (.int high),.od ks (vs.map .int),j4,j5]/\ks.Nodup/\ks.length=vs.length/\ks.length+rest.length<=8/\(∀k∈ks,low<=k/\k<high)/\∀v∈vs,1<=v/\v<=3)
  (fun _ _=>()) (as:=List.range n) (E:=[.sh (.fz (ns.map .int)),.sh (.int low),.sh (.int high),.od [] [],.no,.no]) () ⟨[],[],.no,.no,rfl,List.nodup_nil,rfl,by rw[List.length_range,List.length_nil];omega,fun k hk=>(List.not_mem_nil hk).elim,fun v hv=>(List.not_mem_nil hv).elim⟩ (by
  rintro a rest _ E ⟨ks,vs,j4,j5,rfl,nd,hl,hz,hk,hv⟩;rw[List.length_cons] at hz;have a0:(0:Int)<=(a:Int):=by omega
  walk_at "ev";rw[Wh _ _ (by omega)];walk_at "ev";have m0:=Int.emod_nonneg (cell ns (23+(a:Int)) / 3) (b:=high-low) (by omega);have m1:=Int.emod_lt_of_pos (cell ns (23+(a:Int)) / 3) (b:=high-low) (by omega);have kl:=Jaj ks vs (low+cell ns (23+(a:Int)) / 3 % (high-low)) (1+cell ns (23+(a:Int)) % 3) hl
  have pl:(YI ks (low+cell ns (23+(a:Int)) / 3 % (high-low))).length<=ks.length+1:=by
   unfold YI;split
   ·omega
   ·rw[List.length_append,List.length_singleton];exact Nat.le_refl _
  try erw [if_pos (show ks.length<16777216 by omega)]
  refine⟨YI ks (low+cell ns (23+(a:Int)) / 3 % (high-low)),putDs ks vs (low+cell ns (23+(a:Int)) / 3 % (high-low)) (1+cell ns (23+(a:Int)) % 3),_,_,by rw[<- Jai],U8 _ nd,kl,by omega,fun k hk'=>?_,fun v hv'=>?_⟩
  ·rcases JgV hk' with e|e
   ·exact hk k e
   ·rw[e];omega
  ·rcases JgU hv' with e|e
   ·exact hv v e
   ·rw[e];omega)
 obtain⟨E',⟨ks,vs,j4,j5,rE,nd,hl,hz,hk,hv⟩,hx⟩:=go;rw[List.length_nil,Nat.add_zero] at hz;have sl:(JN ks).length=ks.length:=(Jz ks).length_eq;refine⟨(JN ks).map fun x=>(x,(look ks vs x).getD 0),by rw[List.length_map];omega,?_,fun p hp=>?_,?_⟩
 ·rw[List.map_map];have a:=Ua ks;have b:(JN ks).Pairwise (·≠·):=(Jz ks).nodup_iff.mpr nd;have c:(JN ks).Pairwise (·<·):=(List.pairwise_and_iff.mpr ⟨a,b⟩).imp fun h=>by omega
  exact(List.map_id _).symm▸c
 ·obtain⟨x,hx,rfl⟩:=List.mem_map.mp hp;have hx':=(Jz ks).mem_iff.mp hx;obtain⟨v,hv',e⟩:=JaT hl hx';have h1:=hk x hx';have h2:=hv v hv';show low<=x/\x<high/\1<=(look ks vs x).getD 0/\(look ks vs x).getD 0<=3;rw[e];exact⟨h1.1,h1.2,h2.1,h2.2⟩
 ·unfold Ya;walk_at "ev";rw[Wh _ _ (by omega)];walk_at "ev";rw[<- hn,Jha,show((n:Int)).toNat=n by simp,hx,rE];walk_at "ev";rw[Yp (g:=fun x=>prE (x,(look ks vs x).getD 0))]
  ·walk_at "ev";rw[List.map_map];rfl
  ·intro x hx;obtain⟨v,hv',e⟩:=JaT hl ((Jz ks).mem_iff.mp hx)
   have e2:look ks (vs.map D.int) x=some (.int v):=by have:=Zf D.int ks vs x;rw[this,e];rfl
   walk_at "ev";rw[e2];walk_at "ev";rw[e];rfl
theorem JjP(ps:List Pr):∀(sp:List Int) (i:Nat) (c:Int),(edF ps i c sp).length=sp.length
 | [],_,_=>rfl
 | s::r,i,c=>by rw[edF,List.length_cons,JjP ps r,List.length_cons]
theorem JdZ:∀(prs:List Pr),(∀p∈prs,1<=p.2)->((JD prs).length:Int)=(prs.map (·.2)).sum
 | [],_=>rfl
 | p::r,h=>by
  have ih:=JdZ r fun x hx=>h x (List.mem_cons_of_mem _ hx)
  have:=h p List.mem_cons_self;unfold JD at *;rw[List.flatMap_cons,List.length_append,List.length_replicate,List.map_cons,List.sum_cons,<- ih];omega
theorem JlG(ps prs:List Pr)(h:∀p∈prs,1<=p.2):((putF ps prs).length:Int)=(ps.length:Int)+(prs.map (·.2)).sum:=by unfold putF;rw[JjP,(Jz _).length_eq,List.length_append,<- JdZ prs h];unfold Jt;rw[List.length_map];omega
structure Dr (ps prs:List Pr) (low:Int) (n:Nat):Prop where
 good:Good ps
 len:ps.length<=30
 low0:∀q,ps[0]?=some q->low<=q.1
 n1:1<=n
 win:(blk low ps++zs n).length<=1000
 plen:prs.length<=8
 pasc:(prs.map (·.1)).Pairwise (·<·)
 pin:∀p∈prs,low<=p.1/\p.1<low+((blk low ps++zs n).length:Int)/\1<=p.2/\p.2<=3
noncomputable def mD(ps prs:List Pr)(low:Int)(k:Nat):Nat:=(Jt ps++JD prs).count (low+(k:Int))
theorem Dr.nd{ps prs:List Pr}{low:Int}{n:Nat}(d:Dr ps prs low n):(prs.map (·.1)).Nodup:=d.pasc.imp fun h=>by omega
theorem Dr.more{ps prs:List Pr}{low:Int}{n:Nat}(d:Dr ps prs low n):∀s∈JD prs,low<=s/\s<low+((blk low ps++zs n).length:Int):=fun s hs=>by obtain⟨p,hp,h⟩:=List.mem_flatMap.mp hs;obtain⟨_,rfl⟩:=List.mem_replicate.mp h;have:=d.pin p hp;exact⟨this.1,this.2.1⟩
theorem Dr.m_eq{ps prs:List Pr}{low:Int}{n:Nat}(d:Dr ps prs low n)(k:Nat):(mD ps prs low k:Int)=(look (prs.map (·.1)) (prs.map (·.2)) (low+(k:Int))).getD 0+(if low+(k:Int)∈Jt ps then 1 else 0):=by unfold mD;rw[List.count_append,Int.natCast_add,JbQ prs _ d.nd fun p hp=>by have:=d.pin p hp;omega,(JdE d.good).count];split <;> simp <;> omega
theorem Dr.m4{ps prs:List Pr}{low:Int}{n:Nat}(d:Dr ps prs low n)(k:Nat):mD ps prs low k<=4:=by
 have h:=d.m_eq k
 have b:=JdX (P:=fun x=>0<=x/\x<=3) (by omega) (prs.map (·.1)) (prs.map (·.2)) (low+(k:Int)) fun v hv=>by obtain⟨p,hp,rfl⟩:=List.mem_map.mp hv;have:=d.pin p hp;omega
 split at h <;> omega
theorem Dr.filled{ps prs:List Pr}{low:Int}{n:Nat}(d:Dr ps prs low n):J7 [.sh (.lst ((blk low ps++zs n).map .int)),.sh (.int low),.sh (.lst (prs.map prE))]=some (.sh (.tup [.lst ((fl (mD ps prs low) 0 (blk low ps++zs n)).map .int),.lst ((JR (putF ps prs)).map trE)])):=by rw[Jfs d.good d.low0 d.n1 d.more (mD ps prs low) fun k=>rfl];refine Jgs _ low prs (mD ps prs low) d.win (by have:=d.plen;omega) d.nd (fun t ht=>?_) d.m4;rw[d.m_eq t,JgC d.good d.low0 ht]
theorem Jip{m:Nat->Nat}(h:∀k,m k<=4)(L:List Int)(hl:L.length<=1000):(fl m 0 L).length<=10000:=by have:=JcF h L 0;omega
theorem Dr.due{ps prs:List Pr}{low:Int}{n:Nat}(d:Dr ps prs low n):Good (putF ps prs)/\thF (putF ps prs)=ps/\((putF ps prs).length:Int)=(ps.length:Int)+(prs.map (·.2)).sum/\(prs.map (·.2)).sum<=24 ∧
 Yj [.sh (.lst ((fl (mD ps prs low) 0 (blk low ps++zs n)).map .int)),.sh (.int low)]=some (.own ((putF ps prs).map prE)):=by
 obtain⟨g1,h1,n',_,_,hf⟩:=Jf2 d.good d.low0 d.n1 d.more;have p1:∀p∈prs,1<=p.2:=fun p hp=>(d.pin p hp).2.2.1
 have lp:=JiA d.good p1 d.pasc 1;refine⟨g1,lp.2.1,JlG ps prs p1,?_,?_⟩
 ·have:∀l:List Pr,(∀p∈l,p.2<=3)->(l.map (·.2)).sum<=3*(l.length:Int):=fun l h=>by
   induction l with
   | nil=>simp
   | cons p l ih =>
    have:=h p List.mem_cons_self
    have:=ih fun q hq=>h q (List.mem_cons_of_mem _ hq)
    rw[List.map_cons,List.sum_cons,List.length_cons];omega
  have:=this prs fun p hp=>(d.pin p hp).2.2.2
  have:=d.plen;omega
 ·have e:=Jlc (fl (mD ps prs low) 0 (blk low ps++zs n)) low (Jip d.m4 _ d.win);rw[hf (mD ps prs low) fun k=>rfl] at e ⊢;rw[Jhv (putF ps prs) 0 low [] n' g1 fun q e=>⟨h1 q e,fun z=>absurd z (by decide)⟩,List.nil_append] at e;exact e
theorem JgW(ps prs:List Pr)(h:30<(ps.length:Int)+(prs.map (·.2)).sum)(hp:ps.length<=30)(hq:prs.length<=30):JY [.sh (.row (ps.map prE)),.sh (.lst (prs.map prE))]=none/\Ys [.sh (.row (ps.map prE)),.sh (.lst (prs.map prE))]=some (Str.ofString "TooMany"):=by
 have c:(tB? (e2 fGt (e2 JS (eF Ux (aC (e1 UD (Jc 0)) a0)) (eF W4 (aC (Uw (iE true (Jc 1)) (.tp (.cons (.nm 0) (.cons (.nm 1) .nil))) yes? (Jc 1) [none,none]) a0))) (eC (.int 30)))) [.sh (.row (ps.map prE)),.sh (.lst (prs.map prE)),.no,.no,.no]=some true:=by
  walk_at "ev";rw[Yp (g:=fun p=>D.int p.2)]
  ·walk_at "ev";rw[Vj (ns:=prs.map (·.2)) (by simp[Sl.q])];walk_at "ev";rw[decide_eq_true (by omega)]
  ·intro p _;simp only[prE];walk_at "ev"
 refine⟨?_,?_⟩
 ·unfold JY;simp only[YY,List.length_cons,List.length_nil,Nat.reduceAdd,Nat.reduceSub,List.reduceReplicate,List.cons_append,List.nil_append];rw[Jr,xIf,c];rfl
 ·unfold Ys;simp only[JfY,List.length_cons,List.length_nil,Nat.reduceAdd,Nat.reduceSub,List.reduceReplicate,List.cons_append,List.nil_append];unfold JdG Jky;rw[c];rfl
theorem JnK:J2 [.sh (.exc (Str.ofString "TooMany"))]=some (.sh (.bl true)):=by rfl
theorem JmS(ps prs:List Pr)(low:Int)(n:Nat)(d:Dr ps prs low n)(x0 x1 x2 x3 x5 x8:Sl):(((Jr (Jcl ["TooMany"] 15 (Js 13 (eU 2 JY (aC (Jc 11) (aC (Jc 12) a0)))) (exU 2 Ys (aC (Jc 11) (aC (Jc 12) a0))) (Js 14 (eU 1 J2 (aC (Jc 15) a0)))) (Jr (xIf (tOr? (tB? (e2 fGt (eF Ux (aC (Jc 10) a0)) (eC (.int 30)))) (tTru? (Jc 14))) (YU (WA (e2 fGt (eF Ux (aC (Jc 10) a0)) (eC (.int 30))) (Jc 14))) Yx) (Jr (xIf (tOr? (tNot? (tTru? (eU 2 JW (aC (Jc 13) (aC (Jc 10) a0))))) (tB? (e2 fNe (Jc 12) (Jc 7)))) (YU (eC (.bl false))) Yx) (Jr (V7 16 (eU 1 Yz (aC (Jc 13) a0))) (Jr (xIf (tB? (e2 fNe (Jc 16) (Jc 9))) (YU (eC (.bl false))) Yx) (Jr (JhB 16) (Jr (xIf (tB? (e2 fNe (eU 1 Yz (aC (Jc 13) a0)) (Jc 9))) (YU (eC (.bl false))) Yx) (YU (WA (eU 2 JW (aC (eU 2 Yo (aC (Jc 13) (aC (eC (.int 1)) a0))) (aC (Jc 4) a0))) (eU 2 JW (aC (Jc 11) (aC (Jc 4) a0))))))))))))) [x0,x1,x2,x3,.sh (.lst (ps.map prE)),x5,.sh (.int low),.sh (.lst (prs.map prE)),x8,.sh (.lst ((JR (putF ps prs)).map trE)),.sh (.lst ((putF ps prs).map prE)),.sh (.row (ps.map prE)),.sh (.lst (prs.map prE)),.sh .non,.sh (.bl false),.no,.no]).bind JeM=some (.sh (.bl true)):=by
 obtain⟨g1,th,pl,ps24,_⟩:=d.due;have hl:=d.len;have hpl:=d.plen
 by_cases c:30<(ps.length:Int)+(prs.map (·.2)).sum
 ·obtain⟨h1,h2⟩:=JgW ps prs c hl (by omega)
  have tr:(Jcl ["TooMany"] 15 (Js 13 (eU 2 JY (aC (Jc 11) (aC (Jc 12) a0)))) (exU 2 Ys (aC (Jc 11) (aC (Jc 12) a0))) (Js 14 (eU 1 J2 (aC (Jc 15) a0)))) [x0,x1,x2,x3,.sh (.lst (ps.map prE)),x5,.sh (.int low),.sh (.lst (prs.map prE)),x8,.sh (.lst ((JR (putF ps prs)).map trE)),.sh (.lst ((putF ps prs).map prE)),.sh (.row (ps.map prE)),.sh (.lst (prs.map prE)),.sh .non,.sh (.bl false),.no,.no]=some (.nx [x0,x1,x2,x3,.sh (.lst (ps.map prE)),x5,.sh (.int low),.sh (.lst (prs.map prE)),x8,.sh (.lst ((JR (putF ps prs)).map trE)),.sh (.lst ((putF ps prs).map prE)),.sh (.row (ps.map prE)),.sh (.lst (prs.map prE)),.sh .non,.sh (.bl true),.no,.no]):=by
   unfold Jcl
   have b:(Js 13 (eU 2 JY (aC (Jc 11) (aC (Jc 12) a0)))) [x0,x1,x2,x3,.sh (.lst (ps.map prE)),x5,.sh (.int low),.sh (.lst (prs.map prE)),x8,.sh (.lst ((JR (putF ps prs)).map trE)),.sh (.lst ((putF ps prs).map prE)),.sh (.row (ps.map prE)),.sh (.lst (prs.map prE)),.sh .non,.sh (.bl false),.no,.no]=none:=by walk_at "ev";rw[h1];rfl
   have x:(exU 2 Ys (aC (Jc 11) (aC (Jc 12) a0))) [x0,x1,x2,x3,.sh (.lst (ps.map prE)),x5,.sh (.int low),.sh (.lst (prs.map prE)),x8,.sh (.lst ((JR (putF ps prs)).map trE)),.sh (.lst ((putF ps prs).map prE)),.sh (.row (ps.map prE)),.sh (.lst (prs.map prE)),.sh .non,.sh (.bl false),.no,.no]=some (Str.ofString "TooMany"):=by unfold exU;walk_at "ev";rw[h2]
   rw[b];show Option.bind (exU _ _ _ _) _=_;rw[x,Option.bind_some,if_pos ⟨by simp,by simp⟩];simp only[List.set_cons_zero,List.set_cons_succ];walk_at "ev";rw[JnK]
   try rfl
  rw[Jr,tr];walk_at "ev";rw[decide_eq_true (by omega)];walk_at "ev"
 ·have hput:=Jm5 ps prs d.good (fun p hp=>by have:=d.pin p hp;omega) (by omega) hl (by omega)
  have hput:JY [.sh (.row (ps.map prE)),.sh (.lst (prs.map prE))]=some (.sh (.row ((putF ps prs).map prE))):=hput
  have tr:(Jcl ["TooMany"] 15 (Js 13 (eU 2 JY (aC (Jc 11) (aC (Jc 12) a0)))) (exU 2 Ys (aC (Jc 11) (aC (Jc 12) a0))) (Js 14 (eU 1 J2 (aC (Jc 15) a0)))) [x0,x1,x2,x3,.sh (.lst (ps.map prE)),x5,.sh (.int low),.sh (.lst (prs.map prE)),x8,.sh (.lst ((JR (putF ps prs)).map trE)),.sh (.lst ((putF ps prs).map prE)),.sh (.row (ps.map prE)),.sh (.lst (prs.map prE)),.sh .non,.sh (.bl false),.no,.no]=some (.nx [x0,x1,x2,x3,.sh (.lst (ps.map prE)),x5,.sh (.int low),.sh (.lst (prs.map prE)),x8,.sh (.lst ((JR (putF ps prs)).map trE)),.sh (.lst ((putF ps prs).map prE)),.sh (.row (ps.map prE)),.sh (.lst (prs.map prE)),.sh (.row ((putF ps prs).map prE)),.sh (.bl false),.no,.no]):=by
   unfold Jcl
   have b:(Js 13 (eU 2 JY (aC (Jc 11) (aC (Jc 12) a0)))) [x0,x1,x2,x3,.sh (.lst (ps.map prE)),x5,.sh (.int low),.sh (.lst (prs.map prE)),x8,.sh (.lst ((JR (putF ps prs)).map trE)),.sh (.lst ((putF ps prs).map prE)),.sh (.row (ps.map prE)),.sh (.lst (prs.map prE)),.sh .non,.sh (.bl false),.no,.no]=some (.nx [x0,x1,x2,x3,.sh (.lst (ps.map prE)),x5,.sh (.int low),.sh (.lst (prs.map prE)),x8,.sh (.lst ((JR (putF ps prs)).map trE)),.sh (.lst ((putF ps prs).map prE)),.sh (.row (ps.map prE)),.sh (.lst (prs.map prE)),.sh (.row ((putF ps prs).map prE)),.sh (.bl false),.no,.no]):=by walk_at "ev";rw[hput];walk_at "ev"
   rw[b]
  have h30:(putF ps prs).length<=30:=by omega
  have stk:=Jgt (putF ps prs) g1 h30
  have sml:=JbL (putF ps prs) (by omega)
  have sm2:=JbL ps (by omega)
  have thn:=Jad (putF ps prs) 1 g1 h30;rw[show thN 1 (putF ps prs)=ps from th,show((1:Nat):Int)=1 from rfl] at thn;rw[Jr,tr];walk_at "ev";rw[decide_eq_false (by omega)];walk_at "ev";rw[sml];walk_at "ev";rw[stk];walk_at "ev";rw[JfV,decide_eq_true rfl];walk_at "ev";rw[stk];walk_at "ev";rw[JfV,decide_eq_true rfl];walk_at "ev";rw[thn];walk_at "ev";rw[sm2];walk_at "ev"
theorem Jna(ns:List Int)(f b:Int)(ps prs:List Pr)(low hi:Int)(n:Nat)(d:Dr ps prs low n)(x1 x2 x3:Sl)(hlo:low=b-5)(hp:Ya [.sh (.fz (ns.map .int)),.sh (.int low),.sh (.int (hi+5))]=some (.own (prs.map prE)))(hle:JV [.sh (.lst (ps.map prE)),.sh (.int low),.sh (.int (hi+6))]=some (.own ((blk low ps++zs n).map .int))) :
 ∃x8,∀T:Es,(Jr (Js 6 (e2 UJ (Jc 2) (eC (.int 5)))) (Jr (Js 7 (eU 3 Ya (aC (Jc 0) (aC (Jc 6) (aC (e2 JS (Jc 5) (eC (.int 5))) a0))))) (Jr (JjH (.tp (.cons (.nm 8) (.cons (.nm 9) .nil))) (eU 3 J7 (aC (eU 3 JV (aC (Jc 4) (aC (Jc 6) (aC (e2 JS (Jc 5) (eC (.int 6))) a0)))) (aC (Jc 6) (aC (Jc 7) a0))))) (Jr (Js 10 (eU 2 Yj (aC (Jc 8) (aC (Jc 6) a0)))) (Jr (Js 11 (eF JaJ (aC (eF W3 (aC (Jc 4) a0)) a0))) (Jr (Js 12 (eF W3 (aC (Jc 7) a0))) (Jr (Js 13 (eC .non)) (Jr (Js 14 (eC (.bl false))) T)))))))) [.sh (.fz (ns.map .int)),.sh (.int f),.sh (.int b),x3,.sh (.lst (ps.map prE)),.sh (.int hi),.no,.no,.no,.no,.no,.no,.no,.no,.no,.no,.no]=T [.sh (.fz (ns.map .int)),.sh (.int f),.sh (.int b),x3,.sh (.lst (ps.map prE)),.sh (.int hi),.sh (.int low),.sh (.lst (prs.map prE)),x8,.sh (.lst ((JR (putF ps prs)).map trE)),.sh (.lst ((putF ps prs).map prE)),.sh (.row (ps.map prE)),.sh (.lst (prs.map prE)),.sh .non,.sh (.bl false),.no,.no]:=by
 obtain⟨g1,th,pl,ps24,du⟩:=d.due;have hl:=d.len;have hpl:=d.plen;have fd:=d.filled;refine⟨.sh (.lst ((fl (mD ps prs low) 0 (blk low ps++zs n)).map .int)),fun T=>?_⟩;walk_at "ev";rw[<- hlo,hp];walk_at "ev";rw[hle];walk_at "ev";rw[fd];walk_at "ev";rw[du];walk_at "ev";rw[WG rfl d.good hl];walk_at "ev"
theorem Jgr(ns:List Int)(a b many reach begin':Int)(hab:a=b+1)(h0:0<=b)(h1:b<=1000)(h2:0<=many)(h3:many<=1000)(h4:0<reach) :
 Yn [.sh (.fz (ns.map .int)),.sh (.int a),.sh (.int many),.sh (.int begin'),.sh (.int reach)]=some (.own ((spr ns b reach begin' many.toNat).2.map prE)):=by
 unfold Yn;walk_at "ev";rw[Jha,Option.bind_assoc];refine U6 (fun i E=>∃j7 j8,E=[Sl.sh (D.fz (ns.map .int)),Sl.sh (D.int a),Sl.sh (D.int many),Sl.sh (D.int begin'),Sl.sh (D.int reach),Sl.own ((spr ns b reach begin' i).2.map prE),Sl.sh (D.int (spr ns b reach begin' i).1),j7,j8]) ⟨.no,.no,rfl⟩ ?_ ?_
 ·rintro i E hi ⟨j6,j7,rfl⟩;have hl:=Vl ns b reach begin' i;walk_at "ev";rw[Wh _ _ (by omega)];walk_at "ev";rw[Wh _ _ (by omega)];walk_at "ev";simp only[spr,List.map_append,List.map_cons,List.map_nil];rw[show b+1+2*(i:Int)=a+2*(i:Int) by omega,show b+2+2*(i:Int)=a+1+2*(i:Int) by omega];exact⟨_,_,rfl⟩
 ·rintro E' ⟨j6,j7,rfl⟩;walk_at "ev"
theorem Jej(ns:List Int)(at' span p0:Int)(h0:0<span):∀i:Nat,p0<=(spr ns at' span p0 i).1/\(spr ns at' span p0 i).1<=p0+i*(2*span+1)/\(∀p∈(spr ns at' span p0 i).2,p0<=p.1/\p.1+p.2<=p0+i*(2*span+1)/\p.2<=span)/\((spr ns at' span p0 i).2.map (·.2)).sum<=i*span
 | 0=>⟨Int.le_refl _,by simp[spr],fun p hp=>(by cases hp),by simp[spr]⟩
 | i+1=>by
  obtain⟨a0,a1,a2,a3⟩:=Jej ns at' span p0 h0 i;have m1:=Int.emod_nonneg (cell ns (at'+1+2*i)) (b:=span) (by omega);have m2:=Int.emod_nonneg (cell ns (at'+2+2*i)) (b:=span) (by omega);have m3:=Int.emod_lt_of_pos (cell ns (at'+1+2*i)) (b:=span) (by omega);have m4:=Int.emod_lt_of_pos (cell ns (at'+2+2*i)) (b:=span) (by omega);have e1:((i+1:Nat):Int)*(2*span+1)=i*(2*span+1)+(2*span+1):=by rw[Int.natCast_add,Int.add_mul];simp
  have e2:((i+1:Nat):Int)*span=i*span+span:=by rw[Int.natCast_add,Int.add_mul];simp
  rw[e1,e2];refine⟨?_,?_,fun p hp=>?_,?_⟩
  ·show p0<=_+(1+_)+1+_;omega
  ·show _+(1+_)+1+_<=_;omega
  ·rcases List.mem_append.mp hp with z|z
   ·have:=a2 p z;omega
   ·have e:p=((spr ns at' span p0 i).1,1+cell ns (at'+1+2*i) % span):=by simpa using z
    subst e;refine⟨a0,?_,?_⟩
    ·show _+(1+_)<=_;omega
    ·show 1+_<=_;omega
  ·simp only[spr,List.map_append,List.map_cons,List.map_nil,List.sum_append,List.sum_cons,List.sum_nil];omega
theorem JkL(ns:List Int):∃(ps:List Pr) (b M:Int),b=cell ns 1 / 9 % 2001-1000/\Good ps/\ps.length<=30/\(∀q,ps[0]?=some q->b<=q.1)/\(∀p∈ps,p.1+p.2<=b+390)/\∀T:Es,(Jr (Js 1 (eU 2 JF (aC (Jc 0) (aC (eC (.int 0)) a0)))) (Jr (Js 2 (e2 UJ (e2 UE (e2 W1 (eU 2 JF (aC (Jc 0) (aC (eC (.int 1)) a0))) (eC (.int 9))) (eC (.int 2001))) (eC (.int 1000)))) (Jr (Js 3 (e2 UE (Jc 1) (eC (.int 11)))) (Jr (xIf (tB? (e2 fEq (e2 UE (Jc 1) (eC (.int 9))) (eC (.int 4)))) (Js 3 (e2 JS (eC (.int 23)) (e2 UE (e2 W1 (Jc 1) (eC (.int 9))) (eC (.int 8))))) Yx) (Jr (Js 4 (eU 5 Yn (aC (Jc 0) (aC (eC (.int 2)) (aC (Jc 3) (aC (Jc 2) (aC (e2 fIx (Vt (aC (eC (.int 3)) (aC (eC (.int 6)) a0))) (e2 UE (e2 W1 (Jc 1) (eC (.int 99))) (eC (.int 2)))) a0))))))) (Jr (Js 5 (Jc 2)) (Jr (xIf (tB? (e2 fGt (Jc 3) (eC (.int 0)))) (Js 5 (e2 JS (e2 fIx (e2 fIx (Jc 4) (e1 Wa (eC (.int 1)))) (eC (.int 0))) (e2 fIx (e2 fIx (Jc 4) (e1 Wa (eC (.int 1)))) (eC (.int 1))))) Yx) T))))))) [.sh (.fz (ns.map .int)),.no,.no,.no,.no,.no,.no,.no,.no,.no,.no,.no,.no,.no,.no,.no,.no]=T [.sh (.fz (ns.map .int)),.sh (.int (cell ns 0)),.sh (.int b),.sh (.int M),.sh (.lst (ps.map prE)),.sh (.int (Yd b ps)),.no,.no,.no,.no,.no,.no,.no,.no,.no,.no,.no]:=by
 have sp:0<Jfh [3,6] (cell ns 0 / 99 % 2)/\Jfh [3,6] (cell ns 0 / 99 % 2)<=6:=JgL (P:=fun x=>0<x/\x<=6) (by omega) (by show _<(2:Int);omega) (by decide)
 have a2:=JfC (l:=[3,6]) (k:=cell ns 0 / 99 % 2) (by omega) (by show _<(2:Int);omega);simp only[List.map_cons,List.map_nil] at a2
 revert sp a2
 generalize Jfh [3,6] (cell ns 0 / 99 % 2)=reach
 intro sp a2
 obtain⟨M,hM0,hM1,hmany⟩:∃M:Int,0<=M/\M<=30/\∀(T:Es) (x2:Sl),(Jr (xIf (tB? (e2 fEq (e2 UE (Jc 1) (eC (.int 9))) (eC (.int 4)))) (Js 3 (e2 JS (eC (.int 23)) (e2 UE (e2 W1 (Jc 1) (eC (.int 9))) (eC (.int 8))))) Yx) T) [.sh (.fz (ns.map .int)),.sh (.int (cell ns 0)),x2,.sh (.int (cell ns 0 % 11)),.no,.no,.no,.no,.no,.no,.no,.no,.no,.no,.no,.no,.no]=T [.sh (.fz (ns.map .int)),.sh (.int (cell ns 0)),x2,.sh (.int M),.no,.no,.no,.no,.no,.no,.no,.no,.no,.no,.no,.no,.no]:=by
  by_cases c:cell ns 0 % 9=4
  ·refine⟨23+cell ns 0 / 9 % 8,by omega,by omega,fun T x2=>?_⟩;walk_at "ev";rw[decide_eq_true c];walk_at "ev"
  ·refine⟨cell ns 0 % 11,by omega,by omega,fun T x2=>?_⟩;walk_at "ev";rw[decide_eq_false c];walk_at "ev"
 obtain⟨b,hb⟩:∃b:Int,b=cell ns 1 / 9 % 2001-1000:=⟨_,rfl⟩
 obtain⟨k,hk⟩:∃k:Nat,(k:Int)=M:=⟨M.toNat,by omega⟩
 have hd:=Jgr ns 2 1 M reach b (by omega) (by omega) (by omega) hM0 (by omega) sp.1;rw[show M.toNat=k by omega] at hd
 have g:=(Jce ns 1 reach b sp.1 k).1
 have sl:=Vl ns 1 reach b k;obtain⟨f1,f2,f3,f4⟩:=Jej ns 1 reach b sp.1 k
 have m1:(k:Int)*(2*reach+1)<=30*13:=by have:=Int.mul_le_mul_of_nonneg_right (show(k:Int)<=30 by omega) (show 0<=2*reach+1 by omega);omega
 revert hd g sl f3
 generalize (spr ns 1 reach b k).2=ps
 intro hd g sl f3;refine⟨ps,b,M,hb,g,by omega,fun q hq=>(f3 q (List.mem_of_getElem? hq)).1,fun p hp=>by have:=f3 p hp;omega,fun T=>?_⟩;walk_at "ev";rw[Wh _ _ (by omega)];walk_at "ev";rw[Wh _ _ (by omega)];walk_at "ev";rw[<- hb];refine(hmany _ _).trans ?_;walk_at "ev";rw[a2];walk_at "ev";rw[hd];walk_at "ev"
 by_cases c:0<M
 ·rw[decide_eq_true c];walk_at "ev";obtain⟨q,hq⟩:∃q,ps[ps.length-1]?=some q:=⟨ps[ps.length-1]'(by omega),List.getElem?_eq_getElem (by omega)⟩
  have al:atI (ps.map prE) (-1)=some (prE q):=by
   have:atI (ps.map prE) (-1)=(ps.map prE)[ps.length-1]?:=by unfold atI;rw[List.length_map];unfold ixN;rw[if_neg (by omega),if_pos (by omega)];show(ps.map prE)[(((ps.length:Nat):Int)+-1).toNat]?=_;rw[show(((ps.length:Nat):Int)+-1).toNat=ps.length-1 by omega]
   rw[this,List.getElem?_map,hq];rfl
  rw[al];walk_at "ev";rw[W2,JaI];walk_at "ev";rw[V9 ps b q hq]
 ·rw[decide_eq_false c];have e:ps=[]:=List.eq_nil_of_length_eq_zero (by omega);subst e;walk_at "ev";rfl
theorem law_true(ns:List Int)(hn:ns.length<=63):JcE [.sh (.fz (ns.map .int))]=some (.sh (.bl true)):=by
 obtain⟨ps,b,M,hb,g,hl,h0,he,hh⟩:=JkL ns;have h1:∀q,ps[0]?=some q->b-5<=q.1:=fun q hq=>by have:=h0 q hq;omega
 have eb:Yd b ps<=b+390:=JdD ps b (b+390) (by omega) he
 have eb0:=UA ps b g h0
 have el:Yd (b-5) ps<=Yd b ps/\b-5<=Yd (b-5) ps:=by
  refine⟨?_,UA ps (b-5) g h1⟩
  cases ps with
  | nil=>show b-5<=b;omega
  | cons p r=>exact Int.le_refl _
 obtain⟨prs,p1,p2,p3,p4⟩:=JiD ns (b-5) (Yd b ps+5) (by omega) (by omega);have lt:=JcQ ps (b-5) (Yd b ps+6) g h1 (by omega) (by omega) (by omega) (by omega);have bl:=VF ps (b-5) g h1
 have wl:((blk (b-5) ps++zs (Yd b ps+6-Yd (b-5) ps).toNat).length:Int)=Yd b ps+6-(b-5):=by
  rw[List.length_append];have:(zs (Yd b ps+6-Yd (b-5) ps).toNat).length=(Yd b ps+6-Yd (b-5) ps).toNat:=by simp[zs]
  omega
 have d:Dr ps prs (b-5) (Yd b ps+6-Yd (b-5) ps).toNat:=⟨g,hl,h1,by omega,by omega,p1,p2,fun p hp=>by have:=p3 p hp;rw[wl];omega⟩
 obtain⟨x8,hp⟩:=Jna ns (cell ns 0) b ps prs (b-5) (Yd b ps) _ d .no .no (.sh (.int M)) rfl p4 lt;unfold JcE;simp only[YY,List.length_cons,List.length_nil,Nat.reduceAdd,Nat.reduceSub,List.reduceReplicate,List.cons_append,List.nil_append];rw[hh,hp];exact JmS ps prs (b-5) _ d _ _ _ _ _ _
end
end LK
noncomputable section
namespace LK
open PySem L2 LR LE
noncomputable def top(i:Nat):Stmt:=PySem.Challenge.pw_lumprow_k28_whole_put_in_and_struck.main.body.getD i (.Pass ⟨0,0,0,0⟩)
noncomputable abbrev Y6:Stmt:=top 31
noncomputable abbrev J1:Stmt:=top 13
noncomputable abbrev Y2:Stmt:=Jit (top 12) 0
noncomputable abbrev YK:Stmt:=top 20
noncomputable abbrev YJ:Stmt:=top 19
noncomputable abbrev Ur:Stmt:=top 16
noncomputable abbrev YL:Stmt:=top 18
noncomputable abbrev Ut:Stmt:=top 21
noncomputable abbrev Uq:Stmt:=top 14
noncomputable abbrev Us:Stmt:=top 23
noncomputable abbrev UQ:Stmt:=top 22
noncomputable abbrev Yt:Stmt:=top 15
noncomputable abbrev Y4:Stmt:=top 25
noncomputable abbrev UP:Stmt:=top 24
noncomputable abbrev YM:Stmt:=top 34
noncomputable abbrev Y7:Stmt:=top 30
noncomputable abbrev YA:Stmt:=top 33
noncomputable abbrev Yu:Stmt:=top 29
noncomputable abbrev Y5:Stmt:=top 27
noncomputable abbrev YO:Stmt:=top 32
noncomputable abbrev YN:Stmt:=top 28
noncomputable abbrev V1:Stmt:=top 35
section
variable{P:Program}{w:World}{K:Frag}{C:Addr}{mg:Str->Option Value}{base:Heap}{qa:Addr}{qh:Addr}{qy:Addr}{qq:Addr}{qm:Addr}{qk:Addr}{ql:Addr}{qo:Addr}{qr:Addr}
theorem sc_law_same:FnScope ["row","stretches","k","pair","number"] ["row","stretches"] (Jg Y6):=⟨rfl,rfl,rfl,by decide +kernel,rfl,by decide +kernel,by decide +kernel⟩
theorem JbX{f:Addr}{fd:FuncData}(F:Fun K "_law_same" "_law_same" Y6 f fd)(qe:mg "range"=none)(qi:mg "len"=none)(qb:mg "isinstance"=none)(wN:mg "bool"=none)(wF:mg "int"=none)(qG:mg "tuple"=none)(wT:mg "Row"=some (.ref C))(TR:RowK K C)(T:RowC K C):FnOk P w K mg base CX0 1 f fd ["row","stretches"] (spE K C 2 JW):=by
 refine F.ok sc_law_same (fun vs H Q E h=>J6 h) (fun cdv A outer s H vs Q E hr h=>?_);have hu:=hr.units;refine⟨_,(Jf (YS (PW.pt (Zr (Wl (YT (K:=K) rfl (Jn (UH (K:=K) rfl) rfl qb Jx (Ja (pv 0) (Ja (YR (v:=V.ref C) rfl wT rfl) Je))) (fun _=>rfl))) (Zr (Wl (YT (K:=K) rfl (Jn (UH (K:=K) rfl) rfl qb Jx (Ja (Yv (K:=K) rfl (pv 0) rfl) (Ja (VV (v:=V.ty "tuple") rfl qG WU rfl) Je))) (fun _=>rfl))) (Zs (JM (Wj (K:=K) rfl hu) (Jn (Yg (K:=K) rfl) rfl qi Uv (Ja (Yv (K:=K) rfl (pv 0) rfl) Je)) (Jn (Yg (K:=K) rfl) rfl qi Uv (Ja (pv 1) Je)) (JO _)))))) (Jj (JP VU)) Yb)
  (Jf (Y1 PassesOwn.never rfl (UN rfl qe (Ja (Jn (Yg (K:=K) rfl) rfl qi Uv (Ja (pv 1) Je)) Je)) (Jo (i:=2) sc_law_same.nd rfl (.inl rfl)) (Jf (Jv (i:=3) sc_law_same.nd rfl (.inl rfl) (Yw (JL (K:=K) rfl) (Yv (K:=K) rfl (pv 0) rfl) (pv 2) (fun _ _=>rfl)))
  (Jf (YS (PW.pt (Zr (Wl (YT (K:=K) rfl (Jn (UH (K:=K) rfl) rfl qb Jx (Ja (pv 3) (Ja (VV (v:=V.ty "tuple") rfl qG WU rfl) Je))) (fun _=>rfl))) (Zr (JM (Wj (K:=K) rfl hu) (Jn (Yg (K:=K) rfl) rfl qi Uv (Ja (pv 3) Je)) Jh (JO _)) (Zs (JM (Wj (K:=K) rfl hu) (pv 3) (Yw (JL (K:=K) rfl) (pv 1) (pv 2) (fun _ _=>rfl)) (JO _)))))) (Jj (JP VU)) Yb)
  (Jj (Y1 PassesOwn.never rfl (YE (K:=K) rfl (pv 3)) (Jo (i:=4) sc_law_same.nd rfl (.inl rfl)) (Jj (YS (PW.pt (Zr (Wl (YT (K:=K) rfl (Jn (UH (K:=K) rfl) rfl qb Jx (Ja (pv 4) (Ja (VV (v:=V.ty "int") rfl wF JfE rfl) Je))) (fun _=>rfl))) (Zs (YT (K:=K) rfl (Jn (UH (K:=K) rfl) rfl qb Jx (Ja (pv 4) (Ja (VV (v:=V.ty "bool") rfl wN JhS rfl) Je))) (fun _=>rfl))))) (Jj (JP VU)) Yb)))))))
  (Jj (JP VU)))),?_⟩
 exact JZ (N:=["row","stretches","k","pair","number"]) (Jp (Vf (Zv (Wn (Va (Jme TR (Jb 0)))) (Zv (Wn (Va (Jeg Jab (Uj T (Jb 0))))) (Yc (Jm Jfc (YV UZ (Jd (Uj T (Jb 0)) Jk)) (YV UZ (Jd (Jb 1) Jk)))))) (YC Ja5) YG)
  (Jp (U2 (Jb6 (Jd (YV UZ (Jd (Jb 1) Jk)) Jk)) (Yi 2) (Jp (JG (Jm Um (Uj T (Jb 0)) (Jb 2)))
  (Jp (Vf (Zv (Wn (Va (Jeg Jab (Jb 3)))) (Zv (Yc (Jm Jfc (YV UZ (Jd (Jb 3) Jk)) Jl)) (Yc (Jm Jfc (Jb 3) (Jm Um (Jb 1) (Jb 2)))))) (YC Ja5) YG)
  (U2 (Jjl 3) (Yi 4) (Vf (Zv (Wn (Va (Jeg Jiw (Jb 4)))) (Va (Jeg Jgg (Jb 4)))) (YC Ja5) YG)))))
  (YC Ja5))) h
theorem sc_check_stretches:FnScope ["stretches","behind","begin","length"] ["stretches"] (Jg J1):=⟨rfl,rfl,rfl,by decide +kernel,rfl,by decide +kernel,by decide +kernel⟩
theorem VA{f:Addr}{fd:FuncData}(F:Fun K "check_stretches" "check_stretches" J1 f fd) :FnOk P w K mg base CX0 1 f fd ["stretches"] (WO K):=by
 refine F.ok sc_check_stretches (fun vs H Q E h=>?_) (fun cdv A outer s H vs Q E hr h=>?_)
 ·obtain⟨v,ps,rfl,_⟩:=h;rfl
 ·obtain⟨v,ps,rfl,⟨a,vs,rfl,hq,hp⟩,g,q⟩:=h;have hu:=hr.units;refine⟨_,(Jf (Jv (i:=1) sc_check_stretches.nd rfl (.inl rfl) Ja0)
   (Jj (Y1 PassesOwn.never rfl (YE (K:=K) rfl (pv 0)) (Ye (K:=K) (n:=2) rfl rfl (Ju (Jo (i:=2) sc_check_stretches.nd rfl (.inl rfl)) (Ju (Jo (i:=3) sc_check_stretches.nd rfl (.inl rfl)) Yf)) rfl rfl) (Jf (YS (JM Jgy (pv 3) Jh (JO _)) (Jj Zp) Yb)
   (Jf (YS (PW.pt (Wm (JM Jgz (pv 1) Ja0 (JO _)) (VZ (JM JjW (pv 2) (pv 1) (JO _))))) (Jj Zp) Yb)
   (Jj (Jv (i:=1) sc_check_stretches.nd rfl (.inl rfl) (Jq (Jd2 (K:=K) rfl) (pv 2) (pv 3))))))))),?_⟩
  walk_at "rd";refine Jfm (H1:=H) (a:=a) (xs:=vs) (fun R r=>⟨_,rfl,r⟩) hq
   (fun i σ' H'=>∃vb vl,σ'=[some (.ref a),some (Jdk ps i),vb,vl]/\H'=H) ⟨none,none,rfl,rfl⟩ (fun i σ' H' ⟨_,_,_,e⟩=>e▸Same.refl _) ?_ ?_
  ·rintro i x σ' H' hi ⟨vb,vl,rfl,rfl⟩;obtain⟨p,b,e1,rfl,sp⟩:=hp.at hi;refine Jed sp rfl ?_;walk_at "rd";refine ifd (fun hlt=>absurd (g.one i p e1) (by omega)) (fun _=>?_);walk_at "rd"
   cases i with
   | zero=>refine ifF rfl ?_;refine ifF rfl ?_;walk_at "rd";exact⟨_,_,by rw[U3 e1];rfl,rfl⟩
   | succ j =>
    obtain⟨q1,e2⟩:∃q1,ps[j]?=some q1:=⟨ps[j]'(by have:=(List.getElem?_eq_some_iff.mp e1).1;omega),by have:=(List.getElem?_eq_some_iff.mp e1).1;simp[show j<ps.length by omega]⟩
    rw[U3 e2];refine ifT rfl ?_;walk_at "rd";refine ifd (fun hle=>absurd (g.gap j q1 p e2 e1) (by omega)) (fun _=>?_);walk_at "rd";exact⟨_,_,by rw[U3 e1];rfl,rfl⟩
  ·rintro σ' H' ⟨vb,vl,rfl,rfl⟩;exact q _ (Same.refl _)
theorem Jb7:FnScope ["self","stretches"] ["self","stretches"] (Jg Y2):=⟨rfl,rfl,rfl,by decide +kernel,rfl,by decide +kernel,by decide +kernel⟩
theorem JbU{f:Addr}{fd:FuncData}(F:Fun K "__init__" "Row.__init__" Y2 f fd)(qG:mg "tuple"=none)(qi:mg "len"=none)(qf:GV mg "MOST_STRETCHES" (.int 30))(qp:Cal P w K mg base "check_stretches" 1 ["stretches"] (WO K))(T:RowC K C):FnOk P w K mg base CX0 2 f fd ["self","stretches"] (VB C K):=by
 refine F.ok Jb7 (fun vs H Q E h=>?_) (fun cdv A outer s H vs Q E hr h=>?_)
 ·obtain⟨x,dx,v,ps,rfl,_⟩:=h;rfl
 ·obtain⟨x,dx,v,ps,rfl,hx,⟨a,vs,rfl,hq,hp⟩,g,hl,q⟩:=h;have hu:=hr.units;refine⟨_,(Jf (YS (JM Vr (Jn (Yg (K:=K) rfl) rfl qi Uv (Ja (pv 1) Je)) (Jb1 rfl qf) (JO _)) (Jj Zp) Yb)
   (Jf (Y8 (JA qp (hr.mono (by decide)) rfl (Ja (pv 1) Je)))
   (Jj (JiV (K:=K) rfl (pv 0) (UM (Jbp (K:=K) rfl) rfl qG WU (Ja (Uo (N':=["begin","length"]) (imp:=[none,none]) rfl (YE (K:=K) rfl (pv 1)) (Jew rfl rfl) (fun _ _ _ _=>(Ye (K:=K) (n:=2) rfl rfl (Ju (Jo (i:=0) (show(["begin","length"]:List Str).Nodup from by decide +kernel) rfl (.inl rfl) (.inr rfl)) (Ju (Jo (i:=1) (show(["begin","length"]:List Str).Nodup from by decide +kernel) rfl (.inl rfl) (.inr rfl)) Yf)) rfl rfl)) (fun _ _ _ _=>Yy) (fun _ _ _ _=>(Uf (Ja (pv 0) (Ja (pv 1) Je))))) Je)) rfl)))),?_⟩
  have hn:=hp.len;walk_at "rd";refine Jb4 hq ?_;walk_at "rd";refine ifd (fun hgt=>absurd hl (by omega)) (fun _=>?_);walk_at "rd";refine JfO ⟨a,vs,rfl,hq,hp⟩ g fun H1 s1=>?_
  walk_at "rd";refine Jc3 (H1:=H1) (a:=a) (xs:=vs) (fun R r=>⟨_,rfl,r⟩) (hq.imp s1.seq s1.seqT) (Nat.le_of_lt (Jfq (by omega)))
   (fun i ys σ' H'=>∃vb vl,σ'=[vb,vl]/\Same H1 H'/\Prs K H' ys (ps.take i)) ⟨none,none,rfl,Same.refl _,by rw[List.take_zero];exact RepL.nil⟩
   (fun i ys σ' H' ⟨_,_,_,_,r⟩=>by have:=r.len;rw[this,List.length_take];omega) (fun i ys σ' H' ⟨_,_,_,s',_⟩=>s') ?_ ?_
  ·rintro i ys y σ' H' hi ⟨vb,vl,rfl,s',r⟩;obtain⟨p,b,e1,rfl,sp⟩:=Prs.at (K:=K) (ps:=ps) (RepL.mono (s1.trans s') hp) hi;refine Jed sp rfl ?_;walk_at "rd";refine ifT rfl ?_;walk_at "rd";refine Jkh sz2 fun t H2 nt s2 ht=>?_
   refine⟨_,_,rfl,s'.trans s2,?_⟩;rw[List.take_add_one,e1];exact Prs.snoc (RepL.mono s2 r) (JiU ht)
  ·rintro ys σ' H' ⟨vb,vl,rfl,s',r⟩ l H2 nl s2 hl2;walk_at "rd";refine Jfn (.of hl2) fun t H3 nt s3 ht=>?_
   walk_at "rd";have sA:Same H H3:=((s1.trans s').trans s2).trans s3;refine⟨x,C,dx,[],rfl,sA _ _ hx,T.cl,T.ns,by decide,?_⟩;rw[hn,List.take_length] at r;have r3:Prs K H3 ys ps:=RepL.mono (s2.trans s3) r;have ntx:t≠x:=Jaf ht (sA _ _ hx) (by intro z;cases z);refine q _ t ys (sA.ex_trans SameEx.upd) (by rw[JgS];exact Jw) (by rw[Ji ntx];exact ht) ?_;exact Prs.monoIns SameEx.upd (sA _ _ hx) r3
theorem sc_closed_up:FnScope ["pairs","stretches","begin","length","ahead"] ["pairs"] (Jg YK):=⟨rfl,rfl,rfl,by decide +kernel,rfl,by decide +kernel,by decide +kernel⟩
theorem JaV{f:Addr}{fd:FuncData}(F:Fun K "closed_up" "closed_up" YK f fd)(qw:mg "sum"=none):FnOk P w K mg base CX0 1 f fd ["pairs"] (spE K C 1 Yl):=by
 refine F.ok sc_closed_up (fun vs H Q E h=>J6 h) (fun cdv A outer s H vs Q E hr h=>?_);have hu:=hr.units;refine⟨_,(Jf (Jv (i:=1) sc_closed_up.nd rfl (.inl rfl) (Ue Je))
  (Jf (Y1 PassesOwn.never rfl (YE (K:=K) rfl (pv 0)) (Ye (K:=K) (n:=2) rfl rfl (Ju (Jo (i:=2) sc_closed_up.nd rfl (.inl rfl)) (Ju (Jo (i:=3) sc_closed_up.nd rfl (.inl rfl)) Yf)) rfl rfl) (Jj (YS (PW.pt (Wm (YT (K:=K) rfl (pv 1) (fun _=>rfl)) (VZ (JM (U7 (K:=K) rfl hu) (Jn (UI (K:=K) rfl rfl) rfl qw WT (Ja (Yw (JL (K:=K) rfl) (pv 1) (Zm VC Jh) (fun _ _=>rfl)) Je)) (pv 2) (JO _))))) (Jf (Jv (i:=4) sc_closed_up.nd rfl (.inl rfl) (Jd4 (K:=K) rfl PySem.F.plainAttrs_list PySem.F.slot_list_pop PySem.F.type_list_pop Jle (pv 1)))
  (Jj (Y8 (UY (K:=K) rfl PySem.F.plainAttrs_list PySem.F.slot_list_append PySem.F.type_list_append Up (pv 1) (Ja (Uf (Ja (Yw (JL (K:=K) rfl) (pv 4) Jh (fun _ _=>rfl)) (Ja (Jq (JB (K:=K) rfl) (Yw (JL (K:=K) rfl) (pv 4) Jh (fun _ _=>rfl)) (pv 3)) Je))) Je))))) (Jj (YS (JM Vr (pv 3) Jh (JO _)) (Jj (Y8 (UY (K:=K) rfl PySem.F.plainAttrs_list PySem.F.slot_list_append PySem.F.type_list_append Up (pv 1) (Ja (Uf (Ja (pv 2) (Ja (pv 3) Je))) Je)))) Yb)))))
  (Jj (JP (pv 1))))),?_⟩
 exact JZ (N:=["pairs","stretches","begin","length","ahead"]) (Jp (Vg (U0 Jk))
  (Jp (U2 (Jjl 0) (Ui (JJ (Yi 2) (JJ (Yi 3) Uh)) rfl) (Vf (Zu (Va (Jb 1)) (Yc (Jm JbT (YV WV (Jd (Jm Um (Jb 1) (Jc5 ZC Jl)) Jk)) (Jb 2)))) (Jp JnF
  (Jas (Vb (Jd (Jm Um (Jb 4) Jl) (Jd (Jm J0 (Jm Um (Jb 4) Jl) (Jb 3)) Jk))))) (Vf (Yc (Jm Zh (Jb 3) Jl)) (Jas (Vb (Jd (Jb 2) (Jd (Jb 3) Jk)))) YG)))
  Wq)) h
theorem Ja8:FnScope ["row","layers"] ["row","layers"] (Jg YJ):=⟨rfl,rfl,rfl,by decide +kernel,rfl,by decide +kernel,by decide +kernel⟩
theorem JaU{f:Addr}{fd:FuncData}(F:Fun K "by_layers" "by_layers" YJ f fd)(qg:mg "enumerate"=none)(T:RowC K C):FnOk P w K mg base CX0 1 f fd ["row","layers"] (spE K C 2 Yk):=by
 refine F.ok Ja8 (fun vs H Q E h=>J6 h) (fun cdv A outer s H vs Q E hr h=>?_);have hu:=hr.units;refine⟨_,(Jj (JP (Uo (N':=["ahead","stretch","layers"]) (imp:=[none,none,some 1]) rfl (Zn (K:=K) rfl rfl qg (Ja (Yv (K:=K) rfl (pv 0) rfl) Je)) (JfD (own:=["ahead","stretch"]) (fr:=[("layers",1)]) rfl rfl rfl ⟨rfl,trivial⟩ rfl ⟨⟨rfl,rfl,rfl⟩,trivial⟩) (fun _ _ _ _=>(Ye (K:=K) (n:=2) rfl rfl (Ju (Jo (i:=0) (show(["ahead","stretch","layers"]:List Str).Nodup from by decide +kernel) rfl (.inl rfl) (.inr rfl)) (Ju (Jo (i:=1) (show(["ahead","stretch","layers"]:List Str).Nodup from by decide +kernel) rfl (.inl rfl) (.inr rfl)) Yf)) rfl rfl)) (fun _ _ _ _=>Yy) (fun _ _ _ _=>(Uf (Ja (Jq (JB (K:=K) rfl) (Yw (JL (K:=K) rfl) (pv 1) Jh (fun _ _=>rfl)) (Jq Wi (Jq Wi Jh (pv 2)) (pv 0))) (Ja (Jq (JB (K:=K) rfl) (Yw (JL (K:=K) rfl) (pv 1) Jh (fun _ _=>rfl)) (pv 2)) Je))))))),?_⟩
 exact JZ (N:=["row","layers"]) (YC (Ug (Ja7 (Jd (Uj T (Jb 0)) Jk)) (Ui (JJ (Yi 0) (JJ (Yi 1) Uh)) rfl) U1 (Vb (Jd (Jm J0 (Jm Um (Jb 1) Jl) (Jm Jag (Jm Jag Jl (Jb 2)) (Jb 0))) (Jd (Jm J0 (Jm Um (Jb 1) Jl) (Jb 2)) Jk))) rfl)) h
theorem Jc7:FnScope ["row"] ["row"] (Jg Ur):=⟨rfl,rfl,rfl,by decide +kernel,rfl,by decide +kernel,by decide +kernel⟩
theorem JcW{f:Addr}{fd:FuncData}(F:Fun K "gaps_of" "gaps_of" Ur f fd)(qw:mg "sum"=none)(wW:mg "zip"=none)(T:RowC K C):FnOk P w K mg base CX0 1 f fd ["row"] (spE K C 1 YW):=by
 refine F.ok Jc7 (fun vs H Q E h=>J6 h) (fun cdv A outer s H vs Q E hr h=>?_);have hu:=hr.units;refine⟨_,(Jj (JP (Uo (N':=["left","right"]) (imp:=[none,none]) rfl (JiQ (K:=K) rfl rfl wW (Ja (Yv (K:=K) rfl (pv 0) rfl) (Ja (JgI (Jjt (K:=K) rfl) (Yv (K:=K) rfl (pv 0) rfl) (JiS Jh) JiR) Je))) (Jew rfl rfl) (fun _ _ _ _=>(Ye (K:=K) (n:=2) rfl rfl (Ju (Jo (i:=0) (show(["left","right"]:List Str).Nodup from by decide +kernel) rfl (.inl rfl) (.inr rfl)) (Ju (Jo (i:=1) (show(["left","right"]:List Str).Nodup from by decide +kernel) rfl (.inl rfl) (.inr rfl)) Yf)) rfl rfl)) (fun _ _ _ _=>Yy) (fun _ _ _ _=>(Jq Y0 (Yw (JL (K:=K) rfl) (pv 1) Jh (fun _ _=>rfl)) (Jn (UI (K:=K) rfl rfl) rfl qw WT (Ja (pv 0) Je))))))),?_⟩
 exact JZ (N:=["row"]) (YC (Ug (Jmd (Jd (Uj T (Jb 0)) (Jd (Jn2 (Uj T (Jb 0)) (Jlt Jl) Jls) Jk))) (Ui (JJ (Yi 0) (JJ (Yi 1) Uh)) rfl) U1 (Jm UL (Jm Um (Jb 1) Jl) (YV WV (Jd (Jb 0) Jk))) rfl)) h
theorem Ja9:FnScope ["row"] ["row"] (Jg YL):=⟨rfl,rfl,rfl,by decide +kernel,rfl,by decide +kernel,by decide +kernel⟩
theorem JaW{f:Addr}{fd:FuncData}(F:Fun K "closes_at" "closes_at" YL f fd)(wg:mg "min"=none)(wu:Cal P w K mg base "gaps_of" 1 ["row"] (spE K C 1 YW))(T:RowC K C):FnOk P w K mg base CX0 2 f fd ["row"] (spE K C 1 Ym):=by
 refine F.ok Ja9 (fun vs H Q E h=>J6 h) (fun cdv A outer s H vs Q E hr h=>?_);have hu:=hr.units;refine⟨_,(Jj (JP (Jfg (Jcu (K:=K) rfl rfl) rfl wg Jcq (Ja (Jq (JB (K:=K) rfl) (Uo (N':=["begin","length"]) (imp:=[none,none]) rfl (YE (K:=K) rfl (Yv (K:=K) rfl (pv 0) rfl)) (Jew rfl rfl) (fun _ _ _ _=>(Ye (K:=K) (n:=2) rfl rfl (Ju (Jo (i:=0) (show(["begin","length"]:List Str).Nodup from by decide +kernel) rfl (.inl rfl) (.inr rfl)) (Ju (Jo (i:=1) (show(["begin","length"]:List Str).Nodup from by decide +kernel) rfl (.inl rfl) (.inr rfl)) Yf)) rfl rfl)) (fun _ _ _ _=>Yy) (fun _ _ _ _=>(pv 1))) (JA wu (hr.mono (by decide)) rfl (Ja (pv 0) Je))) Je) Ja0))),?_⟩
 exact JZ (N:=["row"]) (YC (YV Jkm (Jd (Jm J0 (Ug (Ja6 (Uj T (Jb 0))) (Ui (JJ (Yi 0) (JJ (Yi 1) Uh)) rfl) U1 (Jb 1) rfl) (JQ (Jd (Jb 0) Jk))) Jk))) h
theorem sc_thinned:FnScope ["row","layers","left","still","at_once"] ["row","layers"] (Jg Ut):=⟨rfl,rfl,rfl,by decide +kernel,rfl,by decide +kernel,by decide +kernel⟩
theorem JcY{f:Addr}{fd:FuncData}(F:Fun K "thinned" "thinned" Ut f fd)(wg:mg "min"=none)(q9:CalM P w K mg base "Row" C 2 ["self","stretches"] (VB C K))(qN:Cal P w K mg base "closed_up" 1 ["pairs"] (spE K C 1 Yl))(qO:Cal P w K mg base "by_layers" 1 ["row","layers"] (spE K C 2 Yk))(qP:Cal P w K mg base "closes_at" 2 ["row"] (spE K C 1 Ym))(T:RowC K C):FnOk P w K mg base CX0 4 f fd ["row","layers"] (spE K C 2 Yo):=by
 refine F.ok sc_thinned (fun vs H Q E h=>J6 h) (fun cdv A outer s H vs Q E hr h=>?_);have hu:=hr.units;refine⟨_,(Jf (Jv (i:=2) sc_thinned.nd rfl (.inl rfl) (VX q9 (hr.mono (by decide)) rfl (Ja (Yv (K:=K) rfl (pv 0) rfl) Je)))
  (Jf (Jv (i:=3) sc_thinned.nd rfl (.inl rfl) (pv 1))
  (Jf (JgQ PassesOwn.never (PW.pt (Wm (JM Vr (pv 3) Jh (JO _)) (VZ (YT (K:=K) rfl (Yv (K:=K) rfl (pv 2) rfl) (fun _=>rfl))))) (Jf (Jv (i:=4) sc_thinned.nd rfl (.inl rfl) (Jn (ZQ rfl) rfl wg Jcq (Ja (pv 3) (Ja (JA qP (hr.mono (by decide)) rfl (Ja (pv 2) Je)) Je))))
  (Jf (Jv (i:=2) sc_thinned.nd rfl (.inl rfl) (VX q9 (hr.mono (by decide)) rfl (Ja (JA qN (hr.mono (by decide)) rfl (Ja (JA qO (hr.mono (by decide)) rfl (Ja (pv 2) (Ja (Zm VC (pv 4)) Je))) Je)) Je)))
  (Jj (JlC (i:=3) sc_thinned.nd rfl (.inl rfl) (pv 4) JkQ)))))
  (Jj (JP (pv 2)))))),?_⟩
 exact JZ (N:=["row","layers","left","still","at_once"]) (Jp (JG (Jeh (Jd (Uj T (Jb 0)) Jk)))
  (Jp (JG (Jb 1))
  (Jp (JjK (Zu (Yc (Jm Zh (Jb 3) Jl)) (Va (Uj T (Jb 2)))) (Jp (JG (YV JjN (Jd (Jb 3) (Jd (JQ (Jd (Jb 2) Jk)) Jk))))
  (Jp (JG (Jeh (Jd (JQ (Jd (JQ (Jd (Jb 2) (Jd (Jc5 ZC (Jb 4)) Jk))) Jk)) Jk)))
  (JnD (Jb 4)))))
  Wq))) h
theorem Jc6:FnScope ["row","place"] ["row","place"] (Jg Uq):=⟨rfl,rfl,rfl,by decide +kernel,rfl,by decide +kernel,by decide +kernel⟩
theorem JcV{f:Addr}{fd:FuncData}(F:Fun K "ball_at" "ball_at" Uq f fd)(wX:mg "any"=none)(T:RowC K C):FnOk P w K mg base CX0 1 f fd ["row","place"] (spE K C 2 YF):=by
 refine F.ok Jc6 (fun vs H Q E h=>J6 h) (fun cdv A outer s H vs Q E hr h=>?_);have hu:=hr.units;refine⟨_,(Jj (JP (Jn (Jex (K:=K) rfl rfl) rfl wX Jkj (Ja (Uo (N':=["begin","length","place"]) (imp:=[none,none,some 1]) rfl (YE (K:=K) rfl (Yv (K:=K) rfl (pv 0) rfl)) (JfD (own:=["begin","length"]) (fr:=[("place",1)]) rfl rfl rfl ⟨rfl,trivial⟩ rfl ⟨⟨rfl,rfl,rfl⟩,trivial⟩) (fun _ _ _ _=>(Ye (K:=K) (n:=2) rfl rfl (Ju (Jo (i:=0) (show(["begin","length","place"]:List Str).Nodup from by decide +kernel) rfl (.inl rfl) (.inr rfl)) (Ju (Jo (i:=1) (show(["begin","length","place"]:List Str).Nodup from by decide +kernel) rfl (.inl rfl) (.inr rfl)) Yf)) rfl rfl)) (fun _ _ _ _=>Yy) (fun _ _ _ _=>(JgG JjW Jgy (pv 0) (pv 2) (Jq (JB (K:=K) rfl) (pv 0) (pv 1))))) Je)))),?_⟩
 exact JZ (N:=["row","place"]) (YC (YV JmL (Jd (Ug (Ja6 (Uj T (Jb 0))) (Ui (JJ (Yi 0) (JJ (Yi 1) Uh)) rfl) U1 (Jji JnW Jm7 (Jb 0) (Jb 2) (Jm J0 (Jb 0) (Jb 1))) rfl) Jk))) h
theorem Jc8:FnScope ["left","spot"] ["left","spot"] (Jg Us):=⟨rfl,rfl,rfl,by decide +kernel,rfl,by decide +kernel,by decide +kernel⟩
theorem JcX{f:Addr}{fd:FuncData}(F:Fun K "owed_at" "owed_at" Us f fd)(qS:Cal P w K mg base "ball_at" 1 ["row","place"] (spE K C 2 YF)):FnOk P w K mg base CX0 2 f fd ["left","spot"] (spE K C 2 YX):=by refine F.ok Jc8 (fun vs H Q E h=>J6 h) (fun cdv A outer s H vs Q E hr h=>?_);have hu:=hr.units;refine⟨_,(Jj (JP (JgH (PW.pt (Wm (YT (K:=K) rfl (JA qS (hr.mono (by decide)) rfl (Ja (pv 0) (Ja (Jq Y0 (pv 1) Jh) Je))) (fun _=>rfl)) (VZ (Wl (YT (K:=K) rfl (JA qS (hr.mono (by decide)) rfl (Ja (pv 0) (Ja (pv 1) Je))) (fun _=>rfl)))))) Jh Jh))),?_⟩;exact JZ (N:=["left","spot"]) (YC (Jnu (Zu (Va (JQ (Jd (Jb 0) (Jd (Jm UL (Jb 1) Jl) Jk)))) (Wn (Va (JQ (Jd (Jb 0) (Jd (Jb 1) Jk)))))) Jl Jl)) h
theorem sc_struck:FnScope ["row","left","pairs","ahead","stretch","spot"] ["row"] (Jg UQ):=⟨rfl,rfl,rfl,by decide +kernel,rfl,by decide +kernel,by decide +kernel⟩
theorem Jff{f:Addr}{fd:FuncData}(F:Fun K "struck" "struck" UQ f fd)(qg:mg "enumerate"=none)(qw:mg "sum"=none)(wv:Cal P w K mg base "owed_at" 2 ["left","spot"] (spE K C 2 YX))(qv:Cal P w K mg base "thinned" 4 ["row","layers"] (spE K C 2 Yo))(T:RowC K C):FnOk P w K mg base CX0 5 f fd ["row"] (spE K C 1 Yz):=by
 refine F.ok sc_struck (fun vs H Q E h=>J6 h) (fun cdv A outer s H vs Q E hr h=>?_);have hu:=hr.units;refine⟨_,(Jf (Jv (i:=1) sc_struck.nd rfl (.inr rfl) (JA qv (hr.mono (by decide)) rfl (Ja (pv 0) (Ja Jh Je))))
  (Jf (Jv (i:=2) sc_struck.nd rfl (.inl rfl) Jb0)
  (Jf (Y1 PassesOwn.never rfl (Zn (K:=K) rfl rfl qg (Ja (Yv (K:=K) rfl (pv 0) rfl) Je)) (Ye (K:=K) (n:=2) rfl rfl (Ju (Jo (i:=3) sc_struck.nd rfl (.inl rfl)) (Ju (Jo (i:=4) sc_struck.nd rfl (.inl rfl)) Yf)) rfl rfl) (Jf (Jv (i:=5) sc_struck.nd rfl (.inl rfl) (Jq Y0 (Jq Y0 (Jn (UI (K:=K) rfl rfl) rfl qw WT (Ja (pv 4) Je)) Jh) (Jq Wi Jh (pv 3))))
  (Jj (Jd7 (JbD hr) (pv 2) (pv 5) (Jq (JB (K:=K) rfl) (JbZ (JbD hr) (pv 2) (pv 5) Jh ⟨rfl,rfl,rfl,rfl⟩) Jh) rfl))))
  (Jj (JiW 2 (JP (Uo (N':=["spot","number","left"]) (imp:=[none,none,some 1]) rfl (JgK (pv 2)) (JfD (own:=["spot","number"]) (fr:=[("left",1)]) rfl rfl rfl ⟨rfl,trivial⟩ rfl ⟨⟨rfl,rfl,rfl⟩,trivial⟩) (fun _ _ _ _=>(Ye (K:=K) (n:=2) rfl rfl (Ju (Jo (i:=0) (show(["spot","number","left"]:List Str).Nodup from by decide +kernel) rfl (.inl rfl) (.inr rfl)) (Ju (Jo (i:=1) (show(["spot","number","left"]:List Str).Nodup from by decide +kernel) rfl (.inl rfl) (.inr rfl)) Yf)) rfl rfl)) (fun _ _ _ _=>Yy) (fun _ _ _ _=>(Uf (Ja (pv 0) (Ja (pv 1) (Ja (JA wv (hr.mono (by decide)) rfl (Ja (pv 2) (Ja (pv 0) Je))) Je)))))))))))),?_⟩
 exact JZ (N:=["row","left","pairs","ahead","stretch","spot"]) (Jp (JG (JQ (Jd (Jb 0) (Jd Jl Jk))))
  (Jp (Vg Jhc)
  (Jp (U2 (Ja7 (Jd (Uj T (Jb 0)) Jk)) (Ui (JJ (Yi 3) (JJ (Yi 4) Uh)) rfl) (Jp (JG (Jm UL (Jm UL (YV WV (Jd (Jb 4) Jk)) Jl) (Jm Jag Jl (Jb 3))))
  (JhD (Jm J0 (Jef (Jb 2) (Jb 5) Jl) Jl) (Jb 5))))
  (Jmw 2 (YC (Ug (Jhd (Jb 2)) (Ui (JJ (Yi 0) (JJ (Yi 1) Uh)) rfl) U1 (Vb (Jd (Jb 0) (Jd (Jb 1) (Jd (JQ (Jd (Jb 2) (Jd (Jb 0) Jk))) Jk)))) rfl)))))) h
theorem Zw:FnScope ["row","place"] ["row","place"] (Jg Yt):=⟨rfl,rfl,rfl,by decide +kernel,rfl,by decide +kernel,by decide +kernel⟩
theorem Zj{f:Addr}{fd:FuncData}(F:Fun K "balls_below" "balls_below" Yt f fd)(qw:mg "sum"=none)(wY:mg "max"=none)(wg:mg "min"=none)(T:RowC K C):FnOk P w K mg base CX0 1 f fd ["row","place"] (spE K C 2 Yh):=by
 refine F.ok Zw (fun vs H Q E h=>J6 h) (fun cdv A outer s H vs Q E hr h=>?_);have hu:=hr.units;refine⟨_,(Jj (JP (Jn (UI (K:=K) rfl rfl) rfl qw WT (Ja (Uo (N':=["begin","length","place"]) (imp:=[none,none,some 1]) rfl (YE (K:=K) rfl (Yv (K:=K) rfl (pv 0) rfl)) (JfD (own:=["begin","length"]) (fr:=[("place",1)]) rfl rfl rfl ⟨rfl,trivial⟩ rfl ⟨⟨rfl,rfl,rfl⟩,trivial⟩) (fun _ _ _ _=>(Ye (K:=K) (n:=2) rfl rfl (Ju (Jo (i:=0) (show(["begin","length","place"]:List Str).Nodup from by decide +kernel) rfl (.inl rfl) (.inr rfl)) (Ju (Jo (i:=1) (show(["begin","length","place"]:List Str).Nodup from by decide +kernel) rfl (.inl rfl) (.inr rfl)) Yf)) rfl rfl)) (fun _ _ _ _=>Yy) (fun _ _ _ _=>(Jn (JeC rfl) rfl wY Jkk (Ja Jh (Ja (Jn (ZQ rfl) rfl wg Jcq (Ja (pv 1) (Ja (Jq Y0 (pv 2) (pv 0)) Je))) Je))))) Je)))),?_⟩
 exact JZ (N:=["row","place"]) (YC (YV WV (Jd (Ug (Ja6 (Uj T (Jb 0))) (Ui (JJ (Yi 0) (JJ (Yi 1) Uh)) rfl) U1 (YV JmN (Jd Jl (Jd (YV JjN (Jd (Jb 1) (Jd (Jm UL (Jb 2) (Jb 0)) Jk))) Jk))) rfl) Jk))) h
theorem sc_ended_at:FnScope ["row","spots","stretches","counted","ahead","spot","below","balls"] ["row","spots"] (Jg Y4):=⟨rfl,rfl,rfl,by decide +kernel,rfl,by decide +kernel,by decide +kernel⟩
theorem JbV{f:Addr}{fd:FuncData}(F:Fun K "ended_at" "ended_at" Y4 f fd)(qg:mg "enumerate"=none)(qB:Cal P w K mg base "balls_below" 1 ["row","place"] (spE K C 2 Yh)):FnOk P w K mg base CX0 2 f fd ["row","spots"] (spE K C 2 YH):=by
 refine F.ok sc_ended_at (fun vs H Q E h=>J6 h) (fun cdv A outer s H vs Q E hr h=>?_);have hu:=hr.units;refine⟨_,(Jf (Jv (i:=2) sc_ended_at.nd rfl (.inl rfl) (Ue Je))
  (Jf (Jv (i:=3) sc_ended_at.nd rfl (.inl rfl) Jh)
  (Jf (Y1 PassesOwn.never rfl (Zn (K:=K) rfl rfl qg (Ja (pv 1) Je)) (Ye (K:=K) (n:=2) rfl rfl (Ju (Jo (i:=4) sc_ended_at.nd rfl (.inl rfl)) (Ju (Jo (i:=5) sc_ended_at.nd rfl (.inl rfl)) Yf)) rfl rfl) (Jf (Jv (i:=6) sc_ended_at.nd rfl (.inl rfl) (JA qB (hr.mono (by decide)) rfl (Ja (pv 0) (Ja (pv 5) Je))))
  (Jf (Jv (i:=7) sc_ended_at.nd rfl (.inl rfl) (Jq Y0 (pv 6) (pv 3)))
  (Jf (Y8 (UY (K:=K) rfl PySem.F.plainAttrs_list PySem.F.slot_list_append PySem.F.type_list_append Up (pv 2) (Ja (Uf (Ja (Jq Y0 (Jq (JB (K:=K) rfl) (pv 5) (Jq Wi Jh (pv 4))) (pv 7)) (Ja (Jq (JB (K:=K) rfl) (pv 7) Jh) Je))) Je)))
  (Jj (Jv (i:=3) sc_ended_at.nd rfl (.inl rfl) (pv 6)))))))
  (Jj (JP (pv 2)))))),?_⟩
 exact JZ (N:=["row","spots","stretches","counted","ahead","spot","below","balls"]) (Jp (Vg (U0 Jk))
  (Jp (JG Jl)
  (Jp (U2 (Ja7 (Jd (Jb 1) Jk)) (Ui (JJ (Yi 4) (JJ (Yi 5) Uh)) rfl) (Jp (JG (JQ (Jd (Jb 0) (Jd (Jb 5) Jk))))
  (Jp (JG (Jm UL (Jb 6) (Jb 3)))
  (Jp (Jas (Vb (Jd (Jm UL (Jm J0 (Jb 5) (Jm Jag Jl (Jb 4))) (Jb 7)) (Jd (Jm J0 (Jb 7) Jl) Jk))))
  (JG (Jb 6))))))
  Wq))) h
theorem sc_put_in:FnScope ["row","pairs","spots","spot","number"] ["row","pairs"] (Jg UP):=⟨rfl,rfl,rfl,by decide +kernel,rfl,by decide +kernel,by decide +kernel⟩
theorem Jfe{f:Addr}{fd:FuncData}(F:Fun K "put_in" "put_in" UP f fd)(qE:mg "sorted"=none)(qi:mg "len"=none)(qw:mg "sum"=none)(qf:GV mg "MOST_STRETCHES" (.int 30))(q9:CalM P w K mg base "Row" C 2 ["self","stretches"] (VB C K))(wa:Cal P w K mg base "ended_at" 2 ["row","spots"] (spE K C 2 YH))(T:RowC K C)(qj:mg "TooMany"=some (.ref qa))(qF:AtX K "TooMany" qa):FnOk P w K mg base (CX1 P w) 4 f fd ["row","pairs"] (spX K C 2 JY Ys):=by
 refine Fun.okX F sc_put_in (fun vs H Q E h=>Jju h) (fun cdv A outer s H vs Q E hr h=>?_);have hu:=hr.units;refine⟨_,(Jf (YS (JM Vr (Jq (JB (K:=K) rfl) (Jn (Yg (K:=K) rfl) rfl qi Uv (Ja (Yv (K:=K) rfl (pv 0) rfl) Je)) (Jn (UI (K:=K) rfl rfl) rfl qw WT (Ja (Uo (N':=["spot","number"]) (imp:=[none,none]) rfl (YE (K:=K) rfl (pv 1)) (Jew rfl rfl) (fun _ _ _ _=>(Ye (K:=K) (n:=2) rfl rfl (Ju (Jo (i:=0) (show(["spot","number"]:List Str).Nodup from by decide +kernel) rfl (.inl rfl) (.inr rfl)) (Ju (Jo (i:=1) (show(["spot","number"]:List Str).Nodup from by decide +kernel) rfl (.inl rfl) (.inr rfl)) Yf)) rfl rfl)) (fun _ _ _ _=>Yy) (fun _ _ _ _=>(pv 1))) Je))) (Jb1 rfl qf) (JO _)) (Jj (Jfj (K:=K) rfl qF.ok rfl qj rfl Jmx (Ja Jlw Je))) Yb)
  (Jf (Zq (i:=2) (N':=["begin","length"]) (imp:=[none,none]) sc_put_in.nd rfl (.inl rfl) rfl (YE (K:=K) rfl (Yv (K:=K) rfl (pv 0) rfl)) (Jew rfl rfl) (fun _ _ _ _=>(Ye (K:=K) (n:=2) rfl rfl (Ju (Jo (i:=0) (show(["begin","length"]:List Str).Nodup from by decide +kernel) rfl (.inl rfl) (.inr rfl)) (Ju (Jo (i:=1) (show(["begin","length"]:List Str).Nodup from by decide +kernel) rfl (.inl rfl) (.inr rfl)) Yf)) rfl rfl)) (fun _ _ _ _=>Yy) (fun _ _ _ _=>(Jq (JB (K:=K) rfl) (pv 0) (pv 1))) rfl (.inl rfl))
  (Jf (Y1 PassesOwn.leaving rfl (YE (K:=K) rfl (pv 1)) (Ye (K:=K) (n:=2) rfl rfl (Ju (Jo (i:=3) sc_put_in.nd rfl (.inl rfl)) (Ju (Jo (i:=4) sc_put_in.nd rfl (.inl rfl)) Yf)) rfl rfl) (Jj (Y8 (UY (K:=K) rfl PySem.F.plainAttrs_list PySem.F.slot_list_extend PySem.F.type_list_extend Jae (pv 2) (Ja (Jq JgA (Ue (Ja (pv 3) Je)) (pv 4)) Je)))))
  (Jj (JP (VX q9 (hr.mono (by decide)) rfl (Ja (JA wa (hr.mono (by decide)) rfl (Ja (pv 0) (Ja (Jn (JaA (K:=K) rfl rfl) rfl qE ZP (Ja (pv 2) Je)) Je))) Je))))))),?_⟩
 exact Jf6 (N:=["row","pairs","spots","spot","number"]) (Jp (Vf (Yc (Jm Zh (Jm J0 (YV UZ (Jd (Uj T (Jb 0)) Jk)) (YV WV (Jd (Ug (Ja6 (Jb 1)) (Ui (JJ (Yi 0) (JJ (Yi 1) Uh)) rfl) U1 (Jb 1) rfl) Jk))) Jl)) Jes YG)
  (Jp (Vg (Ug (Ja6 (Uj T (Jb 0))) (Ui (JJ (Yi 0) (JJ (Yi 1) Uh)) rfl) U1 (Jm J0 (Jb 0) (Jb 1)) rfl))
  (Jp (U2 (Jjl 1) (Ui (JJ (Yi 3) (JJ (Yi 4) Uh)) rfl) (Jj9 (Jm JjV (U0 (Jd (Jb 3) Jk)) (Jb 4))))
  (YC (Jeh (Jd (JQ (Jd (Jb 0) (Jd (YV JfG (Jd (Jb 2) Jk)) Jk))) Jk)))))) (Jmz (Vf (Yc (Jm Zh (Jm J0 (YV UZ (Jd (Uj T (Jb 0)) Jk)) (YV WV (Jd (Ug (Ja6 (Jb 1)) (Ui (JJ (Yi 0) (JJ (Yi 1) Uh)) rfl) U1 (Jb 1) rfl) Jk))) Jl)) Jes YG)
  (JnH (Yc (Jm Zh (Jm J0 (YV UZ (Jd (Uj T (Jb 0)) Jk)) (YV WV (Jd (Ug (Ja6 (Jb 1)) (Ui (JJ (Yi 0) (JJ (Yi 1) Uh)) rfl) U1 (Jb 1) rfl) Jk))) Jl)) (JhF qF.ns (Jd Jnx Jk)) Jkb) Jkb) h
theorem sc_law_alone:FnScope ["e","kinds"] ["e"] (Jg YM):=⟨rfl,rfl,rfl,by decide +kernel,rfl,by decide +kernel,by decide +kernel⟩
theorem VS{f:Addr}{fd:FuncData}(F:Fun K "_law_alone" "_law_alone" YM f fd)(qb:mg "isinstance"=none)(qu:mg "ValueError"=none)(xG:ExcG K)(xO:OwnL K ["TooMany"] [qa])(iV:IsiV K ["TooMany"])(qz:mg "LumpError"=some (.ref qh))(qA:IsiN K ["TooMany"] "LumpError" qh)(wD:mg "NoRow"=some (.ref qy))(wE:IsiN K ["TooMany"] "NoRow" qy)(wj:mg "Unlike"=some (.ref qq))(wk:IsiN K ["TooMany"] "Unlike" qq)(qT:mg "BadDeed"=some (.ref qm))(qU:IsiN K ["TooMany"] "BadDeed" qm)(qH:mg "BadTable"=some (.ref qk))(qI:IsiN K ["TooMany"] "BadTable" qk)(qJ:mg "BadSeats"=some (.ref ql))(qK:IsiN K ["TooMany"] "BadSeats" ql)(qV:mg "BadText"=some (.ref qo))(qW:IsiN K ["TooMany"] "BadText" qo)(qj:mg "TooMany"=some (.ref qa))(qX:IsiN K ["TooMany"] "TooMany" qa)(wm:mg "BadRow"=some (.ref qr))(wn:IsiN K ["TooMany"] "BadRow" qr):FnH P w K mg base 1 f fd ["e"] (spE K C 1 J2):=by
 refine Fun.okH F sc_law_alone (fun vs H Q E h=>J6 h) (fun cdv A outer s H vs Q E hr h=>?_);have hu:=hr.units;refine⟨_,(Jf (Jv (i:=1) sc_law_alone.nd rfl (.inl rfl) (Ue (Ja (Jn (Yr (K:=K) rfl) rfl qb Jx (Ja (pv 0) (Ja (YR (v:=V.ref qr) rfl wm rfl) Je))) (Ja (Jn (Yr (K:=K) rfl) rfl qb Jx (Ja (pv 0) (Ja (YR (v:=V.ref qa) rfl qj rfl) Je))) (Ja (Jn (Yr (K:=K) rfl) rfl qb Jx (Ja (pv 0) (Ja (YR (v:=V.ref qo) rfl qV rfl) Je))) (Ja (Jn (Yr (K:=K) rfl) rfl qb Jx (Ja (pv 0) (Ja (YR (v:=V.ref ql) rfl qJ rfl) Je))) Je))))))
  (Jf (Jv (i:=1) sc_law_alone.nd rfl (.inl rfl) (Jq (JB (K:=K) rfl) (pv 1) (Ue (Ja (Jn (Yr (K:=K) rfl) rfl qb Jx (Ja (pv 0) (Ja (YR (v:=V.ref qk) rfl qH rfl) Je))) (Ja (Jn (Yr (K:=K) rfl) rfl qb Jx (Ja (pv 0) (Ja (YR (v:=V.ref qm) rfl qT rfl) Je))) (Ja (Jn (Yr (K:=K) rfl) rfl qb Jx (Ja (pv 0) (Ja (YR (v:=V.ref qq) rfl wj rfl) Je))) (Ja (Jn (Yr (K:=K) rfl) rfl qb Jx (Ja (pv 0) (Ja (YR (v:=V.ref qy) rfl wD rfl) Je))) Je)))))))
  (Jj (JP (Wk (VW (U7 (K:=K) rfl hu) (UY (K:=K) rfl PySem.F.plainAttrs_list PySem.F.slot_list_count PySem.F.type_list_count Jfb (pv 1) (Ja VU Je)) Jh (JO _)) (Wk (Jn (Yr (K:=K) rfl) rfl qb Jx (Ja (pv 0) (Ja (YR (v:=V.ref qh) rfl qz rfl) Je))) (Ja1 (Jn (Yr (K:=K) rfl) rfl qb Jx (Ja (pv 0) (Ja (VV (v:=V.ty "ValueError") rfl qu ZE rfl) Je)))))))))),?_⟩
 exact JZ (N:=["e","kinds"]) (Jp (JG (U0 (Jd (V0 wn (Jb 0)) (Jd (V0 qX (Jb 0)) (Jd (V0 qW (Jb 0)) (Jd (V0 qK (Jb 0)) Jk))))))
  (Jp (JG (Jm J0 (Jb 1) (U0 (Jd (V0 qI (Jb 0)) (Jd (V0 qU (Jb 0)) (Jd (V0 wk (Jb 0)) (Jd (V0 wE (Jb 0)) Jk)))))))
  (YC (Jal (Jm JbT (Jjj (Jb 1) Ja5) Jl) (Jal (V0 qA (Jb 0)) (Jnv iV (Jb 0))))))) h
theorem sc_law_told:FnScope ["letters","low","found","k"] ["letters","low"] (Jg Y7):=⟨rfl,rfl,rfl,by decide +kernel,rfl,by decide +kernel,by decide +kernel⟩
theorem JbY{f:Addr}{fd:FuncData}(F:Fun K "_law_told" "_law_told" Y7 f fd)(qe:mg "range"=none)(qi:mg "len"=none):FnOk P w K mg base CX0 1 f fd ["letters","low"] (spE K C 2 Yj):=by
 refine F.ok sc_law_told (fun vs H Q E h=>J6 h) (fun cdv A outer s H vs Q E hr h=>?_);have hu:=hr.units;refine⟨_,(Jf (Jv (i:=2) sc_law_told.nd rfl (.inl rfl) (Ue Je))
  (Jf (Y1 PassesOwn.never rfl (UN rfl qe (Ja (Jn (Yg (K:=K) rfl) rfl qi Uv (Ja (pv 0) Je)) Je)) (Jo (i:=3) sc_law_told.nd rfl (.inl rfl)) (Jj (YS (PW.pt (Wm (JM (U7 (K:=K) rfl hu) (Yw (JL (K:=K) rfl) (pv 0) (pv 3) (fun _ _=>rfl)) Jh (JO _)) (Wm (JM Vr (pv 3) Jh (JO _)) (VZ (JM (U7 (K:=K) rfl hu) (Yw (JL (K:=K) rfl) (pv 0) (Jq Y0 (pv 3) Jh) (fun _ _=>rfl)) Jh (JO _)))))) (Jj (Jc1 (Uf (Ja (Yw (JL (K:=K) rfl) (Yw (JL (K:=K) rfl) (pv 2) (Zm VC Jh) (fun _ _=>rfl)) Jh (fun _ _=>rfl)) (Ja (Jq (JB (K:=K) rfl) (Yw (JL (K:=K) rfl) (Yw (JL (K:=K) rfl) (pv 2) (Zm VC Jh) (fun _ _=>rfl)) Jh (fun _ _=>rfl)) Jh) Je))) (JgJ (pv 2) (Zm VC Jh) Jcd))) (Jj (YS (JM (U7 (K:=K) rfl hu) (Yw (JL (K:=K) rfl) (pv 0) (pv 3) (fun _ _=>rfl)) Jh (JO _)) (Jj (Y8 (UY (K:=K) rfl PySem.F.plainAttrs_list PySem.F.slot_list_append PySem.F.type_list_append Up (pv 2) (Ja (Uf (Ja (Jq (JB (K:=K) rfl) (pv 1) (pv 3)) (Ja Jh Je))) Je)))) Yb)))))
  (Jj (JP (pv 2))))),?_⟩
 exact JZ (N:=["letters","low","found","k"]) (Jp (Vg (U0 Jk))
  (Jp (U2 (Jb6 (Jd (YV UZ (Jd (Jb 0) Jk)) Jk)) (Yi 3) (Vf (Zu (Yc (Jm JbT (Jm Um (Jb 0) (Jb 3)) Jl)) (Zu (Yc (Jm Zh (Jb 3) Jl)) (Yc (Jm JbT (Jm Um (Jb 0) (Jm UL (Jb 3) Jl)) Jl)))) (Jet (Vb (Jd (Jm Um (Jm Um (Jb 2) (Jc5 ZC Jl)) Jl) (Jd (Jm J0 (Jm Um (Jm Um (Jb 2) (Jc5 ZC Jl)) Jl) Jl) Jk))) (Jc5 ZC Jl)) (Vf (Yc (Jm JbT (Jm Um (Jb 0) (Jb 3)) Jl)) (Jas (Vb (Jd (Jm J0 (Jb 1) (Jb 3)) (Jd Jl Jk)))) YG)))
  Wq)) h
theorem sc_law_filled:FnScope ["letters","low","pairs","told","found","counts","k","owed","many"] ["letters","low","pairs"] (Jg YA):=⟨rfl,rfl,rfl,by decide +kernel,rfl,by decide +kernel,by decide +kernel⟩
theorem ZJ{f:Addr}{fd:FuncData}(F:Fun K "_law_filled" "_law_filled" YA f fd)(qe:mg "range"=none)(qi:mg "len"=none)(wF:mg "int"=none)(wO:mg "dict"=none):FnOk P w K mg base CX0 1 f fd ["letters","low","pairs"] (spE K C 3 J7):=by
 refine F.ok sc_law_filled (fun vs H Q E h=>J6 h) (fun cdv A outer s H vs Q E hr h=>?_);have hu:=hr.units;refine⟨_,(Jf (Jv (i:=3) sc_law_filled.nd rfl (.inl rfl) (UM (Jcs (K:=K) rfl rfl) rfl wO JhT (Ja (pv 2) Je)))
  (Jf (Jv (i:=4) sc_law_filled.nd rfl (.inl rfl) (Ue Je))
  (Jf (Jv (i:=5) sc_law_filled.nd rfl (.inl rfl) (Ue Je))
  (Jf (Y1 PassesOwn.never rfl (UN rfl qe (Ja (Jn (Yg (K:=K) rfl) rfl qi Uv (Ja (pv 0) Je)) Je)) (Jo (i:=6) sc_law_filled.nd rfl (.inl rfl)) (Jf (Jv (i:=7) sc_law_filled.nd rfl (.inl rfl) (UM Jez rfl wF JfE (Ja (Wk (VW Vr (pv 6) Jh (JO _)) (Wk (VW (U7 (K:=K) rfl hu) (Yw (JL (K:=K) rfl) (pv 0) (Jq Y0 (pv 6) Jh) (fun _ _=>rfl)) Jh (JO _)) (Ja1 (VW (U7 (K:=K) rfl hu) (Yw (JL (K:=K) rfl) (pv 0) (pv 6) (fun _ _=>rfl)) Jh (JO _))))) Je)))
  (Jf (Jv (i:=8) sc_law_filled.nd rfl (.inl rfl) (Jq (JB (K:=K) rfl) (JbZ (JbD hr) (pv 3) (Jq (JB (K:=K) rfl) (pv 1) (pv 6)) Jh ⟨rfl,rfl,rfl,rfl⟩) (pv 7)))
  (Jf (YS (JM Vr (pv 8) Jh (JO _)) (Jj (Y8 (UY (K:=K) rfl PySem.F.plainAttrs_list PySem.F.slot_list_append PySem.F.type_list_append Up (pv 5) (Ja (Uf (Ja (Jq (JB (K:=K) rfl) (pv 1) (pv 6)) (Ja (pv 8) (Ja (pv 7) Je)))) Je)))) Yb)
  (Jj (Y8 (UY (K:=K) rfl PySem.F.plainAttrs_list PySem.F.slot_list_extend PySem.F.type_list_extend Jae (pv 4) (Ja (Jq (JB (K:=K) rfl) (Jq JgA (Ue (Ja Jh (Ja Jh Je))) (pv 8)) (Ue (Ja (Yw (JL (K:=K) rfl) (pv 0) (pv 6) (fun _ _=>rfl)) Je))) Je))))))))
  (Jj (JP (Uf (Ja (pv 4) (Ja (pv 5) Je))))))))),?_⟩
 exact JZ (N:=["letters","low","pairs","told","found","counts","k","owed","many"]) (Jp (JG (Jjk (Jb 2)))
  (Jp (Vg (U0 Jk))
  (Jp (Vg (U0 Jk))
  (Jp (U2 (Jb6 (Jd (YV UZ (Jd (Jb 0) Jk)) Jk)) (Yi 6) (Jp (JG (YV JmM (Jd (Jal (Jm Zh (Jb 6) Jl) (Jal (Jm JbT (Jm Um (Jb 0) (Jm UL (Jb 6) Jl)) Jl) (Jm JbT (Jm Um (Jb 0) (Jb 6)) Jl))) Jk)))
  (Jp (JG (Jm J0 (Jef (Jb 3) (Jm J0 (Jb 1) (Jb 6)) Jl) (Jb 7)))
  (Jp (Vf (Yc (Jm Zh (Jb 8) Jl)) (Jas (Vb (Jd (Jm J0 (Jb 1) (Jb 6)) (Jd (Jb 8) (Jd (Jb 7) Jk))))) YG)
  (Jj9 (Jm J0 (Jm JjV (U0 (Jd Jl (Jd Jl Jk))) (Jb 8)) (U0 (Jd (Jm Um (Jb 0) (Jb 6)) Jk))))))))
  (Jka 5 (Jka 4 (YC (Vb (Jd (Jb 4) (Jd (Jb 5) Jk)))))))))) h
theorem sc_law_letters:FnScope ["stretches","low","high","letters","begin","length","place"] ["stretches","low","high"] (Jg Yu):=⟨rfl,rfl,rfl,by decide +kernel,rfl,by decide +kernel,by decide +kernel⟩
theorem Zk{f:Addr}{fd:FuncData}(F:Fun K "_law_letters" "_law_letters" Yu f fd)(qe:mg "range"=none):FnOk P w K mg base CX0 1 f fd ["stretches","low","high"] (spE K C 3 JV):=by
 refine F.ok sc_law_letters (fun vs H Q E h=>J6 h) (fun cdv A outer s H vs Q E hr h=>?_);have hu:=hr.units;refine⟨_,(Jf (Zq (i:=3) (N':=["place"]) (imp:=[none]) sc_law_letters.nd rfl (.inl rfl) rfl (Jah rfl qe (Ja (pv 1) (Ja (pv 2) Je))) (Jew rfl rfl) (fun _ _ _ _=>(Jo (i:=0) (show(["place"]:List Str).Nodup from by decide +kernel) rfl (.inl rfl) (.inr rfl))) (fun _ _ _ _=>Yy) (fun _ _ _ _=>Jh) rfl (.inl rfl))
  (Jf (Y1 PassesOwn.never rfl (YE (K:=K) rfl (pv 0)) (Ye (K:=K) (n:=2) rfl rfl (Ju (Jo (i:=4) sc_law_letters.nd rfl (.inl rfl)) (Ju (Jo (i:=5) sc_law_letters.nd rfl (.inl rfl)) Yf)) rfl rfl) (Jj (Y1 PassesOwn.never rfl (Jah rfl qe (Ja (pv 4) (Ja (Jq (JB (K:=K) rfl) (pv 4) (pv 5)) Je))) (Jo (i:=6) sc_law_letters.nd rfl (.inl rfl)) (Jj (Jc1 Jh (JgJ (pv 3) (Jq Y0 (pv 6) (pv 1)) Jcd))))))
  (Jj (JP (pv 3))))),?_⟩
 exact JZ (N:=["stretches","low","high","letters","begin","length","place"]) (Jp (Vg (Ug (Jj4 (Jd (Jb 1) (Jd (Jb 2) Jk))) (Yi 0) U1 Jl rfl))
  (Jp (U2 (Jjl 0) (Ui (JJ (Yi 4) (JJ (Yi 5) Uh)) rfl) (U2 (Jj4 (Jd (Jb 4) (Jd (Jm J0 (Jb 4) (Jb 5)) Jk))) (Yi 6) (Jet Jl (Jm UL (Jb 6) (Jb 1)))))
  Wq)) h
theorem Jb8:FnScope ["script","k"] ["script","k"] (Jg Y5):=⟨rfl,rfl,rfl,by decide +kernel,rfl,by decide +kernel,by decide +kernel⟩
theorem JbW{f:Addr}{fd:FuncData}(F:Fun K "_law_cell" "_law_cell" Y5 f fd)(qi:mg "len"=none):FnOk P w K mg base CX0 1 f fd ["script","k"] (spE K C 2 JF):=by
 refine F.ok Jb8 (fun vs H Q E h=>J6 h) (fun cdv A outer s H vs Q E hr h=>?_);have hu:=hr.units;refine⟨_,(Jf (YS (JM Jgy (pv 1) (Jn (Yg (K:=K) rfl) rfl qi Uv (Ja (pv 0) Je)) (JO _)) (Jj (JP (Yw (JL (K:=K) rfl) (pv 0) (pv 1) (fun _ _=>rfl)))) Yb)
  (Jj (JP Jh))),?_⟩
 exact JZ (N:=["script","k"]) (Jp (Vf (Yc (Jm Jm7 (Jb 1) (YV UZ (Jd (Jb 0) Jk)))) (YC (Jm Um (Jb 0) (Jb 1))) YG)
  (YC Jl)) h
theorem sc_law_pairs:FnScope ["script","low","high","told","k","cell"] ["script","low","high"] (Jg YO):=⟨rfl,rfl,rfl,by decide +kernel,rfl,by decide +kernel,by decide +kernel⟩
theorem JaY{f:Addr}{fd:FuncData}(F:Fun K "_law_pairs" "_law_pairs" YO f fd)(qE:mg "sorted"=none)(qe:mg "range"=none)(qd:Cal P w K mg base "_law_cell" 1 ["script","k"] (spE K C 2 JF)):FnOk P w K mg base CX0 2 f fd ["script","low","high"] (spE K C 3 Ya):=by
 refine F.ok sc_law_pairs (fun vs H Q E h=>J6 h) (fun cdv A outer s H vs Q E hr h=>?_);have hu:=hr.units;refine⟨_,(Jf (Jv (i:=3) sc_law_pairs.nd rfl (.inr rfl) Jb0)
  (Jf (Y1 PassesOwn.never rfl (UN rfl qe (Ja (Jq UF (JA qd (hr.mono (by decide)) rfl (Ja (pv 0) (Ja Jh Je))) Jh) Je)) (Jo (i:=4) sc_law_pairs.nd rfl (.inl rfl)) (Jf (Jv (i:=5) sc_law_pairs.nd rfl (.inl rfl) (JA qd (hr.mono (by decide)) rfl (Ja (pv 0) (Ja (Jq (JB (K:=K) rfl) Jh (pv 4)) Je))))
  (Jj (Jd7 (JbD hr) (pv 3) (Jq (JB (K:=K) rfl) (pv 1) (Jq UF (Jq WK (pv 5) Jh) (Jq Y0 (pv 2) (pv 1)))) (Jq (JB (K:=K) rfl) Jh (Jq UF (pv 5) Jh)) rfl))))
  (Jj (JP (Uo (N':=["spot","told"]) (imp:=[none,some 3]) rfl (YE (K:=K) rfl (Jn (Jcv rfl) rfl qE ZP (Ja (JiN (pv 3)) Je))) (JfD (own:=["spot"]) (fr:=[("told",3)]) rfl rfl rfl ⟨rfl,trivial⟩ rfl ⟨⟨rfl,rfl,rfl⟩,trivial⟩) (fun _ _ _ _=>(Jo (i:=0) (show(["spot","told"]:List Str).Nodup from by decide +kernel) rfl (.inl rfl) (.inr rfl))) (fun _ _ _ _=>Yy) (fun _ _ _ _=>(Uf (Ja (pv 0) (Ja (JiM (JbD hr) (pv 1) (pv 0) (fun _ _=>rfl)) Je))))))))),?_⟩
 exact JZ (N:=["script","low","high","told","k","cell"]) (Jp (Vg Jhc)
  (Jp (U2 (Jb6 (Jd (Jm Vq (JQ (Jd (Jb 0) (Jd Jl Jk))) Jl) Jk)) (Yi 4) (Jp (JG (JQ (Jd (Jb 0) (Jd (Jm J0 Jl (Jb 4)) Jk))))
  (JhD (Jm J0 Jl (Jm Vq (Jb 5) Jl)) (Jm J0 (Jb 1) (Jm Vq (Jm Jd0 (Jb 5) Jl) (Jm UL (Jb 2) (Jb 1)))))))
  (YC (Ug (Ja6 (Jjm (Jb 3))) (Yi 0) U1 (Vb (Jd (Jb 0) (Jd (Jnt (Jb 1) (Jb 0)) Jk))) rfl)))) h
theorem sc_law_drawn:FnScope ["script","at","many","begin","reach","found","place","k","length"] ["script","at","many","begin","reach"] (Jg YN):=⟨rfl,rfl,rfl,by decide +kernel,rfl,by decide +kernel,by decide +kernel⟩
theorem JaX{f:Addr}{fd:FuncData}(F:Fun K "_law_drawn" "_law_drawn" YN f fd)(qe:mg "range"=none)(qd:Cal P w K mg base "_law_cell" 1 ["script","k"] (spE K C 2 JF)):FnOk P w K mg base CX0 2 f fd ["script","at","many","begin","reach"] (spE K C 5 Yn):=by
 refine F.ok sc_law_drawn (fun vs H Q E h=>J6 h) (fun cdv A outer s H vs Q E hr h=>?_);have hu:=hr.units;refine⟨_,(Jf (Jv (i:=5) sc_law_drawn.nd rfl (.inl rfl) (Ue Je))
  (Jf (Jv (i:=6) sc_law_drawn.nd rfl (.inl rfl) (pv 3))
  (Jf (Y1 PassesOwn.never rfl (UN rfl qe (Ja (pv 2) Je)) (Jo (i:=7) sc_law_drawn.nd rfl (.inl rfl)) (Jf (Jv (i:=8) sc_law_drawn.nd rfl (.inl rfl) (Jq (JB (K:=K) rfl) Jh (Jq UF (JA qd (hr.mono (by decide)) rfl (Ja (pv 0) (Ja (Jq (JB (K:=K) rfl) (pv 1) (Jq Wi Jh (pv 7))) Je))) (pv 4))))
  (Jf (Y8 (UY (K:=K) rfl PySem.F.plainAttrs_list PySem.F.slot_list_append PySem.F.type_list_append Up (pv 5) (Ja (Uf (Ja (pv 6) (Ja (pv 8) Je))) Je)))
  (Jj (Jv (i:=6) sc_law_drawn.nd rfl (.inl rfl) (Jq (JB (K:=K) rfl) (Jq (JB (K:=K) rfl) (Jq (JB (K:=K) rfl) (pv 6) (pv 8)) Jh) (Jq UF (JA qd (hr.mono (by decide)) rfl (Ja (pv 0) (Ja (Jq (JB (K:=K) rfl) (Jq (JB (K:=K) rfl) (pv 1) Jh) (Jq Wi Jh (pv 7))) Je))) (pv 4))))))))
  (Jj (JP (pv 5)))))),?_⟩
 exact JZ (N:=["script","at","many","begin","reach","found","place","k","length"]) (Jp (Vg (U0 Jk))
  (Jp (JG (Jb 3))
  (Jp (U2 (Jb6 (Jd (Jb 2) Jk)) (Yi 7) (Jp (JG (Jm J0 Jl (Jm Vq (JQ (Jd (Jb 0) (Jd (Jm J0 (Jb 1) (Jm Jag Jl (Jb 7))) Jk))) (Jb 4))))
  (Jp (Jas (Vb (Jd (Jb 6) (Jd (Jb 8) Jk))))
  (JG (Jm J0 (Jm J0 (Jm J0 (Jb 6) (Jb 8)) Jl) (Jm Vq (JQ (Jd (Jb 0) (Jd (Jm J0 (Jm J0 (Jb 1) Jl) (Jm Jag Jl (Jb 7))) Jk))) (Jb 4)))))))
  Wq))) h
theorem sc_law:FnScope ["script","first","begin","many","stretches","high","low","pairs","letters","counts","due","row","handed","found","refused","e","told"] ["script"] (Jg V1):=⟨rfl,rfl,rfl,by decide +kernel,rfl,by decide +kernel,by decide +kernel⟩
theorem Jlj{f:Addr}{fd:FuncData}(F:Fun K "law" "law" V1 f fd)(qi:mg "len"=none)(wG:mg "list"=none)(qt:Cal P w K mg base "_law_same" 1 ["row","stretches"] (spE K C 2 JW))(qv:Cal P w K mg base "thinned" 4 ["row","layers"] (spE K C 2 Yo))(wp:Cal P w K mg base "struck" 5 ["row"] (spE K C 1 Yz))(ww:CalX P w K mg base "put_in" 4 ["row","pairs"] (spX K C 2 JY Ys))(qC:CalH P w K mg base "_law_alone" 1 ["e"] (spE K C 1 J2))(q9:CalM P w K mg base "Row" C 2 ["self","stretches"] (VB C K))(qQ:Cal P w K mg base "_law_told" 1 ["letters","low"] (spE K C 2 Yj))(qD:Cal P w K mg base "_law_filled" 1 ["letters","low","pairs"] (spE K C 3 J7))(qx:Cal P w K mg base "_law_letters" 1 ["stretches","low","high"] (spE K C 3 JV))(qL:Cal P w K mg base "_law_pairs" 2 ["script","low","high"] (spE K C 3 Ya))(qM:Cal P w K mg base "_law_drawn" 2 ["script","at","many","begin","reach"] (spE K C 5 Yn))(qd:Cal P w K mg base "_law_cell" 1 ["script","k"] (spE K C 2 JF))(qj:mg "TooMany"=some (.ref qa))(xG:ExcG K)(xO:OwnL K ["TooMany"] [qa])(wx:ExmL K qa [qa]):FnOk P w K mg base CX0 6 f fd ["script"] (spE K C 1 JcE):=by
 refine F.ok sc_law (fun vs H Q E h=>J6 h) (fun cdv A outer s H vs Q E hr h=>?_);have hu:=hr.units;refine⟨_,(Jf (Jv (i:=1) sc_law.nd rfl (.inl rfl) (JA qd (hr.mono (by decide)) rfl (Ja (pv 0) (Ja Jh Je))))
  (Jf (Jv (i:=2) sc_law.nd rfl (.inl rfl) (Jq Y0 (Jq UF (Jq WK (JA qd (hr.mono (by decide)) rfl (Ja (pv 0) (Ja Jh Je))) Jh) Jh) Jh))
  (Jf (Jv (i:=3) sc_law.nd rfl (.inl rfl) (Jq UF (pv 1) Jh))
  (Jf (YS (JM (U7 (K:=K) rfl hu) (Jq UF (pv 1) Jh) Jh (JO _)) (Jj (Jv (i:=3) sc_law.nd rfl (.inl rfl) (Jq (JB (K:=K) rfl) Jh (Jq UF (Jq WK (pv 1) Jh) Jh)))) Yb)
  (Jf (Jv (i:=4) sc_law.nd rfl (.inl rfl) (JA qM (hr.mono (by decide)) rfl (Ja (pv 0) (Ja Jh (Ja (pv 3) (Ja (pv 2) (Ja (Yw (JL (K:=K) rfl) (Ue (Ja Jh (Ja Jh Je))) (Jq UF (Jq WK (pv 1) Jh) Jh) (fun _ _=>rfl)) Je)))))))
  (Jf (Jv (i:=5) sc_law.nd rfl (.inl rfl) (pv 2))
  (Jf (YS (JM Vr (pv 3) Jh (JO _)) (Jj (Jv (i:=5) sc_law.nd rfl (.inl rfl) (Jq (JB (K:=K) rfl) (Yw (JL (K:=K) rfl) (Yw (JL (K:=K) rfl) (pv 4) (Zm VC Jh) (fun _ _=>rfl)) Jh (fun _ _=>rfl)) (Yw (JL (K:=K) rfl) (Yw (JL (K:=K) rfl) (pv 4) (Zm VC Jh) (fun _ _=>rfl)) Jh (fun _ _=>rfl))))) Yb)
  (Jf (Jv (i:=6) sc_law.nd rfl (.inl rfl) (Jq Y0 (pv 2) Jh))
  (Jf (Jv (i:=7) sc_law.nd rfl (.inl rfl) (JA qL (hr.mono (by decide)) rfl (Ja (pv 0) (Ja (pv 6) (Ja (Jq (JB (K:=K) rfl) (pv 5) Jh) Je)))))
  (Jf (Jc1 (JA qD (hr.mono (by decide)) rfl (Ja (JA qx (hr.mono (by decide)) rfl (Ja (pv 4) (Ja (pv 6) (Ja (Jq (JB (K:=K) rfl) (pv 5) Jh) Je)))) (Ja (pv 6) (Ja (pv 7) Je)))) (Ye (K:=K) (n:=2) rfl rfl (Ju (Jo (i:=8) sc_law.nd rfl (.inl rfl)) (Ju (Jo (i:=9) sc_law.nd rfl (.inl rfl)) Yf)) rfl rfl))
  (Jf (Jv (i:=10) sc_law.nd rfl (.inl rfl) (JA qQ (hr.mono (by decide)) rfl (Ja (pv 8) (Ja (pv 6) Je))))
  (Jf (Jv (i:=11) sc_law.nd rfl (.inl rfl) (VX q9 (hr.mono (by decide)) rfl (Ja (UM (WW (K:=K) rfl) rfl wG Jdn (Ja (pv 4) Je)) Je)))
  (Jf (Jv (i:=12) sc_law.nd rfl (.inl rfl) (UM (WW (K:=K) rfl) rfl wG Jdn (Ja (pv 7) Je)))
  (Jf (Jv (i:=13) sc_law.nd rfl (.inl rfl) Ja0)
  (Jf (Jv (i:=14) sc_law.nd rfl (.inl rfl) VU)
  (Jf (JiX (K:=K) (i:=15) rfl rfl rfl rfl sc_law.nd rfl rfl rfl qj (JgE (JiK (i:=13) sc_law.nd rfl (.inl rfl) (JiY ww (hr.mono (by decide)) rfl (Ja (pv 11) (Ja (pv 12) Je))))) (fun a=>(Jj (Jv (i:=14) sc_law.nd rfl (.inl rfl) (JgF qC ((hr.h.mark _).mono (by decide)) rfl (Ja (pv 15) Je))))))
  (Jf (YS (PW.pt (Zr (JM Vr (Jn (Yg (K:=K) rfl) rfl qi Uv (Ja (pv 10) Je)) Jh (JO _)) (Zs (YT (K:=K) rfl (pv 14) (fun _=>rfl))))) (Jj (JP (Wk (VW Vr (Jn (Yg (K:=K) rfl) rfl qi Uv (Ja (pv 10) Je)) Jh (JO _)) (Ja1 (pv 14))))) Yb)
  (Jf (YS (PW.pt (Zr (Wl (YT (K:=K) rfl (JA qt (hr.mono (by decide)) rfl (Ja (pv 13) (Ja (pv 10) Je))) (fun _=>rfl))) (Zs (JM (Wj (K:=K) rfl hu) (pv 12) (pv 7) (JO _))))) (Jj (JP VU)) Yb)
  (Jf (Jv (i:=16) sc_law.nd rfl (.inl rfl) (JA wp (hr.mono (by decide)) rfl (Ja (pv 13) Je)))
  (Jf (YS (JM (Wj (K:=K) rfl hu) (pv 16) (pv 9) (JO _)) (Jj (JP VU)) Yb)
  (Jf (Y8 (Jd4 (K:=K) rfl PySem.F.plainAttrs_list PySem.F.slot_list_clear PySem.F.type_list_clear Jgv (pv 16)))
  (Jf (YS (JM (Wj (K:=K) rfl hu) (JA wp (hr.mono (by decide)) rfl (Ja (pv 13) Je)) (pv 9) (JO _)) (Jj (JP VU)) Yb)
  (Jj (JP (Wk (JA qt (hr.mono (by decide)) rfl (Ja (JA qv (hr.mono (by decide)) rfl (Ja (pv 13) (Ja Jh Je))) (Ja (pv 4) Je))) (Ja1 (JA qt (hr.mono (by decide)) rfl (Ja (pv 11) (Ja (pv 4) Je))))))))))))))))))))))))))))),?_⟩
 exact JZ (N:=["script","first","begin","many","stretches","high","low","pairs","letters","counts","due","row","handed","found","refused","e","told"]) (Jp (JG (JQ (Jd (Jb 0) (Jd Jl Jk))))
  (Jp (JG (Jm UL (Jm Vq (Jm Jd0 (JQ (Jd (Jb 0) (Jd Jl Jk))) Jl) Jl) Jl))
  (Jp (JG (Jm Vq (Jb 1) Jl))
  (Jp (Vf (Yc (Jm JbT (Jm Vq (Jb 1) Jl) Jl)) (JG (Jm J0 Jl (Jm Vq (Jm Jd0 (Jb 1) Jl) Jl))) YG)
  (Jp (JG (JQ (Jd (Jb 0) (Jd Jl (Jd (Jb 3) (Jd (Jb 2) (Jd (Jm Um (U0 (Jd Jl (Jd Jl Jk))) (Jm Vq (Jm Jd0 (Jb 1) Jl) Jl)) Jk)))))))
  (Jp (JG (Jb 2))
  (Jp (Vf (Yc (Jm Zh (Jb 3) Jl)) (JG (Jm J0 (Jm Um (Jm Um (Jb 4) (Jc5 ZC Jl)) Jl) (Jm Um (Jm Um (Jb 4) (Jc5 ZC Jl)) Jl))) YG)
  (Jp (JG (Jm UL (Jb 2) Jl))
  (Jp (JG (JQ (Jd (Jb 0) (Jd (Jb 6) (Jd (Jm J0 (Jb 5) Jl) Jk)))))
  (Jp (JnC (JQ (Jd (JQ (Jd (Jb 4) (Jd (Jb 6) (Jd (Jm J0 (Jb 5) Jl) Jk)))) (Jd (Jb 6) (Jd (Jb 7) Jk)))) (Ui (JJ (Yi 8) (JJ (Yi 9) Uh)) rfl))
  (Jp (JG (JQ (Jd (Jb 8) (Jd (Jb 6) Jk))))
  (Jp (JG (Jeh (Jd (YV JfF (Jd (Jb 4) Jk)) Jk)))
  (Jp (JG (YV JfF (Jd (Jb 7) Jk)))
  (Jp (JG Jnw)
  (Jp (JG Ja5)
  (Jp (JnG (wx.all xO) (fun W=>(JhE (fun W=>Jjh (Jd (Jb 11) (Jd (Jb 12) Jk))) W)) (Jmy (fun W=>JjL (Jd (Jb 11) (Jd (Jb 12) Jk)))) (JG (JQ (Jd (Jb 15) Jk))))
  (Jp (Vf (Zv (Yc (Jm Zh (YV UZ (Jd (Jb 10) Jk)) Jl)) (Va (Jb 14))) (YC (Jal (Jm Zh (YV UZ (Jd (Jb 10) Jk)) Jl) (Jb 14))) YG)
  (Jp (Vf (Zv (Wn (Va (JQ (Jd (Jb 13) (Jd (Jb 10) Jk))))) (Yc (Jm Jfc (Jb 12) (Jb 7)))) (YC Ja5) YG)
  (Jp (Vg (JQ (Jd (Jb 13) Jk)))
  (Jp (Vf (Yc (Jm Jfc (Jb 16) (Jb 9))) (YC Ja5) YG)
  (Jp JnE
  (Jp (Vf (Yc (Jm Jfc (JQ (Jd (Jb 13) Jk)) (Jb 9))) (YC Ja5) YG)
  (YC (Jal (JQ (Jd (JQ (Jd (Jb 13) (Jd Jl Jk))) (Jd (Jb 4) Jk))) (JQ (Jd (Jb 11) (Jd (Jb 4) Jk))))))))))))))))))))))))))) h
end
theorem vl1{α:Type}{us:List α}(h:us.length=1):∃a,us=[a]:=match us,h with|[a],_=>⟨a,rfl⟩
theorem vl2{α:Type}{us:List α}(h:us.length=2):∃a b,us=[a,b]:=match us,h with|[a,b],_=>⟨a,b,rfl⟩
theorem vl3{α:Type}{us:List α}(h:us.length=3):∃a b c,us=[a,b,c]:=match us,h with|[a,b,c],_=>⟨a,b,c,rfl⟩
theorem vl5{α:Type}{us:List α}(h:us.length=5):∃a b c d e,us=[a,b,c,d,e]:=match us,h with|[a,b,c,d,e],_=>⟨a,b,c,d,e,rfl⟩
theorem all_mk{l:PySem.W.OpenLaw}{w:World}{K:Frag}{h:Heap}{mg:Str->Option Value}{fa:Addr}{C:Addr}{f1:Addr}{od1 an1:Option Addr}{sl1:Array (Option Value)}{oc1 kV1 dc1 pm1 cd1 ct1:Value}{f2:Addr}{od2 an2:Option Addr}{sl2:Array (Option Value)}{oc2 kV2 dc2 pm2 cd2 ct2:Value}{f3:Addr}{od3 an3:Option Addr}{sl3:Array (Option Value)}{oc3 kV3 dc3 pm3 cd3 ct3:Value}{f4:Addr}{od4 an4:Option Addr}{sl4:Array (Option Value)}{oc4 kV4 dc4 pm4 cd4 ct4:Value}{f5:Addr}{od5 an5:Option Addr}{sl5:Array (Option Value)}{oc5 kV5 dc5 pm5 cd5 ct5:Value}{f6:Addr}{od6 an6:Option Addr}{sl6:Array (Option Value)}{oc6 kV6 dc6 pm6 cd6 ct6:Value}{f7:Addr}{od7 an7:Option Addr}{sl7:Array (Option Value)}{oc7 kV7 dc7 pm7 cd7 ct7:Value}{f8:Addr}{od8 an8:Option Addr}{sl8:Array (Option Value)}{oc8 kV8 dc8 pm8 cd8 ct8:Value}{f9:Addr}{od9 an9:Option Addr}{sl9:Array (Option Value)}{oc9 kV9 dc9 pm9 cd9 ct9:Value}{f10:Addr}{od10 an10:Option Addr}{sl10:Array (Option Value)}{oc10 kV10 dc10 pm10 cd10 ct10:Value}{f11:Addr}{od11 an11:Option Addr}{sl11:Array (Option Value)}{oc11 kV11 dc11 pm11 cd11 ct11:Value}{f12:Addr}{od12 an12:Option Addr}{sl12:Array (Option Value)}{oc12 kV12 dc12 pm12 cd12 ct12:Value}{f13:Addr}{od13 an13:Option Addr}{sl13:Array (Option Value)}{oc13 kV13 dc13 pm13 cd13 ct13:Value}{f14:Addr}{od14 an14:Option Addr}{sl14:Array (Option Value)}{oc14 kV14 dc14 pm14 cd14 ct14:Value}{f15:Addr}{od15 an15:Option Addr}{sl15:Array (Option Value)}{oc15 kV15 dc15 pm15 cd15 ct15:Value}{f16:Addr}{od16 an16:Option Addr}{sl16:Array (Option Value)}{oc16 kV16 dc16 pm16 cd16 ct16:Value}{f17:Addr}{od17 an17:Option Addr}{sl17:Array (Option Value)}{oc17 kV17 dc17 pm17 cd17 ct17:Value}{f18:Addr}{od18 an18:Option Addr}{sl18:Array (Option Value)}{oc18 kV18 dc18 pm18 cd18 ct18:Value}{f19:Addr}{od19 an19:Option Addr}{sl19:Array (Option Value)}{oc19 kV19 dc19 pm19 cd19 ct19:Value}{f20:Addr}{od20 an20:Option Addr}{sl20:Array (Option Value)}{oc20 kV20 dc20 pm20 cd20 ct20:Value}{f21:Addr}{od21 an21:Option Addr}{sl21:Array (Option Value)}{oc21 kV21 dc21 pm21 cd21 ct21:Value}{f22:Addr}{od22 an22:Option Addr}{sl22:Array (Option Value)}{oc22 kV22 dc22 pm22 cd22 ct22:Value}{qa:Addr}{qh:Addr}{qy:Addr}{qq:Addr}{qm:Addr}{qk:Addr}{ql:Addr}{qo:Addr}{qr:Addr}{wy:Tok}(X:K.In h)(G:h.Ns mainGlobals mg)(hfa:mg "law"=some (.ref fa))
 (aC:nsIn K mainGlobals "Row"=some (some (.ref C)))
 (a1:nsIn K mainGlobals "_law_same"=some (some (.ref f1)))
 (l1:K.lookup f1=some ⟨oc1,od1,.func (fnOf "_law_same" "_law_same" (JI Y6) (JE Y6) (Jg Y6) .none kV1 dc1 pm1 an1 cd1 ct1),sl1⟩)
 (c1:codeIn K cd1 "_law_same"=true)
 (k1:keepIn K (.ref f1)=true)
 (a2:nsIn K mainGlobals "check_stretches"=some (some (.ref f2)))
 (l2:K.lookup f2=some ⟨oc2,od2,.func (fnOf "check_stretches" "check_stretches" (JI J1) (JE J1) (Jg J1) .none kV2 dc2 pm2 an2 cd2 ct2),sl2⟩)
 (c2:codeIn K cd2 "check_stretches"=true)
 (k2:keepIn K (.ref f2)=true)
 (a3:findIn K (.ref C) "__init__"=some (some (.ref f3)))
 (i3:isFn K (.ref f3)=true)
 (l3:K.lookup f3=some ⟨oc3,od3,.func (fnOf "__init__" "Row.__init__" (JI Y2) (JE Y2) (Jg Y2) .none kV3 dc3 pm3 an3 cd3 ct3),sl3⟩)
 (c3:codeIn K cd3 "Row.__init__"=true)
 (k3:keepIn K (.ref f3)=true)
 (a4:nsIn K mainGlobals "closed_up"=some (some (.ref f4)))
 (l4:K.lookup f4=some ⟨oc4,od4,.func (fnOf "closed_up" "closed_up" (JI YK) (JE YK) (Jg YK) .none kV4 dc4 pm4 an4 cd4 ct4),sl4⟩)
 (c4:codeIn K cd4 "closed_up"=true)
 (k4:keepIn K (.ref f4)=true)
 (a5:nsIn K mainGlobals "by_layers"=some (some (.ref f5)))
 (l5:K.lookup f5=some ⟨oc5,od5,.func (fnOf "by_layers" "by_layers" (JI YJ) (JE YJ) (Jg YJ) .none kV5 dc5 pm5 an5 cd5 ct5),sl5⟩)
 (c5:codeIn K cd5 "by_layers"=true)
 (k5:keepIn K (.ref f5)=true)
 (a6:nsIn K mainGlobals "gaps_of"=some (some (.ref f6)))
 (l6:K.lookup f6=some ⟨oc6,od6,.func (fnOf "gaps_of" "gaps_of" (JI Ur) (JE Ur) (Jg Ur) .none kV6 dc6 pm6 an6 cd6 ct6),sl6⟩)
 (c6:codeIn K cd6 "gaps_of"=true)
 (k6:keepIn K (.ref f6)=true)
 (a7:nsIn K mainGlobals "closes_at"=some (some (.ref f7)))
 (l7:K.lookup f7=some ⟨oc7,od7,.func (fnOf "closes_at" "closes_at" (JI YL) (JE YL) (Jg YL) .none kV7 dc7 pm7 an7 cd7 ct7),sl7⟩)
 (c7:codeIn K cd7 "closes_at"=true)
 (k7:keepIn K (.ref f7)=true)
 (a8:nsIn K mainGlobals "thinned"=some (some (.ref f8)))
 (l8:K.lookup f8=some ⟨oc8,od8,.func (fnOf "thinned" "thinned" (JI Ut) (JE Ut) (Jg Ut) .none kV8 dc8 pm8 an8 cd8 ct8),sl8⟩)
 (c8:codeIn K cd8 "thinned"=true)
 (k8:keepIn K (.ref f8)=true)
 (a9:nsIn K mainGlobals "ball_at"=some (some (.ref f9)))
 (l9:K.lookup f9=some ⟨oc9,od9,.func (fnOf "ball_at" "ball_at" (JI Uq) (JE Uq) (Jg Uq) .none kV9 dc9 pm9 an9 cd9 ct9),sl9⟩)
 (c9:codeIn K cd9 "ball_at"=true)
 (k9:keepIn K (.ref f9)=true)
 (a10:nsIn K mainGlobals "owed_at"=some (some (.ref f10)))
 (l10:K.lookup f10=some ⟨oc10,od10,.func (fnOf "owed_at" "owed_at" (JI Us) (JE Us) (Jg Us) .none kV10 dc10 pm10 an10 cd10 ct10),sl10⟩)
 (c10:codeIn K cd10 "owed_at"=true)
 (k10:keepIn K (.ref f10)=true)
 (a11:nsIn K mainGlobals "struck"=some (some (.ref f11)))
 (l11:K.lookup f11=some ⟨oc11,od11,.func (fnOf "struck" "struck" (JI UQ) (JE UQ) (Jg UQ) .none kV11 dc11 pm11 an11 cd11 ct11),sl11⟩)
 (c11:codeIn K cd11 "struck"=true)
 (k11:keepIn K (.ref f11)=true)
 (a12:nsIn K mainGlobals "balls_below"=some (some (.ref f12)))
 (l12:K.lookup f12=some ⟨oc12,od12,.func (fnOf "balls_below" "balls_below" (JI Yt) (JE Yt) (Jg Yt) .none kV12 dc12 pm12 an12 cd12 ct12),sl12⟩)
 (c12:codeIn K cd12 "balls_below"=true)
 (k12:keepIn K (.ref f12)=true)
 (a13:nsIn K mainGlobals "ended_at"=some (some (.ref f13)))
 (l13:K.lookup f13=some ⟨oc13,od13,.func (fnOf "ended_at" "ended_at" (JI Y4) (JE Y4) (Jg Y4) .none kV13 dc13 pm13 an13 cd13 ct13),sl13⟩)
 (c13:codeIn K cd13 "ended_at"=true)
 (k13:keepIn K (.ref f13)=true)
 (a14:nsIn K mainGlobals "put_in"=some (some (.ref f14)))
 (l14:K.lookup f14=some ⟨oc14,od14,.func (fnOf "put_in" "put_in" (JI UP) (JE UP) (Jg UP) .none kV14 dc14 pm14 an14 cd14 ct14),sl14⟩)
 (c14:codeIn K cd14 "put_in"=true)
 (k14:keepIn K (.ref f14)=true)
 (a15:nsIn K mainGlobals "_law_alone"=some (some (.ref f15)))
 (l15:K.lookup f15=some ⟨oc15,od15,.func (fnOf "_law_alone" "_law_alone" (JI YM) (JE YM) (Jg YM) .none kV15 dc15 pm15 an15 cd15 ct15),sl15⟩)
 (c15:codeIn K cd15 "_law_alone"=true)
 (k15:keepIn K (.ref f15)=true)
 (a16:nsIn K mainGlobals "_law_told"=some (some (.ref f16)))
 (l16:K.lookup f16=some ⟨oc16,od16,.func (fnOf "_law_told" "_law_told" (JI Y7) (JE Y7) (Jg Y7) .none kV16 dc16 pm16 an16 cd16 ct16),sl16⟩)
 (c16:codeIn K cd16 "_law_told"=true)
 (k16:keepIn K (.ref f16)=true)
 (a17:nsIn K mainGlobals "_law_filled"=some (some (.ref f17)))
 (l17:K.lookup f17=some ⟨oc17,od17,.func (fnOf "_law_filled" "_law_filled" (JI YA) (JE YA) (Jg YA) .none kV17 dc17 pm17 an17 cd17 ct17),sl17⟩)
 (c17:codeIn K cd17 "_law_filled"=true)
 (k17:keepIn K (.ref f17)=true)
 (a18:nsIn K mainGlobals "_law_letters"=some (some (.ref f18)))
 (l18:K.lookup f18=some ⟨oc18,od18,.func (fnOf "_law_letters" "_law_letters" (JI Yu) (JE Yu) (Jg Yu) .none kV18 dc18 pm18 an18 cd18 ct18),sl18⟩)
 (c18:codeIn K cd18 "_law_letters"=true)
 (k18:keepIn K (.ref f18)=true)
 (a19:nsIn K mainGlobals "_law_cell"=some (some (.ref f19)))
 (l19:K.lookup f19=some ⟨oc19,od19,.func (fnOf "_law_cell" "_law_cell" (JI Y5) (JE Y5) (Jg Y5) .none kV19 dc19 pm19 an19 cd19 ct19),sl19⟩)
 (c19:codeIn K cd19 "_law_cell"=true)
 (k19:keepIn K (.ref f19)=true)
 (a20:nsIn K mainGlobals "_law_pairs"=some (some (.ref f20)))
 (l20:K.lookup f20=some ⟨oc20,od20,.func (fnOf "_law_pairs" "_law_pairs" (JI YO) (JE YO) (Jg YO) .none kV20 dc20 pm20 an20 cd20 ct20),sl20⟩)
 (c20:codeIn K cd20 "_law_pairs"=true)
 (k20:keepIn K (.ref f20)=true)
 (a21:nsIn K mainGlobals "_law_drawn"=some (some (.ref f21)))
 (l21:K.lookup f21=some ⟨oc21,od21,.func (fnOf "_law_drawn" "_law_drawn" (JI YN) (JE YN) (Jg YN) .none kV21 dc21 pm21 an21 cd21 ct21),sl21⟩)
 (c21:codeIn K cd21 "_law_drawn"=true)
 (k21:keepIn K (.ref f21)=true)
 (a22:nsIn K mainGlobals "law"=some (some (.ref f22)))
 (l22:K.lookup f22=some ⟨oc22,od22,.func (fnOf "law" "law" (JI V1) (JE V1) (Jg V1) .none kV22 dc22 pm22 an22 cd22 ct22),sl22⟩)
 (c22:codeIn K cd22 "law"=true)
 (k22:keepIn K (.ref f22)=true)
 (pg:plainGet K C Str.empty=true)
 (hd:hasDictIn K C=true)
 (po:plainOver K C=true)
 (sa:findIn K (.ref C) "__setattr__"=some (some (.builtin "object.__setattr__")))
 (mk:makesIn K C=true)
 (kc:keepIn K (.ref C)=true)
 (nS:findIn K (.ref C) "stretches"=some none)
 (rk1:findIn K (.ref C) "__class__"=some (some (.builtin "object.__class__")))
 (rk2:specialIn K (.builtin "object.__class__") "__get__"=some (some (.builtin "getset_descriptor.__get__")))
 (rk3:takesIn K (.builtin "object.__class__")=some true)
 (rk4:mroIn K C (.type "object")=some true)
 (n_TooMany:nsIn K mainGlobals "TooMany"=some (some (.ref qa)))
 (n_LumpError:nsIn K mainGlobals "LumpError"=some (some (.ref qh)))
 (n_NoRow:nsIn K mainGlobals "NoRow"=some (some (.ref qy)))
 (n_Unlike:nsIn K mainGlobals "Unlike"=some (some (.ref qq)))
 (n_BadDeed:nsIn K mainGlobals "BadDeed"=some (some (.ref qm)))
 (n_BadTable:nsIn K mainGlobals "BadTable"=some (some (.ref qk)))
 (n_BadSeats:nsIn K mainGlobals "BadSeats"=some (some (.ref ql)))
 (n_BadText:nsIn K mainGlobals "BadText"=some (some (.ref qo)))
 (n_BadRow:nsIn K mainGlobals "BadRow"=some (some (.ref qr)))
 (xo_TooMany:excIn K qa VEm "ValueError.__new__"=true)
 (xga_TooMany:findIn K (.ref qa) "__getattribute__"=some (some (.builtin "BaseException.__getattribute__")))
 (xgn_TooMany:findIn K (.ref qa) "__getattr__"=some none)
 (xmb_TooMany:mroIn K qa (.type "BaseException")=some true)
 (xh_TooMany:hasDictIn K qa=true)
 (xf_TooMany:findIn K (.ref qa) "__class__"=some (some (.builtin "object.__class__")))
 (xm_TooMany:mroIn K qa (.type "object")=some true)
 (xg1:specialIn K (.builtin "object.__class__") "__get__"=some (some (.builtin "getset_descriptor.__get__")))
 (xg2:takesIn K (.builtin "object.__class__")=some true)
 (wP:kitOne K (.ref qa) (.type "ValueError")=some true)
 (qR:kitOne K (.ref qa) (.ref qh)=some true)
 (wH:kitOne K (.type "NoneType") (.ref qh)=some false)
 (wz:kitOne K (.ref qa) (.ref qy)=some false)
 (wZ:kitOne K (.type "NoneType") (.ref qy)=some false)
 (wq:kitOne K (.ref qa) (.ref qq)=some false)
 (wU:kitOne K (.type "NoneType") (.ref qq)=some false)
 (wb:kitOne K (.ref qa) (.ref qm)=some false)
 (wQ:kitOne K (.type "NoneType") (.ref qm)=some false)
 (qY:kitOne K (.ref qa) (.ref qk)=some false)
 (wK:kitOne K (.type "NoneType") (.ref qk)=some false)
 (qZ:kitOne K (.ref qa) (.ref ql)=some false)
 (wL:kitOne K (.type "NoneType") (.ref ql)=some false)
 (wc:kitOne K (.ref qa) (.ref qo)=some false)
 (wR:kitOne K (.type "NoneType") (.ref qo)=some false)
 (we:kitOne K (.ref qa) (.ref qa)=some true)
 (wS:kitOne K (.type "NoneType") (.ref qa)=some false)
 (wt:kitOne K (.ref qa) (.ref qr)=some false)
 (wV:kitOne K (.type "NoneType") (.ref qr)=some false)
 (wf:exmOne K (.ref qa) (.ref qa)=some true)
 (w5:nsIn K mainGlobals "range"=some none)
 (ve:nsIn K mainGlobals "len"=some none)
 (wI:nsIn K mainGlobals "isinstance"=some none)
 (va:nsIn K mainGlobals "bool"=some none)
 (vf:nsIn K mainGlobals "int"=some none)
 (w6:nsIn K mainGlobals "tuple"=some none)
 (vg:nsIn K mainGlobals "sum"=some none)
 (wM:nsIn K mainGlobals "enumerate"=some none)
 (vh:nsIn K mainGlobals "zip"=some none)
 (vi:nsIn K mainGlobals "min"=some none)
 (vj:nsIn K mainGlobals "any"=some none)
 (vk:nsIn K mainGlobals "max"=some none)
 (w4:nsIn K mainGlobals "sorted"=some none)
 (wJ:nsIn K mainGlobals "ValueError"=some none)
 (vc:nsIn K mainGlobals "dict"=some none)
 (vd:nsIn K mainGlobals "list"=some none)
 (wA:nsIn K mainGlobals "MOST_STRETCHES"=some (some (.int 30 wy)))
:∃fd:FuncData,(∀(s:Shared) (v:Value),BindsTo s fd ⟨[v],[]⟩ [("script",v)])/\∀base:Heap,K.In base->base.Ns mainGlobals mg->FnOk l.prog w K mg base CX0 6 fa fd ["script"] (Jei K):=by
 have e:=hfa.symm.trans (mg_of X G a22);cases e
 have T:RowC K C:=⟨⟨pg,hd,po,sa⟩,nS⟩
 have TR:RowK K C:=⟨T,rk1,rk2,rk3,rk4⟩
 have wT:=mg_of X G aC
 have qj:=mg_of X G n_TooMany
 have qz:=mg_of X G n_LumpError
 have wD:=mg_of X G n_NoRow
 have wj:=mg_of X G n_Unlike
 have qT:=mg_of X G n_BadDeed
 have qH:=mg_of X G n_BadTable
 have qJ:=mg_of X G n_BadSeats
 have qV:=mg_of X G n_BadText
 have wm:=mg_of X G n_BadRow
 have qF:AtX K "TooMany" qa:=⟨n_TooMany,xo_TooMany,xga_TooMany,xgn_TooMany,xmb_TooMany,xh_TooMany,xf_TooMany,xm_TooMany⟩
 have xG:ExcG K:=⟨xg1,xg2⟩
 have xO:OwnL K ["TooMany"] [qa]:=JgD qF (JiJ)
 have iV:IsiV K ["TooMany"]:=Jiu xO xG (Jgi wP (Jix))
 have qA:IsiN K ["TooMany"] "LumpError" qh:=Uk xO xG (YQ qR (by decide +kernel) (Ul)) wH
 have wE:IsiN K ["TooMany"] "NoRow" qy:=Uk xO xG (YQ wz (by decide +kernel) (Ul)) wZ
 have wk:IsiN K ["TooMany"] "Unlike" qq:=Uk xO xG (YQ wq (by decide +kernel) (Ul)) wU
 have qU:IsiN K ["TooMany"] "BadDeed" qm:=Uk xO xG (YQ wb (by decide +kernel) (Ul)) wQ
 have qI:IsiN K ["TooMany"] "BadTable" qk:=Uk xO xG (YQ qY (by decide +kernel) (Ul)) wK
 have qK:IsiN K ["TooMany"] "BadSeats" ql:=Uk xO xG (YQ qZ (by decide +kernel) (Ul)) wL
 have qW:IsiN K ["TooMany"] "BadText" qo:=Uk xO xG (YQ wc (by decide +kernel) (Ul)) wR
 have qX:IsiN K ["TooMany"] "TooMany" qa:=Uk xO xG (YQ we (by decide +kernel) (Ul)) wS
 have wn:IsiN K ["TooMany"] "BadRow" qr:=Uk xO xG (YQ wt (by decide +kernel) (Ul)) wV
 have wx:ExmL K qa [qa]:=JfZ wf (Jh5)
 have qe:=mg_none_of X G w5
 have qi:=mg_none_of X G ve
 have qb:=mg_none_of X G wI
 have wN:=mg_none_of X G va
 have wF:=mg_none_of X G vf
 have qG:=mg_none_of X G w6
 have qw:=mg_none_of X G vg
 have qg:=mg_none_of X G wM
 have wW:=mg_none_of X G vh
 have wg:=mg_none_of X G vi
 have wX:=mg_none_of X G vj
 have wY:=mg_none_of X G vk
 have qE:=mg_none_of X G w4
 have qu:=mg_none_of X G wJ
 have wO:=mg_none_of X G vc
 have wG:=mg_none_of X G vd
 have qf:GV mg "MOST_STRETCHES" (.int 30):=⟨_,mg_of X G wA,⟨_,rfl⟩⟩
 have F1:=J8 (st:=Y6) l1 c1 k1
 have B1:=F1.binds (ps:=["row","stretches"]) fun _ _ _ _ _ _ us hl=>by obtain⟨_,_,rfl⟩:=vl2 hl;rfl
 have F2:=J8 (st:=J1) l2 c2 k2
 have B2:=F2.binds (ps:=["stretches"]) fun _ _ _ _ _ _ us hl=>by obtain⟨_,rfl⟩:=vl1 hl;rfl
 have F3:=J8 (st:=Y2) l3 c3 k3
 have B3:=F3.binds (ps:=["self","stretches"]) fun _ _ _ _ _ _ us hl=>by obtain⟨_,_,rfl⟩:=vl2 hl;rfl
 have F4:=J8 (st:=YK) l4 c4 k4
 have B4:=F4.binds (ps:=["pairs"]) fun _ _ _ _ _ _ us hl=>by obtain⟨_,rfl⟩:=vl1 hl;rfl
 have F5:=J8 (st:=YJ) l5 c5 k5
 have B5:=F5.binds (ps:=["row","layers"]) fun _ _ _ _ _ _ us hl=>by obtain⟨_,_,rfl⟩:=vl2 hl;rfl
 have F6:=J8 (st:=Ur) l6 c6 k6
 have B6:=F6.binds (ps:=["row"]) fun _ _ _ _ _ _ us hl=>by obtain⟨_,rfl⟩:=vl1 hl;rfl
 have F7:=J8 (st:=YL) l7 c7 k7
 have B7:=F7.binds (ps:=["row"]) fun _ _ _ _ _ _ us hl=>by obtain⟨_,rfl⟩:=vl1 hl;rfl
 have F8:=J8 (st:=Ut) l8 c8 k8
 have B8:=F8.binds (ps:=["row","layers"]) fun _ _ _ _ _ _ us hl=>by obtain⟨_,_,rfl⟩:=vl2 hl;rfl
 have F9:=J8 (st:=Uq) l9 c9 k9
 have B9:=F9.binds (ps:=["row","place"]) fun _ _ _ _ _ _ us hl=>by obtain⟨_,_,rfl⟩:=vl2 hl;rfl
 have F10:=J8 (st:=Us) l10 c10 k10
 have B10:=F10.binds (ps:=["left","spot"]) fun _ _ _ _ _ _ us hl=>by obtain⟨_,_,rfl⟩:=vl2 hl;rfl
 have F11:=J8 (st:=UQ) l11 c11 k11
 have B11:=F11.binds (ps:=["row"]) fun _ _ _ _ _ _ us hl=>by obtain⟨_,rfl⟩:=vl1 hl;rfl
 have F12:=J8 (st:=Yt) l12 c12 k12
 have B12:=F12.binds (ps:=["row","place"]) fun _ _ _ _ _ _ us hl=>by obtain⟨_,_,rfl⟩:=vl2 hl;rfl
 have F13:=J8 (st:=Y4) l13 c13 k13
 have B13:=F13.binds (ps:=["row","spots"]) fun _ _ _ _ _ _ us hl=>by obtain⟨_,_,rfl⟩:=vl2 hl;rfl
 have F14:=J8 (st:=UP) l14 c14 k14
 have B14:=F14.binds (ps:=["row","pairs"]) fun _ _ _ _ _ _ us hl=>by obtain⟨_,_,rfl⟩:=vl2 hl;rfl
 have F15:=J8 (st:=YM) l15 c15 k15
 have B15:=F15.binds (ps:=["e"]) fun _ _ _ _ _ _ us hl=>by obtain⟨_,rfl⟩:=vl1 hl;rfl
 have F16:=J8 (st:=Y7) l16 c16 k16
 have B16:=F16.binds (ps:=["letters","low"]) fun _ _ _ _ _ _ us hl=>by obtain⟨_,_,rfl⟩:=vl2 hl;rfl
 have F17:=J8 (st:=YA) l17 c17 k17
 have B17:=F17.binds (ps:=["letters","low","pairs"]) fun _ _ _ _ _ _ us hl=>by obtain⟨_,_,_,rfl⟩:=vl3 hl;rfl
 have F18:=J8 (st:=Yu) l18 c18 k18
 have B18:=F18.binds (ps:=["stretches","low","high"]) fun _ _ _ _ _ _ us hl=>by obtain⟨_,_,_,rfl⟩:=vl3 hl;rfl
 have F19:=J8 (st:=Y5) l19 c19 k19
 have B19:=F19.binds (ps:=["script","k"]) fun _ _ _ _ _ _ us hl=>by obtain⟨_,_,rfl⟩:=vl2 hl;rfl
 have F20:=J8 (st:=YO) l20 c20 k20
 have B20:=F20.binds (ps:=["script","low","high"]) fun _ _ _ _ _ _ us hl=>by obtain⟨_,_,_,rfl⟩:=vl3 hl;rfl
 have F21:=J8 (st:=YN) l21 c21 k21
 have B21:=F21.binds (ps:=["script","at","many","begin","reach"]) fun _ _ _ _ _ _ us hl=>by obtain⟨_,_,_,_,_,rfl⟩:=vl5 hl;rfl
 have F22:=J8 (st:=V1) l22 c22 k22
 have B22:=F22.binds (ps:=["script"]) fun _ _ _ _ _ _ us hl=>by obtain⟨_,rfl⟩:=vl1 hl;rfl
 refine⟨fnOf "law" "law" (JI V1) (JE V1) (Jg V1) .none kV22 dc22 pm22 an22 cd22 ct22,fun s v=>.of_eq rfl,fun base _ _=>?_⟩;have qt:Cal l.prog w K mg base "_law_same" 1 ["row","stretches"] (spE K C 2 JW):=⟨f1,_,JbX (C:=C) F1 qe qi qb wN wF qG wT TR T,mg_of X G a1,k1,B1⟩
 have qp:Cal l.prog w K mg base "check_stretches" 1 ["stretches"] (WO K):=⟨f2,_,VA F2 ,mg_of X G a2,k2,B2⟩
 have q9:CalM l.prog w K mg base "Row" C 2 ["self","stretches"] (VB C K):=⟨f3,_,⟨mk,a3,i3,kc⟩,JbU F3 qG qi qf qp T,wT,B3⟩
 have qN:Cal l.prog w K mg base "closed_up" 1 ["pairs"] (spE K C 1 Yl):=⟨f4,_,JaV (C:=C) F4 qw,mg_of X G a4,k4,B4⟩
 have qO:Cal l.prog w K mg base "by_layers" 1 ["row","layers"] (spE K C 2 Yk):=⟨f5,_,JaU (C:=C) F5 qg T,mg_of X G a5,k5,B5⟩
 have wu:Cal l.prog w K mg base "gaps_of" 1 ["row"] (spE K C 1 YW):=⟨f6,_,JcW (C:=C) F6 qw wW T,mg_of X G a6,k6,B6⟩
 have qP:Cal l.prog w K mg base "closes_at" 2 ["row"] (spE K C 1 Ym):=⟨f7,_,JaW (C:=C) F7 wg wu T,mg_of X G a7,k7,B7⟩
 have qv:Cal l.prog w K mg base "thinned" 4 ["row","layers"] (spE K C 2 Yo):=⟨f8,_,JcY (C:=C) F8 wg q9 qN qO qP T,mg_of X G a8,k8,B8⟩
 have qS:Cal l.prog w K mg base "ball_at" 1 ["row","place"] (spE K C 2 YF):=⟨f9,_,JcV (C:=C) F9 wX T,mg_of X G a9,k9,B9⟩
 have wv:Cal l.prog w K mg base "owed_at" 2 ["left","spot"] (spE K C 2 YX):=⟨f10,_,JcX (C:=C) F10 qS,mg_of X G a10,k10,B10⟩
 have wp:Cal l.prog w K mg base "struck" 5 ["row"] (spE K C 1 Yz):=⟨f11,_,Jff (C:=C) F11 qg qw wv qv T,mg_of X G a11,k11,B11⟩
 have qB:Cal l.prog w K mg base "balls_below" 1 ["row","place"] (spE K C 2 Yh):=⟨f12,_,Zj (C:=C) F12 qw wY wg T,mg_of X G a12,k12,B12⟩
 have wa:Cal l.prog w K mg base "ended_at" 2 ["row","spots"] (spE K C 2 YH):=⟨f13,_,JbV (C:=C) F13 qg qB,mg_of X G a13,k13,B13⟩
 have ww:CalX l.prog w K mg base "put_in" 4 ["row","pairs"] (spX K C 2 JY Ys):=⟨f14,_,Jfe (C:=C) F14 qE qi qw qf q9 wa T qj qF,mg_of X G a14,k14,B14⟩
 have qC:CalH l.prog w K mg base "_law_alone" 1 ["e"] (spE K C 1 J2):=⟨f15,_,VS (C:=C) F15 qb qu xG xO iV qz qA wD wE wj wk qT qU qH qI qJ qK qV qW qj qX wm wn,mg_of X G a15,k15,B15⟩
 have w9:Cal l.prog w K mg base "_law_alone" 1 ["e"] (spE K C 1 J2):=⟨f15,_,(VS (C:=C) F15 qb qu xG xO iV qz qA wD wE wj wk qT qU qH qI qJ qK qV qW qj qX wm wn).ok,mg_of X G a15,k15,B15⟩
 have qQ:Cal l.prog w K mg base "_law_told" 1 ["letters","low"] (spE K C 2 Yj):=⟨f16,_,JbY (C:=C) F16 qe qi,mg_of X G a16,k16,B16⟩
 have qD:Cal l.prog w K mg base "_law_filled" 1 ["letters","low","pairs"] (spE K C 3 J7):=⟨f17,_,ZJ (C:=C) F17 qe qi wF wO,mg_of X G a17,k17,B17⟩
 have qx:Cal l.prog w K mg base "_law_letters" 1 ["stretches","low","high"] (spE K C 3 JV):=⟨f18,_,Zk (C:=C) F18 qe,mg_of X G a18,k18,B18⟩
 have qd:Cal l.prog w K mg base "_law_cell" 1 ["script","k"] (spE K C 2 JF):=⟨f19,_,JbW (C:=C) F19 qi,mg_of X G a19,k19,B19⟩
 have qL:Cal l.prog w K mg base "_law_pairs" 2 ["script","low","high"] (spE K C 3 Ya):=⟨f20,_,JaY (C:=C) F20 qE qe qd,mg_of X G a20,k20,B20⟩
 have qM:Cal l.prog w K mg base "_law_drawn" 2 ["script","at","many","begin","reach"] (spE K C 5 Yn):=⟨f21,_,JaX (C:=C) F21 qe qd,mg_of X G a21,k21,B21⟩
 exact Jiy (Jlj (C:=C) F22 qi wG qt qv wp ww qC q9 qQ qD qx qL qM qd qj xG xO wx) law_true
theorem walk{l:PySem.W.OpenLaw}{q:Program}{loose:List Str}{XP:(Str->Option Value)->Heap->Prop}{YP:World->Heap->Prop}{d:DefRec}{K:Params->Frag}(hn:l.most=some 63)(hdf:d.params.defaults=[])
 (hY:∀(w:World) (h:Heap),YP w h->(K w.params).In h)
 (F:∀(w:World) (mg:Str->Option Value) (fa:Addr) (h:Heap),(K w.params).In h->h.Ns mainGlobals mg->mg d.name=some (.ref fa) ->
  ∃fd:FuncData,(∀(s:Shared) (u:Value),BindsTo s fd ⟨[u],[]⟩ [("script",u)])/\∀base:Heap,(K w.params).In base->base.Ns mainGlobals mg->FnOk l.prog w (K w.params) mg base CX0 6 fa fd ["script"] (Jei (K w.params))) :
 PySem.W.WalkO q loose XP YP l.row.toRowW d [] (fun f vs=>PySem.call f vs) :=
 L2.JjG (n:=63) (k:=6) (x:="script") (CX:=fun _=>CX0) (sp:=fun w=>Jei (K w.params)) hn (by decide) hdf ⟨rfl,by decide,by decide⟩ hY F (fun _ _ a ns hl _ hS=>⟨a,ns,rfl,hS,hl,fun _=>rfl⟩) fun _ _ _ _ _ z=>z
end LK
end
theorem PySem.W.Fast.tw14612701388475776494:True:=trivial
theorem PySem.W.Fast.tw12422095424308555425:True:=trivial
theorem PySem.W.Fast.tw17785788037669622020:True:=trivial
theorem PySem.W.Fast.tw4529207737597810030:True:=trivial
theorem PySem.W.Fast.tw16588485705568583516:True:=trivial
theorem PySem.W.Fast.tw18438094143909280078:True:=trivial
theorem PySem.W.Fast.tw16891878114798502794:True:=trivial
theorem PySem.W.Fast.tw10038805865137834012:True:=trivial
theorem PySem.W.Fast.tw5752794421640709581:True:=trivial
theorem PySem.W.Fast.tw6906994415825071884:True:=trivial
theorem PySem.W.Fast.tw18063661219074303548:True:=trivial
theorem PySem.W.Fast.tw17999570248130446531:True:=trivial
theorem PySem.W.Fast.tw5415846240334291404:True:=trivial
theorem PySem.W.Fast.tw11492777867342694164:True:=trivial
theorem PySem.W.Fast.tw4944150210501222098:True:=trivial
theorem PySem.W.Fast.tw12515538843648890685:True:=trivial
theorem PySem.W.Fast.tw9179020921048933649:True:=trivial
theorem PySem.W.Fast.tw11654072901905128959:True:=trivial
theorem PySem.W.Fast.tw10237840051136212597:True:=trivial
theorem PySem.W.Fast.tw12700638575319466752:True:=trivial
theorem PySem.W.Fast.tw6319637219028327826:True:=trivial
theorem PySem.W.Fast.tw4423002297331144401:True:=trivial
theorem PySem.W.Fast.tw1870995241535383136:True:=trivial
theorem PySem.W.Fast.tw6410168066847379434:True:=trivial
theorem PySem.W.Fast.tw4698491897177478264:True:=trivial
theorem PySem.W.Fast.tw6957577900857958081:True:=trivial
theorem PySem.W.Fast.tw14874241057261733661:True:=trivial
theorem PySem.W.Fast.tw11783032085592943506:True:=trivial
theorem PySem.W.Fast.tw17884345289897800882:True:=trivial
theorem PySem.W.Fast.tw18362504804887879061:True:=trivial
theorem PySem.W.Fast.tw11113700229443810765:True:=trivial
theorem PySem.W.Fast.tw2587491715588328478:True:=trivial
theorem PySem.W.Fast.tw3211448668378298292:True:=trivial
theorem PySem.W.Fast.tw10499257764551256815:True:=trivial
theorem PySem.W.Fast.tw8569563226451817821:True:=trivial
theorem PySem.W.Fast.tw18209964246143647537:True:=trivial
theorem PySem.W.Fast.tw13244898807246345736:True:=trivial
theorem PySem.W.Fast.tw6706242054289169729:True:=trivial
theorem PySem.W.Fast.tw1195734761455760199:True:=trivial
theorem PySem.W.Fast.tw15236080371111214223:True:=trivial
theorem PySem.W.Fast.tw13432598503307396620:True:=trivial
theorem PySem.W.Fast.tw15147447613330759293:True:=trivial
theorem PySem.W.Fast.tw7415163337220684992:True:=trivial
theorem PySem.W.Fast.tw10709215277190104141:True:=trivial
theorem PySem.W.Fast.tw9166372724164606267:True:=trivial
theorem PySem.W.Fast.tw17333234032018980611:True:=trivial
theorem PySem.W.Fast.tw17199634977277841818:True:=trivial
theorem PySem.W.Fast.tw522414515367463065:True:=trivial
theorem PySem.W.Fast.tw4420988261165436021:True:=trivial
theorem PySem.W.Fast.tw601539515036088006:True:=trivial
theorem PySem.W.Fast.tw3292007491818358254:True:=trivial
theorem PySem.W.Fast.tw7250040810025195096:True:=trivial
theorem PySem.W.Fast.tw15676706825919383416:True:=trivial
theorem PySem.W.Fast.tw6755399645087163500:True:=trivial
theorem PySem.W.Fast.tw17487002705407983083:True:=trivial
theorem PySem.W.Fast.tw3585046870132497958:True:=trivial
theorem PySem.W.Fast.tw14727997434037501470:True:=trivial
theorem PySem.W.Fast.tw2568321421851990815:True:=trivial
theorem PySem.W.Fast.tw7127940361649555989:True:=trivial
theorem PySem.W.Fast.tw15620023890146585828:True:=trivial
theorem PySem.W.Fast.tw5724323179618178417:True:=trivial
theorem PySem.W.Fast.tw18001098490189065851:True:=trivial
theorem PySem.W.Fast.tw4172098471410807155:True:=trivial
theorem PySem.W.Fast.tw5519599842680124428:True:=trivial
theorem PySem.W.Fast.tw15718940399731569656:True:=trivial
theorem PySem.W.Fast.tw16471647842410267986:True:=trivial
theorem PySem.W.Fast.tw17302855722715794446:True:=trivial
theorem PySem.W.Fast.tw11631876097391203326:True:=trivial
theorem PySem.W.Fast.tw772445671002013324:True:=trivial
theorem PySem.W.Fast.tw8321793297543777234:True:=trivial
open PySem PySem.W PyProof.Rows
set_option maxRecDepth 100000 in
set_option maxHeartbeats 0 in
theorem PySem.Challenge.cw_lumprow_k28_whole_put_in_and_struck_holds : PySem.Challenge.rw_lumprow_k28_whole_put_in_and_struck.Holds := by
 w_on; o_law; k_head; (case hw => w_witness2)
 k_fill
 refine LK.walk (l := PySem.Challenge.rw_lumprow_k28_whole_put_in_and_struck) rfl rfl (fun w h Y => PySem.W.kIn_of Y) ?F
 case F =>
  intro w mg fa h KX G hmg; apply LK.all_mk KX G hmg; all_goals first | k_is | k_exc | kit_is | kts_exm
