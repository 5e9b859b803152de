import PyProof.Rows.All
import Wide.All
import OpenK.AllK
import Wide.FinOn
import Lean
import PyProof.EqAt
import PyProof.EqKinds
import PyProof.TupleCall
import PySem.Challenge.RW_lumprow_k49_far_rows_move_on
set_option Elab.async false
set_option linter.all false
set_option maxRecDepth 100000
set_option maxHeartbeats 4000000
open PySem.W (instObj methodObj Frag lookIn plainGet hasDictIn findIn plainOver takerIn makesIn emptyDict specialIn isFn keepIn takesIn mroIn fnOf codeIn nsIn kitOne kitAny mg_of mg_none_of)
noncomputable section
namespace L2
open PySem PySem.Spec PyProof.Rows

noncomputable abbrev Key:=Sum Int Str
noncomputable def WO:Key->Value->Bool
 | .inl k,v=>Value.isInt k v
 | .inr x,v=>Value.isStrOf x v
noncomputable def JnK(w:World):Key->Int
 | .inl k=>hashInt k
 | .inr x=>hashStr w x
theorem JR:∀{k:Key} {v:Value},WO k v=true->(∃i t,k=Sum.inl i/\v=Value.int i t)\/(∃x t,k=Sum.inr x/\v=Value.str x t)
 | .inl i,v,h=>by obtain⟨t,e⟩:=Value.isInt_shape (k:=i) (v:=v) h;exact .inl ⟨i,t,rfl,e⟩
 | .inr x,v,h=>by obtain⟨t,e⟩:=Value.isStrOf_shape (x:=x) (v:=v) h;exact .inr ⟨x,t,rfl,e⟩
theorem Je7(i:Int)(t:Tok):WO (.inl i) (.int i t)=true:=by simp[WO,Value.isInt]
theorem Je8(x:Str)(t:Tok):WO (.inr x) (.str x t)=true:=by simp[WO,Value.isStrOf]
theorem JkW(a b:Int):decide ((Sum.inl a:Key)=Sum.inl b)=(a == b):=by
 by_cases e:a=b
 ·subst e;simp
 ·have h:¬(Sum.inl a:Key)=Sum.inl b:=fun q=>e (Sum.inl.inj q)
  rw[decide_eq_false h];exact(beq_eq_false_iff_ne.mpr e).symm
theorem JkZ(a b:Str):decide ((Sum.inr a:Key)=Sum.inr b)=decide (a=b):=by
 by_cases e:a=b
 ·subst e;simp
 ·have h:¬(Sum.inr a:Key)=Sum.inr b:=fun q=>e (Sum.inr.inj q)
  rw[decide_eq_false h,decide_eq_false e]
theorem JkX(a:Int)(b:Str):decide ((Sum.inl a:Key)=Sum.inr b)=false:=decide_eq_false (fun q=>nomatch q)
theorem JkY(a:Str)(b:Int):decide ((Sum.inr a:Key)=Sum.inl b)=false:=decide_eq_false (fun q=>nomatch q)

noncomputable def JA(prog:Program)(w:World):PySem.KeyKind prog w Key where
 is:=WO
 hash:=JnK w
 inj:=fun v a b ha hb=>by
  rcases JR ha with ⟨i,t,rfl,rfl⟩|⟨x,t,rfl,rfl⟩
  ·rcases JR hb with ⟨j,u,rfl,e⟩|⟨y,u,rfl,e⟩
   ·injection e with e1 _;rw[e1]
   ·exact nomatch e
  ·rcases JR hb with ⟨j,u,rfl,e⟩|⟨y,u,rfl,e⟩
   ·exact nomatch e
   ·injection e with e1 _;rw[e1]
 byValue:=fun k v h=>by rcases JR h with ⟨i,t,rfl,rfl⟩|⟨x,t,rfl,rfl⟩ <;> rfl
 pyHash:=fun hv h=>by
  rcases JR hv with ⟨i,t,rfl,rfl⟩|⟨x,t,rfl,rfl⟩
  ·exact wpAny_pyHash_int h
  ·exact wpAny_pyHash_str h
 eqBool:=fun hu hv h=>by
  rcases JR hu with ⟨i,t,rfl,rfl⟩|⟨x,t,rfl,rfl⟩
  ·rcases JR hv with ⟨j,u,rfl,rfl⟩|⟨y,u,rfl,rfl⟩
   ·rw[JkW] at h;exact wpAny_eqBool_int h
   ·rw[JkX] at h;exact SeqAt.EqAt.int_str i t y u _ _ _ _ h
  ·rcases JR hv with ⟨j,u,rfl,rfl⟩|⟨y,u,rfl,rfl⟩
   ·rw[JkY] at h;exact SeqAt.EqAt.str_int x t j u _ _ _ _ h
   ·rw[JkZ] at h;exact wpAny_eqBool_str h
 «strs»:=fun k x t v h=>by
  rcases JR h with ⟨i,u,rfl,e⟩|⟨y,u,rfl,e⟩
  ·exact nomatch e
  ·injection e with e1 _
   subst e1;cases v <;> rfl

theorem Jbm(prog:Program)(w:World)(i:Int)(t:Tok):(JA prog w).is (.inl i) (.int i t)=true:=Je7 i t
theorem Jbn(prog:Program)(w:World)(x:Str)(t:Tok):(JA prog w).is (.inr x) (.str x t)=true:=Je8 x t
end L2

namespace L2
open PySem PySem.Spec PyProof.Rows

inductive V where
 | non|bl (b:Bool)|int (i:Int)|str (x:Str)|byt (b:Array UInt8)|flt (b:UInt64)|ref (a:Addr)|ty (n:String)
 deriving DecidableEq

noncomputable def RelV:V->Value->Prop
 | .non,u=>u=Value.none
 | .bl b,u=>u=Value.bool b
 | .int i,u=>∃t,u=Value.int i t
 | .str x,u=>∃t,u=Value.str x t
 | .byt b,u=>∃t,u=Value.bytes b t
 | .flt b,u=>∃t,u=Value.float b t
 | .ref a,u=>u=Value.ref a
 | .ty n,u=>u=Value.type n

noncomputable abbrev Vals:List V->List Value->Prop:=Paired RelV
theorem Vals.length{xs:List V}{us:List Value}(r:Vals xs us):xs.length=us.length:=Paired.length r
theorem Vals.get:∀{xs:List V} {us:List Value} {i:Nat} {x:V},Vals xs us->xs[i]?=some x->∃u,us[i]?=some u/\RelV x u
 | _,_,_,_,.nil,e=>by simp at e
 | _,_,0,_,.cons r _,e=>by simp at e;subst e;exact⟨_,rfl,r⟩
 | _,_,i+1,x,.cons _ t,e=>by obtain⟨u,h1,h2⟩:=Vals.get (i:=i) (x:=x) t (by simpa using e);exact⟨u,by simpa using h1,h2⟩
theorem Vals.set{x:V}{u:Value}(r:RelV x u):∀{xs:List V} {us:List Value} (i:Nat),Vals xs us->Vals (xs.set i x) (us.set i u)
 | _,_,_,.nil=>.nil
 | _,_,0,.cons _ t=>.cons r t
 | _,_,i+1,.cons q t=>.cons q (Vals.set r i t)
theorem Vals.append:∀{xs ys:List V} {us ws:List Value},Vals xs us->Vals ys ws->Vals (xs++ys) (us++ws)
 | _,_,_,_,.nil,s=>s
 | _,_,_,_,.cons r t,s=>.cons r (Vals.append t s)
theorem Vals.take:∀{xs:List V} {us:List Value} (n:Nat),Vals xs us->Vals (xs.take n) (us.take n)
 | _,_,0,_=>.nil
 | _,_,_+1,.nil=>.nil
 | _,_,n+1,.cons r t=>.cons r (Vals.take n t)
theorem Vals.drop:∀{xs:List V} {us:List Value} (n:Nat),Vals xs us->Vals (xs.drop n) (us.drop n)
 | _,_,0,r=>r
 | _,_,_+1,.nil=>.nil
 | _,_,n+1,.cons _ t=>Vals.drop n t
noncomputable def RelO:Option V->Option Value->Prop
 | some v,some u=>RelV v u
 | none,none=>True
 | _,_=>False
noncomputable def KV{κ:Type}:List (κ×V)->List (κ×Value)->Prop:=Paired fun(p:κ×V) (q:κ×Value)=>p.1=q.1/\RelV p.2 q.2

noncomputable def kV:Key->V
 | .inl i=>.int i
 | .inr x=>.str x

inductive HO where
 | lst (xs:List V)
 | tup (xs:List V)
 | dK (kvs:List (Key×V))|dT (kvs:List (List Key×V))
 | set (S:Int->Bool) (n:Nat)
 | ins (C dx:Addr) (fs:List (Str×V))
 | own (x:Addr)
 | xd (fs:List (Str×V))
 | met (f x:Addr)
 | rng (lo hi:Int)
 | frz (o:Obj) (u:HO)
 | tbl (ps:Array Value)
 | ext (φ:Heap->Prop)

noncomputable abbrev Hp:=Addr->Option HO
noncomputable def upd(H:Hp)(a:Addr)(o:HO):Hp:=fun b=>if b=a then some o else H b
theorem Jo{H:Hp}{a:Addr}{o:HO}:upd H a o a=some o:=by unfold upd;rw[if_pos rfl]
theorem Jh{H:Hp}{a b:Addr}{o:HO}(h:b≠a):upd H a o b=H b:=by unfold upd;rw[if_neg h]
theorem ZD{H:Hp}{a b:Addr}{o u:HO}(h:H a=some o)(h':H b=some u)(d:o≠u):a≠b:=by intro e;subst e;rw[h] at h';exact d (Option.some.inj h')
theorem Js{H:Hp}{a b:Addr}{o:HO}(h:H a=some o)(h':H b=none):a≠b:=by intro e;subst e;rw[h] at h';cases h'

section
variable(P:Program)(w:World)
noncomputable def ObjOk(H:Hp)(h:Heap)(a:Addr):HO->Prop
 | .lst xs=>xs.length<=sizeLine/\∃(its:List Value) (n:Nat),Vals xs its/\h.get? a=some { cls:=.type "list",data:=.seq its.toArray n }
 | .tup xs=>xs.length<=sizeLine/\∃its:List Value,Vals xs its/\IsTup h a its.toArray
 | .dK kvs=>kvs.length<=sizeLine/\(a == sysModules)=false/\∃vs,KV kvs vs/\h.DictOf (JA P w) a vs
 | .dT kvs=>kvs.length<=sizeLine/\(a == sysModules)=false/\∃xs:List (List Key×Addr×Value),
  Paired (fun(p:List Key×V) (q:List Key×Addr×Value)=>p.1=q.1/\H q.2.1=some (.tup (p.1.map kV))/\RelV p.2 q.2.2) kvs xs ∧
  ∃o es ep,h.get? a=some o/\o.ExactDict/\o.data=.dict es ep/\es.toList=xs.map (entryOfKey (tupleKind (JA P w)))/\(xs.map (·.1)).Nodup
 | .set S n=>h.SetOf (intKind P w) a S n
 | .ins C dx fs=>H dx=some (.own a)/\fs.length<=1000/\dx≠a/\h.get? a=some (instObj C dx) ∧
  ∃mA,h.Ns1 dx mA/\(∀f,RelO (fs.lookup f) (mA f))/\PySem.Within mA (fs.map (·.1))
 | .own _=>∃o,h.get? a=some o
 | .xd fs=>∃mA,h.Ns1 a mA/\∀f,RelO (fs.lookup f) (mA f)
 | .rng lo hi=>∃t u v,h.get? a=some { cls:=.type "range",data:=.fields #[.int lo t,.int hi u,.int 1 v] }
 | .frz o u=>h.get? a=some o/\ObjOk H h a u
 | .tbl ps=>h.get? a=some { cls:=.none,data:=.fields ps }
 | .met f x=>h.get? a=some (methodObj (.ref f) (.ref x))
 | .ext φ=>φ h/\(∃o,h.get? a=some o)/\∀h1 h2:Heap,φ h1->(∀o,h1.get? a=some o->h2.get? a=some o)->φ h2
noncomputable def HOk(H:Hp)(h:Heap):Prop:=∀a o,H a=some o->ObjOk P w H h a o
end

section
variable{P:Program}{w:World}{H H':Hp}{h h':Heap}{a:Addr}{o:HO}
theorem ObjOk.lt(x:ObjOk P w H h a o):a<h.objs.size:=by
 cases o with
 | lst xs=>obtain⟨_,_,_,_,e⟩:=x;exact Heap.lt_size e
 | tup xs=>obtain⟨_,_,_,p⟩:=x;exact p.lt
 | dK kvs=>obtain⟨_,_,_,_,o,_,_,e,_⟩:=x;exact Heap.lt_size e
 | dT kvs=>obtain⟨_,_,_,_,o,_,_,e,_⟩:=x;exact Heap.lt_size e
 | set S n=>obtain⟨o,_,_,_,e,_⟩:=x;exact Heap.lt_size e
 | ins C dx fs=>obtain⟨_,_,_,e,_⟩:=x;exact Heap.lt_size e
 | own y=>obtain⟨_,e⟩:=x;exact Heap.lt_size e
 | xd fs=>obtain⟨_,⟨_,_,_,e,_⟩,_⟩:=x;exact Heap.lt_size e
 | rng lo hi=>obtain⟨_,_,_,e⟩:=x;exact Heap.lt_size e
 | frz ob u=>obtain⟨e,_⟩:=x;exact Heap.lt_size e
 | tbl ps=>exact Heap.lt_size (show h.get? a=some _ from x)
 | met f y=>exact Heap.lt_size (show h.get? a=some _ from x)
 | ext φ=>obtain⟨_,⟨_,e⟩,_⟩:=x;exact Heap.lt_size e
theorem Paired.mapP{α β:Type}{F G:α->β->Prop}:∀{l₁:List α} {l₂:List β},Paired F l₁ l₂->(∀a b,F a b->G a b)->Paired G l₁ l₂
 | _,_,.nil,_=>.nil
 | _,_,.cons r t,f=>.cons (f _ _ r) (Paired.mapP t f)
theorem ObjOk.stay(x:ObjOk P w H h a o)(k:∀b u,(b=a\/H b=some (.own a))->h.get? b=some u->h'.get? b=some u)
 (ho:∀b,H b=some (.own a)->H' b=some (.own a)) (ht:∀b xs,H b=some (.tup xs)->H' b=some (.tup xs)):ObjOk P w H' h' a o:=by
 induction o with
 | lst xs=>obtain⟨z,its,n,r,e⟩:=x;exact⟨z,its,n,r,k _ _ (.inl rfl) e⟩
 | tup xs=>obtain⟨z,its,r,ob,e,c⟩:=x;exact⟨z,its,r,ob,k _ _ (.inl rfl) e,c⟩
 | dK kvs=>obtain⟨z,y,vs,r,ob,es,ep,e,c⟩:=x;exact⟨z,y,vs,r,ob,es,ep,k _ _ (.inl rfl) e,c⟩
 | dT kvs=>obtain⟨z,y,xs,r,ob,es,ep,e,c⟩:=x;exact⟨z,y,xs,Paired.mapP r fun p q z=>⟨z.1,ht _ _ z.2.1,z.2.2⟩,ob,es,ep,k _ _ (.inl rfl) e,c⟩
 | set S n=>obtain⟨ob,es,ep,t,e,c⟩:=x;exact⟨ob,es,ep,t,k _ _ (.inl rfl) e,c⟩
 | ins C dx fs=>obtain⟨d,z,ne,e,mA,⟨od,es,ep,e2,c⟩,r⟩:=x;exact⟨ho _ d,z,ne,k _ _ (.inl rfl) e,mA,⟨od,es,ep,k _ _ (.inr d) e2,c⟩,r⟩
 | own y=>obtain⟨ob,e⟩:=x;exact⟨ob,k _ _ (.inl rfl) e⟩
 | xd fs=>obtain⟨mA,⟨od,es,ep,e,c⟩,r⟩:=x;exact⟨mA,⟨od,es,ep,k _ _ (.inl rfl) e,c⟩,r⟩
 | rng lo hi=>obtain⟨t,u,v,e⟩:=x;exact⟨t,u,v,k _ _ (.inl rfl) e⟩
 | frz ob u ih=>obtain⟨e,q⟩:=x;exact⟨k _ _ (.inl rfl) e,ih q⟩
 | tbl ps =>
  have e:h.get? a=some { cls:=.none,data:=.fields ps }:=x
  show h'.get? a=some { cls:=.none,data:=.fields ps };exact k a _ (.inl rfl) e
 | met f y =>
  have e:h.get? a=some (methodObj (.ref f) (.ref y)):=x
  show h'.get? a=some (methodObj (.ref f) (.ref y));exact k a _ (.inl rfl) e
 | ext φ=>obtain⟨p,⟨o,e⟩,st⟩:=x;exact⟨st _ _ p fun o q=>k _ _ (.inl rfl) q,⟨o,k _ _ (.inl rfl) e⟩,st⟩
theorem HOk.lt(x:HOk P w H h)(e:H a=some o):a<h.objs.size:=(x a o e).lt
theorem HOk.fresh(x:HOk P w H h)(e:h.objs.size<=a):H a=none:=by
 cases q:H a with
 | none=>rfl
 | some u=>exact absurd (Nat.lt_of_lt_of_le (x.lt q) e) (Nat.lt_irrefl _)
theorem HOk.kept(x:HOk P w H h)(k:∀b u,h.get? b=some u->h'.get? b=some u):HOk P w H h':=fun a o e=>(x a o e).stay (fun b u _ q=>k b u q) (fun _ q=>q) fun _ _ q=>q
theorem HOk.laid(x:HOk P w H h)(k:∀b u,h.get? b=some u->h'.get? b=some u)(hp:h.objs.size<=a)(new:ObjOk P w (upd H a o) h' a o):HOk P w (upd H a o) h':=fun b u e=>by
 have hn:=x.fresh hp
 by_cases hb:b=a
 ·subst hb;rw[Jo] at e;cases e;exact new
 ·rw[Jh hb] at e;exact(x b u e).stay (fun c v _ q=>k c v q) (fun c q=>by rw[Jh (Js q hn)];exact q) fun c xs q=>by rw[Jh (Js q hn)];exact q
end

noncomputable def Rd(H:Hp)(a:Addr)(u:HO):Prop:=H a=some u\/∃o,H a=some (.frz o u)
theorem Rd.of{H:Hp}{a:Addr}{u:HO}(h:H a=some u):Rd H a u:=.inl h
theorem Rd.ok{P:Program}{w:World}{H:Hp}{h:Heap}{a:Addr}{u:HO}(r:Rd H a u)(x:HOk P w H h):ObjOk P w H h a u:=by
 rcases r with r|⟨o,r⟩
 ·exact x a u r
 ·obtain⟨_,q⟩:=x a _ r;exact q
noncomputable def Mut:Option HO->Prop
 | some (.lst _)=>True
 | some (.dK _)=>True
 | some (.dT _)=>True
 | some (.set _ _)=>True
 | some (.ins _ _ _)=>True
 | some (.ext _)=>True
 | _=>False
section
variable{P:Program}{w:World}{H:Hp}{h h':Heap}{x e:Addr}{o':HO}
theorem HOk.write(ok:HOk P w H h)(mu:Mut (H x))(he:e=x\/H e=some (.own x))(k:∀b u,b≠e->h.get? b=some u->h'.get? b=some u)(heo:∃u,h'.get? e=some u)
 (new:ObjOk P w (upd H x o') h' x o'):HOk P w (upd H x o') h':=fun b u q=>by
 have nown:∀c y,H c=some (.own y)->c≠x:=fun c y r z=>by subst z;rw[r] at mu;exact mu
 have ntup:∀c xs,H c=some (.tup xs)->c≠x:=fun c xs r z=>by subst z;rw[r] at mu;exact mu
 by_cases hb:b=x
 ·subst hb;rw[Jo] at q;cases q;exact new
 ·rw[Jh hb] at q
  by_cases hbe:b=e
  ·have q':H b=some (.own x):=by
    rcases he with z|z
    ·exact absurd (hbe.trans z) hb
    ·rw[hbe];exact z
   rw[q] at q';cases q';obtain⟨v,hv⟩:=heo;exact⟨v,by rw[hbe];exact hv⟩
  ·refine(ok b u q).stay (fun c v hc r=>k c v ?_ r) (fun c r=>by rw[Jh (nown c b r)];exact r) fun c xs r=>by rw[Jh (ntup c xs r)];exact r
   rcases hc with rfl|hc
   ·exact hbe
   ·rintro rfl;rcases he with z|z
    ·exact nown c b hc z
    ·rw[hc] at z;cases z;exact hb rfl
end

structure Un (fs ex:List Addr) (H H':Hp) (h h':Heap):Prop where
 keep:∀b o,h.get? b=some o->H b=none->b∉fs->b∉ex->h'.get? b=some o
 slot:∀b o,h.get? b=some o->H b=none->b∈fs->b∉ex->∃sl,h'.get? b=some { o with slots:=sl }
 free:∀b o,h.get? b=some o->H b=none->b∉ex->H' b=none
 there:∀b o,h.get? b=some o->b∉ex->∃o',h'.get? b=some o'
 tups:∀b xs,H b=some (.tup xs)->H' b=some (.tup xs)
 frzs:∀b o u,H b=some (.frz o u)->H' b=some (.frz o u)
 tbls:∀b ps,H b=some (.tbl ps)->∃more,H' b=some (.tbl (ps++more))
section
variable{fs fs' ex ex':List Addr}{H H1 H2:Hp}{h h1 h2 h':Heap}{a x e:Addr}{o:HO}
theorem Un.any(u:Un fs ex H H1 h h1){b:Addr}{ob:Obj}(q:h.get? b=some ob)(n:H b=none)(hx:b∉ex):∃sl,h1.get? b=some { ob with slots:=sl }:=by
 by_cases hb:b∈fs
 ·exact u.slot b ob q n hb hx
 ·exact⟨ob.slots,u.keep b ob q n hb hx⟩
theorem Un.trans(a:Un fs ex H H1 h h1)(b:Un fs ex H1 H2 h1 h2):Un fs ex H H2 h h2 where
 keep:=fun c ob q n hc hx=>b.keep c ob (a.keep c ob q n hc hx) (a.free c ob q n hx) hc hx
 slot:=fun c ob q n hc hx=>by obtain⟨sl,e1⟩:=a.slot c ob q n hc hx;obtain⟨sl',e2⟩:=b.slot c _ e1 (a.free c ob q n hx) hc hx;exact⟨sl',e2⟩
 free:=fun c ob q n hx=>by obtain⟨o',e1⟩:=a.there c ob q hx;exact b.free c o' e1 (a.free c ob q n hx) hx
 there:=fun c ob q hx=>by obtain⟨o',e1⟩:=a.there c ob q hx;exact b.there c o' e1 hx
 tups:=fun c xs q=>b.tups c xs (a.tups c xs q)
 frzs:=fun c ob xs q=>b.frzs c ob xs (a.frzs c ob xs q)
 tbls:=fun c ps q=>by obtain⟨m1,e1⟩:=a.tbls c ps q;obtain⟨m2,e2⟩:=b.tbls c _ e1;exact⟨m1++m2,by rw[e2,Array.append_assoc]⟩
theorem Un.kept(k:∀b u,h.get? b=some u->h'.get? b=some u):Un fs ex H H h h' :=
 ⟨fun b ob q _ _ _=>k b ob q,fun b ob q _ _ _=>⟨ob.slots,k b ob q⟩,fun _ _ _ n _=>n,fun b ob q _=>⟨ob,k b ob q⟩,fun _ _ q=>q,fun _ _ _ q=>q,fun _ ps q=>⟨#[],by rw[q];simp⟩⟩
theorem Un.refl:Un fs ex H H h h:=Un.kept fun _ _ q=>q
theorem Un.laid(k:∀b u,h.get? b=some u->h'.get? b=some u)(hp:h.objs.size<=a)(hn:H a=none):Un fs ex H (upd H a o) h h' where
 keep:=fun b u q _ _ _=>k b u q
 slot:=fun b u q _ _ _=>⟨u.slots,k b u q⟩
 free:=fun b u q n _=>by rw[Jh (Nat.ne_of_lt (Nat.lt_of_lt_of_le (Heap.lt_size q) hp))];exact n
 there:=fun b u q _=>⟨u,k b u q⟩
 tups:=fun b xs q=>by rw[Jh (Js q hn)];exact q
 frzs:=fun b u xs q=>by rw[Jh (Js q hn)];exact q
 tbls:=fun b ps q=>⟨#[],by rw[Jh (Js q hn),q];simp⟩
theorem Un.write(mu:Mut (H x))(he:e=x\/H e=some (.own x))(k:∀b u,b≠e->h.get? b=some u->h'.get? b=some u)(heo:∃u,h'.get? e=some u):Un fs ex H (upd H x o) h h':=by
 have hx:∀b,H b=none->b≠x:=fun b n z=>by subst z;rw[n] at mu;exact mu
 have hb:∀b,H b=none->b≠e:=fun b n z=>by
  subst z;rcases he with r|r
  ·exact hx b n r
  ·rw[n] at r;cases r
 have hm:∀b u,H b=some u->¬Mut (some u)->b≠x:=fun b u q nm z=>by subst z;rw[q] at mu;exact nm mu
 refine⟨fun b u q n _ _=>k b u (hb b n) q,fun b u q n _ _=>⟨u.slots,k b u (hb b n) q⟩,fun b u q n _=>by rw[Jh (hx b n)];exact n,fun b u q _=>?_,
  fun b xs q=>by rw[Jh (hm b _ q fun z=>z)];exact q,fun b u xs q=>by rw[Jh (hm b _ q fun z=>z)];exact q,fun b ps q=>⟨#[],by rw[Jh (hm b _ q fun z=>z),q];simp⟩⟩
 by_cases hbe:b=e
 ·subst hbe;exact heo
 ·exact⟨u,k b u hbe q⟩
theorem Un.mono(u:Un fs ex H H1 h h1)(hs:∀b∈fs,b∈fs')(hx:∀b∈ex,b∈ex'):Un fs' ex' H H1 h h1 :=
 ⟨fun b ob q n hb he=>u.keep b ob q n (fun z=>hb (hs b z)) fun z=>he (hx b z),fun _ _ q n _ he=>u.any q n fun z=>he (hx _ z),fun b ob q n he=>u.free b ob q n fun z=>he (hx b z),fun b ob q he=>u.there b ob q fun z=>he (hx b z),u.tups,u.frzs,u.tbls⟩
end

noncomputable def trk(h:Heap)(H:Hp):List Addr:=(List.range h.objs.size).filter fun a=>(H a).isSome
noncomputable def Jam(h:Heap)(H:Hp):Heap:=PySem.W.hideAll h (trk h H)
theorem JeX(h:Heap)(H:Hp):(Jam h H).objs.size=h.objs.size:=PySem.W.hideAll_size _ _
theorem Jgk{h:Heap}{H:Hp}{b:Addr}{o:Obj}(e:h.get? b=some o)(n:H b=none):(Jam h H).get? b=some o :=
 PySem.W.hideAll_get _ e fun hm=>by have q:(H b).isSome=true:=(List.mem_filter.mp hm).2;rw[n] at q;simp at q
theorem JiS{h:Heap}{H:Hp}{b:Addr}{o:Obj}(e:(Jam h H).get? b=some o):h.get? b=some o/\H b=none:=by
 have e':h.get? b=some o:=PySem.W.of_hideAll (trk h H) e;refine⟨e',?_⟩
 cases q:H b with
 | none=>rfl
 | some x =>
  have hm:b∈trk h H:=List.mem_filter.mpr ⟨List.mem_range.mpr (Heap.lt_size e'),by simp[q]⟩
  have z:(Jam h H).get? b=none:=PySem.W.hideAll_none (trk h H) hm;rw[z] at e;cases e

noncomputable def JhW(g h:Heap)(L:Addr):List (Addr×Obj):=(List.range h.objs.size).filterMap fun a=>if a=L\/(g.get? a).isSome=true then none else(h.get? a).map fun o=>(a,o)
noncomputable def rest(g h:Heap)(L d:Addr):List (Addr×Obj):=(JhW g h L).filter fun p=>decide (p.1≠d)
end L2

namespace L2
open PySem PySem.Spec PyProof.Rows

structure Mod (K:Frag) (mg:Str->Option Value) (base:Heap):Prop where
 kin:K.In base
 glob:base.Ns mainGlobals mg
 blt:∃mb,base.Ns builtinsNs mb/\∀x:Str,x≠"__name__"->mb x=bootBuiltins x
 nolimit:base.NoLimit

structure Cx where
 prog:Program
 w:World
 K:Frag
 mg:Str->Option Value
 base:Heap
 A:Around
 N:List Str
 s₀:Shared
 H₀:Hp
 env:Env
 outer:List Env
 stack:List Env
 ex:List Addr
 fn:Str->Bool
 calm:Bool
 pn:List (Addr×Obj)
 xe:Value->Shared->Prop
noncomputable def frs(l:List Env):List Addr:=l.filterMap (·.frame)
noncomputable abbrev Cx.fs(X:Cx):List Addr:=frs X.outer

noncomputable def Vis(sc:Scope)(x:Str):Prop:=sc.names.lookup x=some .local\/sc.names.lookup x=some .cell\/sc.names.lookup x=some .free
noncomputable def Loc(sc:Scope)(x:Str):Prop:=sc.names.lookup x=some .local\/sc.names.lookup x=some .cell
noncomputable def Jny(env:Env)(h:Heap)(m:Str->Option Value)(x:Str)(u:Value):Prop :=
 (env.kindOf x=some .local/\m x=some u)\/((env.kindOf x=some .cell\/env.kindOf x=some .free)/\∃c,env.cells.lookup x=some c/\h.IsCell c (some u))

structure Cx.Ok (X:Cx):Prop where
 mod:Mod X.K X.mg X.base
 kind:X.env.scope.kind=.function
 glob:X.env.globals=mainGlobals
 blt:X.env.builtins=builtinsNs
 above:X.s₀.heap.objs.size<=X.env.locals
 inj:∀x y c,X.env.cells.lookup x=some c->X.env.cells.lookup y=some c->x=y
 has:∀x,(X.env.kindOf x=some .cell\/X.env.kindOf x=some .free)->∃c,X.env.cells.lookup x=some c
 cab:∀x c,X.fn x=true->X.env.cells.lookup x=some c->X.s₀.heap.objs.size<=c
 hd:X.calm=true->X.A.handled=none
 frames:X.A.frames=some X.stack
 stk:X.stack=X.outer\/(X.stack=X.env::X.outer/\X.env.frame=some X.env.locals)
 exf:∀b∈X.ex,b≠X.env.locals/\∀x c,X.env.cells.lookup x=some c->c≠b
 bs:∀b o,X.base.get? b=some o->X.s₀.heap.get? b=some o/\X.H₀ b=none
 bsz:X.base.objs.size<=X.s₀.heap.objs.size
 noex:∀b o,X.base.get? b=some o->b∉X.ex
 exfs:∀b∈X.ex,b∉X.fs
 funs:X.s₀.heap.FunFrames X.base X.outer
 frf:∀b∈X.fs,X.H₀ b=none

structure Inv (X:Cx) (pins:List (Addr×Obj)) (σ:List (Option V)) (H:Hp) (s:Shared):Prop where
 ok:X.Ok
 os:s.os=X.s₀.os
 bare:AllBare s.gens
 base:Un X.fs X.ex X.H₀ H X.s₀.heap s.heap
 loc:∃m,s.heap.Ns X.env.locals m/\∀(i:Nat) (x:Str) (v:V),X.N[i]?=some x->σ[i]?=some (some v)->Vis X.env.scope x->∃u,RelV v u/\Jny X.env s.heap m x u
 cell:∀x c,X.env.cells.lookup x=some c->∃v,s.heap.IsCell c v
 free:H X.env.locals=none
 freeC:∀x c,X.env.cells.lookup x=some c->H c=none
 pin:∀p∈X.pn++pins,s.heap.get? p.1=some p.2/\H p.1=none/\p.1≠X.env.locals/\p.1∉X.fs/\∀v,p.2.data≠.cell v
 hok:HOk X.prog X.w H s.heap
 len:σ.length=X.N.length

section
variable{X:Cx}{pins:List (Addr×Obj)}{σ:List (Option V)}{H H':Hp}{s:Shared}{h':Heap}

theorem Cx.Ok.nofr(ok:X.Ok){b:Addr}{o:Obj}(e:X.base.get? b=some o):b∉X.fs:=fun hb=>by have:=(ok.funs.mem hb).1;rw[e] at this;cases this
theorem Inv.bs(I:Inv X pins σ H s):∀b o,X.base.get? b=some o->s.heap.get? b=some o/\H b=none:=fun b o e=>⟨I.base.keep b o (I.ok.bs b o e).1 (I.ok.bs b o e).2 (I.ok.nofr e) (I.ok.noex b o e),I.base.free b o (I.ok.bs b o e).1 (I.ok.bs b o e).2 (I.ok.noex b o e)⟩
theorem Inv.bk(I:Inv X pins σ H s):∀b o,X.base.get? b=some o->s.heap.get? b=some o:=fun b o e=>(I.bs b o e).1
theorem Inv.mod(I:Inv X pins σ H s):Mod X.K X.mg X.base:=I.ok.mod
theorem Inv.kIn(I:Inv X pins σ H s):X.K.In s.heap:=I.ok.mod.kin.keeps I.bk
theorem Inv.nolimit(I:Inv X pins σ H s):s.heap.NoLimit:=I.ok.mod.nolimit.keeps I.bk
theorem Inv.fr(I:Inv X pins σ H s):∃m,Fr X.base X.env.locals s.heap m :=
 let ⟨m,hn,_⟩:=I.loc
 ⟨m,hn,I.bk,Nat.le_trans I.ok.bsz I.ok.above⟩
theorem Inv.lt(I:Inv X pins σ H s):X.env.locals<s.heap.objs.size:=let ⟨_,hn,_⟩:=I.loc;hn.lt
theorem Inv.sz(I:Inv X pins σ H s):X.s₀.heap.objs.size<=s.heap.objs.size:=Nat.le_trans I.ok.above (Nat.le_of_lt I.lt)
theorem Inv.nofs(I:Inv X pins σ H s){a:Addr}(h:s.heap.objs.size<=a):a∉X.fs:=fun hb=>by obtain⟨_,o,ho,_⟩:=I.ok.funs.mem hb;exact absurd (Nat.lt_of_lt_of_le (Heap.lt_size ho) (Nat.le_trans I.sz h)) (Nat.lt_irrefl _)
theorem Inv.cne(I:Inv X pins σ H s):∀x c,X.env.cells.lookup x=some c->c≠X.env.locals:=fun x c e z=>by obtain⟨v,o,ho,hd⟩:=I.cell x c e;obtain⟨m,⟨o',es,ep,ho',hd',_⟩,_⟩:=I.loc;rw[z,ho'] at ho;cases ho;rw[hd'] at hd;cases hd
theorem Inv.funs(I:Inv X pins σ H s):s.heap.FunFrames X.base X.outer:=by
 have all:∀(l:List Env),(∀b∈frs l,b∈X.fs)->X.s₀.heap.FunFrames X.base l->s.heap.FunFrames X.base l:=by
  intro l
  induction l with
  | nil=>intro _ _;trivial
  | cons env r ih =>
   intro hs hl;obtain⟨hk,⟨L,o,hf,hn,ho,hd⟩,hr⟩:=hl;have hL:L∈X.fs:=hs L (by unfold frs;rw[List.filterMap_cons,hf];exact List.mem_cons_self);obtain⟨sl,e⟩:=I.base.slot L o ho (I.ok.frf L hL) hL fun z=>I.ok.exfs L z hL
   exact⟨hk,⟨L,_,hf,hn,e,hd⟩,ih (fun b hb=>hs b (by unfold frs;rw[List.filterMap_cons,hf];exact List.mem_cons_of_mem _ hb)) hr⟩
 exact all X.outer (fun _ hb=>hb) I.ok.funs

theorem Inv.stack(I:Inv X pins σ H s):s.heap.FunFrames X.base X.stack:=by
 rcases I.ok.stk with e|⟨e,hf⟩
 ·rw[e];exact I.funs
 ·rw[e];obtain⟨m,hn,_⟩:=I.loc;refine .cons (by rw[I.ok.kind];decide) hf hn ?_ I.funs;exact Heap.get?_none_of_le (Nat.le_trans I.ok.bsz I.ok.above)
theorem Inv.stkSub(I:Inv X pins σ H s):∀b∈frs X.stack,b∈X.env.locals::X.fs:=fun b hb=>by
 rcases I.ok.stk with e|⟨e,hf⟩
 ·rw[e] at hb;exact List.mem_cons_of_mem _ hb
 ·rw[e] at hb;unfold frs at hb;rw[List.filterMap_cons,hf] at hb;exact hb
theorem Inv.stkFree(I:Inv X pins σ H s):∀b∈frs X.stack,H b=none:=fun b hb=>by
 rcases List.mem_cons.mp (I.stkSub b hb) with e|hb
 ·rw[e];exact I.free
 ·obtain⟨_,o,ho,_⟩:=I.ok.funs.mem hb;exact I.base.free b o ho (I.ok.frf b hb) fun z=>I.ok.exfs b z hb

theorem Inv.step{g':Array GenState}{t':Nat}{d':Drawn}{ch:List Addr}(I:Inv X pins σ H s)
 (hch:∀b∈ch,(b∈X.ex\/X.s₀.heap.objs.size<=b)/\b≠X.env.locals/\(∀x c,X.env.cells.lookup x=some c->c≠b)/\∀p∈X.pn++pins,p.1≠b)
 (keep:∀b o,b≠X.env.locals->b∉X.fs->b∉ch->s.heap.get? b=some o->H b=none->h'.get? b=some o)
 (slot:∀b o,b≠X.env.locals->b∈X.fs->b∉ch->s.heap.get? b=some o->H b=none->∃sl,h'.get? b=some { o with slots:=sl }) (free:∀b o,b∉ch->s.heap.get? b=some o->H b=none->H' b=none)
 (there:∀b o,b∉ch->s.heap.get? b=some o->∃o',h'.get? b=some o')
 (tups:∀b xs,H b=some (.tup xs)->H' b=some (.tup xs)) (frzs:∀b o u,H b=some (.frz o u)->H' b=some (.frz o u)) (tbls:∀b ps,H b=some (.tbl ps)->∃more,H' b=some (.tbl (ps++more)))
 (ns:∀m,s.heap.Ns X.env.locals m->h'.Ns X.env.locals m) (hok:HOk X.prog X.w H' h') (hg:AllBare g') :
 Inv X pins σ H' { s with heap:=h',gens:=g',drawn:=d',toks:=t' }:=by
 have neL:∀b o,X.s₀.heap.get? b=some o->b≠X.env.locals:=fun b o e=>Nat.ne_of_lt (Nat.lt_of_lt_of_le (Heap.lt_size e) I.ok.above)
 have neC:∀b o,X.s₀.heap.get? b=some o->b∉X.ex->b∉ch:=fun b o e hx hb=>by
  rcases(hch b hb).1 with z|z
  ·exact hx z
  ·exact absurd (Nat.lt_of_lt_of_le (Heap.lt_size e) z) (Nat.lt_irrefl _)
 have cellK:∀x c,X.env.cells.lookup x=some c->∀v,s.heap.IsCell c v->h'.IsCell c v:=fun x c e v ⟨o,ho,hd⟩=>by
  have nch:c∉ch:=fun z=>(hch c z).2.2.1 x c e rfl
  by_cases hc:c∈X.fs
  ·obtain⟨sl,q⟩:=slot c o (I.cne x c e) hc nch ho (I.freeC x c e);exact⟨_,q,hd⟩
  ·exact⟨o,keep c o (I.cne x c e) hc nch ho (I.freeC x c e),hd⟩
 refine⟨I.ok,I.os,hg,⟨fun b o e n hb hx=>?_,fun b o e n hb hx=>?_,fun b o e n hx=>?_,fun b o e hx=>?_,fun b xs e=>tups b xs (I.base.tups b xs e),fun b o xs e=>frzs b o xs (I.base.frzs b o xs e),fun b ps e=>?_⟩,?_,fun x c e=>?_,?_,fun x c e=>?_,fun p hp=>?_,hok,I.len⟩
 ·exact keep b o (neL b o e) hb (neC b o e hx) (I.base.keep b o e n hb hx) (I.base.free b o e n hx)
 ·obtain⟨sl,e1⟩:=I.base.slot b o e n hb hx;obtain⟨sl',e2⟩:=slot b _ (neL b o e) hb (neC b o e hx) e1 (I.base.free b o e n hx);exact⟨sl',e2⟩
 ·obtain⟨o',e1⟩:=I.base.there b o e hx;exact free b o' (neC b o e hx) e1 (I.base.free b o e n hx)
 ·obtain⟨o',e1⟩:=I.base.there b o e hx;exact there b o' (neC b o e hx) e1
 ·obtain⟨m1,e1⟩:=I.base.tbls b ps e;obtain⟨m2,e2⟩:=tbls b _ e1;exact⟨m1++m2,by rw[e2,Array.append_assoc]⟩
 ·obtain⟨m,hn,hl⟩:=I.loc;refine⟨m,ns m hn,fun i x v e1 e2 e3=>?_⟩;obtain⟨u,r,l⟩:=hl i x v e1 e2 e3;refine⟨u,r,?_⟩;rcases l with l|⟨k,c,e,z⟩
  ·exact .inl l
  ·exact .inr ⟨k,c,e,cellK x c e _ z⟩
 ·obtain⟨v,z⟩:=I.cell x c e;exact⟨v,cellK x c e v z⟩
 ·obtain⟨m,⟨o,_,_,ho,_⟩,_⟩:=I.loc;exact free _ o (fun z=>(hch _ z).2.1 rfl) ho I.free
 ·obtain⟨v,o,ho,hd⟩:=I.cell x c e;exact free c o (fun z=>(hch c z).2.2.1 x c e rfl) ho (I.freeC x c e)
 ·obtain⟨e,n,ne,nf,d⟩:=I.pin p hp;have nch:p.1∉ch:=fun z=>(hch p.1 z).2.2.2 p hp rfl
  exact⟨keep p.1 p.2 ne nf nch e n,free p.1 p.2 nch e n,ne,nf,d⟩
theorem Inv.un{t':Nat}(I:Inv X pins σ H s)(u:Un X.fs [] H H' s.heap h')(hok:HOk X.prog X.w H' h'):Inv X pins σ H' { s with heap:=h',toks:=t' }:=by
 obtain⟨m,⟨o,es,ep,ho,r⟩,_⟩:=id I.loc;obtain⟨sl,hL⟩:=u.any ho I.free (by simp);exact I.step (g':=s.gens) (d':=s.drawn) (ch:=[]) (fun _ z=>nomatch z) (fun b o _ hb _ e n=>u.keep b o e n hb (by simp)) (fun b o _ hb _ e n=>u.slot b o e n hb (by simp)) (fun b o _ e n=>u.free b o e n (by simp)) (fun b o _ e=>u.there b o e (by simp)) u.tups u.frzs u.tbls (fun m' hm=>by obtain⟨o',es',ep',ho',r'⟩:=hm;rw[ho] at ho';cases ho';exact⟨_,es',ep',hL,r'⟩) hok I.bare
theorem Inv.call{g':Array GenState}{t':Nat}{d':Drawn}{ch:List Addr}(I:Inv X pins σ H s)(u:Un (frs X.stack) ch H H' s.heap h')(hok:HOk X.prog X.w H' h')(hg:AllBare g')
 (hch:∀b∈ch,(b∈X.ex\/X.s₀.heap.objs.size<=b)/\b≠X.env.locals/\(∀x c,X.env.cells.lookup x=some c->c≠b)/\∀p∈X.pn++pins,p.1≠b) :
 Inv X pins σ H' { s with heap:=h',gens:=g',drawn:=d',toks:=t' }:=by
 obtain⟨m,⟨o,es,ep,ho,r⟩,_⟩:=id I.loc;obtain⟨sl,hL⟩:=u.any ho I.free fun z=>(hch _ z).2.1 rfl
 exact I.step (ch:=ch) hch (fun b o hL hb hc e n=>u.keep b o e n (fun z=>(List.mem_cons.mp (I.stkSub b z)).elim hL hb) hc) (fun b o _ _ hc e n=>u.any e n hc) (fun b o hc e n=>u.free b o e n hc) (fun b o hc e=>u.there b o e hc) u.tups u.frzs u.tbls (fun m' hm=>by obtain⟨o',es',ep',ho',r'⟩:=hm;rw[ho] at ho';cases ho';exact⟨_,es',ep',hL,r'⟩) hok hg
theorem Inv.turned{t':Nat}{it:Addr}(I:Inv X pins σ H s)(k:∀b o,b≠it->s.heap.get? b=some o->h'.get? b=some o)(hn:H it=none)(hL:it≠X.env.locals)
 (h1:it∈X.ex\/X.s₀.heap.objs.size<=it) (h2:∀x c,X.env.cells.lookup x=some c->c≠it) (h3:∀p∈X.pn++pins,p.1≠it):Inv X pins σ H { s with heap:=h',toks:=t' }:=by
 have nit:∀b u,H b=some u->b≠it:=fun b u e z=>by rw[z,hn] at e;cases e
 refine I.step (g':=s.gens) (d':=s.drawn) (ch:=[it]) (fun b hb=>?_) (fun b o _ _ hc e _=>k b o (fun z=>hc (by simp[z])) e) (fun b o _ _ hc e _=>⟨o.slots,k b o (fun z=>hc (by simp[z])) e⟩) (fun _ _ _ _ n=>n)
  (fun b o hc e=>⟨o,k b o (fun z=>hc (by simp[z])) e⟩) (fun _ _ e=>e) (fun _ _ _ e=>e) (fun b ps e=>⟨#[],by rw[e];simp⟩) (fun m hm=>?_) (fun b u e=>?_) I.bare
 ·have e:b=it:=by simpa using hb
  subst e;exact⟨h1,hL,h2,h3⟩
 ·obtain⟨o,es,ep,ho,r⟩:=hm;exact⟨o,es,ep,k _ o (Ne.symm hL) ho,r⟩
 ·refine(I.hok b u e).stay (fun c v hc q=>k c v ?_ q) (fun _ q=>q) fun _ _ q=>q
  rcases hc with z|z
  ·rw[z];exact nit b u e
  ·exact nit c _ z
theorem Inv.tok(I:Inv X pins σ H s)(t:Nat):Inv X pins σ H { s with toks:=t }:=I.un (h':=s.heap) (t':=t) Un.refl I.hok
theorem Inv.kept{t':Nat}(I:Inv X pins σ H s)(k:∀b u,s.heap.get? b=some u->h'.get? b=some u):Inv X pins σ H { s with heap:=h',toks:=t' }:=I.un (Un.kept k) (I.hok.kept k)
theorem Inv.laid{a:Addr}{o:HO}{t':Nat}(I:Inv X pins σ H s)(k:∀b u,s.heap.get? b=some u->h'.get? b=some u)(hp:s.heap.objs.size<=a)(new:ObjOk X.prog X.w (upd H a o) h' a o) :
 Inv X pins σ (upd H a o) { s with heap:=h',toks:=t' }:=I.un (Un.laid k hp (I.hok.fresh hp)) (I.hok.laid k hp new)
theorem Inv.write{x e:Addr}{o:HO}{t':Nat}(I:Inv X pins σ H s)(mu:Mut (H x))(he:e=x\/H e=some (.own x))(k:∀b u,b≠e->s.heap.get? b=some u->h'.get? b=some u)(heo:∃u,h'.get? e=some u)
 (new:ObjOk X.prog X.w (upd H x o) h' x o):Inv X pins σ (upd H x o) { s with heap:=h',toks:=t' }:=I.un (Un.write mu he k heo) (I.hok.write mu he k heo new)
theorem Inv.weak{σ':List (Option V)}(I:Inv X pins σ H s)(hl:σ'.length=σ.length)(w:∀(i:Nat) v,σ'[i]?=some (some v)->σ[i]?=some (some v)):Inv X pins σ' H s :=
 ⟨I.ok,I.os,I.bare,I.base,let ⟨m,hn,hl'⟩:=I.loc;⟨m,hn,fun i x v e1 e2 e3=>hl' i x v e1 (w i v e2) e3⟩,I.cell,I.free,I.freeC,I.pin,I.hok,hl.trans I.len⟩
theorem Inv.pins_of{pins':List (Addr×Obj)}(I:Inv X pins σ H s)(h:∀p∈pins',s.heap.get? p.1=some p.2/\H p.1=none/\p.1≠X.env.locals/\p.1∉X.fs/\∀v,p.2.data≠.cell v):Inv X pins' σ H s :=
 ⟨I.ok,I.os,I.bare,I.base,I.loc,I.cell,I.free,I.freeC,fun p hp=>(List.mem_append.mp hp).elim (fun z=>I.pin p (List.mem_append_left _ z)) (h p),I.hok,I.len⟩

theorem Jbp{N:List Str}(hN:N.Nodup){i j:Nat}{x:Str}(a:N[i]?=some x)(b:N[j]?=some x):i=j:=by obtain⟨h1,e1⟩:=List.getElem?_eq_some_iff.mp a;obtain⟨h2,e2⟩:=List.getElem?_eq_some_iff.mp b;exact(List.getElem_inj hN).mp (e1.trans e2.symm)

theorem ZM{M:Model}{A:Around}{E:Value->Shared->Prop}{i:Nat}{x:Str}{v:V}{u:Value}{Q:Unit->Shared->Prop}(I:Inv X pins σ H s)(hN:X.N.Nodup)(hi:X.N[i]?=some x)(hx:Loc X.env.scope x)(r:RelV v u)
 (h:∀s',Inv X pins (σ.set i (some v)) H s'->(∃a,Heap.SameBut a s.heap s'.heap/\(a=X.env.locals\/X.env.cells.lookup x=some a))->Q () s') (hf:X.fn x=true\/X.env.scope.names.lookup x=some .local:=by first|exact .inl rfl|exact .inr rfl|assumption):wpAny M A (storeName X.env x u) Q E s:=by
 obtain⟨m,hn,hl⟩:=id I.loc;have hcls:(X.env.scope.kind == .class || (X.env.scope.kind == .module && X.env.locals != X.env.globals))=false:=by rw[I.ok.kind];rfl
 have hiσ:i<σ.length:=by rw[I.len];exact(List.getElem?_eq_some_iff.mp hi).1
 have cne:=I.cne
 have tracked:∀{a:Addr} {h':Heap},(∃o,s.heap.get? a=some o/\H a=none)->Heap.SameBut a s.heap h'->HOk X.prog X.w H h':=fun {a h'} ha hs b ob e=>by
  obtain⟨_,_,hfree⟩:=ha;refine(I.hok b ob e).stay (fun c w' hc q=>(hs.2 c ?_).trans q) (fun _ q=>q) fun _ _ q=>q
  rintro rfl;rcases hc with rfl|hc
  ·rw[hfree] at e;cases e
  ·rw[hfree] at hc;cases hc
 rcases hx with hk|hk
 ·refine wpAny_storeName_local hk hn (fun h' hn' hs=>?_) hcls;obtain⟨oL,_,_,hoL,_⟩:=id hn;refine h _ ⟨I.ok,I.os,I.bare,⟨fun b o e n hb hx=>?_,fun b o e n hb hx=>?_,I.base.free,fun b o e hx=>?_,I.base.tups,I.base.frzs,I.base.tbls⟩,⟨_,hn',fun j y v' e1 e2 e3=>?_⟩,fun y c e=>?_,I.free,I.freeC,fun p hp=>?_,tracked ⟨oL,hoL,I.free⟩ hs,by simpa using I.len⟩ ⟨_,hs,.inl rfl⟩
  ·exact(hs.2 b (Nat.ne_of_lt (Nat.lt_of_lt_of_le (Heap.lt_size e) I.ok.above))).trans (I.base.keep b o e n hb hx)
  ·obtain⟨sl,e1⟩:=I.base.slot b o e n hb hx;exact⟨sl,(hs.2 b (Nat.ne_of_lt (Nat.lt_of_lt_of_le (Heap.lt_size e) I.ok.above))).trans e1⟩
  ·obtain⟨o',e1⟩:=I.base.there b o e hx;exact⟨o',(hs.2 b (Nat.ne_of_lt (Nat.lt_of_lt_of_le (Heap.lt_size e) I.ok.above))).trans e1⟩
  ·by_cases hj:j=i
   ·subst hj;rw[hi] at e1;cases e1;rw[List.getElem?_set_self hiσ] at e2;cases e2;exact⟨u,r,.inl ⟨hk,by simp⟩⟩
   ·rw[List.getElem?_set_ne (Ne.symm hj)] at e2;obtain⟨u',r',q⟩:=hl j y v' e1 e2 e3;refine⟨u',r',?_⟩;rcases q with ⟨k,e⟩|⟨k,c,e,z⟩
    ·refine .inl ⟨k,?_⟩;have:y≠x:=fun e=>hj (Jbp hN e1 (e▸hi))
     simp[this,e]
    ·exact .inr ⟨k,c,e,z.sameBut hs (cne y c e)⟩
  ·obtain⟨w',z⟩:=I.cell y c e;exact⟨w',z.sameBut hs (cne y c e)⟩
  ·obtain⟨e,n,ne,nf,d⟩:=I.pin p hp;exact⟨(hs.2 p.1 ne).trans e,n,ne,nf,d⟩
 ·have hfn:X.fn x=true:=by
   rcases hf with z|z
   ·exact z
   ·rw[z] at hk;cases hk
  obtain⟨c,hc⟩:=I.ok.has x (.inl hk);obtain⟨w',z⟩:=I.cell x c hc;refine wpAny_storeName_cell I.ok.kind hk hc z (fun h' hc' hs=>?_);obtain⟨oc,hoc,hocd⟩:=id z;refine h { s with heap:=h' } ⟨I.ok,I.os,I.bare,⟨fun b o e n hb hx=>?_,fun b o e n hb hx=>?_,I.base.free,fun b o e hx=>?_,I.base.tups,I.base.frzs,I.base.tbls⟩,⟨m,hn.sameBut hs (Ne.symm (cne x c hc)),fun j y v' e1 e2 e3=>?_⟩,fun y c' e=>?_,I.free,I.freeC,fun p hp=>?_,tracked ⟨oc,hoc,I.freeC x c hc⟩ hs,by simpa using I.len⟩ ⟨c,hs,.inr hc⟩
  ·exact(hs.2 b (Nat.ne_of_lt (Nat.lt_of_lt_of_le (Heap.lt_size e) (I.ok.cab x c hfn hc)))).trans (I.base.keep b o e n hb hx)
  ·obtain⟨sl,e1⟩:=I.base.slot b o e n hb hx;exact⟨sl,(hs.2 b (Nat.ne_of_lt (Nat.lt_of_lt_of_le (Heap.lt_size e) (I.ok.cab x c hfn hc)))).trans e1⟩
  ·obtain⟨o',e1⟩:=I.base.there b o e hx;exact⟨o',(hs.2 b (Nat.ne_of_lt (Nat.lt_of_lt_of_le (Heap.lt_size e) (I.ok.cab x c hfn hc)))).trans e1⟩
  ·by_cases hj:j=i
   ·subst hj;rw[hi] at e1;cases e1;rw[List.getElem?_set_self hiσ] at e2;cases e2;exact⟨u,r,.inr ⟨.inl hk,c,hc,hc'⟩⟩
   ·rw[List.getElem?_set_ne (Ne.symm hj)] at e2;obtain⟨u',r',q⟩:=hl j y v' e1 e2 e3;refine⟨u',r',?_⟩;rcases q with q|⟨k,c',e,z'⟩
    ·exact .inl q
    ·refine .inr ⟨k,c',e,z'.sameBut hs ?_⟩;rintro rfl;exact hj (Jbp hN e1 (I.ok.inj _ _ _ e hc▸hi))
  ·by_cases hcc:c'=c
   ·subst hcc;exact⟨_,hc'⟩
   ·obtain⟨w2,z2⟩:=I.cell y c' e;exact⟨w2,z2.sameBut hs hcc⟩
  ·obtain⟨e,n,ne,nf,d⟩:=I.pin p hp;refine⟨(hs.2 p.1 ?_).trans e,n,ne,nf,d⟩;intro q;rw[q,hoc] at e;have q':oc=p.2:=Option.some.inj e;exact d w' (by rw[<- q'];exact hocd)
theorem W3{M:Model}{A:Around}{E:Value->Shared->Prop}{i:Nat}{x:Str}{v:V}{u:Value}{Q:Unit->Shared->Prop}(I:Inv X pins σ H s)(hN:X.N.Nodup)(hi:X.N[i]?=some x)(hx:Loc X.env.scope x)(r:RelV v u)
 (h:∀s',Inv X pins (σ.set i (some v)) H s'->Q () s') (hf:X.fn x=true\/X.env.scope.names.lookup x=some .local:=by first|exact .inl rfl|exact .inr rfl|assumption):wpAny M A (storeName X.env x u) Q E s :=
 ZM I hN hi hx r (fun s' I' _=>h s' I') hf
theorem Inv.call'{s':Shared}{ch:List Addr}(I:Inv X pins σ H s)(ho:s'.os=s.os)(u:Un (frs X.stack) ch H H' s.heap s'.heap)(hok:HOk X.prog X.w H' s'.heap)(hg:AllBare s'.gens)
 (hch:∀b∈ch,(b∈X.ex\/X.s₀.heap.objs.size<=b)/\b≠X.env.locals/\(∀x c,X.env.cells.lookup x=some c->c≠b)/\∀p∈X.pn++pins,p.1≠b):Inv X pins σ H' s':=by
 obtain⟨h',g',d',t',o'⟩:=s';have e:o'=s.os:=ho;subst e;exact I.call (g':=g') (t':=t') (d':=d') u hok hg hch
end

noncomputable abbrev XK:=Value->Option Addr->Hp->Prop
noncomputable abbrev St:=List (Option V)
noncomputable abbrev VK:=V->Hp->Prop
noncomputable abbrev TE:=St->Hp->VK->Prop
noncomputable abbrev TT:=St->Hp->(Bool->Hp->Prop)->Prop
noncomputable abbrev TA:=St->Hp->(List V->Hp->Prop)->Prop
structure Ends where
 nx:St->Hp->Prop
 rt:VK
 bk:St->Hp->Prop:=fun _ _=>False
 ct:St->Hp->Prop:=fun _ _=>False
noncomputable abbrev TS:=Ends->St->Hp->Prop

noncomputable def EP(X:Cx)(pins:List (Addr×Obj))(σ:St)(Q:VK)(u:Value)(s':Shared):Prop:=∃v H',Inv X pins σ H' s'/\RelV v u/\Q v H'
noncomputable def TP(X:Cx)(pins:List (Addr×Obj))(σ:St)(Q:Bool->Hp->Prop)(b:Bool)(s':Shared):Prop:=∃H',Inv X pins σ H' s'/\Q b H'
noncomputable def AP(X:Cx)(pins:List (Addr×Obj))(σ:St)(Q:List V->Hp->Prop)(us:List Value)(s':Shared):Prop:=∃vs H',Inv X pins σ H' s'/\Vals vs us/\Q vs H'
noncomputable def SP(X:Cx)(pins:List (Addr×Obj))(D:Ends)(f:Flow)(s':Shared):Prop :=
 match f with
 | .next=>∃σ' H',Inv X pins σ' H' s'/\D.nx σ' H'
 | .brk=>∃σ' H',Inv X pins σ' H' s'/\D.bk σ' H'
 | .cont=>∃σ' H',Inv X pins σ' H' s'/\D.ct σ' H'
 | .ret u=>∃v σ' H',Inv X pins σ' H' s'/\RelV v u/\D.rt v H'

noncomputable def PE(X:Cx)(e:Expr)(t:TE):Prop :=
 ∀(pins:List (Addr×Obj)) (s:Shared) (σ:St) (H:Hp) (Q:VK),Inv X pins σ H s->t σ H Q->wpAny (model X.prog X.w) X.A (eval e X.env) (EP X pins σ Q) X.xe s
noncomputable def PT(X:Cx)(e:Expr)(t:TT):Prop :=
 ∀(pins:List (Addr×Obj)) (s:Shared) (σ:St) (H:Hp) (Q:Bool->Hp->Prop),Inv X pins σ H s->t σ H Q->wpAny (model X.prog X.w) X.A (isTrue e X.env (eval e X.env)) (TP X pins σ Q) X.xe s
noncomputable def PW(X:Cx)(e:Expr)(t:TT):Prop :=
 ∀(whole:Sem Value) (pins:List (Addr×Obj)) (s:Shared) (σ:St) (H:Hp) (Q:Bool->Hp->Prop),Inv X pins σ H s->t σ H Q->wpAny (model X.prog X.w) X.A (isTrue e X.env whole) (TP X pins σ Q) X.xe s
theorem PW.pt{X:Cx}{e:Expr}{t:TT}(h:PW X e t):PT X e t:=h _
noncomputable def PA(X:Cx)(es:List Expr)(t:TA):Prop :=
 ∀(pos:Pos) (pins:List (Addr×Obj)) (s:Shared) (σ:St) (H:Hp) (Q:List V->Hp->Prop),Inv X pins σ H s->t σ H Q->wpAny (model X.prog X.w) X.A (spliced (backTo pos (starEach es X.env))) (AP X pins σ Q) X.xe s
noncomputable def PS(X:Cx)(st:Stmt)(t:TS):Prop :=
 ∀(pins:List (Addr×Obj)) (s:Shared) (σ:St) (H:Hp) (D:Ends),Inv X pins σ H s->t D σ H->wpAny (model X.prog X.w) X.A (exec st X.env) (SP X pins D) X.xe s
noncomputable def PSs(X:Cx)(st:List Stmt)(t:TS):Prop :=
 ∀(pins:List (Addr×Obj)) (s:Shared) (σ:St) (H:Hp) (D:Ends),Inv X pins σ H s->t D σ H->wpAny (model X.prog X.w) X.A (execs st X.env) (SP X pins D) X.xe s
theorem thn{α:Type}{t:Sem α}{Q Q':α->Shared->Prop}{M:Model}{A:Around}{E:Value->Shared->Prop}{s:Shared}(h:wpAny M A t Q E s)(hQ:∀a s,Q a s->Q' a s):wpAny M A t Q' E s:=wpAny_mono h hQ fun _ _ x=>x
end L2

namespace L2
open PySem PySem.Spec PyProof.Rows
section
variable{X:Cx}

noncomputable def Zh(i:Nat):TE:=fun σ H Q=>∃v,σ[i]?=some (some v)/\Q v H
noncomputable def tC(v:V):TE:=fun _ H Q=>Q v H
theorem Jlw{i:Nat}{x:Str}{pos:Pos}(hN:X.N[i]?=some x)(hv:Vis X.env.scope x)(hd:(x == ("__debug__":Str))=false:=by decide)(hcd:(x == ("__classdict__":Str))=false:=by decide):PE X (.Name x pos) (Zh i):=by
 intro pins s σ H Q I h;obtain⟨v,e,h⟩:=h;obtain⟨m,hn,hl⟩:=I.loc;obtain⟨u,r,l⟩:=hl i x v hN e hv;have fin:EP X pins σ Q u s:=⟨v,H,I,r,h⟩
 rcases l with ⟨hk,hm⟩|⟨hk,c,hc,hcell⟩
 ·exact wpAny_Name (wpAny_loadName_local I.ok.kind hk hn hm fin) hd
 ·rcases hk with hk|hk
  ·exact wpAny_Name (wpAny_loadName_cell I.ok.kind hk hc hcell fin) hd
  ·exact wpAny_Name (wpAny_loadName_free I.ok.kind hk hc hcell fin hcd) hd
theorem Jn{i j pos}:PE X (.Constant (.int i) j pos) (tC (.int i)):=fun _ _ _ H _ I h=>wpAny_Constant_int ⟨.int i,H,I.tok _,⟨_,rfl⟩,h⟩
theorem Wc{b j pos}:PE X (.Constant (.bool b) j pos) (tC (.bl b)):=fun _ _ _ H _ I h=>Constant_bool ⟨.bl b,H,I,rfl,h⟩
theorem Vd{j pos}:PE X (.Constant .none j pos) (tC .non):=fun _ _ _ H _ I h=>Constant_none ⟨.non,H,I,rfl,h⟩
noncomputable def Gl(X:Cx)(x:Str):Prop:=X.env.kindOf x=some .globalImplicit
theorem Jao{E:Value->Shared->Prop}{pins:List (Addr×Obj)}{s:Shared}{σ:St}{H:Hp}{x:Str}{u:Value}{pos:Pos}{Q:Value->Shared->Prop}(I:Inv X pins σ H s)(hg:Gl X x)(hm:X.mg x=some u)(h:Q u s)
 (hd:(x == ("__debug__":Str))=false:=by decide):wpAny (model X.prog X.w) X.A (eval (.Name x pos) X.env) Q E s :=
 Calls.Name_function_global I.ok.kind hg (Calls.loadGlobal_global (by rw[I.ok.glob];exact I.mod.glob.keeps I.bk) hm h) hd
theorem UJ{E:Value->Shared->Prop}{pins:List (Addr×Obj)}{s:Shared}{σ:St}{H:Hp}{x:Str}{u:Value}{pos:Pos}{Q:Value->Shared->Prop}(I:Inv X pins σ H s)(hg:Gl X x)(hm:X.mg x=none)(hv:bootBuiltins x=some u)(h:Q u s)
 (hn:x≠"__name__":=by decide) (hd:(x == ("__debug__":Str))=false:=by decide):wpAny (model X.prog X.w) X.A (eval (.Name x pos) X.env) Q E s:=by
 obtain⟨mb,h1,h2⟩:=I.mod.blt;exact Calls.Name_function_global I.ok.kind hg (Calls.loadGlobal_builtin (by rw[I.ok.glob];exact I.mod.glob.keeps I.bk) hm (by rw[I.ok.blt];exact h1.keeps I.bk) ((h2 x hn).trans hv) h) hd
theorem Ji1{x:Str}{v:V}{u:Value}{pos:Pos}(hg:Gl X x)(hm:X.mg x=some u)(r:RelV v u)(hd:(x == ("__debug__":Str))=false:=by decide):PE X (.Name x pos) (tC v) :=
 fun _ _ _ H _ I h=>Jao I hg hm ⟨v,H,I,r,h⟩ hd
variable{a b:Expr}{ta tb:TE}{pos:Pos}
noncomputable def tB(t:TE):TT:=fun σ H Q=>t σ H fun x H1=>∃c,x=.bl c/\Q c H1
variable{tA tB':TT}{rest:List Expr}
noncomputable def Jmg(t u:TT):TT:=fun σ H Q=>t σ H fun c H1=>if c=true then u σ H1 Q else Q false H1
noncomputable def tOr(t u:TT):TT:=fun σ H Q=>t σ H fun c H1=>if c=true then Q true H1 else u σ H1 Q
noncomputable def Jml(t:TT):TT:=fun σ H Q=>t σ H fun c H1=>Q (!c) H1
theorem Vx(ha:PT X a tA):PW X (.BoolOp .And [a] pos) tA:=by
 intro wh pins s σ H Q I h;refine isTrue_and (thn (ha pins s σ H Q I h) fun c s1 e=>?_)
 cases c with
 | true=>exact isTrue_and_nil e
 | false=>exact e
theorem JgY(ha:PT X a tA):PW X (.BoolOp .Or [a] pos) tA:=by
 intro wh pins s σ H Q I h;refine isTrue_or (thn (ha pins s σ H Q I h) fun c s1 e=>?_)
 cases c with
 | false=>exact isTrue_or_nil e
 | true=>exact e
theorem WW(ha:PT X a tA)(hb:PW X (.BoolOp .And (b::rest) pos) tB'):PW X (.BoolOp .And (a::b::rest) pos) (Jmg tA tB'):=by
 intro wh pins s σ H Q I h;refine isTrue_and (thn (ha pins s σ H _ I h) fun c s1 ⟨H1,I1,q1⟩=>?_)
 cases c with
 | true=>exact hb wh pins s1 σ H1 Q I1 q1
 | false=>exact⟨H1,I1,q1⟩
theorem JjX(ha:PT X a tA)(hb:PW X (.BoolOp .Or (b::rest) pos) tB'):PW X (.BoolOp .Or (a::b::rest) pos) (tOr tA tB'):=by
 intro wh pins s σ H Q I h;refine isTrue_or (thn (ha pins s σ H _ I h) fun c s1 ⟨H1,I1,q1⟩=>?_)
 cases c with
 | true=>exact⟨H1,I1,q1⟩
 | false=>exact hb wh pins s1 σ H1 Q I1 q1
theorem JlC(ha:PT X a tA):PT X (.UnaryOp .Not a pos) (Jml tA):=by intro pins s σ H Q I h;exact isTrue_not (ha pins s σ H (fun c H1=>Q (!c) H1) I h)
noncomputable def Jhp(ta tb:TE):TE:=fun σ H Q=>ta σ H fun x H1=>∃c,x=.bl c/\if c=true then tb σ H1 Q else Q (.bl false) H1
noncomputable def JnU(ta tb:TE):TE:=fun σ H Q=>ta σ H fun x H1=>∃c,x=.bl c/\if c=true then Q (.bl true) H1 else tb σ H1 Q
noncomputable def Jns(ta:TE):TE:=fun σ H Q=>ta σ H fun x H1=>∃c,x=.bl c/\Q (.bl (!c)) H1
theorem Jlu{op}{t:TE}(h:PE X a t):PE X (.BoolOp op [a] pos) t:=fun pins s σ H Q I hw=>BoolOp_one (h pins s σ H Q I hw)
theorem Jlr(ha:PE X a ta)(hb:PE X (.BoolOp .And (b::rest) pos) tb):PE X (.BoolOp .And (a::b::rest) pos) (Jhp ta tb):=by
 intro pins s σ H Q I h;refine BoolOp_and (thn (ha pins s σ H _ I h) fun v s1 ⟨x,H1,I1,r1,q1⟩=>?_);obtain⟨c,rfl,q1⟩:=q1;cases r1;refine wpAny_truthy_bool ?_
 cases c with
 | true=>exact hb pins s1 σ H1 Q I1 q1
 | false=>exact⟨.bl false,H1,I1,rfl,q1⟩
noncomputable def tIf(t:TT)(ta tb:TE):TE:=fun σ H Q=>t σ H fun c H1=>if c=true then ta σ H1 Q else tb σ H1 Q
theorem JbA{c:Expr}(hc:PT X c tA)(ha:PE X a ta)(hb:PE X b tb):PE X (.IfExp c a b pos) (tIf tA ta tb):=by
 intro pins s σ H Q I h;refine wpAny_IfExp (thn (hc pins s σ H _ I h) fun d s1 ⟨H1,I1,q1⟩=>?_)
 cases d with
 | true=>exact ha pins s1 σ H1 Q I1 q1
 | false=>exact hb pins s1 σ H1 Q I1 q1
end
end L2

namespace L2
open PySem PySem.Spec PyProof.Rows

noncomputable def SqL(K:Frag)(H:Hp)(a:Addr)(xs:List V):Prop :=
 Rd H a (.lst xs) ∨
  ∃(o:Obj) (its:Array Value) (n:Nat),K.lookup a=some o/\o.cls=.type "list"/\o.dict=none/\o.data=.seq its n/\its.size<=sizeLine/\Vals xs its.toList
noncomputable def SqT(K:Frag)(H:Hp)(a:Addr)(xs:List V):Prop :=
 Rd H a (.tup xs) ∨
  ∃(o:Obj) (its:Array Value) (n:Nat),K.lookup a=some o/\o.cls=.type "tuple"/\o.data=.seq its n/\its.size<=sizeLine/\Vals xs its.toList
noncomputable def JnB:Value->Option V
 | .none=>some .non
 | .bool b=>some (.bl b)
 | .int i _=>some (.int i)
 | .str x _=>some (.str x)
 | .bytes b _=>some (.byt b)
 | .float b _=>some (.flt b)
 | .ref a=>some (.ref a)
 | .type n=>some (.ty n)
 | _=>none
theorem RelV.abs{x:V}{u:Value}(r:RelV x u):JnB u=some x:=by
 cases x with
 | non=>cases r;rfl
 | bl _=>cases r;rfl
 | int _=>obtain⟨t,rfl⟩:=r;rfl
 | str _=>obtain⟨t,rfl⟩:=r;rfl
 | byt _=>obtain⟨t,rfl⟩:=r;rfl
 | flt _=>obtain⟨t,rfl⟩:=r;rfl
 | ref _=>cases r;rfl
 | ty _=>cases r;rfl
theorem RelV.inj{x y:V}{u:Value}(r:RelV x u)(q:RelV y u):x=y:=Option.some.inj (r.abs.symm.trans q.abs)
theorem Vals.inj:∀{xs ys:List V} {us:List Value},Vals xs us->Vals ys us->xs=ys
 | _,_,_,.nil,.nil=>rfl
 | _,_,_,.cons r t,.cons r' t'=>by rw[r.inj r',Vals.inj t t']
section
variable{X:Cx}{pins:List (Addr×Obj)}{σ:St}{H:Hp}{s:Shared}{a:Addr}{xs ys:List V}
theorem SqL.of{K:Frag}(h:H a=some (.lst xs)):SqL K H a xs:=.inl (.inl h)
theorem SqT.of{K:Frag}(h:H a=some (.tup xs)):SqT K H a xs:=.inl (.inl h)
theorem Inv.list(I:Inv X pins σ H s)(h:SqL X.K H a xs):∃its:List Value,Vals xs its/\PlainL s.heap a its.toArray/\xs.length<=sizeLine:=by
 rcases h with h|⟨o,its,n,hk,hc,hd,hs,hz,r⟩
 ·obtain⟨z,its,n,r,e⟩:=h.ok I.hok;exact⟨its,r,⟨_,n,e,rfl,rfl,rfl⟩,z⟩
 ·refine⟨its.toList,r,⟨o,n,I.kIn a o hk,hc,hd,by simpa using hs⟩,?_⟩;have e:=r.length;simp only[Array.length_toList] at e;omega
theorem Inv.tuple(I:Inv X pins σ H s)(h:SqT X.K H a xs):∃its:List Value,Vals xs its/\IsTup s.heap a its.toArray/\xs.length<=sizeLine:=by
 rcases h with h|⟨o,its,n,hk,hc,hs,hz,r⟩
 ·obtain⟨z,its,r,p⟩:=h.ok I.hok;exact⟨its,r,p,z⟩
 ·refine⟨its.toList,r,⟨o,I.kIn a o hk,hc,n,by simpa using hs⟩,?_⟩;have e:=r.length;simp only[Array.length_toList] at e;omega
theorem Inv.list_inj(I:Inv X pins σ H s)(h:SqL X.K H a xs)(h':SqL X.K H a ys):xs=ys:=by
 obtain⟨its,r,⟨o,n,e,_,_,d⟩,_⟩:=I.list h;obtain⟨its',r',⟨o',n',e',_,_,d'⟩,_⟩:=I.list h';rw[e] at e';cases e';rw[d] at d'
 injection d' with d1 _
 have:its=its':=by simpa using congrArg Array.toList d1
 subst this;exact r.inj r'
theorem Inv.tuple_inj(I:Inv X pins σ H s)(h:SqT X.K H a xs)(h':SqT X.K H a ys):xs=ys:=by
 obtain⟨its,r,⟨o,e,_,n,d⟩,_⟩:=I.tuple h;obtain⟨its',r',⟨o',e',_,n',d'⟩,_⟩:=I.tuple h';rw[e] at e';cases e';rw[d] at d'
 injection d' with d1 _
 have:its=its':=by simpa using congrArg Array.toList d1
 subst this;exact r.inj r'
end

noncomputable abbrev Cx.wish(X:Cx)(E:Value->Shared->Prop):Cx:={ X with xe:=E }
noncomputable abbrev Cx.nox(X:Cx):Cx:=X.wish fun _ _=>False
theorem Cx.Ok.wish{X:Cx}(ok:X.Ok)(E:Value->Shared->Prop):(X.wish E).Ok :=
 ⟨ok.mod,ok.kind,ok.glob,ok.blt,ok.above,ok.inj,ok.has,ok.cab,ok.hd,ok.frames,ok.stk,ok.exf,ok.bs,ok.bsz,ok.noex,ok.exfs,ok.funs,ok.frf⟩
theorem Cx.Ok.unwish{X:Cx}{E:Value->Shared->Prop}(ok:(X.wish E).Ok):X.Ok :=
 ⟨ok.mod,ok.kind,ok.glob,ok.blt,ok.above,ok.inj,ok.has,ok.cab,ok.hd,ok.frames,ok.stk,ok.exf,ok.bs,ok.bsz,ok.noex,ok.exfs,ok.funs,ok.frf⟩
section
variable{X:Cx}{pins:List (Addr×Obj)}{σ:St}{H:Hp}{s:Shared}{E:Value->Shared->Prop}
theorem Inv.wish(I:Inv X pins σ H s)(E:Value->Shared->Prop):Inv (X.wish E) pins σ H s:=⟨I.ok.wish E,I.os,I.bare,I.base,I.loc,I.cell,I.free,I.freeC,I.pin,I.hok,I.len⟩
theorem Inv.unwish(I:Inv (X.wish E) pins σ H s):Inv X pins σ H s:=⟨I.ok.unwish,I.os,I.bare,I.base,I.loc,I.cell,I.free,I.freeC,I.pin,I.hok,I.len⟩
theorem SP.unwish{D:Ends}{f:Flow}{s':Shared}(h:SP (X.wish E) pins D f s'):SP X pins D f s':=by
 cases f with
 | next=>obtain⟨σ',H',I,q⟩:=h;exact⟨σ',H',I.unwish,q⟩
 | brk=>obtain⟨σ',H',I,q⟩:=h;exact⟨σ',H',I.unwish,q⟩
 | cont=>obtain⟨σ',H',I,q⟩:=h;exact⟨σ',H',I.unwish,q⟩
 | ret u=>obtain⟨v,σ',H',I,r,q⟩:=h;exact⟨v,σ',H',I.unwish,r,q⟩
theorem PE.nox{e:Expr}{t:TE}(h:PE X.nox e t):PE X e t:=fun pins s σ H Q I hw=>wpAny_mono (h pins s σ H Q (I.wish _) hw) (fun _ _ ⟨v,H',I',r,q⟩=>⟨v,H',I'.unwish,r,q⟩) fun _ _ z=>False.elim z
theorem PT.nox{e:Expr}{t:TT}(h:PT X.nox e t):PT X e t:=fun pins s σ H Q I hw=>wpAny_mono (h pins s σ H Q (I.wish _) hw) (fun _ _ ⟨H',I',q⟩=>⟨H',I'.unwish,q⟩) fun _ _ z=>False.elim z
theorem PSs.nox{st:List Stmt}{t:TS}(h:PSs X.nox st t):PSs X st t:=fun pins s σ H D I hw=>wpAny_mono (h pins s σ H D (I.wish _) hw) (fun _ _ q=>q.unwish) fun _ _ z=>False.elim z
end

section
variable{X:Cx}{st:Stmt}{rest:List Stmt}{t u:TS}{e:Expr}{te:TE}{pos:Pos}
noncomputable def Jhu:TS:=fun D σ H=>D.nx σ H
noncomputable def Jmm(t u:TS):TS:=fun D σ H=>t { D with nx:=u D } σ H
theorem YR:PSs X [] Jhu:=fun _ _ σ H _ I h=>wpAny_execs_nil ⟨σ,H,I,h⟩
theorem Jg(h1:PS X st t)(h2:PSs X rest u):PSs X (st::rest) (Jmm t u):=by
 intro pins s σ H D I h;refine wpAny_execs_cons (thn (h1 pins s σ H { D with nx:=u D } I h) fun f s1 q=>?_)
 cases f with
 | next=>obtain⟨σ',H',I',q⟩:=q;exact h2 pins s1 σ' H' D I' q
 | ret v=>exact q
 | brk=>exact q
 | cont=>exact q
theorem Jm(h1:PS X st t):PSs X [st] t:=by
 intro pins s σ H D I h;refine wpAny_execs_cons (thn (h1 pins s σ H D I h) fun f s1 q=>?_)
 cases f with
 | next=>exact wpAny_execs_nil q
 | ret v=>exact q
 | brk=>exact q
 | cont=>exact q
theorem Inv.quiet{pins:List (Addr×Obj)}{σ:St}{H:Hp}{s:Shared}(I:Inv X pins σ H s):interactive X.env=false:=by simp[interactive,I.ok.kind]
noncomputable def JbZ(te:TE):TS:=fun D σ H=>te σ H fun _ H1=>D.nx σ H1
theorem Uz(he:PE X e te)(hs:swapsWith e none pos.line X.env=pure false:=by rfl):PS X (.Expr e pos) (JbZ te):=by intro pins s σ H D I h;exact wpAny_Expr_any (thn (he pins s σ H _ I h) fun v s1 ⟨x,H1,I1,r1,q1⟩=>⟨σ,H1,I1,q1⟩) I.quiet hs
noncomputable def JjG(te:TE):TS:=fun D σ H=>te σ H D.rt
theorem JM(he:PE X e te):PS X (.Return (some e) pos) (JjG te):=by intro pins s σ H D I h;exact wpAny_Return_some (thn (he pins s σ H _ I h) fun v s1 ⟨x,H1,I1,r1,q1⟩=>⟨x,σ,H1,I1,r1,q1⟩)
noncomputable def Jmj(c:TT)(t u:TS):TS:=fun D σ H=>c σ H fun b H1=>if b=true then t D σ H1 else u D σ H1
theorem UM{c:Expr}{a b:List Stmt}{tc:TT}(hc:PT X c tc)(ha:PSs X a t)(hb:PSs X b u):PS X (.If c a b pos) (Jmj tc t u):=by
 intro pins s σ H D I h;refine wpAny_If (thn (hc pins s σ H _ I h) fun d s1 ⟨H1,I1,q1⟩=>?_)
 cases d with
 | true=>exact ha pins s1 σ H1 D I1 q1
 | false=>exact hb pins s1 σ H1 D I1 q1
noncomputable def Jht:TS:=fun _ _ _=>False
theorem Vu:PS X st Jht:=fun _ _ _ _ _ _ h=>h.elim
end

noncomputable abbrev TG:=V->St->Hp->(St->Hp->Prop)->Prop
noncomputable abbrev TGs:=List V->St->Hp->(St->Hp->Prop)->Prop
noncomputable def PG(X:Cx)(target:Expr)(t:TG):Prop :=
 ∀(pins:List (Addr×Obj)) (s:Shared) (σ:St) (H:Hp) (v:V) (u:Value) (Q:St->Hp->Prop),Inv X pins σ H s->RelV v u->t v σ H Q ->
  wpAny (model X.prog X.w) X.A (assign target X.env u) (fun _ s'=>∃σ' H',Inv X pins σ' H' s'/\Q σ' H') X.xe s
noncomputable def PGs(X:Cx)(ts:List Expr)(t:TGs):Prop :=
 ∀(pins:List (Addr×Obj)) (s:Shared) (σ:St) (H:Hp) (vs:List V) (us:List Value) (Q:St->Hp->Prop),Inv X pins σ H s->Vals vs us->t vs σ H Q ->
  wpAny (model X.prog X.w) X.A (assignInOrder ((assignEach ts X.env).map (·.2)) us) (fun _ s'=>∃σ' H',Inv X pins σ' H' s'/\Q σ' H') X.xe s
noncomputable abbrev JmF:=V->V->V->Hp->(Hp->Prop)->Prop
noncomputable abbrev TIp:=V->V->Hp->VK->Prop
noncomputable def PIp(X:Cx)(op:Operator)(t:TIp):Prop :=
 ∀(pins:List (Addr×Obj)) (s:Shared) (σ:St) (H:Hp) (x y:V) (v u:Value) (Q:VK),Inv X pins σ H s->RelV x v->RelV y u->t x y H Q ->
  wpAny (model X.prog X.w) X.A (inplaceOp op v u) (EP X pins σ Q) X.xe s
section
variable{X:Cx}{pos:Pos}
noncomputable def Vm(i:Nat):TG:=fun v σ H Q=>Q (σ.set i (some v)) H
theorem Jk{i:Nat}{x:Str}(hN:X.N.Nodup)(hi:X.N[i]?=some x)(hx:Loc X.env.scope x)(hf:X.fn x=true\/X.env.scope.names.lookup x=some .local:=by first|exact .inl rfl|exact .inr rfl|assumption):PG X (.Name x pos) (Vm i):=by intro pins s σ H v u Q I r h;exact wpAny_assign_Name (W3 I hN hi hx r (fun s' I'=>⟨_,H,I',h⟩) hf)
noncomputable def JkJ:TGs:=fun vs σ H Q=>vs=[]/\Q σ H
noncomputable def Jgg(t:TG)(u:TGs):TGs:=fun vs σ H Q=>∃v r,vs=v::r/\t v σ H fun σ' H'=>u r σ' H' Q
theorem JI:PGs X [] JkJ:=by intro pins s σ H vs us Q I r h;obtain⟨e,h⟩:=h;subst e;cases r;exact assignInOrder_nil ⟨σ,H,I,h⟩
theorem Ji{e:Expr}{es:List Expr}{t:TG}{u:TGs}(h1:PG X e t)(h2:PGs X es u)
 (hs:(assignEach (e::es) X.env).map (·.2)=assign e X.env::(assignEach es X.env).map (·.2):=by rfl):PGs X (e::es) (Jgg t u):=by
 intro pins s σ H vs us Q I r h;obtain⟨v,vr,e1,h⟩:=h;subst e1
 cases r with
 | cons r rr=>rw[hs];refine assignInOrder_cons (thn (h1 pins s σ H _ _ _ I r h) fun _ s1 ⟨σ1,H1,I1,q1⟩=>?_);exact h2 pins s1 σ1 H1 _ _ Q I1 rr q1
noncomputable def Jgh(K:Frag)(n:Nat)(t:TGs):TG:=fun v σ H Q=>∃a xs,v=.ref a/\SqT K H a xs/\xs.length=n/\t xs σ H Q
theorem Jlx{es:List Expr}{k:Nat}{t:TGs}{n:Nat}(hc:X.calm=true)(h:PGs X es t)
 (hn:(assignEach es X.env).length=n:=by rfl) (hst:(assignEach es X.env).findIdx? (·.1)=none:=by rfl):PG X (.Tuple es k pos) (Jgh X.K n t):=by
 intro pins s σ H v u Q I r hw;obtain⟨a,xs,e1,hq,hl,hw⟩:=hw;subst e1;cases r;obtain⟨its,rv,ht,hz⟩:=I.tuple hq;refine assign_Tuple_tuple (I.ok.hd hc) ht (by simp[hn,<- hl,rv.length]) hst fun h' hx=>?_
 have I1:Inv X pins σ H { s with heap:=h' }:=I.kept (t':=s.toks) fun b o e=>hx b o (Nat.ne_of_lt (Heap.lt_size e)) e
 exact h pins _ σ H xs _ Q I1 (by simpa using rv) hw
noncomputable def JnI(to ti:TE)(t:JmF):TG:=fun v σ H Q=>to σ H fun o H1=>ti σ H1 fun i H2=>t o i v H2 fun H3=>Q σ H3
noncomputable def Jfv(te:TE)(g:TG):TS:=fun D σ H=>te σ H fun x H1=>g x σ H1 D.nx
theorem Jy{i:Nat}{x:Str}{e:Expr}{te:TE}{pos':Pos}(hN:X.N.Nodup)(hi:X.N[i]?=some x)(hx:Loc X.env.scope x)(he:PE X e te)(hs:swapsWith e (some (.Name x pos')) pos.line X.env=pure false:=by rfl)(hf:X.fn x=true\/X.env.scope.names.lookup x=some .local:=by first|exact .inl rfl|exact .inr rfl|assumption) :
 PS X (.Assign [.Name x pos'] e pos) (Jfv te (Vm i)):=by
 intro pins s σ H D I h;refine wpAny_Assign_Name (thn (he pins s σ H _ I h) fun v s1 ⟨y,H1,I1,r1,q1⟩=>?_) hs;exact W3 I1 hN hi hx r1 (fun s2 I2=>⟨_,H1,I2,q1⟩) hf
noncomputable def Jnr(i:Nat)(te:TE)(ti:TIp):TS:=fun D σ H=>∃x,σ[i]?=some (some x)/\te σ H fun y H1=>ti x y H1 fun z H2=>D.nx (σ.set i (some z)) H2
theorem JgU{i:Nat}{x:Str}{e:Expr}{te:TE}{op:Operator}{ti:TIp}{pos':Pos}(hN:X.N.Nodup)(hi:X.N[i]?=some x)(hx:Loc X.env.scope x)(he:PE X e te)(ho:PIp X op ti)(hf:X.fn x=true\/X.env.scope.names.lookup x=some .local:=by first|exact .inl rfl|exact .inr rfl|assumption) :
 PS X (.AugAssign (.Name x pos') op e pos) (Jnr i te ti):=by
 intro pins s σ H D I h;obtain⟨v,e1,h⟩:=h;obtain⟨m,hn,hl⟩:=I.loc;have vis:Vis X.env.scope x:=by rcases hx with k|k;exact .inl k;exact .inr (.inl k)
 obtain⟨u,r,l⟩:=hl i x v hi e1 vis;refine wpAny_AugAssign_Name ?_
 have go:wpAny (model X.prog X.w) X.A (eval e X.env) (fun w s₂=>wpAny (model X.prog X.w) X.A (inplaceOp op u w) (fun r s₃=>wpAny (model X.prog X.w) X.A (storeName X.env x r) (fun _=>SP X pins D .next) X.xe s₃) X.xe s₂) X.xe s:=by
  refine thn (he pins s σ H _ I h) fun w s1 ⟨y,H1,I1,r1,q1⟩=>?_
  refine thn (ho pins s1 σ H1 v y u w _ I1 r r1 q1) fun z s2 ⟨zv,H2,I2,r2,q2⟩=>?_
  exact W3 I2 hN hi hx r2 (fun s3 I3=>⟨_,H2,I3,q2⟩) hf
 rcases l with ⟨hk,hm⟩|⟨hk,c,hc,hcell⟩
 ·exact wpAny_loadName_local I.ok.kind hk hn hm go
 ·rcases hk with hk|hk
  ·exact wpAny_loadName_cell I.ok.kind hk hc hcell go
  ·rcases hx with k|k
   ·have:X.env.scope.names.lookup x=some .free:=hk;rw[k] at this;cases this
   ·have:X.env.scope.names.lookup x=some .free:=hk;rw[k] at this;cases this
noncomputable def ipI(f:Int->Int->Int):TIp:=fun x y H Q=>∃i j,x=.int i/\y=.int j/\Q (.int (f i j)) H
theorem JkN:PIp X .Add (ipI fun i j=>i+j):=by intro pins s σ H x y v u Q I r1 r2 h;obtain⟨i,j,e1,e2,q⟩:=h;subst e1;subst e2;obtain⟨t,rfl⟩:=r1;obtain⟨t',rfl⟩:=r2;exact iadd_int ⟨.int _,H,I.tok _,⟨_,rfl⟩,q⟩
theorem JkO:PIp X .Sub (ipI fun i j=>i-j):=by intro pins s σ H x y v u Q I r1 r2 h;obtain⟨i,j,e1,e2,q⟩:=h;subst e1;subst e2;obtain⟨t,rfl⟩:=r1;obtain⟨t',rfl⟩:=r2;exact isub_int ⟨.int _,H,I.tok _,⟨_,rfl⟩,q⟩
end

section
variable{X:Cx}{pos:Pos}
noncomputable def Jhx(c:TT)(tb:TS):TS:=fun D σ H=>∃W:Nat->St->Hp->Prop,(∃m,W m σ H)/\∀m σ H,W m σ H ->
 c σ H fun b H1=>if b=true then ∃N:St->Hp->Prop,(∀σ' H',N σ' H'->∃m',m'<m/\W m' σ' H')/\tb { D with nx:=N,ct:=N,bk:=D.nx } σ H1 else D.nx σ H1
theorem JbF{c:Expr}{body:List Stmt}{tc:TT}{tb:TS}(hp:PassesOwn (model X.prog X.w) X.A X.env X.xe)(hc:PT X c tc)(hb:PSs X body tb):PS X (.While c body [] pos) (Jhx tc tb):=by
 intro pins s σ H D I h;obtain⟨W,⟨m0,w0⟩,turn⟩:=h;refine wpAny_While (codeAny_whileLoop (fun n s'=>∃σ' H',Inv X pins σ' H' s'/\W n σ' H') ?_ m0 ⟨σ,H,I,w0⟩);rintro n s1 ⟨σ1,H1,I1,w1⟩;refine wpAny_passesOwn hp (thn (hc pins s1 σ1 H1 _ I1 (turn n σ1 H1 w1)) fun b s2 ⟨H2,I2,q2⟩=>?_)
 cases b with
 | true =>
  obtain⟨N,hN,q2⟩:=q2;rw[if_pos rfl];refine wpAny_passesOwn hp (thn (hb pins s2 σ1 H2 _ I2 q2) fun f s3 q3=>?_)
  cases f with
  | next=>obtain⟨σ3,H3,I3,n3⟩:=q3;obtain⟨m',hm,w3⟩:=hN σ3 H3 n3;exact⟨m',hm,σ3,H3,I3,w3⟩
  | cont=>obtain⟨σ3,H3,I3,n3⟩:=q3;obtain⟨m',hm,w3⟩:=hN σ3 H3 n3;exact⟨m',hm,σ3,H3,I3,w3⟩
  | brk=>exact q3
  | ret v=>exact q3
 | false=>rw[if_neg Bool.false_ne_true];exact wpAny_execs_nil ⟨σ1,H2,I2,q2⟩
end

structure It where
 go:Nat->Hp->Prop
 yld:Nat->Hp->V->Hp->Prop
 stop:Nat->Hp->Prop
noncomputable def FpOk(X:Cx)(pins:List (Addr×Obj))(H:Hp)(b:Addr):Prop :=
 H b=none/\b≠X.env.locals/\b∉X.fs/\(b∈X.ex\/X.s₀.heap.objs.size<=b)/\(∀x c,X.env.cells.lookup x=some c->c≠b)/\∀p∈X.pn++pins,p.1≠b
theorem Inv.fpOk{X:Cx}{pins:List (Addr×Obj)}{σ:St}{H H':Hp}{s:Shared}{b:Addr}(I:Inv X pins σ H s)(hb:s.heap.objs.size<=b)(hn:H' b=none):FpOk X pins H' b:=by
 refine⟨hn,Nat.ne_of_gt (Nat.lt_of_lt_of_le I.lt hb),I.nofs hb,.inr (Nat.le_trans I.sz hb),fun x c e z=>?_,fun p hp z=>?_⟩
 ·obtain⟨v,q⟩:=I.cell x c e;exact absurd (Nat.lt_of_lt_of_le q.lt (by rw[z];exact hb)) (Nat.lt_irrefl _)
 ·exact absurd (Nat.lt_of_lt_of_le (Heap.lt_size (I.pin p hp).1) (by rw[z];exact hb)) (Nat.lt_irrefl _)
structure Turn (P:Program) (w:World) (K:Frag) (tg:Expr) (J:It) (fp:List Addr) (it:Addr) (tn:Nat->Heap->Prop):Prop where
 mem:it∈fp
 obj:∀i h,tn i h->∀b∈fp,∃o,h.get? b=some o/\∀v,o.data≠.cell v
 keep:∀i h h',tn i h->(∀b∈fp,∀o,h.get? b=some o->h'.get? b=some o)->tn i h'
 item:∀(X:Cx),X.prog=P->X.w=w->X.K=K->X.calm=true->∀(i:Nat) (pins:List (Addr×Obj)) (s:Shared) (σ:St) (H:Hp) (E:Value->Shared->Prop),Inv X pins σ H s->(∀b∈fp,FpOk X pins H b)->tn i s.heap->J.go i H ->
  wpAny (model P w) X.A (pyNext (.ref it)) (fun r s1=>∃u,r=some u ∧
   wpAny (model P w) X.A (letOwnedTupleGo tg (.ref it) u) (fun _ s2=>∃x H',Inv X pins σ H' s2/\RelV x u/\J.yld i H x H'/\tn (i+1) s2.heap/\∀b∈fp,H' b=none) E s1) E s
 done:∀(X:Cx),X.prog=P->X.w=w->X.K=K->X.calm=true->∀(i:Nat) (pins:List (Addr×Obj)) (s:Shared) (σ:St) (H:Hp) (E:Value->Shared->Prop),Inv X pins σ H s->(∀b∈fp,FpOk X pins H b)->tn i s.heap->J.stop i H ->
  wpAny (model P w) X.A (pyNext (.ref it)) (fun r s1=>r=none/\Inv X pins σ H s1) E s
 self:∀(A:Around) (i:Nat) (s:Shared) (Q:Value->Shared->Prop) (E:Value->Shared->Prop),tn i s.heap->Q (.ref it) s->wpAny (model P w) A (pyIter (.ref it)) Q E s
noncomputable abbrev TI:=St->Hp->(It->Hp->Prop)->Prop
noncomputable def PIE(X:Cx)(pins:List (Addr×Obj))(σ:St)(tg:Expr)(R:It->Hp->Prop)(itv:Value)(s2:Shared):Prop :=
 ∃(it:Addr) (fp:List Addr) (tn:Nat->Heap->Prop) (J:It) (H':Hp),itv=.ref it/\Inv X pins σ H' s2/\Turn X.prog X.w X.K tg J fp it tn/\tn 0 s2.heap/\(∀b∈fp,FpOk X pins H' b)/\R J H'
noncomputable def PI(X:Cx)(tg iter:Expr)(wi:TI):Prop :=
 ∀(pins:List (Addr×Obj)) (s:Shared) (σ:St) (H:Hp) (R:It->Hp->Prop),Inv X pins σ H s->wi σ H R ->
  wpAny (model X.prog X.w) X.A (eval iter X.env) (fun v s1=>wpAny (model X.prog X.w) X.A (pyIter v) (PIE X pins σ tg R) X.xe s1) X.xe s

theorem Ja7{M:Model}{A:Around}{E:Value->Shared->Prop}{s:Shared}{tg:Expr}{it:Addr}{u:Value}{o:Obj}{n:String}{vs:Array Value}{Q:Unit->Shared->Prop}(ho:s.heap.get? it=some o)(hc:o.cls=.type n)(hd:o.data=.fields vs)
 (hn:["enumerate","zip","dict_itemiterator","dict_reverseitemiterator","odict_iterator","itertools.zip_longest","itertools.pairwise"].contains n=false) (hQ:Q () s):wpAny M A (letOwnedTupleGo tg (.ref it) u) Q E s:=by
 unfold letOwnedTupleGo;cases tg <;> first
  | exact wpAny_pure hQ
  | (cases u <;> first
   | exact wpAny_pure hQ
   | (refine wpAny_bind (wpAny_load ho ?_)
      rw[hc,hd];show wpAny M A (if (["enumerate","zip","dict_itemiterator","dict_reverseitemiterator","odict_iterator","itertools.zip_longest","itertools.pairwise"].contains n && vs[0]? == some (rawInt _))=true then _ else _) Q E s;rw[if_neg (by intro h;rw[hn,Bool.false_and] at h;cases h)];exact wpAny_pure hQ))

noncomputable def Itl(K:Frag)(a:Addr):It :=
 ⟨fun i H=>∃xs x,SqL K H a xs/\xs[i]?=some x,fun i H x H'=>H'=H/\∀xs,SqL K H a xs->xs[i]?=some x,fun i H=>∃xs,SqL K H a xs/\xs.length<=i⟩
noncomputable def Itt(K:Frag)(a:Addr):It :=
 ⟨fun i H=>∃xs x,SqT K H a xs/\xs[i]?=some x,fun i H x H'=>H'=H/\∀xs,SqT K H a xs->xs[i]?=some x,fun i H=>∃xs,SqT K H a xs/\xs.length<=i⟩
noncomputable def Itr(lo:Int)(n:Nat):It:=⟨fun i _=>i<n,fun i H x H'=>H'=H/\x=.int (lo+i),fun i _=>n<=i⟩
theorem Jfy{P:Program}{w:World}{K:Frag}{tg:Expr}(a it:Addr):Turn P w K tg (Itl K a) [it] it (fun i h=>h.IsListIter it a i) where
 mem:=by simp
 obj:=fun i h st b hb=>by
  have e:b=it:=by simpa using hb
  subst e;obtain⟨o,e,c,d⟩:=st;exact⟨o,e,fun v z=>by rw[d] at z;cases z⟩
 keep:=fun i h h' st k=>st.at fun o e=>k it (by simp) o e
 item:=by
  intro X hP hw hK hc i pins s σ H E I hf st hg;subst hP hw hK;obtain⟨xs,x,hq,hx⟩:=hg;obtain⟨its,rv,p,hz⟩:=I.list hq;obtain⟨u,hu,ru⟩:=rv.get hx;obtain⟨f0,f1,f2,f3,f4,f5⟩:=hf it (by simp);refine wpAny_pyNext_list_item st p.isList (x:=u) (by simpa using hu) fun h' st' sb=>?_
  have I1:Inv X pins σ H { s with heap:=h' }:=I.turned (t':=s.toks) (fun b o hb e=>(sb.2 b hb).trans e) f0 f1 f3 f4 f5;obtain⟨o,e,c,d⟩:=id st';exact⟨u,rfl,Ja7 (s:={ s with heap:=h' }) e c d (by decide) ⟨x,H,I1,ru,⟨rfl,fun ys hy=>by rw[I.list_inj hy hq];exact hx⟩,st',fun b hb=>(hf b hb).1⟩⟩
 done:=by intro X hP hw hK hc i pins s σ H E I hf st hg;subst hP hw hK;obtain⟨xs,hq,hx⟩:=hg;obtain⟨its,rv,p,hz⟩:=I.list hq;obtain⟨f0,f1,f2,f3,f4,f5⟩:=hf it (by simp);have hl:=rv.length;exact wpAny_pyNext_list_end (I.ok.hd hc) st p.isList (by simp;omega) fun h' eb=>⟨rfl,I.turned (t':=s.toks) (fun b o hb e=>eb b o hb e) f0 f1 f3 f4 f5⟩
 self:=fun _ _ _ _ _ st h=>wpAny_pyIter_listiter st h
theorem Jc5{P:Program}{w:World}{K:Frag}{tg:Expr}(a it:Addr):Turn P w K tg (Itt K a) [it] it (fun i h=>h.IsTupleIter it a i) where
 mem:=by simp
 obj:=fun i h st b hb=>by
  have e:b=it:=by simpa using hb
  subst e;obtain⟨o,e,c,d⟩:=st;exact⟨o,e,fun v z=>by rw[d] at z;cases z⟩
 keep:=fun i h h' st k=>st.at fun o e=>k it (by simp) o e
 item:=by
  intro X hP hw hK hc i pins s σ H E I hf st hg;subst hP hw hK;obtain⟨xs,x,hq,hx⟩:=hg;obtain⟨its,rv,p,hz⟩:=I.tuple hq;obtain⟨u,hu,ru⟩:=rv.get hx;obtain⟨f0,f1,f2,f3,f4,f5⟩:=hf it (by simp);refine wpAny_pyNext_tuple_item st (show s.heap.IsTuple a its.toArray from p) (x:=u) (by simpa using hu) fun h' st' sb=>?_
  have I1:Inv X pins σ H { s with heap:=h' }:=I.turned (t':=s.toks) (fun b o hb e=>(sb.2 b hb).trans e) f0 f1 f3 f4 f5;obtain⟨o,e,c,d⟩:=id st';exact⟨u,rfl,Ja7 (s:={ s with heap:=h' }) e c d (by decide) ⟨x,H,I1,ru,⟨rfl,fun ys hy=>by rw[I.tuple_inj hy hq];exact hx⟩,st',fun b hb=>(hf b hb).1⟩⟩
 done:=by intro X hP hw hK hc i pins s σ H E I hf st hg;subst hP hw hK;obtain⟨xs,hq,hx⟩:=hg;obtain⟨its,rv,p,hz⟩:=I.tuple hq;obtain⟨f0,f1,f2,f3,f4,f5⟩:=hf it (by simp);have hl:=rv.length;exact wpAny_pyNext_tuple_end (I.ok.hd hc) st (show s.heap.IsTuple a its.toArray from p) (by simp;omega) fun h' eb=>⟨rfl,I.turned (t':=s.toks) (fun b o hb e=>eb b o hb e) f0 f1 f3 f4 f5⟩
 self:=fun _ _ _ _ _ st h=>wpAny_pyIter_tupleiter st h
theorem Jc4{P:Program}{w:World}{K:Frag}{tg:Expr}(it:Addr)(lo:Int)(n:Nat):Turn P w K tg (Itr lo n) [it] it (fun i h=>IsRangeIter h it (lo+(i:Nat)*1) ((n:Int)-(i:Nat)) 1) where
 mem:=by simp
 obj:=fun i h st b hb=>by
  have e:b=it:=by simpa using hb
  subst e;exact⟨_,st,fun v z=>by have z':Data.fields _=Data.cell v:=z;cases z'⟩
 keep:=fun i h h' st k=>k it (by simp) _ st
 item:=by
  intro X hP hw hK hc i pins s σ H E I hf st hg;subst hP hw hK;obtain⟨f0,f1,f2,f3,f4,f5⟩:=hf it (by simp);have W:=Walks.range (prog:=X.prog) (w:=X.w) (I.ok.hd hc) it lo 1 n;refine W.item i s _ _ hg st fun v h' tk hv st' kk=>?_
  obtain⟨t,rfl⟩:=hv;have I1:Inv X pins σ H { s with heap:=h',toks:=tk }:=I.turned (fun b o hb e=>kk b o (by simpa using hb) e) f0 f1 f3 f4 f5;refine⟨_,rfl,Ja7 (s:={ s with heap:=h',toks:=tk }) (n:="range_iterator") st' rfl rfl (by decide) ⟨.int (lo+i),H,I1,⟨t,?_⟩,⟨rfl,rfl⟩,st',fun b hb=>(hf b hb).1⟩⟩;rw[Int.mul_one]
 done:=by intro X hP hw hK hc i pins s σ H E I hf st hg;subst hP hw hK;obtain⟨f0,f1,f2,f3,f4,f5⟩:=hf it (by simp);exact wpAny_pyNext_range_end (I.ok.hd hc) st (by have:n<=i:=hg;omega) fun h' eb=>⟨rfl,I.turned (t':=s.toks) (fun b o hb e=>eb b o hb e) f0 f1 f3 f4 f5⟩
 self:=fun _ _ _ _ _ st h=>wpAny_pyIter_rangeiter st h
end L2

namespace L2
open PySem PySem.Spec PyProof.Rows
section
variable{X:Cx}{tg:Expr}
noncomputable def JjS(K:Frag)(tl:TE):TI:=fun σ H R=>tl σ H fun x H1=>∃a,x=.ref a/\(∃xs,SqL K H1 a xs)/\R (Itl K a) H1
noncomputable def JmX(K:Frag)(tl:TE):TI:=fun σ H R=>tl σ H fun x H1=>∃a,x=.ref a/\(∃xs,SqT K H1 a xs)/\R (Itt K a) H1
theorem Ji3{l:Expr}{tl:TE}(hl:PE X l tl):PI X tg l (JjS X.K tl):=by
 intro pins s σ H R I h;refine thn (hl pins s σ H _ I h) fun v s1 ⟨x,H1,I1,r1,q1⟩=>?_
 obtain⟨a,e,⟨xs,hq⟩,q⟩:=q1;subst e;cases r1;obtain⟨its,rv,p,hz⟩:=I1.list hq;refine wpAny_pyIter_list p.isList ?_;refine⟨s1.heap.objs.size,[s1.heap.objs.size],_,_,H1,rfl,I1.kept (t':=s1.toks) fun b o e=>Heap.get?_push_of_some _ e,Jfy a _,⟨_,Heap.get?_push_size _ rfl,rfl,rfl⟩,fun b hb=>?_,q⟩;have e:b=s1.heap.objs.size:=by simpa using hb
 subst e;exact I1.fpOk (Nat.le_refl _) (I1.hok.fresh (Nat.le_refl _))
theorem Jlz{l:Expr}{tl:TE}(hl:PE X l tl):PI X tg l (JmX X.K tl):=by
 intro pins s σ H R I h;refine thn (hl pins s σ H _ I h) fun v s1 ⟨x,H1,I1,r1,q1⟩=>?_
 obtain⟨a,e,⟨xs,hq⟩,q⟩:=q1;subst e;cases r1;obtain⟨its,rv,p,hz⟩:=I1.tuple hq;refine wpAny_pyIter_tuple (show s1.heap.IsTuple a its.toArray from p) ?_;refine⟨s1.heap.objs.size,[s1.heap.objs.size],_,_,H1,rfl,I1.kept (t':=s1.toks) fun b o e=>Heap.get?_push_of_some _ e,Jc5 a _,⟨_,Heap.get?_push_size _ rfl,rfl,rfl⟩,fun b hb=>?_,q⟩;have e:b=s1.heap.objs.size:=by simpa using hb
 subst e;exact I1.fpOk (Nat.le_refl _) (I1.hok.fresh (Nat.le_refl _))
theorem Jg5{pins:List (Addr×Obj)}{σ:St}{H:Hp}{s:Shared}{R:It->Hp->Prop}{E:Value->Shared->Prop}{lo hi:Int}{t u v:Tok}{tk:Nat}(I:Inv X pins σ H s)(h1:-(2 ^ 62)<=lo)(h2:lo<2 ^ 62)(h3:-(2 ^ 62)<=hi)(h4:hi<2 ^ 62)
 (q:R (Itr lo (hi-lo).toNat) H):wpAny (model X.prog X.w) X.A (pyIter (.ref s.heap.objs.size)) (PIE X pins σ tg R) E { s with heap:=s.heap.push { cls:=.type "range",data:=.fields #[.int lo t,.int hi u,.int 1 v] },toks:=tk }:=by
 refine wpAny_pyIter_range (IsRange.new ..) (small_one h1 h2 h3 h4) ?_;have I1:Inv X pins σ H { s with heap:=s.heap.push { cls:=.type "range",data:=.fields #[.int lo t,.int hi u,.int 1 v] },toks:=tk }:=I.kept fun b o e=>Heap.get?_push_of_some _ e
 refine⟨(s.heap.push { cls:=.type "range",data:=.fields #[.int lo t,.int hi u,.int 1 v] }).objs.size,[(s.heap.push { cls:=.type "range",data:=.fields #[.int lo t,.int hi u,.int 1 v] }).objs.size],_,_,H,rfl,
  I1.kept (t':=tk) fun b o e=>Heap.get?_push_of_some _ e,Jc4 _ lo (hi-lo).toNat,?_,fun b hb=>?_,q⟩
 ·have e1:lo+((0:Nat):Int)*1=lo:=by simp
  have e2:(((hi-lo).toNat:Nat):Int)-((0:Nat):Int)=Builtin.Range.rangeSize lo hi 1:=by rw[rangeSize_one];split <;> omega
  show IsRangeIter _ _ (lo+((0:Nat):Int)*1) ((((hi-lo).toNat:Nat):Int)-((0:Nat):Int)) 1;rw[e1,e2];exact Heap.get?_push_size _ rfl
 ·have e:b=(s.heap.push { cls:=.type "range",data:=.fields #[.int lo t,.int hi u,.int 1 v] }).objs.size:=by simpa using hb
  subst e;exact I1.fpOk (Nat.le_refl _) (I1.hok.fresh (Nat.le_refl _))
noncomputable def JjT(ta:TA):TI:=fun σ H R=>ta σ H fun vs H1=>∃j:Int,vs=[.int j]/\-(2 ^ 62)<=j/\j<2 ^ 62/\R (Itr 0 j.toNat) H1
theorem ZF{a:Expr}{ta:TA}{p pos:Pos}(hg:Gl X "range")(hm:X.mg "range"=none)(ha:PA X [a] ta)(hs:starEach [a] X.env=[(false,eval a X.env)]:=by rfl):PI X tg (.Call (.Name "range" p) [a] [] pos) (JjT ta):=by
 intro pins s σ H R I h;refine Call_ (UJ I hg hm boot_range (PyProof.Rows.callWith_type1 (thn (ha pos pins s σ H _ I h) fun us s1 ⟨vs,H1,I1,r1,q1⟩=>?_) hs rfl));obtain⟨j,e,q1,q2,q⟩:=q1;subst e
 cases r1 with
 | cons r rr=>cases rr;obtain⟨t,rfl⟩:=r;exact call_range_1 (Jg5 I1 (by omega) (by omega) q1 q2 (by simpa using q))
noncomputable def Jmi(wi:TI)(g:TG)(tb:TS):TS:=fun D σ H=>wi σ H fun J H1=>∃W:Nat->Nat->St->Hp->Prop,(∃m,W 0 m σ H1)/\∀i m σ H,W i m σ H ->
 (J.stop i H/\D.nx σ H)\/(J.go i H/\∃N:St->Hp->Prop,(∀σ' H',N σ' H'->∃m',m'<m/\W (i+1) m' σ' H')/\∀x H',J.yld i H x H'->g x σ H' fun σ2 H2=>tb { D with nx:=N,ct:=N,bk:=D.nx } σ2 H2)
noncomputable def WV(fp:List Addr)(h:Heap):List (Addr×Obj):=fp.filterMap fun b=>(h.get? b).map fun o=>(b,o)
theorem Va{fp:List Addr}{h:Heap}{b:Addr}{o:Obj}(hb:b∈fp)(e:h.get? b=some o):(b,o)∈WV fp h:=List.mem_filterMap.mpr ⟨b,hb,by rw[e];rfl⟩
theorem Jfh{fp:List Addr}{h:Heap}{p:Addr×Obj}(hp:p∈WV fp h):p.1∈fp/\h.get? p.1=some p.2:=by
 obtain⟨b,hb,e⟩:=List.mem_filterMap.mp hp
 cases q:h.get? b with
 | none=>rw[q] at e;cases e
 | some o=>rw[q] at e;have e':(b,o)=p:=Option.some.inj e;subst e';exact⟨hb,q⟩
theorem Inv.pinned{pins:List (Addr×Obj)}{σ:St}{H:Hp}{s:Shared}{fp:List Addr}(I:Inv X pins σ H s)(hf:∀b∈fp,FpOk X pins H b)(ho:∀b∈fp,∃o,s.heap.get? b=some o/\∀v,o.data≠.cell v):Inv X (pins++WV fp s.heap) σ H s :=
 I.pins_of fun p hp=>(List.mem_append.mp hp).elim (fun z=>I.pin p (List.mem_append_right _ z)) fun z=>by obtain⟨hb,e⟩:=Jfh z;obtain⟨f0,f1,f2,_⟩:=hf p.1 hb;obtain⟨o,e',d⟩:=ho p.1 hb;rw[e] at e';cases e';exact⟨e,f0,f1,f2,d⟩
theorem Inv.unpinned{pins pl:List (Addr×Obj)}{σ:St}{H:Hp}{s:Shared}(I:Inv X (pins++pl) σ H s):Inv X pins σ H s:=I.pins_of fun p hp=>I.pin p (List.mem_append_right _ (List.mem_append_left _ hp))
theorem V0{iter:Expr}{body:List Stmt}{wi:TI}{g:TG}{tb:TS}{pos:Pos}(hp:PassesOwn (model X.prog X.w) X.A X.env X.xe)(hc:X.calm=true)(hi:PI X tg iter wi)(hg:PG X tg g)(hb:PSs X body tb)
 (hs:∀x,foldedSetIterable iter X.env x=pure x:=by intro _;rfl):PS X (.For tg iter body [] pos) (Jmi wi g tb):=by
 intro pins s σ H D I h;refine wpAny_For (thn (hi pins s σ H _ I h) fun v s1 h1=>thn h1 fun itv s2 h2=>?_) hs;obtain⟨it,fp,tn,J,H2,e,I2,T,st2,f2,W,⟨m0,w0⟩,turn⟩:=h2;subst e
 -- what stays true of the iterator's objects through the loop
 have stat:∀{H':Hp},(∀b∈fp,H' b=none)->∀b∈fp,FpOk X pins H' b:=fun hn b hb=>⟨hn b hb,(f2 b hb).2⟩
 refine codeAny_forLoop_any (fun n s'=>∃i σ' H',Inv X pins σ' H' s'/\tn i s'.heap/\(∀b∈fp,H' b=none)/\W i n σ' H') ?_ m0 ⟨0,σ,H2,I2,st2,fun b hb=>(f2 b hb).1,w0⟩;rintro n s3 ⟨i,σ3,H3,I3,st3,fr3,w3⟩;rcases turn i n σ3 H3 w3 with ⟨stop,qn⟩|⟨go,N,hN,step⟩
 ·refine wpAny_passesOwn hp (thn (T.done X rfl rfl rfl hc i pins s3 σ3 H3 X.xe I3 (stat fr3) st3 stop) fun r s4 ⟨hr,I4⟩=>?_);subst hr;exact wpAny_execs_nil ⟨σ3,H3,I4,qn⟩
 ·refine wpAny_passesOwn hp (thn (T.item X rfl rfl rfl hc i pins s3 σ3 H3 X.xe I3 (stat fr3) st3 go) fun r s4 ⟨u,hr,h4⟩=>?_);subst hr;refine wpAny_passesOwn hp (thn h4 fun _ s5 ⟨x,H5,I5,r5,y5,st5,fr5⟩=>?_);have I5':=I5.pinned (stat fr5) (T.obj _ _ st5);refine wpAny_passesOwn hp (thn (hg _ s5 σ3 H5 x u _ I5' r5 (step x H5 y5)) fun _ s6 ⟨σ6,H6,I6,q6⟩=>?_);refine wpAny_passesOwn hp (thn (hb _ s6 σ6 H6 _ I6 q6) fun f s7 q7=>?_)
  have again:∀{σ7:St} {H7:Hp},Inv X (pins++WV fp s5.heap) σ7 H7 s7->N σ7 H7->∃m,m<n/\∃i σ' H',Inv X pins σ' H' s7/\tn i s7.heap/\(∀b∈fp,H' b=none)/\W i m σ' H':=fun {σ7 H7} I7 n7=>by obtain⟨m',hm,w7⟩:=hN σ7 H7 n7;refine⟨m',hm,i+1,σ7,H7,I7.unpinned,T.keep _ _ _ st5 fun b hb o e=>(I7.pin (b,o) (List.mem_append_right _ (List.mem_append_right _ (Va hb e)))).1,fun b hb=>?_,w7⟩;obtain⟨o,e,d⟩:=T.obj _ _ st5 b hb;exact(I7.pin (b,o) (List.mem_append_right _ (List.mem_append_right _ (Va hb e)))).2.1
  cases f with
  | next=>obtain⟨σ7,H7,I7,n7⟩:=q7;exact again I7 n7
  | cont=>obtain⟨σ7,H7,I7,n7⟩:=q7;exact again I7 n7
  | brk=>obtain⟨σ7,H7,I7,q7⟩:=q7;exact⟨σ7,H7,I7.unpinned,q7⟩
  | ret v=>obtain⟨x7,σ7,H7,I7,r7,q7⟩:=q7;exact⟨x7,σ7,H7,I7.unpinned,r7,q7⟩
end

theorem Jge{K:Frag}{a:Addr}{xs:List V}{g:TG}{tb:TS}{D:Ends}{σ:St}{H:Hp}(Pv:Nat->St->Hp->Prop)(h0:Pv 0 σ H)(hl:∀i σ H,i<=xs.length->Pv i σ H->SqL K H a xs)
 (hs:∀i x σ H,xs[i]?=some x->Pv i σ H->g x σ H fun σ2 H2=>tb { D with nx:=Pv (i+1),ct:=Pv (i+1),bk:=D.nx } σ2 H2) (hd:∀σ H,Pv xs.length σ H->D.nx σ H) :
 ∃W:Nat->Nat->St->Hp->Prop,(∃m,W 0 m σ H)/\∀i m σ H,W i m σ H ->
  ((Itl K a).stop i H/\D.nx σ H)\/((Itl K a).go i H/\∃N:St->Hp->Prop,(∀σ' H',N σ' H'->∃m',m'<m/\W (i+1) m' σ' H')/\∀x H',(Itl K a).yld i H x H'->g x σ H' fun σ2 H2=>tb { D with nx:=N,ct:=N,bk:=D.nx } σ2 H2):=by
 refine⟨fun i m σ H=>m=xs.length-i/\i<=xs.length/\Pv i σ H,⟨xs.length,by simp,Nat.zero_le _,h0⟩,?_⟩;rintro i m σ H ⟨rfl,hi,p⟩;have q:=hl i σ H hi p
 by_cases hlt:i<xs.length
 ·refine .inr ⟨⟨xs,xs[i],q,by simp[hlt]⟩,Pv (i+1),fun σ' H' p'=>⟨xs.length-(i+1),by omega,rfl,hlt,p'⟩,fun x H' y=>?_⟩;obtain⟨e,y⟩:=y;subst e;exact hs i x σ _ (y xs q) p
 ·have e:i=xs.length:=by omega
  subst e;exact .inl ⟨⟨xs,q,Nat.le_refl _⟩,hd σ H p⟩
theorem JiB{K:Frag}{a:Addr}{xs:List V}{g:TG}{tb:TS}{D:Ends}{σ:St}{H:Hp}(Pv:Nat->St->Hp->Prop)(h0:Pv 0 σ H)(hl:∀i σ H,i<=xs.length->Pv i σ H->SqT K H a xs)
 (hs:∀i x σ H,xs[i]?=some x->Pv i σ H->g x σ H fun σ2 H2=>tb { D with nx:=Pv (i+1),ct:=Pv (i+1),bk:=D.nx } σ2 H2) (hd:∀σ H,Pv xs.length σ H->D.nx σ H) :
 ∃W:Nat->Nat->St->Hp->Prop,(∃m,W 0 m σ H)/\∀i m σ H,W i m σ H ->
  ((Itt K a).stop i H/\D.nx σ H)\/((Itt K a).go i H/\∃N:St->Hp->Prop,(∀σ' H',N σ' H'->∃m',m'<m/\W (i+1) m' σ' H')/\∀x H',(Itt K a).yld i H x H'->g x σ H' fun σ2 H2=>tb { D with nx:=N,ct:=N,bk:=D.nx } σ2 H2):=by
 refine⟨fun i m σ H=>m=xs.length-i/\i<=xs.length/\Pv i σ H,⟨xs.length,by simp,Nat.zero_le _,h0⟩,?_⟩;rintro i m σ H ⟨rfl,hi,p⟩;have q:=hl i σ H hi p
 by_cases hlt:i<xs.length
 ·refine .inr ⟨⟨xs,xs[i],q,by simp[hlt]⟩,Pv (i+1),fun σ' H' p'=>⟨xs.length-(i+1),by omega,rfl,hlt,p'⟩,fun x H' y=>?_⟩;obtain⟨e,y⟩:=y;subst e;exact hs i x σ _ (y xs q) p
 ·have e:i=xs.length:=by omega
  subst e;exact .inl ⟨⟨xs,q,Nat.le_refl _⟩,hd σ H p⟩
end L2

namespace L2
open PySem PySem.Spec PyProof.Rows

noncomputable abbrev R2:=V->V->Hp->VK->Prop
noncomputable def OpR(X:Cx)(f:Value->Value->Sem Value)(r:R2):Prop :=
 ∀(pins:List (Addr×Obj)) (s:Shared) (σ:St) (H:Hp) (x y:V) (v u:Value) (Q:VK),Inv X pins σ H s->RelV x v->RelV y u->r x y H Q ->
  wpAny (model X.prog X.w) X.A (f v u) (EP X pins σ Q) X.xe s
noncomputable def UnR(X:Cx)(f:Value->Sem Value)(r:V->Hp->VK->Prop):Prop :=
 ∀(pins:List (Addr×Obj)) (s:Shared) (σ:St) (H:Hp) (x:V) (v:Value) (Q:VK),Inv X pins σ H s->RelV x v->r x H Q ->
  wpAny (model X.prog X.w) X.A (f v) (EP X pins σ Q) X.xe s
noncomputable def CallR(X:Cx)(f:Value)(r:List V->Hp->VK->Prop):Prop :=
 ∀(pins:List (Addr×Obj)) (s:Shared) (σ:St) (H:Hp) (xs:List V) (us:List Value) (Q:VK),Inv X pins σ H s->Vals xs us->r xs H Q ->
  wpAny (model X.prog X.w) X.A (call f us) (EP X pins σ Q) X.xe s
noncomputable def JnA(X:Cx)(r:V->Hp->(Bool->Hp->Prop)->Prop):Prop :=
 ∀(pins:List (Addr×Obj)) (s:Shared) (σ:St) (H:Hp) (x:V) (v:Value) (Q:Bool->Hp->Prop),Inv X pins σ H s->RelV x v->r x H Q ->
  wpAny (model X.prog X.w) X.A (truthy v) (TP X pins σ Q) X.xe s

noncomputable def tOp(r:R2)(ta tb:TE):TE:=fun σ H Q=>ta σ H fun x H1=>tb σ H1 fun y H2=>r x y H2 Q
noncomputable def tUn(r:V->Hp->VK->Prop)(ta:TE):TE:=fun σ H Q=>ta σ H fun x H1=>r x H1 Q
noncomputable def rI(C:Int->Int->Prop)(g:Int->Int->V):R2:=fun x y H Q=>∃i j,x=.int i/\y=.int j/\C i j/\Q (g i j) H
noncomputable def rI0(g:Int->Int->V):R2:=fun x y H Q=>∃i j,x=.int i/\y=.int j/\Q (g i j) H
noncomputable def rU(g:Int->V):V->Hp->VK->Prop:=fun x H Q=>∃i,x=.int i/\Q (g i) H

section
variable{X:Cx}{a b c:Expr}{ta tb tc:TE}{pos:Pos}

theorem Jkh(ha:PE X a ta)(hb:PE X b tb){pins:List (Addr×Obj)}{s:Shared}{σ:St}{H:Hp}{R:V->V->Hp->Prop}(I:Inv X pins σ H s)
 (h:ta σ H fun x H1=>tb σ H1 fun y H2=>R x y H2) {Q:Value->Shared->Prop} {f:Value->Value->Sem Value}
 (hf:∀v u s2 x y H2,Inv X pins σ H2 s2->RelV x v->RelV y u->R x y H2->wpAny (model X.prog X.w) X.A (f v u) Q X.xe s2) :
 wpAny (model X.prog X.w) X.A (eval a X.env) (fun v s₁=>wpAny (model X.prog X.w) X.A (eval b X.env) (fun u s₂=>wpAny (model X.prog X.w) X.A (f v u) Q X.xe s₂) X.xe s₁) X.xe s:=by
 refine thn (ha pins s σ H _ I h) fun v s1 ⟨x,H1,I1,r1,q1⟩=>?_
 refine thn (hb pins s1 σ H1 _ I1 q1) fun u s2 ⟨y,H2,I2,r2,q2⟩=>?_
 exact hf v u s2 x y H2 I2 r1 r2 q2

theorem Jq{op:Operator}{r:R2}(ho:OpR X (binaryOp op) r)(ha:PE X a ta)(hb:PE X b tb):PE X (.BinOp a op b pos) (tOp r ta tb):=by intro pins s σ H Q I h;exact wpAny_BinOp (Jkh ha hb I h fun v u s2 x y H2 I2 rx ry q=>ho pins s2 σ H2 x y v u Q I2 rx ry q)
theorem JjW{op:UnaryOp}{r:V->Hp->VK->Prop}(ho:UnR X (unaryOp op) r)(ha:PE X a ta):PE X (.UnaryOp op a pos) (tUn r ta):=by intro pins s σ H Q I h;exact UnaryOp_ (thn (ha pins s σ H _ I h) fun v s1 ⟨x,H1,I1,r1,q1⟩=>ho pins s1 σ H1 x v Q I1 r1 q1)
theorem opI{f:Value->Value->Sem Value}{C:Int->Int->Prop}{g:Int->Int->Int}
 (rule:∀(i j:Int) (t u:Tok) (s:Shared) (Q:Value->Shared->Prop) (E:Value->Shared->Prop),C i j->Q (.int (g i j) s.toks) { s with toks:=s.toks+1 }->wpAny (model X.prog X.w) X.A (f (.int i t) (.int j u)) Q E s) :
 OpR X f (rI C fun i j=>.int (g i j)):=by
 intro pins s σ H x y v u Q I rx ry h;obtain⟨i,j,rfl,rfl,hc,q⟩:=h;obtain⟨t,rfl⟩:=rx;obtain⟨t',rfl⟩:=ry;exact rule i j t t' s _ _ hc ⟨.int (g i j),H,I.tok _,⟨_,rfl⟩,q⟩
theorem Jm3{f:Value->Value->Sem Value}{g:Int->Int->Int}
 (rule:∀(i j:Int) (t u:Tok) (s:Shared) (Q:Value->Shared->Prop) (E:Value->Shared->Prop),Q (.int (g i j) s.toks) { s with toks:=s.toks+1 }->wpAny (model X.prog X.w) X.A (f (.int i t) (.int j u)) Q E s) :
 OpR X f (rI0 fun i j=>.int (g i j)):=by
 intro pins s σ H x y v u Q I rx ry h;obtain⟨i,j,rfl,rfl,q⟩:=h;obtain⟨t,rfl⟩:=rx;obtain⟨t',rfl⟩:=ry;exact rule i j t t' s _ _ ⟨.int (g i j),H,I.tok _,⟨_,rfl⟩,q⟩
theorem Jlj{f:Value->Value->Sem Value}{g:Int->Int->Bool}
 (rule:∀(i j:Int) (t u:Tok) (s:Shared) (Q:Value->Shared->Prop) (E:Value->Shared->Prop),Q (.bool (g i j)) s->wpAny (model X.prog X.w) X.A (f (.int i t) (.int j u)) Q E s) :
 OpR X f (rI0 fun i j=>.bl (g i j)):=by
 intro pins s σ H x y v u Q I rx ry h;obtain⟨i,j,rfl,rfl,q⟩:=h;obtain⟨t,rfl⟩:=rx;obtain⟨t',rfl⟩:=ry;exact rule i j t t' s _ _ ⟨.bl (g i j),H,I,rfl,q⟩

noncomputable def Jmy(i j:Int):Prop:=0<j/\j<1073741824
noncomputable def Jmz(i j:Int):Prop:=0<=j/\j<=1000000/\i.natAbs<2 ^ 64
noncomputable def CMul(i j:Int):Prop:=(-(2 ^ 64)<i/\i<2 ^ 64)\/(-(2 ^ 64)<j/\j<2 ^ 64)
theorem CMul.ok{i j:Int}(h:CMul i j):IntMulOk i j:=by
 rcases h with ⟨h1,h2⟩|⟨h1,h2⟩
 ·exact .of_left (intBits_le_64 h1 h2)
 ·exact .of_right (intBits_le_64 h1 h2)
theorem op_add:OpR X (binaryOp .Add) (rI0 fun i j=>.int (i+j)):=Jm3 fun _ _ _ _ _ _ _ q=>add_int q
theorem Yt:OpR X (binaryOp .Sub) (rI0 fun i j=>.int (i-j)):=Jm3 fun _ _ _ _ _ _ _ q=>sub_int q
theorem UL:OpR X (binaryOp .Mult) (rI CMul fun i j=>.int (i*j)):=opI fun _ _ _ _ _ _ _ hc q=>mul_int q hc.ok
theorem JdM:OpR X (binaryOp .FloorDiv) (rI Jmy fun i j=>.int (i / j)):=opI fun i j _ _ _ _ _ hc q=>by
 have h1:(0:Int)<j:=hc.1
 have h2:j<1073741824:=hc.2;exact floordiv_int (by omega) (by rw[Int.fdiv_eq_ediv_of_nonneg i (by omega)];exact q) (.inl (PyProof.noPylong_small (by omega)))
theorem VX:OpR X (binaryOp .Mod) (rI (fun _ j=>0<j) fun i j=>.int (i % j)):=opI fun i j _ _ _ _ _ hc q=>by have h1:(0:Int)<j:=hc;exact mod_int' (by omega) (by rw[Int.fmod_eq_emod_of_nonneg i (by omega)];exact q)
theorem Jlq:OpR X (binaryOp .Pow) (rI Jmz fun i j=>.int (i ^ j.toNat)):=opI fun _ _ _ _ _ _ _ hc q=>pow_int_small hc.1 hc.2.1 hc.2.2 q
theorem unI{f:Value->Sem Value}{g:Int->Int}
 (rule:∀(i:Int) (t:Tok) (s:Shared) (Q:Value->Shared->Prop) (E:Value->Shared->Prop),Q (.int (g i) s.toks) { s with toks:=s.toks+1 }->wpAny (model X.prog X.w) X.A (f (.int i t)) Q E s) :
 UnR X f (rU fun i=>.int (g i)):=by
 intro pins s σ H x v Q I rx h;obtain⟨i,rfl,q⟩:=h;obtain⟨t,rfl⟩:=rx;exact rule i t s _ _ ⟨.int (g i),H,I.tok _,⟨_,rfl⟩,q⟩
theorem JhH:UnR X (unaryOp .USub) (rU fun i=>.int (-i)):=unI fun _ _ _ _ _ q=>neg_int q
end

noncomputable def Jmd:V->V->Bool
 | .non,.non=>true|.non,.int _=>true|.int _,.non=>true|.non,.bl _=>true|.bl _,.non=>true|.non,.str _=>true|.str _,.non=>true
 | .int _,.int _=>true|.bl _,.bl _=>true|.str _,.str _=>true|.byt _,.byt _=>true
 | .int _,.str _=>true|.str _,.int _=>true|.bl _,.str _=>true|.str _,.bl _=>true
 | _,_=>false
noncomputable def rEq:R2:=fun x y H Q=>Jmd x y=true/\Q (.bl (decide (x=y))) H
noncomputable def rNe:R2:=fun x y H Q=>Jmd x y=true/\Q (.bl (!decide (x=y))) H

theorem Jdl{i j:Int}:decide (V.int i=V.int j)=(i == j):=by rw[Bool.eq_iff_iff];simp
theorem Jf3{i j:Bool}:decide (V.bl i=V.bl j)=(i == j):=by rw[Bool.eq_iff_iff];simp
theorem Jdm{i j:Str}:decide (V.str i=V.str j)=(i == j):=by rw[Bool.eq_iff_iff];simp
theorem Jdk{i j:Array UInt8}:decide (V.byt i=V.byt j)=(i.toList == j.toList):=by rw[Bool.eq_iff_iff];cases i;cases j;simp

section
variable{X:Cx}{a b c:Expr}{ta tb tc:TE}{pos:Pos}
theorem Jz{pins:List (Addr×Obj)}{σ:St}{H:Hp}{s:Shared}{Q:VK}{k k':Bool}(I:Inv X pins σ H s)(q:Q (.bl k) H)(e:k=k'):EP X pins σ Q (.bool k') s:=by subst e;exact⟨.bl k,H,I,rfl,q⟩
theorem op_eq:OpR X (compareOp .Eq) rEq:=by
 intro pins s σ H x y v u Q I rx ry h;obtain⟨hs,q⟩:=h
 cases x with
 | non =>
  cases rx
  cases y with
  | non=>cases ry;exact PySem.EqNone.eq_none_none (Jz I q (by simp))
  | bl j=>cases ry;exact PySem.EqNone.eq_none_bool (Jz I q (by simp))
  | int j=>obtain⟨t',rfl⟩:=ry;exact PySem.EqNone.eq_none_int (Jz I q (by simp))
  | str j=>obtain⟨t',rfl⟩:=ry;exact PySem.EqNone.eq_none_str (Jz I q (by simp))
  | _=>exact absurd (show false=true from hs) Bool.false_ne_true
 | bl i =>
  cases rx
  cases y with
  | non=>cases ry;exact PySem.EqNone.eq_bool_none (Jz I q (by simp))
  | bl j=>cases ry;exact eq_bool (Jz I q Jf3)
  | str j=>obtain⟨t',rfl⟩:=ry;exact PySem.EqMixed.eq_bool_str (Jz I q (by simp))
  | _=>exact absurd (show false=true from hs) Bool.false_ne_true
 | int i =>
  obtain⟨t,rfl⟩:=rx
  cases y with
  | non=>cases ry;exact PySem.EqNone.eq_int_none (Jz I q (by simp))
  | int j=>obtain⟨t',rfl⟩:=ry;exact eq_int (Jz I q Jdl)
  | str j=>obtain⟨t',rfl⟩:=ry;exact PySem.EqMixed.eq_int_str (Jz I q (by simp))
  | _=>exact absurd (show false=true from hs) Bool.false_ne_true
 | str i =>
  obtain⟨t,rfl⟩:=rx
  cases y with
  | non=>cases ry;exact PySem.EqNone.eq_str_none (Jz I q (by simp))
  | bl j=>cases ry;exact PySem.EqMixed.eq_str_bool (Jz I q (by simp))
  | int j=>obtain⟨t',rfl⟩:=ry;exact PySem.EqMixed.eq_str_int (Jz I q (by simp))
  | str j=>obtain⟨t',rfl⟩:=ry;exact eq_str (Jz I q Jdm)
  | _=>exact absurd (show false=true from hs) Bool.false_ne_true
 | byt i =>
  obtain⟨t,rfl⟩:=rx
  cases y with
  | byt j=>obtain⟨t',rfl⟩:=ry;exact PySem.W.eq_bytes (Jz I q Jdk)
  | _=>exact absurd (show false=true from hs) Bool.false_ne_true
 | _=>cases y <;> exact absurd (show false=true from hs) Bool.false_ne_true
theorem op_ne:OpR X (compareOp .NotEq) rNe:=by
 intro pins s σ H x y v u Q I rx ry h;obtain⟨hs,q⟩:=h
 cases x with
 | non =>
  cases rx
  cases y with
  | non=>cases ry;exact PySem.EqNone.ne_none_none (Jz I q (by simp))
  | bl j=>cases ry;exact PySem.EqNone.ne_none_bool (Jz I q (by simp))
  | int j=>obtain⟨t',rfl⟩:=ry;exact PySem.EqNone.ne_none_int (Jz I q (by simp))
  | str j=>obtain⟨t',rfl⟩:=ry;exact PySem.EqNone.ne_none_str (Jz I q (by simp))
  | _=>exact absurd (show false=true from hs) Bool.false_ne_true
 | bl i =>
  cases rx
  cases y with
  | non=>cases ry;exact PySem.EqNone.ne_bool_none (Jz I q (by simp))
  | bl j=>cases ry;exact ne_bool (Jz I q (congrArg not Jf3))
  | str j=>obtain⟨t',rfl⟩:=ry;exact PySem.EqMixed.ne_bool_str (Jz I q (by simp))
  | _=>exact absurd (show false=true from hs) Bool.false_ne_true
 | int i =>
  obtain⟨t,rfl⟩:=rx
  cases y with
  | non=>cases ry;exact PySem.EqNone.ne_int_none (Jz I q (by simp))
  | int j=>obtain⟨t',rfl⟩:=ry;exact ne_int (Jz I q (congrArg not Jdl))
  | str j=>obtain⟨t',rfl⟩:=ry;exact PySem.EqMixed.ne_int_str (Jz I q (by simp))
  | _=>exact absurd (show false=true from hs) Bool.false_ne_true
 | str i =>
  obtain⟨t,rfl⟩:=rx
  cases y with
  | non=>cases ry;exact PySem.EqNone.ne_str_none (Jz I q (by simp))
  | bl j=>cases ry;exact PySem.EqMixed.ne_str_bool (Jz I q (by simp))
  | int j=>obtain⟨t',rfl⟩:=ry;exact PySem.EqMixed.ne_str_int (Jz I q (by simp))
  | str j=>obtain⟨t',rfl⟩:=ry;exact ne_str (Jz I q (congrArg not Jdm))
  | _=>exact absurd (show false=true from hs) Bool.false_ne_true
 | byt i =>
  obtain⟨t,rfl⟩:=rx
  cases y with
  | byt j=>obtain⟨t',rfl⟩:=ry;exact PySem.W.ne_bytes (Jz I q (congrArg not Jdk))
  | _=>exact absurd (show false=true from hs) Bool.false_ne_true
 | _=>cases y <;> exact absurd (show false=true from hs) Bool.false_ne_true

theorem JdP:OpR X (compareOp .Lt) (rI0 fun i j=>.bl (decide (i<j))):=Jlj fun _ _ _ _ _ _ _ q=>lt_int q
theorem JdO:OpR X (compareOp .LtE) (rI0 fun i j=>.bl (decide (i<=j))):=Jlj fun _ _ _ _ _ _ _ q=>le_int q
theorem JdN:OpR X (compareOp .Gt) (rI0 fun i j=>.bl (decide (j<i))):=Jlj fun _ _ _ _ _ _ _ q=>gt_int q
theorem Jln:OpR X (compareOp .Is) (fun x y H Q=>y=.non/\Q (.bl (decide (x=.non))) H):=by
 intro pins s σ H x y v u Q I rx ry h;obtain⟨rfl,q⟩:=h;cases ry;refine is_none_gen (Jz I q ?_);cases x <;> first
  | (cases rx;rfl)
  | (obtain⟨t,rfl⟩:=rx;rfl)
theorem JiY:OpR X (compareOp .IsNot) (fun x y H Q=>y=.non/\Q (.bl (!decide (x=.non))) H):=by
 intro pins s σ H x y v u Q I rx ry h;obtain⟨rfl,q⟩:=h;cases ry;refine isnot_none_gen (Jz I q ?_);cases x <;> first
  | (cases rx;rfl)
  | (obtain⟨t,rfl⟩:=rx;rfl)

theorem OpR.or{f:Value->Value->Sem Value}{r r':R2}(h:OpR X f r)(h':OpR X f r'):OpR X f (fun x y H Q=>r x y H Q\/r' x y H Q):=by
 intro pins s σ H x y v u Q I rx ry q;rcases q with q|q
 ·exact h pins s σ H x y v u Q I rx ry q
 ·exact h' pins s σ H x y v u Q I rx ry q

theorem J0(b:Expr){op:CmpOp}(h:op≠.In:=by decide)(h2:op≠.NotIn:=by decide):behindInMarks op b=false:=by
 have e1:(op == CmpOp.In)=false:=by cases op <;> first|rfl|exact absurd rfl h
 have e2:(op == CmpOp.NotIn)=false:=by cases op <;> first|rfl|exact absurd rfl h2
 cases b <;> simp[behindInMarks,e1,e2]
theorem Jau{op:CmpOp}{r:R2}(ho:OpR X (compareOp op) r)(ha:PE X a ta)(hb:PE X b tb)(hm:behindInMarks op b=false):PE X (.Compare a [op] [b] pos) (tOp r ta tb):=by intro pins s σ H Q I h;exact wpAny_Compare1 (Jkh ha hb I h fun v u s2 x y H2 I2 rx ry q=>ho pins s2 σ H2 x y v u Q I2 rx ry q) hm
noncomputable def Jhw(t:TE):TT:=fun σ H Q=>t σ H fun x H'=>∃k,x=.bl k/\Q k H'
theorem JT{op:CmpOp}{r:R2}(ho:OpR X (compareOp op) r)(ha:PE X a ta)(hb:PE X b tb)(hm:behindInMarks op b=false):PT X (.Compare a [op] [b] pos) (Jhw (tOp r ta tb)):=by
 intro pins s σ H Q I h;refine wpAny_isTrue_Compare1 (thn (ha pins s σ H _ I h) fun v s1 ⟨x,H1,I1,r1,q1⟩=>thn (hb pins s1 σ H1 _ I1 q1) fun u s2 ⟨y,H2,I2,r2,q2⟩=>thn (ho pins s2 σ H2 x y v u _ I2 r1 r2 q2) fun c s3 ⟨z,H3,I3,r3,k,e,q3⟩=>?_) hm
 subst e;cases r3;exact wpAny_truthy_bool ⟨H3,I3,q3⟩
noncomputable def Jc1(r r':R2)(ta tb tc:TE):TE:=fun σ H Q=>ta σ H fun x H1=>tb σ H1 fun y H2=>r x y H2 fun z H3=>∃k,z=.bl k ∧
 (if k=true then tc σ H3 fun w' H4=>r' y w' H4 Q else Q (.bl false) H3)
theorem JgL{op op':CmpOp}{r r':R2}(ho:OpR X (compareOp op) r)(ho':OpR X (compareOp op') r')(ha:PE X a ta)(hb:PE X b tb)(hc:PE X c tc)
 (hm:lastMarks [op,op'] [b,c]=false:=by with_unfolding_all rfl):PE X (.Compare a [op,op'] [b,c] pos) (Jc1 r r' ta tb tc):=by
 intro pins s σ H Q I h;refine Compare_chain (thn (ha pins s σ H _ I h) fun v s1 ⟨x,H1,I1,r1,q1⟩=>chain_link (thn (hb pins s1 σ H1 _ I1 q1) fun u s2 ⟨y,H2,I2,r2,q2⟩=>thn (ho pins s2 σ H2 x y v u _ I2 r1 r2 q2) fun d s3 ⟨z,H3,I3,r3,k,e,q3⟩=>?_)) hm
 subst e;cases r3;refine wpAny_truthy_bool ?_
 cases k with
 | false=>exact ite_ff ⟨.bl false,H3,I3,rfl,q3⟩
 | true=>exact ite_tt (chain_last (thn (hc pins s3 σ H3 _ I3 q3) fun w' s4 ⟨z',H4,I4,r4,q4⟩=>ho' pins s4 σ H4 y z' u w' Q I4 r2 r4 q4))
noncomputable def JeA(K:Frag)(x:V)(H:Hp)(k:Bool):Prop :=
 match x with
 | .non=>k=false
 | .bl b=>k=b
 | .int i=>k=(i != 0)
 | .str y=>y.length<=sizeLine/\k=((y.length:Int) != 0)
 | .byt y=>y.size<=sizeLine/\k=((y.size:Int) != 0)
 | .ref p=>(∃xs,SqL K H p xs/\k=!xs.isEmpty)\/(∃xs,SqT K H p xs/\k=!xs.isEmpty)\/∃kvs,H p=some (.dK kvs)/\k=!kvs.isEmpty
 | _=>False
theorem JcB{κ:Type}{kvs:List (κ×V)}{vs:List (κ×Value)}(r:KV kvs vs):(!vs.isEmpty)=!kvs.isEmpty:=by cases r <;> rfl
theorem WM{xs:List V}{its:List Value}(r:Vals xs its):(!its.toArray.isEmpty)=!xs.isEmpty:=by cases r <;> simp
theorem WQ:(sizeLine:Nat)<2 ^ 63:=by rw[sizeLine_eq];decide
theorem Jmu:JnA X (fun x H Q=>∃k,JeA X.K x H k/\Q k H):=by
 intro pins s σ H x v Q I rx h;obtain⟨k,e,q⟩:=h;have hl:=WQ;have hs:sizeLine=16777216:=sizeLine_eq
 cases x with
 | non=>cases rx;have e':k=false:=e;subst e';exact truthy_none ⟨H,I,q⟩
 | bl b=>cases rx;have e':k=b:=e;subst e';exact wpAny_truthy_bool ⟨H,I,q⟩
 | int i=>obtain⟨t,rfl⟩:=rx;have e':k=(i != 0):=e;subst e';exact PySem.P.truthy_int ⟨H,I,q⟩
 | str y=>obtain⟨t,rfl⟩:=rx;obtain⟨hy,e'⟩:y.length<=sizeLine/\k=((y.length:Int) != 0):=e;subst e';exact PySem.P.truthy_str (by omega) ⟨H,I.tok _,q⟩
 | byt y=>obtain⟨t,rfl⟩:=rx;obtain⟨hy,e'⟩:y.size<=sizeLine/\k=((y.size:Int) != 0):=e;subst e';exact PySem.W.truthy_bytes (by omega) ⟨H,I.tok _,q⟩
 | ref p =>
  cases rx;have e':(∃xs,SqL X.K H p xs/\k=!xs.isEmpty)\/(∃xs,SqT X.K H p xs/\k=!xs.isEmpty)\/∃kvs,H p=some (.dK kvs)/\k=!kvs.isEmpty:=e
  rcases e' with ⟨xs,hx,e'⟩|⟨xs,hx,e'⟩|⟨kvs,hx,e'⟩
  ·subst e';obtain⟨its,r,pl,hz⟩:=I.list hx;have hlen:=r.length;exact wpAny_truthy_list pl.isList (by simp only[List.size_toArray];omega) ⟨H,I.tok _,by rw[WM r];exact q⟩
  ·subst e';obtain⟨its,r,pl,hz⟩:=I.tuple hx;have hlen:=r.length;exact truthy_tuple pl (by simp only[List.size_toArray];omega) ⟨H,I.tok _,by rw[WM r];exact q⟩
  ·subst e';obtain⟨hz,hS,vs,r,m⟩:kvs.length<=sizeLine/\(p == sysModules)=false/\∃vs,KV kvs vs/\s.heap.DictOf (JA X.prog X.w) p vs:=I.hok p _ hx
   have hlen:kvs.length=vs.length:=Paired.length r;exact wpAny_truthy_dict hS m (by omega) ⟨H,I.tok _,by rw[JcB r];exact q⟩
 | _=>exact(show False from e).elim
theorem JgV(ha:PE X a ta)(he:∀whole,isTrue a X.env whole=(do let v <- whole;standAt a.pos;holding [v] (truthy v))) :
 PT X a (fun σ H Q=>ta σ H fun x H'=>∃k,JeA X.K x H' k/\Q k H'):=by
 intro pins s σ H Q I h;exact isTrue_plain (thn (ha pins s σ H _ I h) fun v s1 ⟨x,H1,I1,r1,q1⟩=>Jmu pins s1 σ H1 x v Q I1 r1 q1) (he _)

theorem op_add_str:OpR X (binaryOp .Add) (fun x y H Q=>∃i j,x=.str i/\y=.str j/\i.length+j.length<=sizeLine/\Q (.str (i++j)) H):=by intro pins s σ H x y v u Q I rx ry h;obtain⟨i,j,rfl,rfl,hz,q⟩:=h;obtain⟨t,rfl⟩:=rx;obtain⟨t',rfl⟩:=ry;exact add_str (fun t' tk=>⟨.str (i++j),H,I.tok _,⟨_,rfl⟩,q⟩) hz
theorem U5{x:V}{us:List Value}(r:Vals [x] us):∃u,us=[u]/\RelV x u:=by
 cases r with
 | cons r1 r2=>cases r2;exact⟨_,rfl,r1⟩
theorem Jnv{x y:V}{us:List Value}(r:Vals [x,y] us):∃u w',us=[u,w']/\RelV x u/\RelV y w':=by
 cases r with
 | cons r1 r2 =>
  cases r2 with
  | cons r3 r4=>cases r4;exact⟨_,_,rfl,r1,r3⟩
theorem JeJ(hc:X.calm=true):CallR X (.builtin "min") (fun xs H Q=>∃i j,xs=[.int i,.int j]/\Q (.int (if j<i then j else i)) H):=by
 intro pins s σ H xs us Q I r h;obtain⟨i,j,rfl,q⟩:=h;obtain⟨u,w',rfl,⟨t,rfl⟩,⟨t',rfl⟩⟩:=Jnv r;refine min_two_ints (I.ok.hd hc) fun h' tk k=>⟨_,H,I.kept k,?_,q⟩
 by_cases hj:j<i
 ·rw[if_pos hj,if_pos hj];exact⟨_,rfl⟩
 ·rw[if_neg hj,if_neg hj];exact⟨_,rfl⟩
noncomputable def JmC(K:Frag)(x:V)(H:Hp)(n:Nat):Prop :=
 match x with
 | .str y=>y.length<=sizeLine/\n=y.length
 | .byt y=>y.size<=sizeLine/\n=y.size
 | .ref p=>(∃xs,SqL K H p xs/\n=xs.length)\/∃xs,SqT K H p xs/\n=xs.length
 | _=>False
theorem JfY:CallR X (.builtin "len") (fun xs H Q=>∃x n,xs=[x]/\JmC X.K x H n/\Q (.int n) H):=by
 intro pins s σ H xs us Q I r h;obtain⟨x,n,rfl,e,q⟩:=h;obtain⟨u,rfl,rx⟩:=U5 r;have hl:=WQ;have hs:sizeLine=16777216:=sizeLine_eq
 cases x with
 | str y=>obtain⟨t,rfl⟩:=rx;obtain⟨hy,e'⟩:y.length<=sizeLine/\n=y.length:=e;subst e';exact len_str (by omega) ⟨.int _,H,I.tok _,⟨_,rfl⟩,q⟩
 | byt y=>obtain⟨t,rfl⟩:=rx;obtain⟨hy,e'⟩:y.size<=sizeLine/\n=y.size:=e;subst e';exact PySem.W.len_bytes (by omega) ⟨.int _,H,I.tok _,⟨_,rfl⟩,q⟩
 | ref p =>
  cases rx;have e':(∃xs,SqL X.K H p xs/\n=xs.length)\/∃xs,SqT X.K H p xs/\n=xs.length:=e
  rcases e' with ⟨xs,hx,e'⟩|⟨xs,hx,e'⟩
  ·subst e';obtain⟨its,r',pl,hz⟩:=I.list hx;have hlen:=r'.length;exact Calls.call_len_list pl.isList (by simp only[List.size_toArray];omega) ⟨.int xs.length,H,I.tok _,⟨_,by simp only[List.size_toArray];rw[hlen]⟩,q⟩
  ·subst e';obtain⟨its,r',pl,hz⟩:=I.tuple hx;have hlen:=r'.length;exact len_tuple pl (by simp only[List.size_toArray];omega) ⟨.int xs.length,H,I.tok _,⟨_,by simp only[List.size_toArray];rw[hlen]⟩,q⟩
 | _=>exact(show False from e).elim
end
end L2

namespace L2
open PySem PySem.Spec PyProof.Rows

structure ObjM (h:Heap) (x dx C:Addr) (mA:Str->Option Value):Prop where
 obj:h.get? x=some (instObj C dx)
 ns:h.Ns1 dx mA
 ne:dx≠x

theorem Jfa{h:Heap}{dx:Addr}{mA:Str->Option Value}(n:h.Ns1 dx mA):∃od,h.get? dx=some od/\∀name,lookIn name od=some (mA name):=by
 obtain⟨o,es,ep,ho,hd,hk,_,hm⟩:=n;refine⟨o,ho,fun name=>?_⟩;have e:=hm name;unfold nsFind findBy at e;rw[<- Array.find?_toList] at e;unfold lookIn;rw[hd];dsimp only;split
 ·rename_i y q;rw[q] at e;exact congrArg some e
 ·rename_i q;rw[q] at e
  have a:es.toList.any (·.refKey)=false:=by rw[List.any_eq_false];intro y hy;obtain⟨z,t,hkey⟩:=hk y (Array.mem_toList_iff.mp hy);simp[DictEntry.refKey,hkey]
  have a':¬es.toList.any (·.refKey)=true:=by rw[a];exact Bool.false_ne_true
  rw[if_neg a'];exact congrArg some e

theorem ObjM.look{h:Heap}{x dx C:Addr}{mA:Str->Option Value}(I:ObjM h x dx C mA):∃od,PySem.W.InstAt h x (instObj C dx) C (some od)/\∀name,lookIn name od=some (mA name) :=
 let ⟨od,ho,hl⟩:=Jfa I.ns
 ⟨od,⟨I.obj,rfl,rfl,ho⟩,hl⟩

section
variable{prog:Program}{w:World}{A:Around}{E:Value->Shared->Prop}{s:Shared}{K:Frag}{x dx C f:Addr}{mA:Str->Option Value}{name:Str}{v:Value}

theorem JiC{expr:Bool}{Q:Value->Shared->Prop}(X:K.In s.heap)(I:ObjM s.heap x dx C mA)(hg:plainGet K C name=true)(hh:hasDictIn K C=true)
 (ha:findIn K (.ref C) name=some none) (hv:mA name=some v) (hv':PySem.W.handedIn v=true) (h:Q v { s with toks:=s.toks+1 }) :
 wpAny (model prog w) A (getAttr (.ref x) name expr) Q E s:=by
 obtain⟨od,J,hl⟩:=I.look;exact PySem.W.get_value X J (PySem.W.plainGet_of hg).1 (PySem.W.findObj_own hh ha rfl (by rw[hl,hv])) hv' h

theorem JjB{ns:List Str}{Q:Unit->Shared->Prop}(X:K.In s.heap)(I:ObjM s.heap x dx C mA)
 (hs:findIn K (.ref C) "__setattr__"=some (some (.builtin "object.__setattr__"))) (hp:plainOver K C=true) (ht:takerIn K C name=some none) (hh:hasDictIn K C=true)
 (hw:PySem.Within mA ns) (hsz:ns.length<=sizeLine)
 (h:∀h',ObjM h' x dx C (fun y=>if y=name then some v else mA y)->Heap.SameBut dx s.heap h'->Q () { s with heap:=h',toks:=s.toks+2 }) :
 wpAny (model prog w) A (setAttr (.ref x) name v) Q E s:=by
 obtain⟨od,J,hl⟩:=I.look;refine PySem.W.set_plain X J hs (PySem.W.osa_open (s:={ s with toks:=s.toks+1 }) (r:=none) X J hp ht fun b=>?_);obtain⟨cd,hc,hd'⟩:=PySem.W.any_some hh;have hx:s.heap.get? x=some ⟨.ref C,some dx,.plain,#[]⟩:=I.obj;refine wpAny_bind (wpAny_pure (wpAny_bind (wpAny_bind (wpAny_loadPart hx (wpAny_bind (PySem.W.Looks.here (s:={ s with toks:=s.toks+1 }) (PySem.W.looks_clsIn X hc) ?_))))));rw[hd'];refine wpAny_pure (a:=some dx) (wpAny_bind (wpAny_pure (wpAny_bind ?_)))
 refine wpAny_nsSet1 (s:={ s with toks:=s.toks+1 }) I.ns fun h' hn2 hs2=>?_
 obtain⟨oD,esD,epD,hoD,hdD,hcD⟩:=hn2.count (PySem.Within.cons name v hw);refine wpAny_bind (wpAny_lookBehind hoD (by rw[hdD];exact pastItsLine_dict (Nat.le_trans hcD (by rw[List.length_cons];omega))) ?_);exact wpAny_pure (h _ ⟨(hs2.2 _ (Ne.symm I.ne)).trans I.obj,hn2,I.ne⟩ hs2)

theorem JgB{R:Result->Shared->Prop}{vs:List Value}{kw:List (Str×Value)}(X:K.In s.heap)(hm:makesIn K C=true)
 (hi:findIn K (.ref C) "__init__"=some (some (.ref f))) (hf:PySem.W.typeIn K (.ref f)=some (.type "function"))
 (h:codeAny (model prog w) (A.under (.builtin "type.__call__" ⟨.ref C::vs,kw⟩)) (.call (.ref f) ⟨.ref (s.heap.objs.size+1)::vs,kw⟩) (PySem.W.InitBack (s.heap.objs.size+1) R)
  { s with heap:=(s.heap.push emptyDict).push (instObj C s.heap.objs.size) }) :
 codeAny (model prog w) A (.call (.ref C) ⟨vs,kw⟩) R s:=by
 obtain⟨hh,g,d,t,os⟩:=s;exact PySem.W.make_core (PySem.W.makes_of X hm) (PySem.W.looks_findIn X hi) (fun self=>PySem.W.bind_fn X self hf) (.inl rfl) h
end

noncomputable def UF(f:Str)(v:V):List (Str×V)->List (Str×V)
 | []=>[(f,v)]
 | (g,x)::r=>if g=f then(g,v)::r else(g,x)::UF f v r
theorem Wa(f g:Str)(v:V):∀fs:List (Str×V),(UF f v fs).lookup g=if g=f then some v else fs.lookup g
 | []=>by
  show List.lookup g [(f,v)]=_
  by_cases h:g=f
  ·have hb:(g == f)=true:=beq_iff_eq.mpr h;simp only[List.lookup,hb,if_pos h]
  ·have hb:(g == f)=false:=beq_eq_false_iff_ne.mpr h;simp only[List.lookup,hb,if_neg h]
 | (k,x)::r=>by
  have ih:=Wa f g v r;rw[show UF f v ((k,x)::r)=(if k=f then(k,v)::r else(k,x)::UF f v r) from rfl]
  by_cases hk:k=f
  ·rw[if_pos hk]
   by_cases h:g=k
   ·have hb:(g == k)=true:=beq_iff_eq.mpr h;simp only[List.lookup,hb,if_pos (h.trans hk)]
   ·have hb:(g == k)=false:=beq_eq_false_iff_ne.mpr h;simp only[List.lookup,hb,if_neg (fun e:g=f=>h (e.trans hk.symm))]
  ·rw[if_neg hk]
   by_cases h:g=k
   ·have hb:(g == k)=true:=beq_iff_eq.mpr h;simp only[List.lookup,hb,if_neg (fun e:g=f=>hk (h.symm.trans e))]
   ·have hb:(g == k)=false:=beq_eq_false_iff_ne.mpr h;simp only[List.lookup,hb];exact ih
theorem VT(f:Str)(v:V):∀fs:List (Str×V),f∈(UF f v fs).map (·.1)/\∀g,g∈fs.map (·.1)->g∈(UF f v fs).map (·.1)
 | []=>⟨by simp[UF],fun g h=>by simp at h⟩
 | (k,x)::r=>by
  obtain⟨i1,i2⟩:=VT f v r;rw[show UF f v ((k,x)::r)=(if k=f then(k,v)::r else(k,x)::UF f v r) from rfl]
  by_cases hk:k=f
  ·rw[if_pos hk];subst hk;exact⟨by simp,fun g h=>by simpa using h⟩
  ·rw[if_neg hk];refine⟨?_,fun g h=>?_⟩
   ·rw[List.map_cons];exact List.mem_cons_of_mem _ i1
   ·rw[List.map_cons] at h ⊢;rcases List.mem_cons.mp h with e|e
    ·exact List.mem_cons.mpr (.inl e)
    ·exact List.mem_cons_of_mem _ (i2 g e)
theorem V8(f:Str)(v:V):∀fs:List (Str×V),(UF f v fs).length<=fs.length+1
 | []=>by simp[UF]
 | (k,x)::r=>by
  have ih:=V8 f v r;rw[show UF f v ((k,x)::r)=(if k=f then(k,v)::r else(k,x)::UF f v r) from rfl]
  by_cases hk:k=f
  ·rw[if_pos hk,List.length_cons,List.length_cons];omega
  ·rw[if_neg hk,List.length_cons,List.length_cons];omega

theorem RelO.some_of{v:V}{o:Option Value}(r:RelO (some v) o):∃u,o=some u/\RelV v u:=by
 cases o with
 | none=>exact(show False from r).elim
 | some u=>exact⟨u,rfl,r⟩
theorem JeW{v:V}{u:Value}(r:RelV v u):PySem.W.handedIn u=true:=by
 cases v with
 | non=>cases (show u=Value.none from r);rfl
 | bl b=>cases (show u=Value.bool b from r);rfl
 | int i=>obtain⟨t,e⟩:=(show ∃t,u=Value.int i t from r);cases e;rfl
 | str x=>obtain⟨t,e⟩:=(show ∃t,u=Value.str x t from r);cases e;rfl
 | byt b=>obtain⟨t,e⟩:=(show ∃t,u=Value.bytes b t from r);cases e;rfl
 | flt b=>obtain⟨t,e⟩:=(show ∃t,u=Value.float b t from r);cases e;rfl
 | ref a=>cases (show u=Value.ref a from r);rfl
 | ty n=>cases (show u=Value.type n from r);rfl

section
variable{P:Program}{w:World}{H H':Hp}{h h':Heap}{a C dx:Addr}{fs fs':List (Str×V)}
theorem JdD(hok:HOk P w H h)(e:H a=some (.ins C dx fs)):∃mA,ObjM h a dx C mA/\(∀f,RelO (fs.lookup f) (mA f))/\PySem.Within mA (fs.map (·.1))/\fs.length<=1000/\H dx=some (.own a):=by
 obtain⟨d,z,ne,ob,mA,n,r,q⟩:=(show ObjOk P w H h a (.ins C dx fs) from hok a _ e)
 exact⟨mA,⟨ob,n,ne⟩,r,q,z,d⟩
end

structure Cls (K:Frag) (C:Addr):Prop where
 pg:plainGet K C Str.empty=true
 hd:hasDictIn K C=true
 po:plainOver K C=true
 sa:findIn K (.ref C) "__setattr__"=some (some (.builtin "object.__setattr__"))
theorem Cls.get{K:Frag}{C:Addr}(c:Cls K C)(f:Str):plainGet K C f=true:=c.pg
noncomputable def NoAttr(K:Frag)(C:Addr)(f:Str):Prop:=findIn K (.ref C) f=some none
theorem NoAttr.taker{K:Frag}{C:Addr}{f:Str}(n:NoAttr K C f):takerIn K C f=some none:=by unfold takerIn;rw[show findIn K (.ref C) f=some none from n];rfl
structure Con (K:Frag) (C:Addr) (f:Str) (v:V) (u:Value):Prop where
 at_:findIn K (.ref C) f=some (some u)
 rel:RelV v u
 get:specialIn K u "__get__"=some none
 cp:PySem.W.copiedNames.contains f=false
structure Meth (K:Frag) (C:Addr) (m:Str) (f:Addr):Prop where
 at_:findIn K (.ref C) m=some (some (.ref f))
 fn:isFn K (.ref f)=true
 kp:keepIn K (.ref f)=true

section
variable{X:Cx}{pins:List (Addr×Obj)}{σ:St}{H:Hp}{s:Shared}{a C dx:Addr}{fs:List (Str×V)}{f:Str}{v:V}{A:Around}{E:Value->Shared->Prop}

theorem Jcx{b:Bool}{Q:Value->Shared->Prop}(I:Inv X pins σ H s)(e:H a=some (.ins C dx fs))(c:Cls X.K C)(n:NoAttr X.K C f)(l:fs.lookup f=some v)
 (h:∀u s',Inv X pins σ H s'->RelV v u->Q u s'):wpAny (model X.prog X.w) A (getAttr (.ref a) f b) Q E s:=by
 obtain⟨mA,O,r,_,_,_⟩:=JdD I.hok e;obtain⟨u,hu,ru⟩:=RelO.some_of (v:=v) (o:=mA f) (by rw[<- l];exact r f);exact JiC I.kIn O (c.get f) c.hd n hu (JeW ru) (h u _ (I.tok _) ru)

theorem JcX{y:V}{u:Value}{Q:Unit->Shared->Prop}(I:Inv X pins σ H s)(e:H a=some (.ins C dx fs))(c:Cls X.K C)(n:NoAttr X.K C f)(hl:fs.length<1000)(ry:RelV y u)
 (h:∀s',Inv X pins σ (upd H a (.ins C dx (UF f y fs))) s'->Q () s'):wpAny (model X.prog X.w) A (setAttr (.ref a) f u) Q E s:=by
 obtain⟨mA,O,r,wi,_,ho⟩:=JdD I.hok e;have hz:(fs.map (·.1)).length<=sizeLine:=by rw[List.length_map,sizeLine_eq];omega
 refine JjB I.kIn O c.sa c.po n.taker c.hd wi hz fun h' O' sb=>h _ ?_
 have hd:∃o,h'.get? dx=some o:=let ⟨o,_,_,e',_⟩:=O'.ns;⟨o,e'⟩
 refine I.write (x:=a) (e:=dx) (by rw[e];exact True.intro) (.inr ho) (fun b q hb z=>(sb.2 b hb).trans z) hd ?_;refine⟨by rw[Jh O.ne];exact ho,?_,O.ne,O'.obj,_,O'.ns,fun g=>?_,fun g hg=>?_⟩
 ·have:=V8 f y fs;omega
 ·show RelO ((UF f y fs).lookup g) (if g=f then some u else mA g);rw[Wa]
  by_cases q:g=f
  ·rw[if_pos q,if_pos q];exact ry
  ·rw[if_neg q,if_neg q];exact r g
 ·by_cases q:g=f
  ·rw[q];exact(VT f y fs).1
  ·refine(VT f y fs).2 g (wi g fun z=>hg ?_);show(if g=f then some u else mA g)=none;rw[if_neg q];exact z

theorem Inv.made(I:Inv X pins σ H s):Inv X pins σ (upd (upd H s.heap.objs.size (.own (s.heap.objs.size+1))) (s.heap.objs.size+1) (.ins C s.heap.objs.size []))
 { s with heap:=(s.heap.push emptyDict).push (instObj C s.heap.objs.size) }:=by
 have e1:(s.heap.push emptyDict).get? s.heap.objs.size=some emptyDict:=Heap.get?_push_size s.heap rfl
 have e2:((s.heap.push emptyDict).push (instObj C s.heap.objs.size)).get? (s.heap.objs.size+1)=some (instObj C s.heap.objs.size):=by
  have:=Heap.get?_push_size (s.heap.push emptyDict) (o:=instObj C s.heap.objs.size) rfl
  rwa [Heap.size_push] at this
 have e3:(s.heap.push emptyDict).Ns s.heap.objs.size (fun _=>none):=⟨emptyDict,#[],_,e1,rfl,(fun e he=>absurd he (by simp)),fun _=>rfl⟩
 have I1:=I.laid (a:=s.heap.objs.size) (o:=.own (s.heap.objs.size+1)) (h':=s.heap.push emptyDict) (t':=s.toks) (fun b u q=>Heap.get?_push_of_some _ q) (Nat.le_refl _) ⟨_,e1⟩;refine I1.laid (a:=s.heap.objs.size+1) (o:=.ins C s.heap.objs.size []) (t':=s.toks) (fun b u q=>Heap.get?_push_of_some _ q) (Nat.le_of_eq (Heap.size_push _ _)) ?_
 have ne:s.heap.objs.size≠s.heap.objs.size+1:=Nat.ne_of_lt (Nat.lt_succ_self _);refine⟨by rw[Jh ne,Jo],Nat.zero_le _,ne,e2,fun _=>none,(Heap.Ns1.of_empty e3).at fun o q=>Heap.get?_push_of_some _ q,fun _=>True.intro,fun y hy=>absurd rfl hy⟩

theorem JhY{prog:Program}{w:World}{env:Env}{e:Expr}{f:Str}{pos:Pos}{s:Shared}{Q:Value->Shared->Prop}(hb:attributeBase e f env (eval e env)=eval e env)
 (h:wpAny (model prog w) A (eval e env) (fun o s₁=>wpAny (model prog w) A (getAttr o f true) Q E s₁) E s):wpAny (model prog w) A (eval (.Attribute e f pos) env) Q E s :=
 Attribute_any_ h (by rw[arm_eval_Attribute,hb])
end

noncomputable def JjF(K:Frag)(ta:TE)(f:Str):TE:=fun σ H Q=>ta σ H fun x H1=>∃a C dx fs v,x=.ref a/\H1 a=some (.ins C dx fs)/\Cls K C/\NoAttr K C f/\fs.lookup f=some v/\Q v H1
noncomputable def Jma(K:Frag)(ta tv:TE)(f:Str):TS:=fun D σ H=>tv σ H fun y H1=>ta σ H1 fun x H2=>∃a C dx fs,x=.ref a/\H2 a=some (.ins C dx fs)/\Cls K C/\NoAttr K C f/\fs.length<1000 ∧
 D.nx σ (upd H2 a (.ins C dx (UF f y fs)))
section
variable{X:Cx}{o e value:Expr}{f:Str}{pos pos' tpos:Pos}{ta tv:TE}
theorem Jlt(he:PE X e ta)(hb:attributeBase e f X.env (eval e X.env)=eval e X.env):PE X (.Attribute e f pos) (JjF X.K ta f):=by intro pins s σ H Q I h;refine JhY hb (thn (he pins s σ H _ I h) fun u s1 ⟨x,H1,I1,rx,a,C,dx,fs,v,ex,ea,c,n,l,q⟩=>?_);subst ex;obtain rfl:u=Value.ref a:=rx;exact Jcx I1 ea c n l fun u' s2 I2 ru=>⟨v,H1,I2,ru,q⟩
theorem JlB(ha:PE X o ta)(hv:PE X value tv)(hs:swapsWith value (some (.Attribute o f pos')) pos.line X.env=pure false):PS X (.Assign [.Attribute o f pos'] value pos) (Jma X.K ta tv f):=by intro pins s σ H D I h;refine plainObj_wpAny_Assign_Attribute (thn (hv pins s σ H _ I h) fun u s1 ⟨y,H1,I1,ry,q⟩=>thn (ha pins s1 σ H1 _ I1 q) fun ov s2 ⟨x,H2,I2,rx,a,C,dx,fs,ex,ea,c,n,l,q2⟩=>?_) hs;subst ex;obtain rfl:ov=Value.ref a:=rx;exact JcX I2 ea c n l ry fun s3 I3=>⟨σ,_,I3,q2⟩
end

section
variable{X:Cx}{pins:List (Addr×Obj)}{σ:St}{H:Hp}{s:Shared}{A:Around}{E:Value->Shared->Prop}{Q:Value->Shared->Prop}{c:Value}{b:Bool}
inductive TyOf (K:Frag) (H:Hp):V->Value->Prop where
 | non:TyOf K H .non (.type "NoneType")
 | bl (x:Bool):TyOf K H (.bl x) (.type "bool")
 | int (i:Int):TyOf K H (.int i) (.type "int")
 | str (x:Str):TyOf K H (.str x) (.type "str")
 | flt (x:UInt64):TyOf K H (.flt x) (.type "float")
 | lst {a:Addr} {xs:List V} (e:H a=some (.lst xs)):TyOf K H (.ref a) (.type "list")
 | frz {a:Addr} {o:Obj} {xs:List V} (e:H a=some (.frz o (.lst xs))):TyOf K H (.ref a) (.type "list")
 | tup {a:Addr} {xs:List V} (e:H a=some (.tup xs)):TyOf K H (.ref a) (.type "tuple")
 | dK {a:Addr} {kvs:List (Key×V)} (e:H a=some (.dK kvs)):TyOf K H (.ref a) (.type "dict")
 | dT {a:Addr} {kvs:List (List Key×V)} (e:H a=some (.dT kvs)):TyOf K H (.ref a) (.type "dict")
 | ins {a C dx:Addr} {fs:List (Str×V)} (e:H a=some (.ins C dx fs)) (cl:Cls K C) (ha:findIn K (.ref C) "__class__"=some (some (.builtin "object.__class__")))
  (hn:specialIn K (.builtin "object.__class__") "__get__"=some (some (.builtin "getset_descriptor.__get__"))) (htk:takesIn K (.builtin "object.__class__")=some true)
  (hm:mroIn K C (.type "object")=some true):TyOf K H (.ref a) (.ref C)
end
end L2

namespace L2
open PySem PySem.Spec PyProof.Rows

structure Room (k:Nat) (A:Around):Prop where
 hd:A.handled=none
 dp:A.depth+3*k+5<recursionLimit
 un:A.units+16*k+200<cLine
theorem Room.mono{j k:Nat}{A:Around}(r:Room k A)(h:j<=k):Room j A:=⟨r.hd,by have:=r.dp;omega,by have:=r.un;omega⟩
theorem Room.deeper{k:Nat}{A:Around}(r:Room (k+1) A)(env:Env):Room k (A.deeper env) :=
 ⟨r.hd,by have:=r.dp;show A.depth+1+3*k+5<_;omega,by have:=r.un;show A.units+3+16*k+200<_;omega⟩
theorem Room.in1{k:Nat}{A:Around}(r:Room (k+1) A):Room k A.in1 :=
 ⟨r.hd,by have:=r.dp;show A.depth+3*k+5<_;omega,by have:=r.un;show A.units+1+16*k+200<_;omega⟩
theorem JcE{A:Around}{C:Addr}{us:List Value}{kw:List (Str×Value)}:(A.under (.builtin "type.__call__" ⟨.ref C::us,kw⟩)).depth=A.depth+1:=by first | rfl | simp[Around.under,Code.weight,Code.isCreation,Code.isGuard,Code.isCaller,Code.frames,Code.isFrame,guardIds]
theorem JcF{A:Around}{C:Addr}{us:List Value}{kw:List (Str×Value)}:(A.under (.builtin "type.__call__" ⟨.ref C::us,kw⟩)).units=A.units+1:=by first | rfl | simp[Around.under,Code.cUnits,Code.frames,Code.isFrame]
theorem Room.make{k:Nat}{A:Around}(r:Room (k+1) A)(C:Addr)(us:List Value)(kw:List (Str×Value)):Room k (A.under (.builtin "type.__call__" ⟨.ref C::us,kw⟩)) :=
 ⟨r.hd,by have:=r.dp;rw[JcE];omega,by have:=r.un;rw[JcF];omega⟩
theorem Room.depth{k:Nat}{A:Around}(r:Room k A):A.depth<recursionLimit:=by have:=r.dp;omega
theorem Room.units{k:Nat}{A:Around}(r:Room k A):A.units+64<cLine:=by have:=r.un;omega
noncomputable def JaG:TA:=fun _ H Q=>Q [] H
noncomputable def VE(ta:TE)(tr:TA):TA:=fun σ H Q=>ta σ H fun x H1=>tr σ H1 fun xs H2=>Q (x::xs) H2
section
variable{X:Cx}{e:Expr}{es:List Expr}{te:TE}{t:TA}{pos:Pos}
theorem Je:PA X [] JaG:=fun _ _ _ _ H Q I h=>Calls.spliced_nil ⟨[],H,I,.nil,h⟩
theorem Ja(ha:PE X e te)(hr:PA X es t)(hs:starEach (e::es) X.env=(false,eval e X.env)::starEach es X.env:=by rfl):PA X (e::es) (VE te t):=by intro pos pins s σ H Q I h;rw[hs];show wpAny _ _ (spliced ((false,eval e X.env)::backTo pos (starEach es X.env))) _ _ s;refine Calls.spliced_cons (thn (ha pins s σ H _ I h) fun u s1 ⟨x,H1,I1,r1,q1⟩=>?_);exact thn (hr pos pins s1 σ H1 _ I1 q1) fun us s2 ⟨xs,H2,I2,r2,q2⟩=>⟨x::xs,H2,I2,.cons r1 r2,q2⟩

noncomputable def Jmn(t:TA):TE:=fun σ H Q=>t σ H fun xs H1=>xs.length<=sizeLine/\∀p,H1 p=none->Q (.ref p) (upd H1 p (.tup xs))
noncomputable def Jmk(t:TA):TE:=fun σ H Q=>t σ H fun xs H1=>xs.length<=sizeLine/\∀p,H1 p=none->Q (.ref p) (upd H1 p (.lst xs))
theorem YE{x1}(h:PA X es t):PE X (.Tuple es x1 pos) (Jmn t):=by intro pins s σ H Q I hq;refine wpAny_Tuple_spliced (thn (h pos pins s σ H _ I hq) fun us s1 ⟨xs,H1,I1,r,z,q⟩=>⟨by rw[<- r.length];exact z,?_⟩);have hf:H1 s1.heap.objs.size=none:=I1.hok.fresh (Nat.le_refl _);refine⟨.ref s1.heap.objs.size,upd H1 s1.heap.objs.size (.tup xs),I1.laid (t':=s1.toks) (fun b u e=>Heap.get?_push_of_some _ e) (Nat.le_refl _) ?_,rfl,q _ hf⟩;exact⟨z,us,r,⟨_,Heap.get?_push_size _ rfl,rfl,_,rfl⟩⟩
theorem Vc(h:PA X es t):PE X (.List es pos) (Jmk t):=by intro pins s σ H Q I hq;refine wpAny_List_spliced (thn (h pos pins s σ H _ I hq) fun us s1 ⟨xs,H1,I1,r,z,q⟩=>⟨by rw[<- r.length];exact z,?_⟩);have hf:H1 s1.heap.objs.size=none:=I1.hok.fresh (Nat.le_refl _);refine⟨.ref s1.heap.objs.size,upd H1 s1.heap.objs.size (.lst xs),I1.laid (t':=s1.toks) (fun b u e=>Heap.get?_push_of_some _ e) (Nat.le_refl _) ?_,rfl,q _ hf⟩;exact⟨z,us,0,r,Heap.get?_push_size _ rfl⟩
end

noncomputable abbrev Sp:=List V->Hp->VK->XK->Prop
noncomputable abbrev CXT:=List Env->Hp->Shared->XK->Value->Shared->Prop

structure Env0 (P:Program) (w:World) (K:Frag) (mg:Str->Option Value) (base:Heap) (A:Around) (outer:List Env) (s:Shared) (H:Hp):Prop where
 frames:A.frames=some outer
 mod:Mod K mg base
 bs:∀b o,base.get? b=some o->s.heap.get? b=some o/\H b=none
 bsz:base.objs.size<=s.heap.objs.size
 funs:s.heap.FunFrames base outer
 frf:∀b∈frs outer,H b=none
 hok:HOk P w H s.heap
 bare:AllBare s.gens
noncomputable def CE(outer:List Env)(P:Program)(w:World)(H:Hp)(s:Shared)(Q:VK)(u:Value)(s':Shared):Prop :=
 ∃v H',s'.os=s.os/\AllBare s'.gens/\Un (frs outer) [] H H' s.heap s'.heap/\HOk P w H' s'.heap/\RelV v u/\Q v H'
noncomputable def CR(CX:CXT)(outer:List Env)(P:Program)(w:World)(H:Hp)(s:Shared)(Q:VK)(E:XK)(r:Result)(s':Shared):Prop :=
 match r with
 | .ok (.ret u)=>CE outer P w H s Q u s'
 | .ok _=>False
 | .error e=>CX outer H s E e s'
structure FnOk (P:Program) (w:World) (K:Frag) (mg:Str->Option Value) (base:Heap) (CX:CXT) (k:Nat) (f:Addr) (fd:FuncData) (ps:List Str) (sp:Sp):Prop where
 len:∀vs H Q E,sp vs H Q E->vs.length=ps.length
 run:∀(A:Around) (outer:List Env) (s:Shared) (H:Hp) (args:Args) (us:List Value) (vs:List V) (Q:VK) (E:XK),Room k A->Env0 P w K mg base A outer s H->BindsTo s fd args (ps.zip us)->Vals vs us->sp vs H Q E ->
  codeAny (model P w) A (.call (.ref f) args) (CR CX outer P w H s Q E) s
theorem FnOk.mono{P:Program}{w:World}{K:Frag}{mg:Str->Option Value}{base:Heap}{CX:CXT}{j k:Nat}{f:Addr}{fd:FuncData}{ps:List Str}{sp:Sp}(F:FnOk P w K mg base CX j f fd ps sp)(h:j<=k) :
 FnOk P w K mg base CX k f fd ps sp:=⟨F.len,fun A outer s H args us vs Q E hr=>F.run A outer s H args us vs Q E (hr.mono h)⟩
theorem FnOk.imp{P:Program}{w:World}{K:Frag}{mg:Str->Option Value}{base:Heap}{CX:CXT}{k:Nat}{f:Addr}{fd:FuncData}{ps:List Str}{sp sp':Sp}(F:FnOk P w K mg base CX k f fd ps sp)
 (h:∀vs H Q E,sp' vs H Q E->sp vs H Q E):FnOk P w K mg base CX k f fd ps sp' :=
 ⟨fun vs H Q E q=>F.len vs H Q E (h _ _ _ _ q),fun A outer s H args us vs Q E hr he hb hv hs=>F.run A outer s H args us vs Q E hr he hb hv (h _ _ _ _ hs)⟩

theorem Env0.make{P:Program}{w:World}{K:Frag}{mg:Str->Option Value}{base:Heap}{A:Around}{outer:List Env}{s:Shared}{H:Hp}(e:Env0 P w K mg base A outer s H)(C:Addr)(us:List Value)(kw:List (Str×Value)) :
 Env0 P w K mg base (A.under (.builtin "type.__call__" ⟨.ref C::us,kw⟩)) outer s H:=⟨by first | exact e.frames | (simpa [Around.under,Code.envs,Code.isFrame,pushEnvs] using e.frames),e.mod,e.bs,e.bsz,e.funs,e.frf,e.hok,e.bare⟩
theorem Env0.in1{P:Program}{w:World}{K:Frag}{mg:Str->Option Value}{base:Heap}{A:Around}{outer:List Env}{s:Shared}{H:Hp}(e:Env0 P w K mg base A outer s H) :
 Env0 P w K mg base A.in1 outer s H:=⟨e.frames,e.mod,e.bs,e.bsz,e.funs,e.frf,e.hok,e.bare⟩

section
variable{X:Cx}{pins:List (Addr×Obj)}{σ:St}{H:Hp}{s s':Shared}
theorem Inv.env0(I:Inv X pins σ H s):Env0 X.prog X.w X.K X.mg X.base X.A X.stack s H :=
 ⟨I.ok.frames,I.ok.mod,I.bs,Nat.le_trans I.ok.bsz I.sz,I.stack,I.stkFree,I.hok,I.bare⟩
theorem Inv.after{Q:VK}{u:Value}(I:Inv X pins σ H s)(h:CE X.stack X.prog X.w H s Q u s'):EP X pins σ Q u s':=by obtain⟨v,H',os,bare,un,hok,r,q⟩:=h;obtain⟨hh,g,d,t,os'⟩:=s';obtain rfl:os'=s.os:=os;exact⟨v,H',I.call (h':=hh) (g':=g) (d':=d) (t':=t) (ch:=[]) un hok bare (fun b z=>absurd z (by simp)),r,q⟩
end

noncomputable def Jej(sp:Sp)(dvs:List V)(E:XK)(t:TA):TE:=fun σ H Q=>t σ H fun vs H1=>sp (vs++dvs) H1 Q E
noncomputable def Jel(C:Addr)(sp:Sp)(dvs:List V)(E:XK)(t:TA):TE:=fun σ H Q=>t σ H fun vs H1=>∀x dx,H1 x=none->H1 dx=none->dx≠x ->
 sp (.ref x::(vs++dvs)) (upd (upd H1 dx (.own x)) x (.ins C dx [])) (fun v H2=>v=.non/\Q (.ref x) H2) E

noncomputable def Binds(K:Frag)(fd:FuncData)(ps:List Str)(ds:List Value):Prop :=
 ∀(s:Shared) (us:List Value),K.In s.heap->(us++ds).length=ps.length->BindsTo s fd ⟨us,[]⟩ (ps.zip (us++ds))
theorem Binds.all{K:Frag}{fd:FuncData}{ps:List Str}(h:∀us:List Value,us.length=ps.length->bindArgs fd ⟨us,[]⟩=pure (ps.zip us)):Binds K fd ps []:=fun s us _ hl=>by rw[List.append_nil] at hl ⊢;exact .of_eq (h us hl)

noncomputable def Ww(CX:CXT)(X:Cx)(E:XK):Prop:=∀(pins:List (Addr×Obj)) (σ:St) (H:Hp) (s:Shared) (e:Value) (s':Shared),Inv X pins σ H s->CX X.stack H s E e s'->X.xe e s'

section
variable{X:Cx}{CX:CXT}{k:Nat}{f C:Addr}{fd:FuncData}{ps:List Str}{sp:Sp}{dvs:List V}{ds:List Value}{E:XK}{x m:Str}{p pos apos:Pos}{e o:Expr}{es:List Expr}{ta:TE}{t:TA}

theorem Jl9{pins:List (Addr×Obj)}{σ:St}{H:Hp}{s:Shared}{Q:VK}{us:List Value}{vs:List V}(F:FnOk X.prog X.w X.K X.mg X.base CX k f fd ps sp)(hr:Room k X.A)(hb:Binds X.K fd ps ds)(hd:Vals dvs ds)(hx:Ww CX X E)
 (I:Inv X pins σ H s) (r:Vals vs us) (h:sp (vs++dvs) H Q E):wpAny (model X.prog X.w) X.A (call (.ref f) us) (EP X pins σ Q) X.xe s:=by
 have r2:Vals (vs++dvs) (us++ds):=r.append hd
 have hl:(us++ds).length=ps.length:=by rw[<- r2.length];exact F.len _ _ _ _ h
 refine wpAny_call (codeAny_mono (F.run X.A X.stack s H ⟨us,[]⟩ (us++ds) (vs++dvs) Q E hr I.env0 (hb s us I.kIn hl) r2 h) fun r s' hq=>?_)
 cases r with
 | error e=>exact hx pins σ H s e s' I hq
 | ok fl =>
  cases fl with
  | ret u=>exact I.after hq
  | next=>exact False.elim hq
  | brk=>exact False.elim hq
  | cont=>exact False.elim hq

theorem Ji0(F:FnOk X.prog X.w X.K X.mg X.base CX k f fd ps sp)(hr:Room k X.A)(hg:Gl X x)(hm:X.mg x=some (.ref f))(hk:keepIn X.K (.ref f)=true)(hb:Binds X.K fd ps ds)(hd:Vals dvs ds)(hx:Ww CX X E)
 (ha:PA X (e::es) t) (hdb:(x == ("__debug__":Str))=false:=by decide) (he:starEach (e::es) X.env=(false,eval e X.env)::starEach es X.env:=by rfl) (hpl:(backTo pos (starEach es X.env)).any (·.1)=false:=by rfl) :
 PE X (.Call (.Name x p) (e::es) [] pos) (Jej sp dvs E t):=by
 intro pins s σ H Q I h;refine wpAny_Call_Name_kw (Jao I hg hm ?_ hdb);refine PySem.W.callWith_K (h₀:=X.base) I.ok.mod.kin hk (thn (ha pos pins s σ H _ I h) fun us s1 ⟨vs,H1,I1,r,q⟩=>⟨I1.kIn,?_⟩) he hpl;exact Jl9 F hr hb hd hx I1 r q
structure Mk (K:Frag) (C f:Addr):Prop where
 makes:makesIn K C=true
 init:findIn K (.ref C) "__init__"=some (some (.ref f))
 fn:isFn K (.ref f)=true
 kp:keepIn K (.ref C)=true

theorem Jha{pins:List (Addr×Obj)}{σ:St}{H:Hp}{s:Shared}{Q:VK}{us:List Value}{vs:List V}(M:Mk X.K C f)(F:FnOk X.prog X.w X.K X.mg X.base CX k f fd ps sp)(hr:Room (k+1) X.A)(hb:Binds X.K fd ps ds)(hd:Vals dvs ds)
 (hx:Ww CX X E) (I:Inv X pins σ H s) (r:Vals vs us)
 (h:∀x dx,H x=none->H dx=none->dx≠x->sp (.ref x::(vs++dvs)) (upd (upd H dx (.own x)) x (.ins C dx [])) (fun v H2=>v=.non/\Q (.ref x) H2) E) :
 wpAny (model X.prog X.w) X.A (call (.ref C) us) (EP X pins σ Q) X.xe s:=by
 have hq:=h (s.heap.objs.size+1) s.heap.objs.size (I.hok.fresh (Nat.le_succ _)) (I.hok.fresh (Nat.le_refl _)) (Nat.ne_of_lt (Nat.lt_succ_self _))
 have I2:=Inv.made (C:=C) I
 have r2:Vals (V.ref (s.heap.objs.size+1)::(vs++dvs)) (Value.ref (s.heap.objs.size+1)::(us++ds)):=.cons rfl (r.append hd)
 have hl:(Value.ref (s.heap.objs.size+1)::us++ds).length=ps.length:=by have e:=r2.length;rw[F.len _ _ _ _ hq] at e;exact e.symm
 refine wpAny_call (JgB (f:=f) I.kIn M.makes M.init (beq_iff_eq.mp M.fn) (codeAny_mono (F.run _ X.stack _ _ ⟨Value.ref (s.heap.objs.size+1)::us,[]⟩ (Value.ref (s.heap.objs.size+1)::(us++ds)) _ _ E (hr.make C us [])
  (I2.env0.make C us []) (hb _ (Value.ref (s.heap.objs.size+1)::us) I2.kIn hl) r2 hq) fun r s' hq'=>?_))
 cases r with
 | error e=>exact hx pins σ _ _ e s' I2 hq'
 | ok fl =>
  cases fl with
  | ret u=>obtain⟨v,H',I3,rv,ev,q3⟩:=I2.after hq';subst ev;exact⟨rv,⟨V.ref (s.heap.objs.size+1),H',I3,rfl,q3⟩⟩
  | next=>exact False.elim hq'
  | brk=>exact False.elim hq'
  | cont=>exact False.elim hq'
theorem Ji2(M:Mk X.K C f)(F:FnOk X.prog X.w X.K X.mg X.base CX k f fd ps sp)(hr:Room (k+1) X.A)(hg:Gl X x)(hm:X.mg x=some (.ref C))(hb:Binds X.K fd ps ds)(hd:Vals dvs ds)(hx:Ww CX X E)
 (ha:PA X (e::es) t) (hdb:(x == ("__debug__":Str))=false:=by decide) (he:starEach (e::es) X.env=(false,eval e X.env)::starEach es X.env:=by rfl) (hpl:(backTo pos (starEach es X.env)).any (·.1)=false:=by rfl) :
 PE X (.Call (.Name x p) (e::es) [] pos) (Jel C sp dvs E t):=by
 intro pins s σ H Q I h;refine wpAny_Call_Name_kw (Jao I hg hm ?_ hdb);refine PySem.W.callWith_K (h₀:=X.base) I.ok.mod.kin M.kp (thn (ha pos pins s σ H _ I h) fun us s1 ⟨vs,H1,I1,r,q⟩=>⟨I1.kIn,?_⟩) he hpl;exact Jha M F hr hb hd hx I1 r q
end

section
variable{X:Cx}{CX:CXT}{k:Nat}{f C:Addr}{fd:FuncData}{ps ks:List Str}{sp:Sp}{E:XK}{x m:Str}{p pos apos kpos:Pos}{e o:Expr}{es:List Expr}{kws:List Keyword}{te ta:TE}{t tk:TA}{nm:Option Str}
structure KBinds (K:Frag) (fd:FuncData) (ps ks:List Str) (g:List Value->List Value->List Value) (gV:List V->List V->List V):Prop where
 to:∀(s:Shared) (us ws:List Value),K.In s.heap->(g us ws).length=ps.length->BindsTo s fd ⟨us,ks.zip ws⟩ (ps.zip (g us ws))
 rel:∀{vs:List V} {us:List Value} {zs:List V} {ws:List Value},Vals vs us->Vals zs ws->Vals (gV vs zs) (g us ws)
variable{g:List Value->List Value->List Value}{gV:List V->List V->List V}
end

structure FnScope (N P:List Str) (sc:Scope):Prop where
 kind:sc.kind=.function
 co:sc.isCoroutine=false
 gen:sc.isGenerator=false
 nd:N.Nodup
 pre:N.take P.length=P
 par:∀x∈P,sc.names.lookup x=some .local\/sc.names.lookup x=some .cell
 nofree:∀y∈sc.names,y.2≠.free

theorem Zn{kindOf:Str->Option NameKind}{x:Str}:∀{binds:List (Str×Value)} {m:Str->Option Value},(∀v,(x,v)∉binds)->bindL kindOf binds m x=m x
 | [],_,_=>rfl
 | (n,v)::r,m,h=>by
  unfold bindL;rw[Zn fun w hw=>h w (List.mem_cons_of_mem _ hw)];split
  ·have:x≠n:=by rintro rfl;exact h v List.mem_cons_self
   simp[this]
  ·rfl
theorem Zl{kindOf:Str->Option NameKind}{x:Str}:∀{binds:List (Str×Value)} {m:Str->Option Value},(∀v,(x,v)∉binds)->bindC kindOf binds m x=m x
 | [],_,_=>rfl
 | (n,v)::r,m,h=>by
  unfold bindC;rw[Zl fun w hw=>h w (List.mem_cons_of_mem _ hw)];split
  ·rfl
  ·have:x≠n:=by rintro rfl;exact h v List.mem_cons_self
   simp[this]
theorem Zm{kindOf:Str->Option NameKind}{x:Str}{v:Value}:∀{P:List Str} {vs:List Value} {i:Nat} {m:Str->Option Value},P.Nodup->P[i]?=some x->vs[i]?=some v->kindOf x=some .local ->
 bindL kindOf (P.zip vs) m x=some v
 | [],_,_,_,_,h,_,_=>by simp at h
 | _::_,[],_,_,_,_,h,_=>by simp at h
 | p::P,w::vs,0,m,nd,h1,h2,hk=>by simp at h1 h2;subst h1;subst h2;show bindL kindOf ((p,w)::P.zip vs) m p=_;unfold bindL;rw[Zn fun v hv=>(List.nodup_cons.mp nd).1 (List.of_mem_zip hv).1,if_pos hk];simp
 | p::P,w::vs,i+1,m,nd,h1,h2,hk=>by show bindL kindOf ((p,w)::P.zip vs) m x=_;unfold bindL;exact Zm (i:=i) (List.nodup_cons.mp nd).2 (by simpa using h1) (by simpa using h2) hk
theorem Zk{kindOf:Str->Option NameKind}{x:Str}{v:Value}:∀{P:List Str} {vs:List Value} {i:Nat} {m:Str->Option Value},P.Nodup->P[i]?=some x->vs[i]?=some v->kindOf x≠some .local ->
 bindC kindOf (P.zip vs) m x=some v
 | [],_,_,_,_,h,_,_=>by simp at h
 | _::_,[],_,_,_,_,h,_=>by simp at h
 | p::P,w::vs,0,m,nd,h1,h2,hk=>by simp at h1 h2;subst h1;subst h2;show bindC kindOf ((p,w)::P.zip vs) m p=_;unfold bindC;rw[Zl fun v hv=>(List.nodup_cons.mp nd).1 (List.of_mem_zip hv).1,if_neg hk];simp
 | p::P,w::vs,i+1,m,nd,h1,h2,hk=>by show bindC kindOf ((p,w)::P.zip vs) m x=_;unfold bindC;exact Zk (i:=i) (List.nodup_cons.mp nd).2 (by simpa using h1) (by simpa using h2) hk

noncomputable def UC(N:List Str)(vs:List V):St:=vs.map some++List.replicate (N.length-vs.length) none

noncomputable def JeQ(CX:CXT)(P:Program)(w:World)(K:Frag)(mg:Str->Option Value)(base:Heap)(N:List Str)(qual:Str)(scope:Scope)(f:Addr)(cd:Value)(A:Around)(outer:List Env)(s:Shared)(H:Hp)(E:XK):Cx where
 prog:=P
 w:=w
 K:=K
 mg:=mg
 base:=base
 A:=A.deeper (envOfC qual scope s.heap.objs.size f cd)
 N:=N
 s₀:=s
 H₀:=H
 env:=envOfC qual scope s.heap.objs.size f cd
 outer:=outer
 stack:=envOfC qual scope s.heap.objs.size f cd::outer
 ex:=[]
 calm:=true
 fn:=fun _=>true
 pn:=[]
 xe:=fun e s'=>wpAny (model P w) (A.deeper (envOfC qual scope s.heap.objs.size f cd)) (leaving (envOfC qual scope s.heap.objs.size f cd) e) (fun _ s''=>CX outer H s E e s'') (fun e' s''=>CX outer H s E e' s'') s'

theorem JaX{sc:Scope}{n:Nat}{x:Str}(h:sc.names.lookup x=some .cell):∃c,(cellsFrom n sc.names []).lookup x=some c:=by have q:=PySem.W.cellsFrom_some sc.names n [] (.inl h);exact Option.isSome_iff_exists.mp q

theorem Je0{CX:CXT}{P:Program}{w:World}{K:Frag}{mg:Str->Option Value}{base:Heap}{N ps:List Str}{qual:Str}{scope:Scope}{f:Addr}{cd:Value}{A:Around}{outer:List Env}{s s1:Shared}{H:Hp}{E:XK}{us:List Value}{vs:List V}
 (S:FnScope N ps scope) (hd:A.handled=none) (e0:Env0 P w K mg base A outer s H) (hl:vs.length=ps.length) (r:Vals vs us)
 (x:InCallC s s.heap.objs.size (bindL (envOfC qual scope s.heap.objs.size f cd).kindOf (ps.zip us) fun _=>none) (cellsFrom (s.heap.objs.size+1) scope.names []) (bindC (envOfC qual scope s.heap.objs.size f cd).kindOf (ps.zip us) fun _=>none) s1) :
 Inv (JeQ CX P w K mg base N qual scope f cd A outer s H E) [] (UC N vs) H s1:=by
 have hpl:ps.length<=N.length:=by have:=congrArg List.length S.pre;rw[List.length_take] at this;omega
 obtain⟨h1,tk,rfl,hk⟩:=x.done;have noA:∀b:Addr,b∉(JeQ CX P w K mg base N qual scope f cd A outer s H E).ex:=fun b z=>absurd (show b∈([]:List Addr) from z) (by simp)
 refine⟨⟨e0.mod,S.kind,rfl,rfl,Nat.le_refl _,fun y z c h1 h2=>?_,fun y hy=>?_,fun y c _ h=>?_,fun _=>hd,Around.frames_deeper e0.frames,.inr ⟨rfl,rfl⟩,fun b z=>absurd z (noA b),e0.bs,e0.bsz,fun b _ _=>noA b,fun b z=>absurd z (noA b),e0.funs,e0.frf⟩,
  rfl,e0.bare,Un.kept hk,⟨_,x.toInCall.ns,fun i y v h1 h2 h3=>?_⟩,fun y c h=>⟨_,x.cell y c h⟩,e0.hok.fresh (Nat.le_refl _),fun y c h=>?_,fun p hp=>absurd (show p∈([]:List (Addr×Obj)) from hp) (by simp),e0.hok.kept hk,?_⟩
 ·exact name_of_addr x.apart (PySem.mem_of_lookup h1) (PySem.mem_of_lookup h2)
 ·have hy:scope.names.lookup y=some .cell\/scope.names.lookup y=some .free:=hy;rcases hy with hy|hy
  ·exact JaX hy
  ·exact absurd rfl (S.nofree _ (PySem.mem_of_lookup hy))
 ·exact Nat.le_of_lt (x.above y c (PySem.mem_of_lookup h))
 ·have hi:i<vs.length:=by
   unfold UC at h2
   by_cases hi:i<vs.length
   ·exact hi
   ·rw[List.getElem?_append_right (by simpa using hi)] at h2;rw[List.getElem?_replicate] at h2;split at h2 <;> cases h2
  have ha:vs[i]?=some v:=by
   unfold UC at h2;rw[List.getElem?_append_left (by simpa using hi),List.getElem?_map] at h2
   cases e:vs[i]? with
   | none=>rw[e] at h2;cases h2
   | some a=>rw[e] at h2;cases h2;rfl
  obtain⟨u,hu,rv⟩:=r.get ha
  have hp:ps[i]?=some y:=by rw[<- S.pre,List.getElem?_take_of_lt (by omega)];exact h1
  have ndP:ps.Nodup:=by rw[<- S.pre];exact S.nd.sublist (List.take_sublist _ _)
  refine⟨u,rv,?_⟩;rcases S.par y (List.mem_of_getElem? hp) with k|k
  ·exact .inl ⟨k,Zm ndP hp hu k⟩
  ·obtain⟨c,e⟩:=JaX (n:=s.heap.objs.size+1) k;refine .inr ⟨.inl k,c,e,?_⟩;have q:=x.cell y c e;rw[Zk ndP hp hu (by show scope.names.lookup y≠_;rw[k];decide)] at q;exact q
 ·exact e0.hok.fresh (Nat.le_of_lt (x.above y c (PySem.mem_of_lookup h)))
 ·unfold UC;show _=N.length;rw[List.length_append,List.length_map,List.length_replicate];omega

theorem JmV{CX:CXT}{P:Program}{w:World}{K:Frag}{mg:Str->Option Value}{base:Heap}{k:Nat}{f:Addr}{name qual:Str}{params:Arguments}{body:List Stmt}{scope:Scope}{dV kV doc pm cdv ct oc:Value}{an od:Option Addr}
 {osl:Array (Option Value)} {N ps:List Str} {sp:Sp} (lk:K.lookup f=some ⟨oc,od,.func (fnOf name qual params body scope dV kV doc pm an cdv ct),osl⟩) (hcd:codeIn K cdv qual=true) (S:FnScope N ps scope)
 (len:∀vs H Q E,sp vs H Q E->vs.length=ps.length)
 (hbody:∀(A:Around) (outer:List Env) (s:Shared) (H:Hp) (vs:List V) (Q:VK) (E:XK),Room k (A.deeper (envOfC qual scope s.heap.objs.size f cdv))->sp vs H Q E ->
  ∃t,PSs (JeQ CX P w K mg base N qual scope f cdv A outer s H E) body t/\t { nx:=fun _ H'=>Q .non H',rt:=Q } (UC N vs) H) :
 FnOk P w K mg base CX (k+1) f (fnOf name qual params body scope dV kV doc pm an cdv ct) ps sp:=by
 refine⟨len,fun A outer s H args us vs Q E hr e0 hb r hsp=>?_⟩;have hl:=len _ _ _ _ hsp;have KX:K.In s.heap:=e0.mod.kin.keeps fun b o e=>(e0.bs b o e).1
 have lim:s.heap.NoLimit:=e0.mod.nolimit.keeps fun b o e=>(e0.bs b o e).1
 have hkind:∀y∈ps.zip us,scope.names.lookup y.1=some .local\/(scope.names.lookup y.1=some .cell/\((cellsFrom (s.heap.objs.size+1) scope.names []).lookup y.1).isSome=true):=fun⟨n,v⟩ hy=>by
  rcases S.par n (List.of_mem_zip hy).1 with q|q
  ·exact .inl q
  ·exact .inr ⟨q,PySem.W.cellsFrom_some _ _ _ (.inl q)⟩
 refine codeAny_call_function hr.depth (KX _ _ lk) rfl S.co S.gen rfl (PySem.W.codeRec_of KX hcd) (hb _ _ _ _ ?_);refine wpAny_newFunctionEnv_cells S.kind hkind fun env he s1 x=>?_
 subst he;refine⟨lim.keeps x.toInCall.keep,codeAny_func ?_⟩;obtain⟨t,ht,hq⟩:=hbody A outer s H vs Q E (hr.deeper _) hsp;have I:Inv (JeQ CX P w K mg base N qual scope f cdv A outer s H E) [] (UC N vs) H s1:=Je0 S hr.hd e0 hl r x;refine wpAny_mono (ht [] s1 (UC N vs) H _ I hq) (fun fl s' hs=>?_) fun e s' hs=>hs
 have fin:∀{σ':St} {H':Hp} {v:V} {u:Value},Inv (JeQ CX P w K mg base N qual scope f cdv A outer s H E) [] σ' H' s'->RelV v u->Q v H'->CE outer P w H s Q u s' :=
  fun {σ' H' v u} J rv q=>⟨v,H',J.os,J.bare,J.base,J.hok,rv,q⟩
 cases fl with
 | ret u=>obtain⟨v,σ',H',J,rv,q⟩:=hs;exact fin J rv q
 | next=>obtain⟨σ',H',J,q⟩:=hs;exact fin (v:=V.non) (u:=Value.none) J rfl q
 | brk=>obtain⟨_,_,_,q⟩:=hs;exact False.elim q
 | cont=>obtain⟨_,_,_,q⟩:=hs;exact False.elim q
end L2

namespace L2
open PySem PySem.Spec PyProof.Rows
section
variable{X:Cx}{x:Str}{p pos:Pos}{e:Expr}{es:List Expr}{t:TA}{id T:String}{r:List V->Hp->VK->Prop}

noncomputable def tCB(r:List V->Hp->VK->Prop)(t:TA):TE:=fun σ H Q=>t σ H fun vs H1=>r vs H1 Q
theorem J4(hc:CallR X (.builtin id) r)(hg:Gl X x)(hm:X.mg x=none)(hv:bootBuiltins x=some (.builtin id))(ha:PA X (e::es) t)(hn:x≠"__name__":=by decide)(hdb:(x == ("__debug__":Str))=false:=by decide)
 (he:starEach (e::es) X.env=(false,eval e X.env)::starEach es X.env:=by rfl) (hpl:(backTo pos (starEach es X.env)).any (·.1)=false:=by rfl):PE X (.Call (.Name x p) (e::es) [] pos) (tCB r t):=by
 intro pins s σ H Q I h;refine wpAny_Call_Name_kw (UJ I hg hm hv ?_ hn hdb);exact PyProof.Rows.callWith_builtin1 (thn (ha pos pins s σ H _ I h) fun us s1 ⟨vs,H1,I1,r1,q1⟩=>hc pins s1 σ H1 vs us Q I1 r1 q1) he hpl
theorem Um(hc:CallR X (.type T) r)(hg:Gl X x)(hm:X.mg x=none)(hv:bootBuiltins x=some (.type T))(ha:PA X (e::es) t)(hn:x≠"__name__":=by decide)(hdb:(x == ("__debug__":Str))=false:=by decide)
 (he:starEach (e::es) X.env=(false,eval e X.env)::starEach es X.env:=by rfl) (hpl:(backTo pos (starEach es X.env)).any (·.1)=false:=by rfl):PE X (.Call (.Name x p) (e::es) [] pos) (tCB r t):=by
 intro pins s σ H Q I h;refine wpAny_Call_Name_kw (UJ I hg hm hv ?_ hn hdb);exact PyProof.Rows.callWith_type1 (thn (ha pos pins s σ H _ I h) fun us s1 ⟨vs,H1,I1,r1,q1⟩=>hc pins s1 σ H1 vs us Q I1 r1 q1) he hpl
end
end L2

namespace HT
open PySem PyProof.Rows

section
open PySem.SeqAt
open PySem.AutoSeq1 (wpAny_loadPart')
open PySem.MeetsSeq PySem.MeetsSeq2 PySem.MeetsSeq3

end

section
variable{prog:Program}{w:World}{A:Around}{E:Value->Shared->Prop}{s:Shared}

theorem Jh4{t b:Addr}{vs ws:List Value}{Q:Value->Shared->Prop}(ht:IsTup s.heap t vs.toArray)(hb:IsTup s.heap b ws.toArray)(hv:vs≠[])
 (h1:ws=[]->Q (.ref t) s) (h2:ws≠[]->Q (.ref s.heap.objs.size) { s with heap:=s.heap.push { cls:=.type "tuple",data:=.seq (vs++ws).toArray } })
 (hsz:vs.length+ws.length<=sizeLine):wpAny (model prog w) A (binaryOp .Add (.ref t) (.ref b)) Q E s:=by
 obtain⟨⟨cls,dd,data,sl⟩,ho,hc,n,hd⟩:=id ht;obtain⟨⟨cls2,dd2,data2,sl2⟩,ho2,hc2,n2,hd2⟩:=id hb;simp only at hc hd hc2 hd2;subst hc hd hc2 hd2;have e:vs.toArray++ws.toArray=(vs++ws).toArray:=by simp
 by_cases hw:ws=[]
 ·exact concat_meets ⟨_,ho,rfl⟩ ⟨_,ho2,rfl⟩ noFill_tuple_add seq_tuple_add PySem.F.slot_tuple_add PySem.F.entry_tuple_add (PySem.F.args_tuple_add_2 _ _)
   (tuple_addW1 t b vs.toArray ws.toArray n n2 dd dd2 sl sl2 (by simpa using hv) (by simp[hw])) ⟨ho,ho2,h1 hw⟩
 ·refine concat_meets ⟨_,ho,rfl⟩ ⟨_,ho2,rfl⟩ noFill_tuple_add seq_tuple_add PySem.F.slot_tuple_add PySem.F.entry_tuple_add (PySem.F.args_tuple_add_2 _ _)
   (tuple_addW2 t b vs.toArray ws.toArray n n2 dd dd2 sl sl2 (by simpa using hv) (by simpa using hw) (by rw[List.size_toArray,List.size_toArray];exact hsz)) ⟨ho,ho2,?_⟩
  rw[e];exact h2 hw

noncomputable def sIx(n d:Nat):Option Int->Nat
 | none=>d
 | some v=>if v<0 then(v+(n:Int)).toNat else min v.toNat n
theorem Jmb(n d:Nat)(hd:d<=n)(o:Option Int):sIx n d o<=n:=by
 cases o with
 | none=>exact hd
 | some v =>
  show(if v<0 then(v+(n:Int)).toNat else min v.toNat n)<=n
  by_cases hv:v<0
  ·rw[if_pos hv];omega
  ·rw[if_neg hv];exact Nat.min_le_right _ _
theorem Jde(v:Int)(n d:Nat):(if v<0 then max (v+(n:Int)) 0 else min v (n:Int))=((sIx n d (some v):Nat):Int):=by
 show(if v<0 then max (v+(n:Int)) 0 else min v (n:Int))=(((if v<0 then(v+(n:Int)).toNat else min v.toNat n):Nat):Int)
 by_cases hv:v<0
 ·simp only[if_pos hv];omega
 ·simp only[if_neg hv];omega
theorem Jce(lo hi:Option Int)(n:Nat):Builtin.Slice.sliceAdjust lo hi 1 (n:Int)=(((sIx n 0 lo:Nat):Int),((sIx n n hi:Nat):Int)):=by
 have h1:¬((1:Int)<0):=by omega
 unfold Builtin.Slice.sliceAdjust;simp only[h1,if_false];refine Prod.ext ?_ ?_
 ·cases lo with
  | none=>rfl
  | some v=>exact Jde v n 0
 ·cases hi with
  | none=>rfl
  | some v=>exact Jde v n n
theorem JcO(i j:Nat):Builtin.Slice.slicePlaces (i:Int) (j:Int) 1=j-i:=by
 unfold Builtin.Slice.slicePlaces;have h1:(1:Int)>0:=by omega
 simp only[h1,if_true,Int.ediv_one];split <;> omega
theorem W2{v:Value}{o:Option Int}{Q:Option Int->Shared->Prop}(p:IsPart v o)(h:Q o s):wpAny (model prog w) A (Builtin.Slice.slicePartIndex v) Q E s:=by
 cases p with
 | none=>exact slicePart_none h
 | int i t=>exact slicePart_int h
theorem Ur{sl:Addr}{vl vu:Value}{lo hi:Option Int}{n:Nat}{Q:Int×Int×Nat->Shared->Prop}(hs:s.heap.IsSliceOf sl vl vu .none)(pl:IsPart vl lo)(pu:IsPart vu hi)
 (h:Q (((sIx n 0 lo:Nat):Int),1,sIx n n hi-sIx n 0 lo) s):wpAny (model prog w) A (Builtin.Slice.sliceApplied (.ref sl) (pure (n:Int))) Q E s:=by
 obtain⟨os,hos,hcs,hds⟩:=id hs;unfold Builtin.Slice.sliceApplied Builtin.Slice.sliceFields;refine wpAny_bind (wpAny_bind (wpAny_field hos hds (x:=vl) rfl (wpAny_bind (wpAny_field hos hds (x:=vu) rfl (wpAny_bind (wpAny_field hos hds (x:=.none) rfl (wpAny_pure ?_)))))));refine wpAny_bind (slicePart_none ?_);show wpAny _ _ (if ((1:Int) == 0)=true then _ else _) _ _ s;rw[if_neg (by decide)];refine wpAny_bind (W2 pl (wpAny_bind (W2 pu (wpAny_bind (wpAny_pure ?_)))))
 show wpAny _ _ (match Builtin.Slice.sliceAdjust lo hi 1 (n:Int) with|(lo,hi)=>pure (lo,(1:Int),Builtin.Slice.slicePlaces lo hi 1)) _ _ s;rw[Jce lo hi n]
 show wpAny _ _ (pure (((sIx n 0 lo:Nat):Int),(1:Int),Builtin.Slice.slicePlaces ((sIx n 0 lo:Nat):Int) ((sIx n n hi:Nat):Int) 1)) _ _ s;rw[JcO];exact wpAny_pure h
theorem JgR(xs:Array Value)(i k:Nat):((List.range k).filterMap fun(m:Nat)=>xs[((i:Int)+(m:Int)*1).toNat]?).toArray=((xs.toList.drop i).take k).toArray:=by
 have e:(fun(m:Nat)=>xs[((i:Int)+(m:Int)*1).toNat]?)=fun m=>xs[i+m]?:=by
  funext m
  have:((i:Int)+(m:Int)*1).toNat=i+m:=by omega
  rw[this]
 rw[e];have:=pick_run xs i k;rw[List.filterMap_map] at this;have e2:((fun x=>xs[x]?) ∘ fun x=>i+x)=fun m=>xs[i+m]?:=rfl
 rw[e2] at this;rw[this]

theorem Vo{t sl:Addr}{items:Array Value}{vl vu:Value}{lo hi:Option Int}{Q:Value->Shared->Prop}(ht:IsTup s.heap t items)(hs:s.heap.IsSliceOf sl vl vu .none)(pl:IsPart vl lo)(pu:IsPart vu hi)
 (hw:¬(sIx items.size 0 lo=0/\sIx items.size items.size hi=items.size))
 (h:Q (.ref s.heap.objs.size) { s with heap:=s.heap.push { cls:=.type "tuple",data:=.seq ((items.toList.drop (sIx items.size 0 lo)).take (sIx items.size items.size hi-sIx items.size 0 lo)).toArray } })
 (hsz:items.size<=sizeLine):wpAny (model prog w) A (getItem (.ref t) (.ref sl)) Q E s:=by
 have htake:sizeOk (.seq ((items.toList.drop (sIx items.size 0 lo)).take (sIx items.size items.size hi-sIx items.size 0 lo)).toArray):=by show((items.toList.drop (sIx items.size 0 lo)).take (sIx items.size items.size hi-sIx items.size 0 lo)).toArray.size<=sizeLine;rw[List.size_toArray,List.length_take,List.length_drop,Array.length_toList];omega
 have hj:sIx items.size items.size hi<=items.size:=Jmb _ _ (Nat.le_refl _) hi;obtain⟨os,hos,hcs,hds⟩:=id hs
 have hTs:s.TypeIs (.ref sl) "slice":=⟨os,hos,hcs⟩
 unfold getItem
 try with_reducible refine wpAny_holding ?_
 first|refine wpAny_bind (wpAny_pure ?_)|skip
 refine wpAny_bind (wpAny_sequenceKey ht.typeIs (by decide) ?_);refine wpAny_bind (wpAny_callSpecial?_slot (name:=Str.ofString "__getitem__") ht.typeIs PyProof.Rows.slot_tuple_getitem
  (wpAny_call_entry PyProof.Rows.slot_tuple_getitem ht.typeIs entry_tuple_getitem ?_ (args_tuple_getitem _ _)))
 show wpAny _ _ (Builtin.Tuple.tupleItemsOf (.ref t) >>= _) _ _ s;refine wpAny_bind (tupleItemsOf_ ht ?_);refine wpAny_bind (wpAny_typeOf hTs ?_);rw[if_pos (by decide)];refine wpAny_bind (Ur hs pl pu ?_)
 have hno:¬((((sIx items.size 0 lo:Nat):Int) == 0 && (1:Int) == 1 && (sIx items.size items.size hi-sIx items.size 0 lo) == items.size)=true):=by intro q;rw[Bool.and_eq_true,Bool.and_eq_true] at q;have q1:((sIx items.size 0 lo:Nat):Int)=0:=eq_of_beq q.1.1;have q2:sIx items.size items.size hi-sIx items.size 0 lo=items.size:=eq_of_beq q.2;exact hw ⟨by omega,by omega⟩
 show wpAny _ _ (if (((sIx items.size 0 lo:Nat):Int) == 0 && (1:Int) == 1 && (sIx items.size items.size hi-sIx items.size 0 lo) == items.size)=true then _ else _) _ _ s;rw[if_neg hno,JgR]
 first
  | exact wpAny_bind (m:=Builtin.Tuple.tupleExact _) (wpAny_newObj_type (wpAny_pure ⟨_,rfl,wpAny_pure h⟩) htake)
  | exact wpAny_bind (m:=Builtin.Tuple.tupleExact _) (wpAny_newObj_type (wpAny_bind (wpAny_pure (wpAny_pure ⟨_,rfl,wpAny_pure h⟩))) htake)
  | exact wpAny_bind (wpAny_bind (m:=Builtin.Tuple.tupleExact _) (wpAny_newObj_type (wpAny_pure (wpAny_pure ⟨_,rfl,wpAny_pure h⟩)) htake))
  | exact wpAny_bind (wpAny_bind (m:=Builtin.Tuple.tupleExact _) (wpAny_newObj_type (wpAny_pure ⟨_,rfl,wpAny_pure h⟩) htake))
end
end HT

namespace L2
open PySem PySem.Spec PyProof.Rows

noncomputable abbrev TO:=St->Hp->(Option Int->Hp->Prop)->Prop
noncomputable def PO(X:Cx)(e:Option Expr)(t:TO):Prop :=
 ∀(pins:List (Addr×Obj)) (s:Shared) (σ:St) (H:Hp) (Q:Option Int->Hp->Prop),Inv X pins σ H s->t σ H Q ->
  wpAny (model X.prog X.w) X.A (evalPart e X.env) (fun u s'=>∃o H',Inv X pins σ H' s'/\IsPart u o/\Q o H') X.xe s
noncomputable def Jem:TO:=fun _ H Q=>Q none H
noncomputable def Jj8(t:TE):TO:=fun σ H Q=>t σ H fun x H1=>∃i,x=.int i/\Q (some i) H1

theorem Y4{ns:List Int}:∀{us:List Value},Vals (ns.map V.int) us->IntsAre us ns:=by
 induction ns with
 | nil=>intro us r;rw[List.map_nil] at r;cases r;exact .nil
 | cons n ns ih =>
  intro us r;rw[List.map_cons] at r
  cases r with
  | cons r1 r2=>obtain⟨t,e⟩:=r1;subst e;exact .cons n t (ih r2)

section
variable{X:Cx}{e:Expr}{te:TE}{lo hi:Option Expr}{tl th:TO}{pos p2:Pos}

theorem JdT:PO X none Jem:=by intro pins s σ H Q I h;rw[evalPart_none];exact wpAny_pure ⟨none,H,I,.none,h⟩
theorem JdU(h:PE X e te):PO X (some e) (Jj8 te):=by
 intro pins s σ H Q I hw;rw[evalPart_some];refine thn (h pins s σ H _ I hw) fun u s1 ⟨x,H1,I1,r1,q1⟩=>?_
 obtain⟨i,rfl,q⟩:=q1;obtain⟨t,rfl⟩:=r1;exact⟨some i,H1,I1,.int i t,q⟩

noncomputable def SlR(X:Cx)(r:V->Option Int->Option Int->Hp->VK->Prop):Prop :=
 ∀(pins:List (Addr×Obj)) (s:Shared) (σ:St) (H:Hp) (x:V) (v vl vu:Value) (lo hi:Option Int) (sl:Addr) (Q:VK),Inv X pins σ H s->RelV x v->s.heap.IsSliceOf sl vl vu .none->IsPart vl lo->IsPart vu hi->r x lo hi H Q ->
  ∃T id,typeLookup (.type T) "__getitem__"=pure (some (.builtin id))/\s.TypeIs v T/\wpAny (model X.prog X.w) X.A (getItem v (.ref sl)) (EP X pins σ Q) X.xe s
theorem SlR.or{r r':V->Option Int->Option Int->Hp->VK->Prop}(h:SlR X r)(h':SlR X r'):SlR X (fun x lo hi H Q=>r x lo hi H Q\/r' x lo hi H Q):=by
 intro pins s σ H x v vl vu lo hi sl Q I rx hs pl pu q;rcases q with q|q
 ·exact h pins s σ H x v vl vu lo hi sl Q I rx hs pl pu q
 ·exact h' pins s σ H x v vl vu lo hi sl Q I rx hs pl pu q
noncomputable def tSl(r:V->Option Int->Option Int->Hp->VK->Prop)(te:TE)(tl th:TO):TE:=fun σ H Q=>te σ H fun x H1=>tl σ H1 fun l H2=>th σ H2 fun u H3=>r x l u H3 Q
theorem JbB{r:V->Option Int->Option Int->Hp->VK->Prop}(hr:SlR X r)(he:PE X e te)(hl:PO X lo tl)(hu:PO X hi th):PE X (.Subscript e (.Slice lo hi none p2) pos) (tSl r te tl th):=by
 intro pins s σ H Q I h;refine Subscript_ (thn (he pins s σ H _ I h) fun v s1 ⟨x,H1,I1,r1,q1⟩=>?_);refine wpAny_Slice (thn (hl pins s1 σ H1 _ I1 q1) fun vl s2 ⟨l,H2,I2,pl,q2⟩=>thn (hu pins s2 σ H2 _ I2 q2) fun vu s3 ⟨u,H3,I3,pu,q3⟩=>?_);rw[evalPart_none];refine wpAny_pure ?_;have I4:Inv X pins σ H3 { s3 with heap:=s3.heap.push { cls:=.type "slice",data:=.fields #[vl,vu,.none] } }:=I3.kept (t':=s3.toks) fun b ob q=>Heap.get?_push_of_some _ q
 obtain⟨T,id,hT,ht,hg⟩:=hr pins { s3 with heap:=s3.heap.push { cls:=.type "slice",data:=.fields #[vl,vu,.none] } } σ H3 x v vl vu l u s3.heap.objs.size Q I4 r1 (Heap.IsSliceOf.new ..) pl pu q3;show wpAny (model X.prog X.w) X.A (subscriptTail e (.Slice lo hi none p2) v (.ref s3.heap.objs.size)) (EP X pins σ Q) X.xe { s3 with heap:=s3.heap.push { cls:=.type "slice",data:=.fields #[vl,vu,.none] } };exact tail_any (ops:=[.ref s3.heap.objs.size,v]) ht hT hg (by with_unfolding_all rfl)

noncomputable def W8(xs:List V)(lo hi:Option Int):List V:=(xs.drop (HT.sIx xs.length 0 lo)).take (HT.sIx xs.length xs.length hi-HT.sIx xs.length 0 lo)
theorem V6(xs:List V)(lo hi:Option Int):(W8 xs lo hi).length<=xs.length:=by unfold W8;rw[List.length_take,List.length_drop];omega
noncomputable def Jne(K:Frag):V->Option Int->Option Int->Hp->VK->Prop:=fun x lo hi H Q=>∃a xs,x=.ref a/\SqT K H a xs ∧
 ¬(HT.sIx xs.length 0 lo=0/\HT.sIx xs.length xs.length hi=xs.length)/\∀p,H p=none->Q (.ref p) (upd H p (.tup (W8 xs lo hi)))
theorem sl_tup:SlR X (Jne X.K):=by
 intro pins s σ H x v vl vu lo hi sl Q I rx hs pl pu h;obtain⟨a,xs,rfl,hx,hw,q⟩:=h;cases rx;obtain⟨its,r,ht,hz⟩:=I.tuple hx;have hlen:its.toArray.size=xs.length:=by rw[List.size_toArray];exact r.length.symm
 refine⟨"tuple",_,PyProof.Rows.slot_tuple_getitem.lookup,ht.typeIs,?_⟩;refine HT.Vo ht hs pl pu (by rw[hlen];exact hw) ?_ (by rw[hlen];exact hz);rw[hlen];refine⟨.ref s.heap.objs.size,_,I.laid (t':=s.toks) (o:=.tup (W8 xs lo hi)) (fun b ob q=>Heap.get?_push_of_some _ q) (Nat.le_refl _) ?_,rfl,q _ (I.hok.fresh (Nat.le_refl _))⟩;exact⟨Nat.le_trans (V6 xs lo hi) hz,_,(r.drop (HT.sIx xs.length 0 lo)).take (HT.sIx xs.length xs.length hi-HT.sIx xs.length 0 lo),IsTup.new _ _⟩

noncomputable def JjY(K:Frag):R2:=fun x y H Q=>∃a b xs ys,x=.ref a/\y=.ref b/\SqT K H a xs/\SqT K H b ys/\xs≠[]/\xs.length+ys.length<=sizeLine ∧
 (ys=[]->Q (.ref a) H)/\(ys≠[]->∀p,H p=none->Q (.ref p) (upd H p (.tup (xs++ys))))
theorem Vals.nil_iff{xs:List V}{us:List Value}(r:Vals xs us):us=[]↔xs=[]:=by
 cases r with
 | nil=>simp
 | cons _ _=>simp
theorem JiW:OpR X (binaryOp .Add) (JjY X.K):=by
 intro pins s σ H x y v u Q I rx ry h;obtain⟨a,b,xs,ys,rfl,rfl,ha,hb,hx,hz,q1,q2⟩:=h;cases rx;cases ry;obtain⟨its,r1,p1,_⟩:=I.tuple ha;obtain⟨its2,r2,p2,_⟩:=I.tuple hb;refine HT.Jh4 p1 p2 (fun z=>hx (r1.nil_iff.mp z)) (fun z=>⟨.ref a,H,I,rfl,q1 (r2.nil_iff.mp z)⟩) (fun z=>?_) (by rw[<- r1.length,<- r2.length];exact hz);refine⟨.ref s.heap.objs.size,_,I.laid (t':=s.toks) (o:=.tup (xs++ys)) (fun b ob q=>Heap.get?_push_of_some _ q) (Nat.le_refl _) ?_,rfl,q2 (fun w=>z (r2.nil_iff.mpr w)) _ (I.hok.fresh (Nat.le_refl _))⟩
 exact⟨by rw[List.length_append];exact hz,_,r1.append r2,IsTup.new _ _⟩
end
end L2

namespace L2
open PySem PySem.Spec PyProof.Rows

noncomputable def ixN(n:Nat)(i:Int):Option Nat:=if 0<=i then(if i<n then some i.toNat else none) else if -(n:Int)<=i then some (i+n).toNat else none
noncomputable def atI{α:Type}(xs:List α)(i:Int):Option α:=(ixN xs.length i).bind fun j=>xs[j]?
theorem JiG{n:Nat}{i:Int}{j:Nat}(h:ixN n i=some j):seqIndex? i n=some j/\j<n/\-(n:Int)<=i/\i<n:=by
 unfold ixN at h
 by_cases h0:0<=i
 ·rw[if_pos h0] at h
  by_cases h1:i<n
  ·rw[if_pos h1] at h;have e:i.toNat=j:=Option.some.inj h;exact⟨by rw[seqIndex_of h0 h1,e],by omega,by omega,h1⟩
  ·rw[if_neg h1] at h;cases h
 ·rw[if_neg h0] at h
  by_cases h1:-(n:Int)<=i
  ·rw[if_pos h1] at h;have e:(i+n).toNat=j:=Option.some.inj h;exact⟨by rw[seqIndex_neg (by omega) h1,e],by omega,h1,by omega⟩
  ·rw[if_neg h1] at h;cases h
theorem ZV{α:Type}{xs:List α}{i:Int}{v:α}(h:atI xs i=some v):∃j,seqIndex? i xs.length=some j/\xs[j]?=some v/\j<xs.length/\-(xs.length:Int)<=i/\i<xs.length:=by
 unfold atI at h
 cases e:ixN xs.length i with
 | none=>rw[e] at h;cases h
 | some j=>rw[e] at h;obtain⟨h1,h2,h3,h4⟩:=JiG e;exact⟨j,h1,h,h2,h3,h4⟩
noncomputable def JhT(b:Expr):Prop:=∀o i,subscripted b false o i=operate [o,i] (getItem o i)
noncomputable def IxR(X:Cx)(r:R2):Prop :=
 ∀(value slice:Expr) (pins:List (Addr×Obj)) (s:Shared) (σ:St) (H:Hp) (x y:V) (v u:Value) (Q:VK),Inv X pins σ H s->RelV x v->RelV y u->r x y H Q ->
  subscripted slice false v u=operate [v,u] (getItem v u)->wpAny (model X.prog X.w) X.A (subscriptTail value slice v u) (EP X pins σ Q) X.xe s
noncomputable def MtR(X:Cx)(id:String)(r:V->List V->Hp->VK->Prop):Prop :=
 ∀(pins:List (Addr×Obj)) (s:Shared) (σ:St) (H:Hp) (x:V) (xs:List V) (v:Value) (us:List Value) (Q:VK),Inv X pins σ H s->RelV x v->Vals xs us->r x xs H Q ->
  wpAny (model X.prog X.w) X.A (call (.builtin id) (v::us)) (EP X pins σ Q) X.xe s
section
variable{X:Cx}{a b:Expr}{ta tb:TE}{pos:Pos}
theorem IxR.or{r r':R2}(h:IxR X r)(h':IxR X r'):IxR X (fun x y H Q=>r x y H Q\/r' x y H Q):=by
 intro value slice pins s σ H x y v u Q I rx ry q hs;rcases q with q|q
 ·exact h value slice pins s σ H x y v u Q I rx ry q hs
 ·exact h' value slice pins s σ H x y v u Q I rx ry q hs
theorem MtR.or{id:String}{r r':V->List V->Hp->VK->Prop}(h:MtR X id r)(h':MtR X id r'):MtR X id (fun x xs H Q=>r x xs H Q\/r' x xs H Q):=by
 intro pins s σ H x xs v us Q I rx rs q;rcases q with q|q
 ·exact h pins s σ H x xs v us Q I rx rs q
 ·exact h' pins s σ H x xs v us Q I rx rs q
theorem UB{r:R2}(hr:IxR X r)(ha:PE X a ta)(hb:PE X b tb)(hs:JhT b):PE X (.Subscript a b pos) (tOp r ta tb):=by intro pins s σ H Q I h;exact Subscript_ (Jkh ha hb I h fun v u s2 x y H2 I2 rx ry q=>hr a b pins s2 σ H2 x y v u Q I2 rx ry q (hs _ _))

noncomputable def Jm8(K:Frag):R2:=fun x y H Q=>∃p xs i v,x=.ref p/\y=.int i/\SqL K H p xs/\atI xs i=some v/\Q v H
noncomputable def Jna(K:Frag):R2:=fun x y H Q=>∃p xs i v,x=.ref p/\y=.int i/\SqT K H p xs/\atI xs i=some v/\Q v H
noncomputable def Jm9:R2:=fun x y H Q=>∃z i c,x=.str z/\y=.int i/\z.length<=sizeLine/\atI z.cps.toList i=some c/\Q (.str ⟨#[c]⟩) H
theorem ix_list:IxR X (Jm8 X.K):=by
 intro value slice pins s σ H x y v u Q I rx ry h hs;obtain⟨p,xs,i,z,rfl,rfl,hq,he,q⟩:=h;cases rx;obtain⟨t,rfl⟩:=ry;obtain⟨its,r,pl,hz⟩:=I.list hq;obtain⟨j,h1,h2,h3,h4,h5⟩:=ZV he;obtain⟨w,ew,rw'⟩:=r.get h2;have hl:=r.length;have hn:=WQ;have fin:EP X pins σ Q w s:=⟨z,H,I,rw',q⟩
 by_cases h0:0<=i
 ·have hj:i.toNat=j:=by rw[seqIndex_of h0 h5] at h1;exact Option.some.inj h1
  exact item_listR pl.isList h0 (by omega) (by rw[hj];simpa using ew) fin hs
 ·have hj:(i+(its.toArray.size:Int)).toNat=j:=by rw[seqIndex_neg (by omega) h4] at h1;rw[List.size_toArray,<- hl];exact Option.some.inj h1
  exact subscriptTail_builtinR (x:=w) pl.isList.typeIs slot_list_getitem.lookup
   (wpAny_getItem_list_neg (Q:=fun r s'=>r=w/\EP X pins σ Q r s') pl.isList (by omega) (by rw[List.size_toArray] <;> omega) (by omega) (by rw[hj];simpa using ew) ⟨rfl,fin⟩) hs
theorem ix_tup:IxR X (Jna X.K):=by
 intro value slice pins s σ H x y v u Q I rx ry h hs;obtain⟨p,xs,i,z,rfl,rfl,hq,he,q⟩:=h;cases rx;obtain⟨t,rfl⟩:=ry;obtain⟨its,r,pl,hz⟩:=I.tuple hq;obtain⟨j,h1,h2,h3,h4,h5⟩:=ZV he;obtain⟨w,ew,rw'⟩:=r.get h2;have hl:=r.length;have hn:=WQ;have fin:EP X pins σ Q w s:=⟨z,H,I,rw',q⟩
 exact subscriptTail_builtinR (x:=w) pl.typeIs slot_tuple_getitem.lookup
  (getItem_tuple (j:=j) (Q:=fun r s'=>r=w/\EP X pins σ Q r s') pl (by omega) (by omega) (by rw[List.size_toArray,<- hl];exact h1) (by simpa using ew) ⟨rfl,fin⟩) hs
theorem JkT:IxR X Jm9:=by
 intro value slice pins s σ H x y v u Q I rx ry h hs;obtain⟨z,i,c,rfl,rfl,hz,he,q⟩:=h;obtain⟨t,rfl⟩:=rx;obtain⟨t',rfl⟩:=ry;obtain⟨j,h1,h2,h3,h4,h5⟩:=ZV he;have hl:z.cps.toList.length=z.length:=by simp[Str.length]
 rw[hl] at h1 h4 h5;have hn:=WQ;exact tail_any (typeIs_str s z t) slot_str_getitem.lookup (getItem_str (c:=c) (by
  have e1:decide (i < -(2 ^ 63:Int))=false:=decide_eq_false (by omega)
  have e2:decide (i ≥ 2 ^ 63)=false:=decide_eq_false (by omega);rw[e1,e2,Bool.or_false]) (by rw[h1];simpa using h2) ⟨.str ⟨#[c]⟩,H,I.tok _,⟨_,rfl⟩,q⟩) hs
noncomputable def rIx(K:Frag):R2:=fun x y H Q=>Jm8 K x y H Q\/Jna K x y H Q\/Jm9 x y H Q
theorem JkS:IxR X (rIx X.K):=ix_list.or (ix_tup.or JkT)

theorem Inv.lst{pins:List (Addr×Obj)}{σ:St}{H:Hp}{s:Shared}{p:Addr}{xs:List V}(I:Inv X pins σ H s)(h:H p=some (.lst xs)) :
 ∃(its:List Value) (n:Nat),Vals xs its/\s.heap.get? p=some { cls:=.type "list",data:=.seq its.toArray n }/\xs.length<=sizeLine:=by
 obtain⟨z,its,n,r,e⟩:=I.hok p _ h;exact⟨its,n,r,e,z⟩
theorem JaC(lo hi:Option Int)(n:Nat):(sliceBounds lo hi none n).1=((HT.sIx n 0 lo:Nat):Int)/\(sliceBounds lo hi none n).2.1=((HT.sIx n n hi:Nat):Int)/\(sliceBounds lo hi none n).2.2=1:=by
 refine⟨?_,?_,rfl⟩
 ·cases lo with
  | none=>simp[sliceBounds,HT.sIx]
  | some i =>
   simp only[sliceBounds,HT.sIx,Option.getD_none,show(1:Int)>0 by decide,if_true]
   by_cases h:i<0
   ·simp only[h,if_true] <;> omega
   ·simp only[h,if_false] <;> omega
 ·cases hi with
  | none=>simp[sliceBounds,HT.sIx]
  | some i =>
   simp only[sliceBounds,HT.sIx,Option.getD_none,show(1:Int)>0 by decide,if_true]
   by_cases h:i<0
   ·simp only[h,if_true] <;> omega
   ·simp only[h,if_false] <;> omega
theorem Zg(its:List Value)(lo hi:Option Int):slicePick its.toArray lo hi none=((its.drop (HT.sIx its.length 0 lo)).take (HT.sIx its.length its.length hi-HT.sIx its.length 0 lo)).toArray:=by obtain⟨h1,h2,h3⟩:=JaC lo hi its.toArray.size;unfold slicePick;rw[h1,h2,h3];simp only[sliceRange_one,pick_run,List.size_toArray] <;> rfl
noncomputable def Jnd(K:Frag):V->Option Int->Option Int->Hp->VK->Prop:=fun x lo hi H Q=>∃a xs,x=.ref a/\SqL K H a xs/\∀p,H p=none->Q (.ref p) (upd H p (.lst (W8 xs lo hi)))
theorem sl_list:SlR X (Jnd X.K):=by
 intro pins s σ H x v vl vu lo hi sl Q I rx hs pl pu h;obtain⟨a,xs,rfl,hx,q⟩:=h;cases rx;obtain⟨its,r,ht,hz⟩:=I.list hx;have hlen:=r.length;refine⟨"list",_,slot_list_getitem.lookup,ht.isList.typeIs,?_⟩;refine wpAny_getItem_list_slice ht.isList hs pl pu .none (by simp) ?_ (by rw[List.size_toArray] <;> omega);rw[Zg,<- hlen];refine⟨.ref s.heap.objs.size,_,I.laid (t':=s.toks) (o:=.lst (W8 xs lo hi)) (fun b ob q=>Heap.get?_push_of_some _ q) (Nat.le_refl _) ?_,rfl,q _ (I.hok.fresh (Nat.le_refl _))⟩
 exact⟨Nat.le_trans (V6 xs lo hi) hz,_,0,(r.drop (HT.sIx xs.length 0 lo)).take (HT.sIx xs.length xs.length hi-HT.sIx xs.length 0 lo),Heap.get?_push_size _ rfl⟩

theorem CallR.or{f:Value}{r r':List V->Hp->VK->Prop}(h:CallR X f r)(h':CallR X f r'):CallR X f (fun xs H Q=>r xs H Q\/r' xs H Q):=by
 intro pins s σ H xs us Q I rs q;rcases q with q|q
 ·exact h pins s σ H xs us Q I rs q
 ·exact h' pins s σ H xs us Q I rs q
theorem W7:CallR X (.type "tuple") (fun xs H Q=>∃p ys,xs=[.ref p]/\((SqL X.K H p ys/\∀l,H l=none->Q (.ref l) (upd H l (.tup ys)))\/(SqT X.K H p ys/\Q (.ref p) H))):=by
 intro pins s σ H xs us Q I r h;obtain⟨p,ys,rfl,h⟩:=h;obtain⟨u,rfl,rx⟩:=U5 r;cases rx;rcases h with ⟨hq,q⟩|⟨hq,q⟩
 ·obtain⟨its,r',pl,hz⟩:=I.list hq;have hlen:=r'.length;refine call_tuple_list pl.isList (fun h' kp=>?_) (by simp only[List.size_toArray] <;> omega);have I1:Inv X pins σ H { s with heap:=h' }:=I.kept (t':=s.toks) kp
  have I2:Inv X pins σ (upd H h'.objs.size (.tup ys)) { s with heap:=h'.push { cls:=.type "tuple",data:=.seq its.toArray } } :=
   I1.laid (t':=s.toks) (fun b o e=>Heap.get?_push_of_some _ e) (Nat.le_refl _) (show ObjOk X.prog X.w _ _ _ (.tup ys) from⟨hz,its,r',IsTup.new _ _⟩)
  exact⟨.ref h'.objs.size,_,I2,rfl,q _ (I1.hok.fresh (Nat.le_refl _))⟩
 ·obtain⟨its,r',pl,hz⟩:=I.tuple hq;exact call_tuple_same pl ⟨.ref p,H,I,rfl,q⟩

noncomputable def tyV(K:Frag)(T:String)(x:V)(H:Hp):Prop:=match x with
 | .str _=>T="str"
 | .int _=>T="int"
 | .ref p=>(T="list"/\∃xs,SqL K H p xs)\/(T="tuple"/\∃o,K.lookup p=some o/\o.cls=.type "tuple"/\o.dict=none) ∨
  (T="dict"/\((∃kvs,H p=some (.dK kvs))\/∃kvs,H p=some (.dT kvs)))\/(T="set"/\∃S n,H p=some (.set S n))
 | _=>False
theorem JhG{pins:List (Addr×Obj)}{σ:St}{H:Hp}{s:Shared}{T:String}{x:V}{v:Value}(I:Inv X pins σ H s)(r:RelV x v)(ty:tyV X.K T x H) :
 s.TypeIs v T/\∀a,v=.ref a->∃ob,s.heap.get? a=some ob/\ob.dict=none:=by
 cases x with
 | str z=>obtain⟨t,rfl⟩:=r;cases (show T="str" from ty);exact⟨typeIs_str s z t,fun _ e=>nomatch e⟩
 | int i=>obtain⟨t,rfl⟩:=r;cases (show T="int" from ty);exact⟨typeIs_int s i t,fun _ e=>nomatch e⟩
 | ref p =>
  cases r;rcases ty with ⟨rfl,xs,hq⟩|⟨rfl,o,hk,hc,hd⟩|⟨rfl,hk⟩|⟨rfl,S,n,hk⟩
  ·obtain⟨its,_,pl,_⟩:=I.list hq;refine⟨pl.isList.typeIs,fun a e=>?_⟩;cases e;obtain⟨o,n,e,c,hd,_⟩:=pl;exact⟨o,e,hd⟩
  ·refine⟨⟨o,I.kIn p o hk,hc⟩,fun a e=>?_⟩;cases e;exact⟨o,I.kIn _ o hk,hd⟩
  ·have z:∃o,s.heap.get? p=some o/\o.ExactDict:=by
    rcases hk with ⟨kvs,hk⟩|⟨kvs,hk⟩
    ·obtain⟨_,_,_,_,o,_,_,e,ex,_⟩:=I.hok p _ hk;exact⟨o,e,ex⟩
    ·obtain⟨_,_,_,_,o,_,_,e,ex,_⟩:=I.hok p _ hk;exact⟨o,e,ex⟩
   obtain⟨o,e,ex⟩:=z;refine⟨⟨o,e,ex.1⟩,fun a e2=>?_⟩;cases e2;exact⟨o,e,ex.2.1⟩
  ·obtain⟨o,_,_,_,e,ex,_⟩:=I.hok p _ hk;refine⟨⟨o,e,ex.1⟩,fun a e2=>?_⟩;cases e2;exact⟨o,e,ex.2.1⟩
 | _=>exact False.elim ty
noncomputable def Jmh(K:Frag)(T:String)(r:V->List V->Hp->VK->Prop)(to:TE):TE:=fun σ H Q=>to σ H fun x H1=>tyV K T x H1/\r x [] H1 Q
noncomputable def tBM(K:Frag)(T:String)(r:V->List V->Hp->VK->Prop)(to:TE)(t:TA):TE:=fun σ H Q=>to σ H fun x H1=>tyV K T x H1/\t σ H1 fun xs H2=>r x xs H2 Q
variable{o e:Expr}{es:List Expr}{to:TE}{t:TA}{name:Str}{apos cpos:Pos}{T id:String}{r:V->List V->Hp->VK->Prop}
theorem Jls(pa:PlainAttrs T)(slot:Slot T name id)(hty:typeOf (.builtin id)=pure (.type "method_descriptor"))(hm:MtR X id r)(ho:PE X o to)
 (hbase:attributeBase o name X.env (eval o X.env)=eval o X.env:=by rfl) (hline:(apos.endLine == cpos.line)=true:=by rfl):PE X (.Call (.Attribute o name apos) [] [] cpos) (Jmh X.K T r to):=by
 intro pins s σ H Q I h;refine wpAny_Call_method0_late hbase hline (thn (ho pins s σ H _ I h) fun v s1 ⟨x,H1,I1,r1,ty,q1⟩=>?_);obtain⟨h1,h2⟩:=JhG I1 r1 ty;exact⟨T,id,pa,slot,hty,h1,h2,Calls.callWith_builtin rfl (PySem.evalArgs_none (hm pins s1 σ H1 x [] v [] Q I1 r1 .nil q1))⟩
theorem Jm4(pa:PlainAttrs T)(slot:Slot T name id)(hty:typeOf (.builtin id)=pure (.type "method_descriptor"))(hm:MtR X id r)(ho:PE X o to)(ha:PA X (e::es) t)
 (hbase:attributeBase o name X.env (eval o X.env)=eval o X.env:=by rfl)
 (hfew:((backTo cpos (starEach (e::es) X.env)).all (fun x=>!x.1) && (backToKw cpos (keywordEach [] X.env)).all (fun x=>x.1.isSome)
  && decide ((e::es).length+([]:List Keyword).length+(if ([]:List Keyword).isEmpty then 0 else 1)<30))=true:=by rfl)
 (hline:(apos.endLine == cpos.line)=true:=by rfl) (hs:starEach (e::es) X.env=(false,eval e X.env)::starEach es X.env:=by rfl) (hplain:(backTo cpos (starEach es X.env)).any (·.1)=false:=by rfl) :
 PE X (.Call (.Attribute o name apos) (e::es) [] cpos) (tBM X.K T r to t):=by
 intro pins s σ H Q I h;refine wpAny_Call_method_late hbase hfew hline rfl (thn (ho pins s σ H _ I h) fun v s1 ⟨x,H1,I1,r1,ty,q1⟩=>?_);obtain⟨h1,h2⟩:=JhG I1 r1 ty;refine⟨T,id,pa,slot,hty,h1,h2,?_⟩;have hA:=ha cpos pins s1 σ H1 _ I1 q1;rw[hs] at hA ⊢;refine Calls.callWith_builtin (by show(false || (backTo cpos (starEach es X.env)).any (·.1))=false;rw[hplain] <;> rfl) (Calls.evalArgs_plain ?_);exact thn hA fun us s2 ⟨vs,H2,I2,r2,q2⟩=>hm pins s2 σ H2 x vs v us Q I2 r1 r2 q2
/- xs.append(e),list.index on a module's tuple .. are MtR facts of 06m -/
end
end L2

namespace L2
open PySem PySem.Spec PyProof.Rows

noncomputable def MtM(X:Cx)(id:String)(r:V->List V->Hp->VK->Prop):Prop :=
 ∀(pins:List (Addr×Obj)) (s:Shared) (σ:St) (H:Hp) (x:V) (xs:List V) (v:Value) (us:List Value) (Q:VK),Inv X pins σ H s->RelV x v->Vals xs us->r x xs H Q ->
  wpAny (model X.prog X.w) X.A (call (.builtin id) (v::us)) (EP X pins σ Q) X.xe s

theorem Vals.one:∀{x:V} {us:List Value},Vals [x] us->∃u,us=[u]/\RelV x u
 | _,_,.cons r .nil=>⟨_,rfl,r⟩
theorem Vals.two:∀{x y:V} {us:List Value},Vals [x,y] us->∃u v,us=[u,v]/\RelV x u/\RelV y v
 | _,_,_,.cons r (.cons q .nil)=>⟨_,_,rfl,r,q⟩
theorem Vals.zero:∀{us:List Value},Vals [] us->us=[]
 | _,.nil=>rfl
theorem Vals.dropLast{xs:List V}{us:List Value}(h:Vals xs us):Vals xs.dropLast us.dropLast:=by
 induction h with
 | nil=>exact .nil
 | cons r t ih =>
  cases t with
  | nil=>exact .nil
  | cons q t'=>exact .cons r ih
theorem Vals.eraseIdx:∀{xs:List V} {us:List Value} (i:Nat),Vals xs us->Vals (xs.eraseIdx i) (us.eraseIdx i)
 | _,_,_,.nil=>.nil
 | _,_,0,.cons _ t=>t
 | _,_,i+1,.cons r t=>.cons r (Vals.eraseIdx i t)
theorem Vals.reverse{xs:List V}{us:List Value}(h:Vals xs us):Vals xs.reverse us.reverse:=by
 induction h with
 | nil=>exact .nil
 | cons r t ih=>rw[List.reverse_cons,List.reverse_cons];exact Vals.append ih (.cons r .nil)
theorem Vals.rep{xs:List V}{us:List Value}(h:Vals xs us):∀k:Nat,Vals (List.replicate k xs).flatten (List.replicate k us).flatten
 | 0=>.nil
 | k+1=>by rw[List.replicate_succ,List.replicate_succ,List.flatten_cons,List.flatten_cons];exact Vals.append h (Vals.rep h k)
theorem Jcp{α:Type}(l:List α):l.eraseIdx (l.length-1)=l.dropLast:=by
 induction l with
 | nil=>rfl
 | cons a r ih =>
  cases r with
  | nil=>rfl
  | cons b r =>
   have e:(a::b::r).length-1=((b::r).length-1)+1:=by
    have h1:(a::b::r).length=r.length+2:=rfl
    have h2:(b::r).length=r.length+1:=rfl;omega
   rw[e,List.eraseIdx_cons_succ,ih]
   all_goals rfl
section
variable{X:Cx}{pins:List (Addr×Obj)}{σ:St}{H:Hp}{s:Shared}{l b:Addr}{xs ys zs:List V}

theorem Inv.lset{its its':List Value}{n:Nat}{f:Array Value->Array Value}{t':Nat}(I:Inv X pins σ H s)(hH:H l=some (.lst xs))
 (e:s.heap.get? l=some { cls:=.type "list",data:=.seq its.toArray n }) (hf:f its.toArray=its'.toArray) (hv:Vals ys its') (hz:ys.length<=sizeLine) :
 Inv X pins σ (upd H l (.lst ys)) { s with heap:=s.heap.update l (Obj.mapSeq f),toks:=t' }:=by
 have q:=PySem.IsL.update e f;rw[hf] at q;refine I.write (x:=l) (e:=l) (by rw[hH];exact trivial) (.inl rfl) (fun b' u hb hu=>(Heap.get?_update_other s.heap (Obj.mapSeq f) (Ne.symm hb)).trans hu) ⟨_,q⟩ ?_;exact⟨hz,its',_,hv,q⟩
theorem Inv.lnew{its:List Value}{t':Nat}(I:Inv X pins σ H s)(hv:Vals ys its)(hz:ys.length<=sizeLine) :
 Inv X pins σ (upd H s.heap.objs.size (.lst ys)) { s with heap:=s.heap.push { cls:=.type "list",data:=.seq its.toArray },toks:=t' } :=
 I.laid (fun _ _ q=>Heap.get?_push_of_some _ q) (Nat.le_refl _) ⟨hz,its,0,hv,Heap.get?_push_size _ rfl⟩
theorem Inv.fresh(I:Inv X pins σ H s):H s.heap.objs.size=none:=I.hok.fresh (Nat.le_refl _)
theorem Inv.lstM(I:Inv X pins σ H s)(hH:H l=some (.lst xs)):xs.length<=sizeLine/\∃(its:List Value) (n:Nat),Vals xs its/\xs.length=its.length/\s.heap.get? l=some { cls:=.type "list",data:=.seq its.toArray n }:=by obtain⟨z,its,n,r,e⟩:=I.hok l _ hH;exact⟨z,its,n,r,r.length,e⟩

theorem JgD{n:Nat}(h:n<=sizeLine):Builtin.List.listTooLong n=false:=by unfold Builtin.List.listTooLong;exact decide_eq_false (by omega)
end

section
variable{X:Cx}

noncomputable def JdY:V->List V->Hp->VK->Prop:=fun x vs H Q=>∃l xs y,x=.ref l/\vs=[y]/\H l=some (.lst xs)/\xs.length<sizeLine/\Q .non (upd H l (.lst (xs++[y])))
theorem UX:MtM X "list.append" JdY:=by intro pins s σ H x vs v us Q I rx rv h;obtain⟨l,xs,y,rfl,rfl,hH,hz,q⟩:=h;cases rx;obtain⟨u,rfl,ru⟩:=rv.one;obtain⟨z,its,n,r,hl,e⟩:=I.lstM hH;refine call_meets F.slot_list_append ⟨_,e,rfl⟩ F.entry_list_append (F.args_list_append_2 _ _) (PySem.list_append l its.toArray n u (by rw[List.size_toArray];omega)) ⟨e,?_⟩;refine⟨.non,_,I.lset (its':=its++[u]) hH e (by simp) (r.append (.cons ru .nil)) ?_,rfl,q⟩;rw[List.length_append,List.length_singleton];omega

noncomputable def Jd0:V->List V->Hp->VK->Prop:=fun x vs H Q=>∃l b xs zs,x=.ref l/\vs=[.ref b]/\H l=some (.lst xs)/\H b=some (.lst zs)/\xs.length+zs.length<=sizeLine/\Q .non (upd H l (.lst (xs++zs)))
theorem Jfg:MtM X "list.extend" Jd0:=by
 intro pins s σ H x vs v us Q I rx rv h;obtain⟨l,b,xs,zs,rfl,rfl,hH,hB,hz,q⟩:=h;cases rx;obtain⟨u,rfl,ru⟩:=rv.one;cases ru;obtain⟨z,its,n,r,hl,e⟩:=I.lstM hH;obtain⟨z2,its2,n2,r2,hl2,e2⟩:=I.lstM hB;have hsz:its.toArray.size+its2.toArray.size<=sizeLine:=by rw[List.size_toArray,List.size_toArray];omega
 have hlong:¬(!its.toArray.isEmpty && Builtin.List.listTooLong (its.toArray.size+its2.toArray.size))=true:=by rw[JgD hsz,Bool.and_false];exact Bool.false_ne_true
 refine call_meets F.slot_list_extend ⟨_,e,rfl⟩ F.entry_list_extend (F.args_list_extend_2 _ _)
  (AutoSeq1.list_extend_list_list_0 l its.toArray n b its2.toArray n2 hlong (by rw[List.size_toArray];omega) (by omega)) ⟨e,e2,?_⟩
 refine⟨.non,_,I.lset (its':=its++its2) hH e (by simp) (r.append r2) ?_,rfl,q⟩;rw[List.length_append];omega

noncomputable def Jnc:V->List V->Hp->VK->Prop:=fun x vs H Q=>∃l xs y,x=.ref l/\vs=[]/\H l=some (.lst xs)/\xs[xs.length-1]?=some y/\Q y (upd H l (.lst xs.dropLast))
theorem Jk9:MtM X "list.pop" Jnc:=by
 intro pins s σ H x vs v us Q I rx rv h;obtain⟨l,xs,y,rfl,rfl,hH,hy,q⟩:=h;cases rx;have hus:=rv.zero;subst hus;obtain⟨z,its,n,r,hl,e⟩:=I.lstM hH;obtain⟨u,hu,ru⟩:=r.get hy
 have hy':its.toArray[its.toArray.size-1]?=some u:=by show its.toArray[its.length-1]?=some u;rw[<- Array.getElem?_toList,<- hl];exact hu
 refine call_meets F.slot_list_pop ⟨_,e,rfl⟩ F.entry_list_pop (F.args_list_pop_1 _) (MeetsSeq.list_pop_last l its.toArray n u hy' (by rw[List.size_toArray];omega)) ⟨e,?_⟩;refine⟨y,_,I.lset (its':=its.dropLast) hH e ?_ r.dropLast ?_,ru,q⟩
 ·show its.toArray.eraseIdxIfInBounds (its.toArray.size-1)=its.dropLast.toArray;rw[List.size_toArray,List.eraseIdxIfInBounds_toArray,Jcp]
 ·rw[List.length_dropLast];omega

noncomputable def Jm6:R2:=fun x y H Q=>∃l b xs zs,x=.ref l/\y=.ref b/\H l=some (.lst xs)/\H b=some (.lst zs)/\xs.length+zs.length<=sizeLine/\∀p,H p=none->Q (.ref p) (upd H p (.lst (xs++zs)))
theorem Jlk:OpR X (binaryOp .Add) Jm6:=by
 intro pins s σ H x y v u Q I rx ry h;obtain⟨l,b,xs,zs,rfl,rfl,hH,hB,hz,q⟩:=h;cases rx;cases ry;obtain⟨z,its,n,r,hl,e⟩:=I.lstM hH;obtain⟨z2,its2,n2,r2,hl2,e2⟩:=I.lstM hB;refine PySem.P.add_list e e2 ?_ (by rw[List.size_toArray,List.size_toArray];omega);have ea:its.toArray++its2.toArray=(its++its2).toArray:=by simp
 rw[ea];exact⟨.ref _,_,I.lnew (t':=s.toks) (r.append r2) (by rw[List.length_append];omega),rfl,q _ I.fresh⟩
end

section
variable{prog:Program}{w:World}{A:Around}{E:Value->Shared->Prop}{s:Shared}
end

section
variable{X:Cx}
end
end L2

namespace Att
open PySem PySem.W PySem.Calls PyProof.Rows

theorem Wh{P:Params}{h:Heap}:∀(ns:List Int) (vs:List Value),WellAll P h vs (ns.map WData.int)->IntsAre vs ns:=by
 intro ns
 induction ns with
 | nil=>intro vs w;rw[List.map_nil] at w;cases w;exact .nil
 | cons n ns ih =>
  intro vs w;rw[List.map_cons] at w
  cases w with
  | cons a b=>cases a;exact .cons _ _ (ih _ b)

theorem Jfr{l:OpenLaw}{n:Nat}(hn:l.most=some n){P:Params}{h:Heap}{args:List WData}{vals:List Value}
 (hpre:l.row.toRowW.claim.pre args=true) (hwl:WellAll P h vals args) :
 ∃a vs ns,vals=[Value.ref a]/\args=[WData.list (ns.map WData.int)]/\h.get? a=some { cls:=.type "list",data:=.seq vs.toArray }/\IntsAre vs ns/\ns.length<=n:=by
 have hsh:WShape.hasAll [] args [.list .int]=true:=(pre_splitW hpre).1
 have hc:l.pre.holds [] { args:=args }=true:=(pre_splitW hpre).2;obtain⟨d,r,rfl,h1,h2⟩:=hasAllW_cons hsh;obtain rfl:=hasAllW_nil h2;obtain⟨xs,rfl,h3⟩:=hasW_list h1;obtain⟨ns,rfl⟩:=items_int h3
 have hlen:ns.length<=n:=by
  unfold OpenLaw.pre at hc
  have h4:(WTm.not (.lt (.lit (.int (n:Int))) (.len (.arg 0)))).holds [] { args:=[.list (ns.map .int)] }=true:=by have h4:=(holds_andW hc).1;rw[hn] at h4;exact h4
  have h5:=condW_of h4 (w_not (w_lt w_lit (w_len_list (w_arg rfl))));rw[List.length_map] at h5;refine Nat.le_of_not_lt fun q=>?_
  have q':(n:Int)<((ns.length:Nat):Int):=by omega
  first
   | (rw[decide_eq_true q'] at h5;exact absurd h5 (by decide))
   | (simp at h5;omega)
 cases hwl with
 | cons w1 w2 =>
  cases w2
  cases w1 with
  | list ho hall=>exact⟨_,_,ns,rfl,rfl,ho,Wh ns _ hall,hlen⟩

theorem Jfk(l:OpenLaw)(args:List WData):l.row.toRowW.claim.post args (.bool true) args=true :=
 postW_of (r:=l.row.toRowW) (X:=(true == true))
  (show WShape.has [] (.bool true) .bool=true by first|rfl|decide|simp[WShape.has,WShape.arms,WShape.armsAll])
  (show(WTm.eq .res (.lit (.bool true))).value [] { args:=args,res:=some (.bool true),after:=args }=some (.bool (true == true)) from w_eq_bool (w_res rfl) w_lit) rfl

theorem attach_call{l:OpenLaw}{n:Nat}{q:Program}{loose:List Str}{XP:(Str->Option Value)->Heap->Prop}{YP:World->Heap->Prop}{d:DefRec}
 (hn:l.most=some n) (hdf:d.params.defaults=[])
 (call:∀(w:World) (s₀ s₁:Shared) (mg mb:Str->Option Value) (fa:Addr) (o:Obj) (pm cd doc:Value) (a:Addr) (vs:List Value) (ns:List Int),
  Ground q loose [] XP w s₀ mg mb s₁.heap->YP w s₁.heap ->
  s₁.heap.get? fa=some o->o.data=.func (docDef d.name d.params d.body d.scope pm cd doc)->s₁.heap.CodeRec cd d.name->mg d.name=some (.ref fa) ->
  s₁.heap.get? a=some { cls:=.type "list",data:=.seq vs.toArray }->IntsAre vs ns->ns.length<=n->s₁.gens=#[] ->
  codeAny (model l.prog w) callerA (.call (.ref fa) ⟨[.ref a],[]⟩) (fun r s'=>r=.ok (.ret (.bool true))/\OldK s₁.heap s'.heap/\s'.os=s₁.os/\AllBare s'.gens) s₁) :
 WalkO q loose XP YP l.row.toRowW d [] (fun f vs=>PySem.call f vs):=by
 intro w s₀ s₁ mg mb G Y fa o pm cd doc dV kV ho hd hcd hD hmg hg args vals as hpre hlay hrd hwl hlo;obtain rfl:dV=.none:=Dflts.none hD hdf;obtain rfl:kV=.none:=Dflts.noKw hD;obtain⟨a,vs,ns,rfl,rfl,hobj,hints,hlen⟩:=Jfr hn hpre hwl;refine enter_call (codeAny_mono (call w s₀ s₁ mg mb fa o pm cd doc a vs ns G Y ho (fd_plain hd) hcd hmg hobj hints hlen hg) fun r s' hq=>?_);obtain⟨rfl,h2,h3,h4⟩:=hq;exact⟨.inl ⟨.bool true,.bool true,[],rfl,fun _=>rfl,.bool true,Jfk l _,fun _=>⟨List.Pairwise.nil,fun _ hm=>(nomatch hm)⟩⟩,h2,h3,h4⟩

section
variable{prog:Program}{w:World}{A:Around}{E:Value->Shared->Prop}{s:Shared}{K:Frag}

end
end Att

namespace L2
open PySem PySem.Spec PyProof.Rows

theorem ZQ:∀{vs:List Value} {ns:List Int},IntsAre vs ns->Vals (ns.map V.int) vs
 | _,_,.nil=>.nil
 | _,_,.cons n t h=>.cons ⟨t,rfl⟩ (ZQ h)

noncomputable def Jke(H:Hp):Prop:=∀b,H b=none\/∃o xs,H b=some (.frz o (.lst xs))

theorem Jgv{P:Program}{w:World}{K:Frag}{mg mb:Str->Option Value}{CX:CXT}{k:Nat}{fa a:Addr}{fd:FuncData}{x:Str}{sp:Sp}{s₁:Shared}{vs:List Value}{ns:List Int}
 (KX:K.In s₁.heap) (hns:s₁.heap.Ns mainGlobals mg) (hb:s₁.heap.Ns builtinsNs mb) (hbb:∀x:Str,x≠"__name__"->mb x=bootBuiltins x) (hlim:s₁.heap.NoLimit) (hg:s₁.gens=#[])
 (ha:s₁.heap.get? a=some { cls:=.type "list",data:=.seq vs.toArray }) (hi:IntsAre vs ns) (hl:ns.length<=sizeLine) (hr:Room k callerA)
 (F:∀base:Heap,K.In base->base.Ns mainGlobals mg->FnOk P w K mg base CX k fa fd [x] sp) (hbind:∀(s:Shared) (u:Value),BindsTo s fd ⟨[u],[]⟩ [(x,u)])
 (hsp:∀H:Hp,Jke H->SqL K H a (ns.map V.int)->sp [.ref a] H (fun v _=>v=.bl true) fun _ _ _=>False)
 (hCX:∀H e s',CX [] H s₁ (fun _ _ _=>False) e s'->False) :
 codeAny (model P w) callerA (.call (.ref fa) ⟨[.ref a],[]⟩) (fun r s'=>r=.ok (.ret (.bool true))/\OldK s₁.heap s'.heap/\s'.os=s₁.os/\AllBare s'.gens) s₁:=by
 have rv:=ZQ hi
 have lenV:=hi.length
 -- from an abstract heap in which nothing but the script may be tracked
 have core:∀H:Hp,Jke H->SqL K H a (ns.map V.int)->HOk P w H s₁.heap->(∀b,H b≠none->b=a)->(H a≠none->K.lookup a=none) ->
  codeAny (model P w) callerA (.call (.ref fa) ⟨[.ref a],[]⟩) (fun r s'=>r=.ok (.ret (.bool true))/\OldK s₁.heap s'.heap/\s'.os=s₁.os/\AllBare s'.gens) s₁:=by
  intro H hO hS hok hA hK;have base_of:∀{b:Addr} {o:Obj},s₁.heap.get? b=some o->H b=none->(Jam s₁.heap H).get? b=some o:=fun e n=>Jgk e n
  have noA:∀{b:Addr} {o:Obj} {es:Array DictEntry} {ep:Nat},s₁.heap.get? b=some o->o.data=.dict es ep->H b=none:=fun {b o es ep} e d=>by
   cases q:H b with
   | none=>rfl
   | some u =>
    have e':b=a:=hA b (by rw[q];simp);subst e';rw[ha] at e;cases e
    have d':Data.seq vs.toArray _=Data.dict es ep:=d;cases d'
  have nsK:∀{b:Addr} {m:Str->Option Value},s₁.heap.Ns b m->(Jam s₁.heap H).Ns b m:=fun {b m} ⟨o,es,ep,e,d,r⟩=>⟨o,es,ep,base_of e (noA e d),d,r⟩
  have hKb:K.In (Jam s₁.heap H):=fun b o e=>base_of (KX b o e) (by
   cases q:H b with
   | none=>rfl
   | some u=>have e':b=a:=hA b (by rw[q];simp);subst e';rw[hK (by rw[q];simp)] at e;cases e)
  have hM:Mod K mg (Jam s₁.heap H):=⟨hKb,nsK hns,⟨mb,nsK hb,hbb⟩,let ⟨mc,h1,h2⟩:=hlim;⟨mc,nsK h1,h2⟩⟩
  have e0:Env0 P w K mg (Jam s₁.heap H) callerA [] s₁ H:=⟨rfl,hM,fun b o e=>JiS e,Nat.le_of_eq (JeX _ _),trivial,fun b hb=>absurd (show b∈([]:List Addr) from hb) (by simp),hok,.of_eq hg⟩
  refine codeAny_mono ((F _ hKb (nsK hns)).run callerA [] s₁ H ⟨[.ref a],[]⟩ [.ref a] [.ref a] _ _ hr e0 (hbind s₁ (.ref a)) (.cons rfl .nil) (hsp H hO hS)) fun r s' h=>?_
  cases r with
  | error e=>exact(hCX H e s' h).elim
  | ok fl =>
   cases fl with
   | next=>exact False.elim h
   | brk=>exact False.elim h
   | cont=>exact False.elim h
   | ret u =>
    obtain⟨v,H',os,bare,un,hok',r',q⟩:=h;have q':v=.bl true:=q;subst q';obtain rfl:u=Value.bool true:=r';refine⟨rfl,OldK.of_keep fun b o e=>?_,os,bare⟩
    cases q:H b with
    | none=>exact un.keep b o e q (by intro z;exact absurd (show b∈([]:List Addr) from z) (by simp)) (by simp)
    | some u =>
     rcases hO b with z|⟨ob,xs,z⟩
     ·rw[q] at z;cases z
     ·have z2:=un.frzs b ob _ z;obtain⟨e1,_⟩:=hok b _ z;obtain⟨e2,_⟩:=hok' b _ z2;rw[e] at e1;cases e1;exact e2
 cases hk:K.lookup a with
 | some o =>
  -- the script is one of the module's own objects
  have e:=KX a o hk;rw[ha] at e;cases e;refine core (fun _=>none) (fun _=>.inl rfl) (.inr ⟨_,vs.toArray,_,hk,rfl,rfl,rfl,by rw[List.size_toArray,lenV];exact hl,by simpa using rv⟩) (fun b u z=>by have z':(none:Option HO)=some u:=z;cases z') (fun b z=>absurd rfl z) fun z=>absurd rfl z
 | none =>
  refine core (fun b=>if b=a then some (.frz { cls:=.type "list",data:=.seq vs.toArray } (.lst (ns.map V.int))) else none) (fun b=>?_) (.inl (.inr ⟨{ cls:=.type "list",data:=.seq vs.toArray },if_pos rfl⟩)) (fun b u z=>?_) (fun b z=>?_) fun _=>hk
  ·by_cases hb:b=a
   ·exact .inr ⟨_,_,if_pos hb⟩
   ·exact .inl (if_neg hb)
  ·by_cases hb:b=a
   ·have z':=(if_pos hb).symm.trans z;cases z';subst hb;exact⟨ha,by rw[List.length_map];exact hl,vs,_,rv,ha⟩
   ·have z':=(if_neg hb).symm.trans z;cases z'
  ·by_cases hb:b=a
   ·exact hb
   ·exact absurd (if_neg hb) z
end L2

namespace L2
open PySem PySem.Spec PyProof.Rows

theorem JjM{l:PySem.W.OpenLaw}{n k:Nat}{q:Program}{loose:List Str}{XP:(Str->Option Value)->Heap->Prop}{YP:World->Heap->Prop}{d:DefRec}{K:Params->Frag}{CX:World->CXT}{sp:World->Sp}{x:Str}
 (hn:l.most=some n) (hn2:n<=sizeLine) (hdf:d.params.defaults=[]) (hr:Room k callerA)
 (hY:∀(w:World) (h:Heap),YP w h->(K w.params).In h)
 (F:∀(w:World) (mg:Str->Option Value) (fa:Addr) (h:Heap),(K w.params).In h->h.Ns mainGlobals mg->mg d.name=some (.ref fa) ->
  ∃fd:FuncData,(∀(s:Shared) (u:Value),BindsTo s fd ⟨[u],[]⟩ [(x,u)]) ∧
   ∀base:Heap,(K w.params).In base->base.Ns mainGlobals mg->FnOk l.prog w (K w.params) mg base (CX w) k fa fd [x] (sp w))
 (hsp:∀(w:World) (H:Hp) (a:Addr) (ns:List Int),ns.length<=n->Jke H->SqL (K w.params) H a (ns.map V.int)->sp w [.ref a] H (fun v _=>v=.bl true) fun _ _ _=>False)
 (hCX:∀(w:World) (H:Hp) (s:Shared) (e:Value) (s':Shared),CX w [] H s (fun _ _ _=>False) e s'->False) :
 PySem.W.WalkO q loose XP YP l.row.toRowW d [] (fun f vs=>PySem.call f vs):=by
 refine Att.attach_call hn hdf fun w s₀ s₁ mg mb fa o pm cd doc a vs ns G Y ho hd hcd hmg hobj hints hlen hg=>?_
 have KX:=hY w _ Y;obtain⟨fd,hb,hF⟩:=F w mg fa _ KX G.T.g hmg;exact Jgv KX G.T.g G.T.b G.T.builtins G.T.nolimit hg hobj hints (Nat.le_trans hlen hn2) hr hF hb (fun H hO hS=>hsp w H a ns hlen hO hS) fun H e s'=>hCX w H s₁ e s'
end L2

namespace L2
open PySem PySem.Spec PyProof.Rows

noncomputable def JiF(s:Stmt)(j:Nat):Stmt:=match s with
 | .ClassDef _ _ _ body _ _ _ _ _ _ _=>body.getD j (.Pass ⟨0,0,0,0⟩)
 | _=>.Pass ⟨0,0,0,0⟩
noncomputable def Jw(s:Stmt):Arguments:=match s with
 | .FunctionDef _ a _ _ _ _ _ _ _ _=>a
 | _=>{ posonlyargs:=[],args:=[],vararg:=none,kwonlyargs:=[],kw_defaults:=[],kwarg:=none,defaults:=[] }
noncomputable def Ju(s:Stmt):List Stmt:=match s with
 | .FunctionDef _ _ b _ _ _ _ _ _ _=>b
 | _=>[]
noncomputable def Jf(s:Stmt):Scope:=match s with
 | .FunctionDef _ _ _ _ _ _ sc _ _ _=>sc
 | _=>{ kind:=.function,names:=[],isGenerator:=false,isCoroutine:=false }

noncomputable abbrev CX0:CXT:=fun _ _ _ _ _ _=>False
noncomputable abbrev E0:XK:=fun _ _ _=>False
theorem JjV{X:Cx}:Ww CX0 X E0:=fun _ _ _ _ _ _ _ h=>h.elim

structure Fun (K:Frag) (x qual:Str) (st:Stmt) (f:Addr) (fd:FuncData):Prop where
 ex:∃(oc:Value) (od:Option Addr) (kV doc pm:Value) (an:Option Addr) (cdv ct:Value) (osl:Array (Option Value)),
  fd=fnOf x qual (Jw st) (Ju st) (Jf st) .none kV doc pm an cdv ct/\K.lookup f=some ⟨oc,od,.func fd,osl⟩/\codeIn K cdv qual=true
 kp:keepIn K (.ref f)=true
section
variable{P:Program}{w:World}{K:Frag}{mg:Str->Option Value}{base:Heap}
theorem Fun.ok{x qual:Str}{st:Stmt}{f:Addr}{fd:FuncData}{N ps:List Str}{k:Nat}{sp:Sp}(F:Fun K x qual st f fd)(S:FnScope N ps (Jf st))(len:∀vs H Q E,sp vs H Q E->vs.length=ps.length)
 (hbody:∀(cdv:Value) (A:Around) (outer:List Env) (s:Shared) (H:Hp) (vs:List V) (Q:VK) (E:XK),Room k (A.deeper (envOfC qual (Jf st) s.heap.objs.size f cdv))->sp vs H Q E ->
  ∃t,PSs (JeQ CX0 P w K mg base N qual (Jf st) f cdv A outer s H E).nox (Ju st) t/\t { nx:=fun _ H'=>Q .non H',rt:=Q } (UC N vs) H):FnOk P w K mg base CX0 (k+1) f fd ps sp:=by
 obtain⟨oc,od,kV,doc,pm,an,cdv,ct,osl,rfl,lk,hcd⟩:=F.ex;refine JmV lk hcd S len fun A outer s H vs Q E hr hsp=>?_
 obtain⟨t,h,q⟩:=hbody cdv A outer s H vs Q E hr hsp;exact⟨t,h.nox,q⟩
theorem Fun.binds{x qual:Str}{st:Stmt}{f:Addr}{fd:FuncData}{ps:List Str}(F:Fun K x qual st f fd)
 (h:∀(kV doc pm:Value) (an:Option Addr) (cdv ct:Value) (us:List Value),us.length=ps.length->bindArgs (fnOf x qual (Jw st) (Ju st) (Jf st) .none kV doc pm an cdv ct) ⟨us,[]⟩=pure (ps.zip us)):Binds K fd ps []:=by
 obtain⟨oc,od,kV,doc,pm,an,cdv,ct,osl,rfl,lk,hcd⟩:=F.ex;exact .all (h kV doc pm an cdv ct)
theorem JQ{x qual:Str}{st:Stmt}{f:Addr}{oc:Value}{od an:Option Addr}{osl:Array (Option Value)}{kV doc pm cdv ct:Value}(l:K.lookup f=some ⟨oc,od,.func (fnOf x qual (Jw st) (Ju st) (Jf st) .none kV doc pm an cdv ct),osl⟩)
 (c:codeIn K cdv qual=true) (k:keepIn K (.ref f)=true):Fun K x qual st f (fnOf x qual (Jw st) (Ju st) (Jf st) .none kV doc pm an cdv ct):=⟨⟨oc,od,kV,doc,pm,an,cdv,ct,osl,rfl,l,c⟩,k⟩
end
theorem JdA{A:Around}{k:Nat}(hr:Room k A):A.units+1<cLine:=Nat.lt_of_le_of_lt (Nat.add_le_add_left (by decide:1<=64) _) hr.units
theorem Jft{n:Nat}(h:n<=1000):n<sizeLine:=Nat.lt_of_le_of_lt h (by decide)

section
variable{X:Cx}
theorem pv(i:Nat){x:Str}{pos:Pos}(hN:X.N[i]?=some x:=by rfl)(hv:Vis X.env.scope x:=by first | exact Or.inl rfl | exact Or.inr (.inl rfl) | exact Or.inr (.inr rfl))(hd:(x == ("__debug__":Str))=false:=by decide)
 (hcd:(x == ("__classdict__":Str))=false:=by decide):PE X (.Name x pos) (Zh i):=Jlw hN hv hd hcd
end

noncomputable def Same(H H':Hp):Prop:=∀b o,H b=some o->H' b=some o
theorem Same.refl(H:Hp):Same H H:=fun _ _ h=>h
theorem Same.trans{H H1 H2:Hp}(a:Same H H1)(b:Same H1 H2):Same H H2:=fun c o h=>b c o (a c o h)
theorem Same.free{H H':Hp}(e:Same H H'){l:Addr}(h:H' l=Option.none):H l=Option.none:=by
 cases q:H l with
 | none=>rfl
 | some o=>rw[e l o q] at h;cases h
theorem Same.seq{K:Frag}{H H':Hp}{a:Addr}{xs:List V}(e:Same H H')(h:SqL K H a xs):SqL K H' a xs:=by
 rcases h with (h|⟨o,h⟩)|h
 ·exact .inl (.inl (e _ _ h))
 ·exact .inl (.inr ⟨o,e _ _ h⟩)
 ·exact .inr h

end L2

namespace L2
open PySem PySem.Spec PyProof.Rows

section
variable{κ:Type}[DecidableEq κ]
noncomputable def VI(kvs:List (κ×V))(k:κ):Option V:=(kvs.find? fun kv=>decide (kv.1=k)).map (·.2)
noncomputable def Vw(kvs:List (κ×V))(k:κ)(v:V):List (κ×V) :=
 if (kvs.any fun kv=>decide (kv.1=k))=true then kvs.map (fun kv=>if kv.1=k then(kv.1,v) else kv) else kvs++[(k,v)]
noncomputable def JjR(kvs:List (κ×V))(k:κ):List (κ×V):=kvs.filter fun kv=>decide (kv.1≠k)

theorem VL{p:κ×V}{r:List (κ×V)}{k:κ}(e:p.1=k):VI (p::r) k=some p.2:=by simp[VI,List.find?_cons,e]
theorem VJ{p:κ×V}{r:List (κ×V)}{k:κ}(e:¬p.1=k):VI (p::r) k=VI r k:=by simp[VI,List.find?_cons,e]
theorem Jb7(k:κ):∀kvs:List (κ×V),(kvs.any fun kv=>decide (kv.1=k))=(VI kvs k).isSome
 | []=>rfl
 | p::r=>by
  rw[List.any_cons]
  by_cases e:p.1=k
  ·simp only[VL e,decide_eq_true e,Bool.true_or,Option.isSome_some]
  ·rw[VJ e,decide_eq_false e,Bool.false_or];exact Jb7 k r
theorem V9(kvs:List (κ×V))(k:κ)(v:V):(Vw kvs k v).length<=kvs.length+1:=by
 unfold Vw;split
 ·rw[List.length_map];omega
 ·rw[List.length_append,List.length_cons,List.length_nil];omega
theorem RelO.isSome_eq{o:Option V}{u:Option Value}(r:RelO o u):o.isSome=u.isSome:=by
 cases o with
 | none=>cases u with
  | none=>rfl
  | some _=>exact(show False from r).elim
 | some _=>cases u with
  | none=>exact(show False from r).elim
  | some _=>rfl
theorem RelO.getD{o:Option V}{u:Option Value}{d:V}{d':Value}(r:RelO o u)(rd:RelV d d'):RelV (o.getD d) (u.getD d'):=by
 cases o with
 | none=>cases u with
  | none=>exact rd
  | some _=>exact(show False from r).elim
 | some _=>cases u with
  | none=>exact(show False from r).elim
  | some _=>exact r

theorem KV.val{kvs:List (κ×V)}{vs:List (κ×Value)}(r:KV kvs vs)(k:κ):RelO (VI kvs k) (valueAt vs k):=by
 unfold KV at r
 induction r with
 | nil=>exact True.intro
 | @cons p q ps qs h t ih =>
  obtain⟨h1,h2⟩:=h
  by_cases e:p.1=k
  ·have e':q.1=k:=h1.symm.trans e
   have b:valueAt (q::qs) k=some q.2:=by simp[valueAt,List.find?_cons,e']
   rw[VL e,b];exact h2
  ·have e':¬q.1=k:=fun z=>e (h1.trans z)
   have b:valueAt (q::qs) k=valueAt qs k:=by simp[valueAt,List.find?_cons,e']
   rw[VJ e,b];exact ih
theorem KV.any{kvs:List (κ×V)}{vs:List (κ×Value)}(r:KV kvs vs)(k:κ):(kvs.any fun kv=>decide (kv.1=k))=vs.any fun kv=>decide (kv.1=k):=by
 unfold KV at r
 induction r with
 | nil=>rfl
 | cons h t ih=>rw[List.any_cons,List.any_cons,ih,h.1]
theorem KV.repl{kvs:List (κ×V)}{vs:List (κ×Value)}(r:KV kvs vs)(k:κ){y:V}{u:Value}(ry:RelV y u) :
 KV (kvs.map fun kv=>if kv.1=k then(kv.1,y) else kv) (vs.map fun kv=>if kv.1=k then(kv.1,u) else kv):=by
 unfold KV at r ⊢
 induction r with
 | nil=>exact .nil
 | @cons p q ps qs h t ih =>
  rw[List.map_cons,List.map_cons];refine .cons ?_ ih;obtain⟨h1,h2⟩:=h
  by_cases e:p.1=k
  ·rw[if_pos e,if_pos (h1.symm.trans e)];exact⟨h1,ry⟩
  ·rw[if_neg e,if_neg (fun z=>e (h1.trans z))];exact⟨h1,h2⟩
theorem KV.put{kvs:List (κ×V)}{vs:List (κ×Value)}(r:KV kvs vs)(k:κ){y:V}{u:Value}(ry:RelV y u):KV (Vw kvs k y) (stored vs k u):=by
 unfold Vw stored;rw[r.any k]
 by_cases e:(vs.any fun kv=>decide (kv.1=k))=true
 ·rw[if_pos e,if_pos e];exact r.repl k ry
 ·rw[if_neg e,if_neg e];exact Paired.snoc r ⟨rfl,ry⟩
theorem KV.drop{kvs:List (κ×V)}{vs:List (κ×Value)}(r:KV kvs vs)(k:κ):KV (JjR kvs k) (without vs k):=by
 unfold KV at r ⊢;unfold JjR without
 induction r with
 | nil=>exact .nil
 | @cons p q ps qs h t ih =>
  obtain⟨h1,h2⟩:=h;rw[List.filter_cons,List.filter_cons]
  by_cases e:p.1=k
  ·have a:¬decide (p.1≠k)=true:=by simp[e]
   have b:¬decide (q.1≠k)=true:=by simp[h1.symm.trans e]
   rw[if_neg a,if_neg b];exact ih
  ·have e':¬q.1=k:=fun z=>e (h1.trans z)
   have a:decide (p.1≠k)=true:=by simp[e]
   have b:decide (q.1≠k)=true:=by simp[e']
   rw[if_pos a,if_pos b];exact .cons ⟨h1,h2⟩ ih
theorem KV.keys{kvs:List (κ×V)}{vs:List (κ×Value)}(r:KV kvs vs):kvs.map (·.1)=vs.map (·.1):=by
 unfold KV at r
 induction r with
 | nil=>rfl
 | cons h t ih=>rw[List.map_cons,List.map_cons,ih,h.1]
theorem KV.length{kvs:List (κ×V)}{vs:List (κ×Value)}(r:KV kvs vs):kvs.length=vs.length:=Paired.length r
end

theorem Jgs{P:Program}{w:World}{k:Key}{u:Value}(r:RelV (kV k) u):(JA P w).is k u=true:=by
 cases k with
 | inl i=>obtain⟨t,e⟩:=(show ∃t,u=Value.int i t from r);subst e;exact Jbm P w i t
 | inr x=>obtain⟨t,e⟩:=(show ∃t,u=Value.str x t from r);subst e;exact Jbn P w x t
theorem Zw{P:Program}{w:World}:∀{ks:List Key} {us:List Value},Vals (ks.map kV) us->ItemsAre (JA P w) ks us
 | [],_,r=>by rw[List.map_nil] at r;cases r;exact .nil
 | k::ks,_,r=>by
  rw[List.map_cons] at r
  cases r with
  | cons h t=>exact .cons (Jgs h) (Zw t)

noncomputable abbrev KT(H:Hp):List (List Key×V)->List (List Key×Addr×Value)->Prop:=Paired fun p q=>p.1=q.1/\H q.2.1=some (.tup (p.1.map kV))/\RelV p.2 q.2.2
theorem KT.val{H:Hp}{kvs:List (List Key×V)}{xs:List (List Key×Addr×Value)}(r:KT H kvs xs)(k:List Key):RelO (VI kvs k) ((atKey xs k).map (·.2)):=by
 induction r with
 | nil=>exact True.intro
 | @cons p q ps qs h t ih =>
  obtain⟨h1,_,h2⟩:=h
  by_cases e:p.1=k
  ·have e':q.1=k:=h1.symm.trans e
   have b:atKey (q::qs) k=some q.2:=by simp[atKey,List.find?_cons,e']
   rw[VL e,b];exact h2
  ·have e':¬q.1=k:=fun z=>e (h1.trans z)
   have b:atKey (q::qs) k=atKey qs k:=by simp[atKey,List.find?_cons,e']
   rw[VJ e,b];exact ih
theorem KT.repl{H:Hp}{kvs:List (List Key×V)}{xs:List (List Key×Addr×Value)}(r:KT H kvs xs)(k:List Key){y:V}{u:Value}(ry:RelV y u) :
 KT H (kvs.map fun kv=>if kv.1=k then(kv.1,y) else kv) (xs.map (putAt k u)):=by
 induction r with
 | nil=>exact .nil
 | @cons p q ps qs h t ih =>
  rw[List.map_cons,List.map_cons];refine .cons ?_ ih;obtain⟨h1,h2,h3⟩:=h;unfold putAt
  by_cases e:p.1=k
  ·rw[if_pos e,if_pos (h1.symm.trans e)];exact⟨h1,h2,ry⟩
  ·rw[if_neg e,if_neg (fun z=>e (h1.trans z))];exact⟨h1,h2,h3⟩
theorem KT.put{H:Hp}{kvs:List (List Key×V)}{xs:List (List Key×Addr×Value)}(r:KT H kvs xs)(k:List Key){b:Addr}{y:V}{u:Value}(hb:H b=some (.tup (k.map kV)))(ry:RelV y u) :
 KT H (Vw kvs k y) (storedH xs k b u):=by
 have e:(kvs.any fun kv=>decide (kv.1=k))=(atKey xs k).isSome:=by rw[Jb7,(r.val k).isSome_eq,Option.isSome_map]
 unfold Vw storedH;rw[e]
 by_cases q:(atKey xs k).isSome=true
 ·rw[if_pos q,if_pos q];exact r.repl k ry
 ·rw[if_neg q,if_neg q];exact Paired.snoc r ⟨rfl,hb,ry⟩
theorem KT.keeps{H H':Hp}{kvs:List (List Key×V)}{xs:List (List Key×Addr×Value)}(r:KT H kvs xs)(ht:∀b ys,H b=some (.tup ys)->H' b=some (.tup ys)):KT H' kvs xs :=
 Paired.mapP r fun _ _ z=>⟨z.1,ht _ _ z.2.1,z.2.2⟩

section
variable{P:Program}{w:World}{H:Hp}{h:Heap}{a:Addr}
theorem Jj1{u:HO}(ok:HOk P w H h)(e:Rd H a u):ObjOk P w H h a u:=e.ok ok
theorem Jf5{kvs:List (Key×V)}(ok:HOk P w H h)(e:Rd H a (.dK kvs)):kvs.length<=sizeLine/\(a == sysModules)=false/\∃vs,KV kvs vs/\h.DictOf (JA P w) a vs :=
 show ObjOk P w H h a (.dK kvs) from Jj1 ok e
theorem JmM{kvs:List (Key×V)}(ok:HOk P w H h)(e:H a=some (.dK kvs)):kvs.length<=sizeLine/\(a == sysModules)=false/\∃vs,KV kvs vs/\h.DictOf (JA P w) a vs:=Jf5 ok (.inl e)
theorem JcC{ks:List Key}(ok:HOk P w H h)(e:H a=some (.tup (ks.map kV))):(tupleKind (JA P w)).is h ks a:=by
 obtain⟨_,its,r,o,h1,h2,n,h3⟩:=(show ObjOk P w H h a (.tup (ks.map kV)) from ok a _ e)
 exact⟨o,its.toArray,n,h1,h2,h3,by simpa using Zw r⟩
theorem Jf6{kvs:List (List Key×V)}(ok:HOk P w H h)(e:Rd H a (.dT kvs)):kvs.length<=sizeLine/\(a == sysModules)=false ∧
 ∃xs,KT H kvs xs/\h.DictOfH (tupleKind (JA P w)) a xs:=by
 obtain⟨z,y,xs,r,o,es,ep,h1,h2,h3,h4,h5⟩:=(show ObjOk P w H h a (.dT kvs) from Jj1 ok e)
 refine⟨z,y,xs,r,o,es,ep,h1,h2,h3,h4,fun x hx=>?_,h5⟩
 have all:∀{l:List (List Key×V)} {m:List (List Key×Addr×Value)},KT H l m->∀x∈m,(tupleKind (JA P w)).is h x.1 x.2.1:=by
  intro l m q
  induction q with
  | nil=>intro x hx;exact nomatch hx
  | @cons p q ps qs hq t ih =>
   intro x hx;rcases List.mem_cons.mp hx with e|hx
   ·subst e;exact JcC ok (by rw[<- hq.1];exact hq.2.1)
   ·exact ih x hx
 exact all r x hx
theorem JmN{kvs:List (List Key×V)}(ok:HOk P w H h)(e:H a=some (.dT kvs)):kvs.length<=sizeLine/\(a == sysModules)=false ∧
 ∃xs,KT H kvs xs/\h.DictOfH (tupleKind (JA P w)) a xs:=Jf6 ok (.inl e)
end

noncomputable def DGet(H:Hp)(a:Addr)(y:V)(r:Option V):Prop :=
 (∃kvs k,Rd H a (.dK kvs)/\y=kV k/\r=VI kvs k)\/∃kvs k b,Rd H a (.dT kvs)/\y=.ref b/\H b=some (.tup (k.map kV))/\r=VI kvs k
noncomputable def DPut(H:Hp)(a:Addr)(y v:V)(H':Hp):Prop :=
 (∃kvs k,H a=some (.dK kvs)/\y=kV k/\kvs.length<sizeLine/\H'=upd H a (.dK (Vw kvs k v))) ∨
 ∃kvs k b,H a=some (.dT kvs)/\y=.ref b/\H b=some (.tup (k.map kV))/\kvs.length<sizeLine/\H'=upd H a (.dT (Vw kvs k v))
theorem DGet.k{H:Hp}{a:Addr}{kvs:List (Key×V)}{k:Key}(e:H a=some (.dK kvs)):DGet H a (kV k) (VI kvs k):=.inl ⟨kvs,k,.inl e,rfl,rfl⟩
theorem DGet.t{H:Hp}{a b:Addr}{kvs:List (List Key×V)}{k:List Key}(e:H a=some (.dT kvs))(eb:H b=some (.tup (k.map kV))):DGet H a (.ref b) (VI kvs k):=.inr ⟨kvs,k,b,.inl e,rfl,eb,rfl⟩
theorem DPut.k{H:Hp}{a:Addr}{kvs:List (Key×V)}{k:Key}{v:V}(e:H a=some (.dK kvs))(hl:kvs.length<sizeLine):DPut H a (kV k) v (upd H a (.dK (Vw kvs k v))):=.inl ⟨kvs,k,e,rfl,hl,rfl⟩
theorem DPut.t{H:Hp}{a b:Addr}{kvs:List (List Key×V)}{k:List Key}{v:V}(e:H a=some (.dT kvs))(eb:H b=some (.tup (k.map kV)))(hl:kvs.length<sizeLine) :
 DPut H a (.ref b) v (upd H a (.dT (Vw kvs k v))):=.inr ⟨kvs,k,b,e,rfl,eb,hl,rfl⟩

section
variable{X:Cx}{pins:List (Addr×Obj)}{σ:St}{H:Hp}{s:Shared}{a:Addr}{y v:V}{u r:Value}{o:Option V}{A:Around}{E:Value->Shared->Prop}

theorem Inv.big(I:Inv X pins σ H s):sysModules<s.heap.objs.size:=by have h:mainGlobals<s.heap.objs.size:=(I.mod.glob.keeps I.bk).lt;exact Nat.lt_trans (by decide) h

theorem Jdj{h':Heap}{t':Nat}{ob:HO}(I:Inv X pins σ H s)(mu:Mut (H a))(hs:Heap.SameBut a s.heap h')(he:∃q,h'.get? a=some q)(new:ObjOk X.prog X.w (upd H a ob) h' a ob) :
 Inv X pins σ (upd H a ob) { s with heap:=h',toks:=t' } :=
 I.write (x:=a) (e:=a) mu (.inl rfl) (fun b q hb z=>(hs.2 b hb).trans z) he new
theorem Jkp{P:Program}{w:World}{H':Hp}{h':Heap}{kvs:List (Key×V)}{vs:List (Key×Value)}(z:kvs.length<=sizeLine)(hd:(a == sysModules)=false)(rel:KV kvs vs)(dd:h'.DictOf (JA P w) a vs) :
 ObjOk P w H' h' a (.dK kvs):=⟨z,hd,vs,rel,dd⟩
theorem JeR{H':Hp}{Q:Unit->Shared->Prop}(hu:A.units+1<cLine)(I:Inv X pins σ H s)(g:DPut H a y v H')(ry:RelV y u)(rv:RelV v r)(h:∀s',Inv X pins σ H' s'->Q () s') :
 wpAny (model X.prog X.w) A (setItem (.ref a) u r) Q E s:=by
 rcases g with ⟨kvs,k,e,ey,l,eH⟩|⟨kvs,k,b,e,ey,eb,l,eH⟩
 ·subst ey eH;obtain⟨z,hd,vs,rel,dd⟩:=JmM I.hok e;have hz:vs.length<=sizeLine:=by rw[<- rel.length];exact z
  have hl:(Vw kvs k v).length<=sizeLine:=by have:=V9 kvs k v;omega
  refine wpAny_setItem_pairs (hsz:=hz) (Jgs ry) dd fun h' dd' hs=>h _ ?_
  have he:∃q,h'.get? a=some q:=let ⟨q,_,_,hq,_⟩:=dd';⟨q,hq⟩
  exact Jdj I (by rw[e];exact True.intro) hs he (Jkp hl hd (rel.put k rv) dd')
 ·subst ey eH;cases (show u=Value.ref b from ry);obtain⟨z,hd,xs,rel,dd⟩:=JmN I.hok e;have hz:xs.length<=sizeLine:=by rw[<- Paired.length rel];exact z
  have hl:(Vw kvs k v).length<=sizeLine:=by have:=V9 kvs k v;omega
  refine wpAny_setItem_heap (hsz:=hz) (tupleKind_room_in1 hu) (JcC I.hok eb) dd fun h' dd' hs=>h _ ?_
  obtain⟨q,es,ep,hq,h2,h3,h4,_,h5⟩:=dd';refine Jdj I (by rw[e];exact True.intro) hs ⟨q,hq⟩ ⟨hl,hd,_,(rel.put k eb rv).keeps fun c ys ec=>?_,q,es,ep,hq,h2,h3,h4,h5⟩;rw[Jh (ZD ec e (fun z=>nomatch z))];exact ec
end

section
variable{X:Cx}{pins:List (Addr×Obj)}{σ:St}{H:Hp}{s:Shared}{a:Addr}{kvs:List (Key×V)}{k:Key}{u:Value}{A:Around}{E:Value->Shared->Prop}
end

noncomputable def Jj2(td ty tv:TE):TS:=fun D σ H=>tv σ H fun v H1=>td σ H1 fun x H2=>ty σ H2 fun y H3=>∃a H4,x=.ref a/\DPut H3 a y v H4/\D.nx σ H4
section
variable{X:Cx}{o i e value:Expr}{pos pos' tpos:Pos}{td ty tv:TE}
theorem JdV(hu:X.A.units+1<cLine)(ho:PE X o td)(hi:PE X i ty)(hv:PE X value tv)(hs:swapsWith value (some (.Subscript o i pos')) pos.line X.env=pure false) :
 PS X (.Assign [.Subscript o i pos'] value pos) (Jj2 td ty tv):=by
 intro pins s σ H D I h;refine wpAny_Assign_Subscript (thn (hv pins s σ H _ I h) fun r s1 ⟨v,H1,I1,rv,q1⟩=>thn (ho pins s1 σ H1 _ I1 q1) fun u s2 ⟨x,H2,I2,rx,q2⟩=>thn (hi pins s2 σ H2 _ I2 q2) fun iv s3 ⟨y,H3,I3,ry,a,H4,ex,g,q3⟩=>?_) hs;subst ex;obtain rfl:u=Value.ref a:=rx;exact JeR hu I3 g ry rv fun s4 I4=>⟨σ,H4,I4,q3⟩
end

theorem Jf4{P:Program}{w:World}{H:Hp}(h:Heap)(hb:sysModules<h.objs.size):ObjOk P w H (h.push { cls:=.type "dict",data:=.dict #[] }) h.objs.size (.dK []) :=
 ⟨Nat.zero_le _,beq_eq_false_iff_ne.mpr (Ne.symm (Nat.ne_of_lt hb)),[],.nil,Heap.DictOf.new h⟩
noncomputable def Jhr:TE:=fun _ H Q=>∀p,H p=none->Q (.ref p) (upd H p (.dK []))
section
variable{X:Cx}{pos:Pos}
theorem Jbz:PE X (.Dict [] [] pos) Jhr:=fun pins s σ H Q I h=>wpAny_Dict_empty ⟨.ref s.heap.objs.size,_,I.laid (a:=s.heap.objs.size) (o:=.dK []) (t':=s.toks) (fun _ _ q=>Heap.get?_push_of_some _ q) (Nat.le_refl _) (Jf4 s.heap I.big),rfl,h _ (I.hok.fresh (Nat.le_refl _))⟩
end

structure M1 (X:Cx) (o:Expr) (m:Str) (apos:Pos) (e:Expr) (cpos:Pos):Prop where
 base:attributeBase o m X.env (eval o X.env)=eval o X.env
 few:((backTo cpos (starEach [e] X.env)).all (fun x=>!x.1) && (backToKw cpos (keywordEach [] X.env)).all (fun x=>x.1.isSome)
  && decide (([e]:List Expr).length+([]:List Keyword).length+(if ([]:List Keyword).isEmpty then 0 else 1)<30))=true
 line:(apos.endLine == cpos.line)=true
 trees:backTo cpos (starEach [e] X.env)=[(false,eval e X.env)]
structure M2 (X:Cx) (o:Expr) (m:Str) (apos:Pos) (e f:Expr) (cpos:Pos):Prop where
 base:attributeBase o m X.env (eval o X.env)=eval o X.env
 few:((backTo cpos (starEach [e,f] X.env)).all (fun x=>!x.1) && (backToKw cpos (keywordEach [] X.env)).all (fun x=>x.1.isSome)
  && decide (([e,f]:List Expr).length+([]:List Keyword).length+(if ([]:List Keyword).isEmpty then 0 else 1)<30))=true
 line:(apos.endLine == cpos.line)=true
 trees:backTo cpos (starEach [e,f] X.env)=[(false,eval e X.env),(false,eval f X.env)]

noncomputable def IsD(H:Hp)(a:Addr):Prop:=(∃kvs,Rd H a (.dK kvs))\/∃kvs,Rd H a (.dT kvs)
theorem JcA{X:Cx}{pins:List (Addr×Obj)}{σ:St}{H:Hp}{s:Shared}{a:Addr}(I:Inv X pins σ H s)(d:IsD H a) :
 s.TypeIs (.ref a) "dict"/\(∀b,Value.ref a=.ref b->∃ob,s.heap.get? b=some ob/\ob.dict=none)/\(a == sysModules)=false:=by
 rcases d with ⟨kvs,e⟩|⟨kvs,e⟩
 ·obtain⟨_,hd,vs,_,dd⟩:=Jf5 I.hok e;refine⟨dd.typeIs,fun b q=>?_,hd⟩;cases q;obtain⟨ob,_,_,h1,h2,_⟩:=dd;exact⟨ob,h1,h2.2.1⟩
 ·obtain⟨_,hd,xs,_,dd⟩:=Jf6 I.hok e;refine⟨dd.typeIs,fun b q=>?_,hd⟩;cases q;obtain⟨ob,_,_,h1,h2,_⟩:=dd;exact⟨ob,h1,h2.2.1⟩

section
variable{X:Cx}{pins:List (Addr×Obj)}{σ:St}{H:Hp}{s:Shared}{a:Addr}{y d:V}{u r:Value}{o:Option V}{A:Around}{E:Value->Shared->Prop}
theorem Jko{Q:Value->Shared->Prop}(hu:A.units+1<cLine)(I:Inv X pins σ H s)(g:DGet H a y o)(ry:RelV y u)(rd:RelV d r)(h:∀w' s',Inv X pins σ H s'->RelV (o.getD d) w'->Q w' s') :
 wpAny (model X.prog X.w) A (call (.builtin "dict.get") [.ref a,u,r]) Q E s:=by
 rcases g with ⟨kvs,k,e,ey,l⟩|⟨kvs,k,b,e,ey,eb,l⟩
 ·subst ey;obtain⟨z,hd,vs,rel,dd⟩:=Jf5 I.hok e;refine call_meetsIn PySem.F.slot_dict_get dd.typeIs PySem.F.entry_dict_get (PySem.F.args_dict_get_3 _ _ _) (meets_dict_get_default (JA X.prog X.w) a (Jgs ry) hd r) ⟨_,dd.mapOf,h _ _ (I.tok _) ?_⟩;rw[l];exact(rel.val k).getD rd
 ·subst ey;cases (show u=Value.ref b from ry);obtain⟨z,hd,xs,rel,dd⟩:=Jf6 I.hok e;refine call_meetsIn PySem.F.slot_dict_get dd.typeIs PySem.F.entry_dict_get (PySem.F.args_dict_get_3 _ _ _) (meetsH_dict_get_default (tupleKind (JA X.prog X.w)) a b hd r) ⟨tupleKind_room_in1 hu,k,xs,JcC I.hok eb,dd,h _ _ (I.tok _) ?_⟩;rw[l];exact(rel.val k).getD rd
end

noncomputable def Jhq(td ty tx:TE):TE:=fun σ H Q=>td σ H fun x H1=>∃a,x=.ref a/\IsD H1 a/\ty σ H1 fun y H2=>tx σ H2 fun z H3=>∃o,DGet H3 a y o/\Q (o.getD z) H3
section
variable{X:Cx}{o e f:Expr}{apos cpos:Pos}{td ty tx:TE}
theorem Jby(hu:X.A.units+1<cLine)(ho:PE X o td)(he:PE X e ty)(hf:PE X f tx)(m:M2 X o "get" apos e f cpos):PE X (.Call (.Attribute o "get" apos) [e,f] [] cpos) (Jhq td ty tx):=by
 intro pins s σ H Q I h;refine wpAny_Call_method m.base m.few m.line PySem.F.plainAttrs_dict PySem.F.slot_dict_get PySem.F.type_dict_get (thn (ho pins s σ H _ I h) fun u s1 ⟨x,H1,I1,rx,a,ex,d,q1⟩=>?_);subst ex;obtain rfl:u=Value.ref a:=rx;obtain⟨t1,t2,_⟩:=JcA I1 d;refine⟨t1,t2,?_⟩;rw[m.trees];refine Calls.callWith_builtin rfl (Calls.evalArgs_plain (Calls.spliced_cons (thn (he pins s1 σ H1 _ I1 q1) fun iv s2 ⟨y,H2,I2,ry,q2⟩=>Calls.spliced_cons (thn (hf pins s2 σ H2 _ I2 q2) fun fv s3 ⟨z,H3,I3,rz,ov,g,q3⟩=>Calls.spliced_nil ?_))))
 exact Jko hu I3 g ry rz fun w' s4 I4 rw'=>⟨_,H3,I4,rw',q3⟩
end

section
variable{X:Cx}{pins:List (Addr×Obj)}{σ:St}{H:Hp}{s:Shared}{a:Addr}{kvs:List (Key×V)}{A:Around}{E:Value->Shared->Prop}
end

section
variable{X:Cx}{pins:List (Addr×Obj)}{σ:St}{H:Hp}{s:Shared}{a:Addr}{y:V}{u:Value}{A:Around}{E:Value->Shared->Prop}
end
end L2
namespace L2
open PySem PySem.Spec PyProof.Rows

noncomputable def JfI(X:Cx)(ifs:List Expr)(t:TT):Prop :=
 ∀(pins:List (Addr×Obj)) (s:Shared) (σ:St) (H:Hp) (Q:Bool->Hp->Prop),Inv X pins σ H s->t σ H Q ->
  wpAny (model X.prog X.w) X.A (forIn ifs true fun c r=>if r=true then do let ok <- isTrue c X.env (eval c X.env);pure (ForInStep.yield ok) else pure (ForInStep.yield r)) (TP X pins σ Q) X.xe s
noncomputable def Jmo:TT:=fun _ H Q=>Q true H
theorem JL{X:Cx}:JfI X [] Jmo:=fun _ _ _ H _ I h=>wpAny_tests_nil ⟨H,I,h⟩
theorem JgS{X:Cx}{c:Expr}{t:TT}(h:PT X c t):JfI X [c] t:=fun pins s σ H Q I q=>wpAny_tests_one (h pins s σ H Q I q)

noncomputable def blk(X:Cx)(sc:Scope)(cl:List (Str×Addr))(N':List Str)(C:Addr)(s:Shared)(H:Hp)(fp:List Addr):Cx where
 prog:=X.prog
 w:=X.w
 K:=X.K
 mg:=X.mg
 base:=X.base
 A:=X.A
 N:=N'
 s₀:=s
 H₀:=H
 env:=compEnvC sc cl C X.env
 outer:=X.stack
 stack:=X.stack
 ex:=fp
 fn:=fun _=>false
 calm:=X.calm
 pn:=[]
 xe:=fun _ _=>False

noncomputable def WJ(imp:List (Option Nat))(σ:St):St:=imp.map fun o=>match o with
 | none=>none
 | some k=>(σ[k]?).join

structure Blk (X:Cx) (sc:Scope) (cl:List (Str×Addr)) (N':List Str) (imp:List (Option Nat)):Prop where
 clos:closureFor sc X.env=pure cl
 kind:sc.kind=.function
 nocell:∀y∈sc.names,y.2≠.cell
 names:∀y∈sc.names,y.2=.local->sc.names.lookup y.1=some .local
 sub:∀p∈cl,X.env.cells.lookup p.1=some p.2
 has:∀y∈(relabel sc X.env).names,(y.2=.cell\/y.2=.free)->(cl.lookup y.1).isSome=true
 len:imp.length=N'.length
 im:∀p∈imp.zip N',∀k,p.1=some k->X.N[k]?=some p.2/\(X.env.scope.names.lookup p.2=some .cell\/X.env.scope.names.lookup p.2=some .free)/\((relabel sc X.env).names.lookup p.2=some .cell\/(relabel sc X.env).names.lookup p.2=some .free)

noncomputable def Jek(wi:TI)(g:TG)(tt:TT)(te:TE)(imp:List (Option Nat)):TE:=fun σ H Q=>wi σ H fun J H1=>∃W:Nat->Nat->List V->St->Hp->Prop,(∃m,W 0 m [] (WJ imp σ) H1)/\∀i m ys σ' H',W i m ys σ' H' ->
 (J.stop i H'/\ys.length<=sizeLine/\∀D,H' D=none->Q (.ref D) (upd H' D (.lst ys))) ∨
 (J.go i H'/\ys.length<sizeLine/\∃N:List V->St->Hp->Prop,(∀ys' σ2 H2,N ys' σ2 H2->∃m',m'<m/\W (i+1) m' ys' σ2 H2) ∧
  ∀x H2,J.yld i H' x H2->g x σ' H2 fun σ2 H3=>tt σ2 H3 fun b H4=>if b=true then te σ2 H4 fun y H5=>N (ys++[y]) σ2 H5 else N ys σ2 H4)

section
variable{P:Program}{w:World}{H:Hp}{h h':Heap}
theorem HOk.sameBut{C:Addr}(x:HOk P w H h)(hC:H C=none)(k:∀b o,b≠C->h.get? b=some o->h'.get? b=some o):HOk P w H h':=fun a o e =>
 (x a o e).stay (fun b u hb q=>k b u (by
  rintro rfl;rcases hb with z|z
  ·rw[<- z,hC] at e;cases e
  ·rw[hC] at z;cases z) q) (fun _ q=>q) fun _ _ q=>q
theorem HOk.track{D:Addr}{o:HO}(x:HOk P w H h)(hD:H D=none)(new:ObjOk P w (upd H D o) h D o):HOk P w (upd H D o) h:=fun b u e=>by
 by_cases hb:b=D
 ·subst hb;rw[Jo] at e;cases e;exact new
 ·rw[Jh hb] at e;exact(x b u e).stay (fun c v _ q=>q) (fun c q=>by rw[Jh (Js q hD)];exact q) fun c xs q=>by rw[Jh (Js q hD)];exact q
end

theorem Uy{α:Type}{x:Str}{c:α}:∀{l:List (Str×α)},l.lookup x=some c->(x,c)∈l:=fun h=>PySem.mem_of_lookup h

section
variable{X:Cx}{tg iter elt:Expr}{ifs:List Expr}{sc:Scope}{cl:List (Str×Addr)}{N':List Str}{imp:List (Option Nat)}{pos:Pos}{wi:TI}{g:TG}{tt:TT}{te:TE}

theorem Blk.subL(B:Blk X sc cl N' imp):∀x c,cl.lookup x=some c->X.env.cells.lookup x=some c:=fun x c e=>B.sub (x,c) (Uy e)

theorem Jh0{pins:List (Addr×Obj)}{σ:St}{H:Hp}{s:Shared}{fp:List Addr}{h₁:Heap}{C:Addr}(B:Blk X sc cl N' imp)(I:Inv X pins σ H s)(hf:∀b∈fp,FpOk X pins H b)(hfo:∀b∈fp,∃o,s.heap.get? b=some o)
 (hC:s.heap.objs.size<C) (old:∀b o,s.heap.get? b=some o->h₁.get? b=some o) (ns:h₁.Ns C fun _=>none) :
 Inv (blk X sc cl N' C s H fp) [] (WJ imp σ) H { s with heap:=h₁,toks:=s.toks }:=by
 have hlt:∀b∈fp,b<s.heap.objs.size:=fun b hb=>let ⟨_,e⟩:=hfo b hb;Heap.lt_size e
 have clt:∀x c,X.env.cells.lookup x=some c->c<s.heap.objs.size:=fun x c e=>let ⟨_,q⟩:=I.cell x c e;q.lt
 have ok:(blk X sc cl N' C s H fp).Ok:={
  mod:=I.ok.mod
  kind:=B.kind
  glob:=I.ok.glob
  blt:=I.ok.blt
  above:=Nat.le_of_lt hC
  inj:=fun x y c h1 h2=>I.ok.inj x y c (B.subL x c h1) (B.subL y c h2)
  has:=fun x hx=>by
   have hx':(relabel sc X.env).names.lookup x=some .cell\/(relabel sc X.env).names.lookup x=some .free:=hx
   have:(cl.lookup x).isSome=true:=by
    rcases hx' with z|z
    ·exact B.has (x,.cell) (Uy z) (.inl rfl)
    ·exact B.has (x,.free) (Uy z) (.inr rfl)
   exact Option.isSome_iff_exists.mp this
  cab:=fun x c z=>nomatch z
  hd:=I.ok.hd
  frames:=I.ok.frames
  stk:=.inl rfl
  exf:=fun b hb=>⟨Nat.ne_of_lt (Nat.lt_trans (hlt b hb) hC),fun x c e=>(hf b hb).2.2.2.2.1 x c (B.subL x c e)⟩
  bs:=I.bs
  bsz:=Nat.le_trans I.ok.bsz I.sz
  noex:=fun b o e hb=>by
   rcases(hf b hb).2.2.2.1 with z|z
   ·exact I.ok.noex b o e z
   ·exact absurd (Nat.lt_of_lt_of_le (Heap.lt_size e) (Nat.le_trans I.ok.bsz z)) (Nat.lt_irrefl _)
  exfs:=fun b hb z=>by
   rcases List.mem_cons.mp (I.stkSub b z) with q|q
   ·exact(hf b hb).2.1 q
   ·exact(hf b hb).2.2.1 q
  funs:=I.stack
  frf:=I.stkFree }
 refine⟨ok,rfl,I.bare,Un.kept old,⟨_,ns,fun i x v h1 h2 h3=>?_⟩,fun x c e=>?_,I.hok.fresh (Nat.le_of_lt hC),fun x c e=>I.freeC x c (B.subL x c e),fun p hp=>absurd (show p∈([]:List (Addr×Obj)) from hp) (by simp),I.hok.kept old,?_⟩
 ·have h1':N'[i]?=some x:=h1
  have h2':(imp.map fun o=>match o with|none=>none|some k=>(σ[k]?).join)[i]?=some (some v):=h2;rw[List.getElem?_map] at h2'
  cases e:imp[i]? with
  | none=>rw[e] at h2';cases h2'
  | some q =>
   rw[e] at h2'
   cases q with
   | none=>cases h2'
   | some k =>
    have h2'':(σ[k]?).join=some v:=Option.some.inj h2'
    have hk:σ[k]?=some (some v):=by
     cases e':σ[k]? with
     | none=>rw[e'] at h2'';cases h2''
     | some z=>rw[e'] at h2'';cases z with
      | none=>cases h2''
      | some z=>cases h2'';rfl
    have hm:(some k,x)∈imp.zip N':=by refine List.mem_of_getElem? (i:=i) ?_;rw[List.getElem?_zip_eq_some];exact⟨e,h1'⟩
    obtain⟨b1,b2,b3⟩:=B.im _ hm k rfl;obtain⟨m,hn,hl⟩:=I.loc;obtain⟨u,r,l⟩:=hl k x v b1 hk (b2.elim (fun z=>.inr (.inl z)) fun z=>.inr (.inr z));refine⟨u,r,.inr ⟨b3,?_⟩⟩
    have hc:∃c,X.env.cells.lookup x=some c/\s.heap.IsCell c (some u):=by
     rcases l with ⟨z,_⟩|⟨_,z⟩
     ·have z':X.env.scope.names.lookup x=some .local:=z;rcases b2 with y|y <;> rw[y] at z' <;> cases z'
     ·exact z
    obtain⟨c,hc,oc,ho,hd⟩:=hc;obtain⟨c',hc'⟩:=ok.has x b3;have e2:=B.subL x c' hc';rw[hc] at e2;cases e2;exact⟨c,hc',oc,old c oc ho,hd⟩
 ·obtain⟨v,o,ho,hd⟩:=I.cell x c (B.subL x c e);exact⟨v,o,old c o ho,hd⟩
 ·show(imp.map _).length=N'.length;rw[List.length_map];exact B.len

theorem JhZ{pins pn:List (Addr×Obj)}{σ σ':St}{H2 H':Hp}{s2 s4:Shared}{fp:List Addr}{C D:Addr}{Cs:Addr}{ys:List V}{its:List Value}{k:Nat}{h':Heap}(I2:Inv X pins σ H2 s2)(f2:∀b∈fp,FpOk X pins H2 b)
 (I5:Inv (blk X sc cl N' C s2 H2 fp) pn σ' H' s4) (hC:s2.heap.objs.size<C) (hD:H' D=none) (hDs:s2.heap.objs.size<=D) (hDC:D≠C) (eD:s4.heap.get? D=some { cls:=.type "list",data:=.seq its.toArray k })
 (rv:Vals ys its) (hz:ys.length<=sizeLine) (hsb:Heap.SameBut C s4.heap h'):Inv X pins σ (upd H' D (.lst ys)) { s4 with heap:=h' }:=by
 have U:Un (frs X.stack) fp H2 H' s2.heap s4.heap:=I5.base
 have kk:∀b o,b≠C->s4.heap.get? b=some o->h'.get? b=some o:=hsb.extBut
 have hC':H' C=none:=I5.free
 have ok1:HOk X.prog X.w H' h':=HOk.sameBut (C:=C) I5.hok hC' kk
 have ok2:HOk X.prog X.w (upd H' D (.lst ys)) h':=ok1.track hD ⟨hz,its,k,rv,kk _ _ hDC eD⟩
 have lt:∀b o,s2.heap.get? b=some o->b≠C/\b≠D:=fun b o e=>⟨Nat.ne_of_lt (Nat.lt_trans (Heap.lt_size e) hC),Nat.ne_of_lt (Nat.lt_of_lt_of_le (Heap.lt_size e) hDs)⟩
 refine I2.call' (s':={ s4 with heap:=h' }) (ch:=fp) I5.os ⟨fun b o e n hb hx=>kk b o (lt b o e).1 (U.keep b o e n hb hx),fun b o e n hb hx=>?_,fun b o e n hx=>?_,fun b o e hx=>?_,fun b xs e=>?_,fun b o u e=>?_,fun b ps e=>?_⟩ ok2 I5.bare
  fun b hb=>⟨(f2 b hb).2.2.2.1,(f2 b hb).2.1,(f2 b hb).2.2.2.2.1,(f2 b hb).2.2.2.2.2⟩
 ·obtain⟨sl,q⟩:=U.slot b o e n hb hx;exact⟨sl,kk b _ (lt b o e).1 q⟩
 ·rw[Jh (lt b o e).2];exact U.free b o e n hx
 ·obtain⟨o',q⟩:=U.there b o e hx;exact⟨o',kk b o' (lt b o e).1 q⟩
 ·have q:=U.tups b xs e;rw[Jh (Js q hD)];exact q
 ·have q:=U.frzs b o u e;rw[Jh (Js q hD)];exact q
 ·obtain⟨more,q⟩:=U.tbls b ps e;exact⟨more,by rw[Jh (Js q hD)];exact q⟩

noncomputable def JmA(g:TG)(tt:TT)(te:TE)(imp:List (Option Nat))(σ:St)(Q:VK)(J:It)(H1:Hp):Prop:=∃W:Nat->Nat->List V->St->Hp->Prop,(∃m,W 0 m [] (WJ imp σ) H1)/\∀i m ys σ' H',W i m ys σ' H' ->
 (J.stop i H'/\ys.length<=sizeLine/\∀D,H' D=none->Q (.ref D) (upd H' D (.lst ys))) ∨
 (J.go i H'/\ys.length<sizeLine/\∃N:List V->St->Hp->Prop,(∀ys' σ2 H2,N ys' σ2 H2->∃m',m'<m/\W (i+1) m' ys' σ2 H2) ∧
  ∀x H2,J.yld i H' x H2->g x σ' H2 fun σ2 H3=>tt σ2 H3 fun b H4=>if b=true then te σ2 H4 fun y H5=>N (ys++[y]) σ2 H5 else N ys σ2 H4)
theorem Zq{pins:List (Addr×Obj)}{σ:St}{Q:VK}{itv:Value}{s2:Shared}{RR:Value->Addr->Result->Shared->Prop}{E:Value->Shared->Prop}(hc:X.calm=true)(B:Blk X sc cl N' imp)
 (hg:∀C s H fp,PG (blk X sc cl N' C s H fp) tg g) (ht:∀C s H fp,JfI (blk X sc cl N' C s H fp) ifs tt) (he:∀C s H fp,PE (blk X sc cl N' C s H fp) elt te)
 (h2:PIE X pins σ tg (JmA g tt te imp σ Q) itv s2)
 (fin:∀(C D:Addr) (s4:Shared) (H':Hp) (ys:List V) (m:Str->Option Value),s2.heap.objs.size<C->s4.heap.Ns C m->H' C=none->(∀h',Heap.SameBut C s4.heap h'->Inv X pins σ H' { s4 with heap:=h' })->Q (.ref D) H'->RR (.ref D) C (.ok .next) s4) :
 wpAny (model X.prog X.w) X.A (newList []) (fun acc s₃=>wpAny (model X.prog X.w) X.A (newFunctionEnv sc X.env.globals cl [] X.env.qual none .none (some X.env)) (fun cenv s₄=>codeAny (model X.prog X.w) X.A (.compStart (.ListComp elt [⟨tg,iter,ifs,0⟩] sc pos) 0 itv acc { cenv with scope:=relabel sc X.env }) (RR acc cenv.locals) s₄) E s₃) E s2:=by
 obtain⟨it,fp,tn,J,H2,e,I2,T,st2,f2,W,⟨m0,w0⟩,turn⟩:=h2;subst e;refine wpAny_newObj_type (wpAny_newFunctionEnv B.nocell (by intro y hy;simp at hy) (fun h₁ hns₁ hsb₁=>?_) B.kind);dsimp only at hns₁ hsb₁ ⊢
 generalize hG:s2.heap.push { cls:=.type "list",dict:=none,data:=.seq ([]:List Value).toArray }=G at hns₁ hsb₁ ⊢
 have hCs:G.objs.size=s2.heap.objs.size+1:=by rw[<- hG,Heap.size_push]
 have hC:s2.heap.objs.size<G.objs.size:=by rw[hCs];exact Nat.lt_succ_self _
 have below:∀b,b<s2.heap.objs.size->b≠G.objs.size:=fun b hb=>Nat.ne_of_lt (Nat.lt_trans hb hC)
 have old:∀b o,s2.heap.get? b=some o->h₁.get? b=some o:=fun b o e=>hsb₁.extBut b o (below b (Heap.lt_size e)) (Heap.get?_push_of_some _ (hG▸Heap.get?_push_of_some _ e))
 have hD1:h₁.get? s2.heap.objs.size=some { cls:=.type "list",data:=.seq ([]:List Value).toArray }:=hsb₁.extBut _ _ (Nat.ne_of_lt hC) (Heap.get?_push_of_some _ (hG▸Heap.get?_push_size _ rfl))
 have fpo:∀b∈fp,∃o,s2.heap.get? b=some o:=fun b hb=>let ⟨o,e,_⟩:=T.obj 0 _ st2 b hb;⟨o,e⟩
 have I4:=Jh0 B I2 f2 fpo hC old (show h₁.Ns G.objs.size fun _=>none from hns₁)
 -- the records of the block: the list that grows,the iterator's
 have stD:∀{H':Hp} {pn:List (Addr×Obj)},(∀b∈s2.heap.objs.size::fp,H' b=none)->(∀p∈pn,p.1∉s2.heap.objs.size::fp)->∀b∈s2.heap.objs.size::fp,FpOk (blk X sc cl N' G.objs.size s2 H2 fp) pn H' b:=fun {H' pn} hn hp b hb=>by
  have hp':∀p∈([]++pn:List (Addr×Obj)),p.1≠b:=fun p z q=>hp p (by simpa using z) (q▸hb)
  rcases List.mem_cons.mp hb with z|z
  ·subst z;refine⟨hn _ hb,Nat.ne_of_lt hC,fun q=>?_,.inr (Nat.le_refl _),fun x c e q=>?_,hp'⟩
   ·rcases List.mem_cons.mp (I2.stkSub _ q) with q|q
    ·exact absurd I2.lt (by rw[<- q];exact Nat.lt_irrefl _)
    ·exact I2.nofs (Nat.le_refl _) q
   ·obtain⟨v,qc⟩:=I2.cell x c (B.subL x c e);exact absurd qc.lt (by rw[q];exact Nat.lt_irrefl _)
  ·refine⟨hn _ hb,below b (let ⟨_,e⟩:=fpo b z;Heap.lt_size e),fun q=>?_,.inl z,fun x c e=>(f2 b z).2.2.2.2.1 x c (B.subL x c e),hp'⟩;rcases List.mem_cons.mp (I2.stkSub b q) with q|q
   ·exact(f2 b z).2.1 q
   ·exact(f2 b z).2.2.1 q
 have nDf:s2.heap.objs.size∉fp:=fun z=>let ⟨_,e⟩:=fpo _ z;absurd (Heap.lt_size e) (Nat.lt_irrefl _)
 have loop:codeAny (model X.prog X.w) X.A (.compLoop (.ListComp elt [⟨tg,iter,ifs,0⟩] sc pos) 0 (.ref it) (.ref s2.heap.objs.size) (compEnvC sc cl G.objs.size X.env))
  (RR (.ref s2.heap.objs.size) G.objs.size) { s2 with heap:=h₁,toks:=s2.toks }:=by
  refine codeAny_loop rfl (fun n s'=>∃i ys its k σ' H',Inv (blk X sc cl N' G.objs.size s2 H2 fp) [] σ' H' s'/\tn i s'.heap/\(∀b∈s2.heap.objs.size::fp,H' b=none)/\Vals ys its/\s'.heap.get? s2.heap.objs.size=some { cls:=.type "list",data:=.seq its.toArray k }/\W i n ys σ' H') ?_ m0
   ⟨0,[],[],0,_,H2,I4,T.keep _ _ _ st2 (fun b _ o e=>old b o e),fun b hb=>?_,.nil,hD1,w0⟩
  ·rintro n s3 ⟨i,ys,its,k,σ3,H3,I3,st3,fr3,rv3,hD3,w3⟩;have fr3':∀b∈fp,FpOk (blk X sc cl N' G.objs.size s2 H2 fp) [] H3 b:=fun b hb=>stD (pn:=[]) fr3 (fun p z=>nomatch z) b (List.mem_cons_of_mem _ hb)
   show wpAny _ X.A ((compTurn (.ListComp elt [⟨tg,iter,ifs,0⟩] sc pos) 0 (.ref it) (.ref s2.heap.objs.size) (compEnvC sc cl G.objs.size X.env)).onRaise (fun x=>do noteFrame x (compEnvC sc cl G.objs.size X.env);theTreesLotGoes x)) _ _ s3;refine wpAny_noted (wpAny_noRaise ?_);rw[compTurn_list];refine wpAny_bind (wpAny_standAt (wpAny_bind ?_))
   have fD:=stD (pn:=[]) fr3 (fun p z=>nomatch z) s2.heap.objs.size List.mem_cons_self
   have hDH:H3 s2.heap.objs.size=none:=fr3 _ List.mem_cons_self
   have I3p:Inv (blk X sc cl N' G.objs.size s2 H2 fp) [(s2.heap.objs.size,{ cls:=.type "list",data:=.seq its.toArray k })] σ3 H3 s3:=I3.pins_of fun p hp=>by
    have e:p=(s2.heap.objs.size,{ cls:=.type "list",data:=.seq its.toArray k }):=by simpa using hp
    subst e;exact⟨hD3,hDH,fD.2.1,fD.2.2.1,fun v z=>by cases z⟩
   have pfp:∀p∈[(s2.heap.objs.size,({ cls:=.type "list",data:=.seq its.toArray k }:Obj))],p.1∉fp:=fun p hp=>by
    have e:p=(s2.heap.objs.size,{ cls:=.type "list",data:=.seq its.toArray k }):=by simpa using hp
    subst e;exact nDf
   have fpP:∀{H':Hp},(∀b∈fp,H' b=none)->∀b∈fp,FpOk (blk X sc cl N' G.objs.size s2 H2 fp) [(s2.heap.objs.size,({ cls:=.type "list",data:=.seq its.toArray k }:Obj))] H' b:=fun {H'} hn b hb =>
    have f:=stD (pn:=[]) fr3 (fun p z=>nomatch z) b (List.mem_cons_of_mem _ hb)
    ⟨hn b hb,f.2.1,f.2.2.1,f.2.2.2.1,f.2.2.2.2.1,fun p hp q=>pfp p ((List.mem_append.mp hp).elim (fun z=>nomatch (show p∈([]:List (Addr×Obj)) from z)) id) (q▸hb)⟩
   rcases turn i n ys σ3 H3 w3 with ⟨stop,hz,q⟩|⟨go,hz,N,hN,step⟩
   ·refine thn (T.done (blk X sc cl N' G.objs.size s2 H2 fp) rfl rfl rfl hc i _ s3 σ3 H3 _ I3p (fpP fun b hb=>fr3 b (List.mem_cons_of_mem _ hb)) st3 stop) fun r s4 ⟨hr,I5⟩=>?_
    subst hr;refine wpAny_pure ?_;obtain⟨m,hn,_⟩:=I5.loc;have eD:=(I5.pin (s2.heap.objs.size,{ cls:=.type "list",data:=.seq its.toArray k }) (by simp)).1;have hCf:H3 G.objs.size=none:=I5.free;exact fin G.objs.size s2.heap.objs.size s4 _ ys m hC hn (by rw[Jh (Nat.ne_of_gt hC)];exact hCf) (fun h' hsb=>JhZ (Cs:=0) I2 f2 I5 hC hDH (Nat.le_refl _) (Nat.ne_of_lt hC) eD rv3 hz hsb) (q _ hDH)
   ·refine thn (T.item (blk X sc cl N' G.objs.size s2 H2 fp) rfl rfl rfl hc i _ s3 σ3 H3 _ I3p (fpP fun b hb=>fr3 b (List.mem_cons_of_mem _ hb)) st3 go) fun r s4 ⟨u,hr,h4⟩=>?_
    subst hr;refine wpAny_bind (thn h4 fun _ s5 ⟨x,H5,I5,r5,y5,st5,fr5⟩=>?_);have I5':=I5.pinned (fpP fr5) (T.obj _ _ st5);refine wpAny_bind (thn (hg G.objs.size s2 H2 fp _ s5 σ3 H5 x u _ I5' r5 (step x H5 y5)) fun _ s6 ⟨σ6,H6,I6,q6⟩=>?_);refine wpAny_bind (thn (ht G.objs.size s2 H2 fp _ s6 σ6 H6 _ I6 q6) fun ok s7 ⟨H7,I7,q7⟩=>?_)
    -- what stays of the records
    have recs:∀{σ':St} {H':Hp} {s':Shared},Inv (blk X sc cl N' G.objs.size s2 H2 fp) ([(s2.heap.objs.size,({ cls:=.type "list",data:=.seq its.toArray k }:Obj))]++WV fp s5.heap) σ' H' s' ->
     tn (i+1) s'.heap/\(∀b∈s2.heap.objs.size::fp,H' b=none)/\s'.heap.get? s2.heap.objs.size=some { cls:=.type "list",data:=.seq its.toArray k }:=fun {σ' H' s'} I'=>by
     have pd:=I'.pin (s2.heap.objs.size,{ cls:=.type "list",data:=.seq its.toArray k }) (by simp)
     have pf:∀b∈fp,∀o,s5.heap.get? b=some o->s'.heap.get? b=some o/\H' b=none:=fun b hb o e=>by have z:=I'.pin (b,o) (List.mem_append_right _ (List.mem_append_right _ (Va hb e)));exact⟨z.1,z.2.1⟩
     refine⟨T.keep _ _ _ st5 fun b hb o e=>(pf b hb o e).1,fun b hb=>?_,pd.1⟩;rcases List.mem_cons.mp hb with z|z
     ·subst z;exact pd.2.1
     ·obtain⟨o,e,d⟩:=T.obj _ _ st5 b z;exact(pf b z o e).2
    cases ok with
    | false=>obtain⟨m',hm,w7⟩:=hN _ _ _ (show N ys σ6 H7 from by simpa using q7);obtain⟨r1,r2,r3⟩:=recs I7;exact wpAny_pure ⟨rfl,m',hm,i+1,ys,its,k,σ6,H7,I7.pins_of (fun p hp=>nomatch hp),r1,r2,rv3,r3,w7⟩
    | true =>
     have q7':te σ6 H7 fun y H5=>N (ys++[y]) σ6 H5:=by simpa using q7
     refine wpAny_bind (wpAny_bind (thn (he G.objs.size s2 H2 fp _ s7 σ6 H7 _ I7 q7') fun y s8 ⟨y8,H8,I8,ry,q8⟩=>wpAny_bind ?_));obtain⟨r1,r2,r3⟩:=recs I8;have hl:=rv3.length;refine wpAny_list_append_plain (hsz:=by rw[List.size_toArray];omega) ⟨k,r3⟩ fun h9 ⟨k9,hl9⟩ hs9=>wpAny_pure (wpAny_pure ?_)
     have hD8:H8 s2.heap.objs.size=none:=r2 _ List.mem_cons_self
     have f8:=stD (pn:=[]) r2 (fun p z=>nomatch z) s2.heap.objs.size List.mem_cons_self
     have I8':Inv (blk X sc cl N' G.objs.size s2 H2 fp) [] σ6 H8 s8:=I8.pins_of (fun p hp=>nomatch hp)
     have I9:Inv (blk X sc cl N' G.objs.size s2 H2 fp) [] σ6 H8 { s8 with heap:=h9 }:=I8'.turned (t':=s8.toks) (it:=s2.heap.objs.size) (fun b o hb e=>hs9.extBut b o hb e) hD8 f8.2.1 f8.2.2.2.1 f8.2.2.2.2.1 f8.2.2.2.2.2;obtain⟨m',hm,w8⟩:=hN _ _ _ q8;refine⟨rfl,m',hm,i+1,ys++[y8],its++[y],k9,σ6,H8,I9,?_,r2,rv3.append (.cons ry .nil),?_,w8⟩
     ·exact T.keep _ _ _ r1 fun b hb o e=>hs9.extBut b o (fun z=>nDf (z▸hb)) e
     ·rw[hl9];simp
  ·rcases List.mem_cons.mp hb with z|z
   ·subst z;exact I2.hok.fresh (Nat.le_refl _)
   ·exact(f2 b z).1
 exact codeAny_compStart_list loop (T.self _ 0 _ _ _ (T.keep _ _ _ st2 fun b _ o e=>old b o e) loop)

theorem JX(hc:X.calm=true)(hi:PI X tg iter wi)(B:Blk X sc cl N' imp)
 (hg:∀C s H fp,PG (blk X sc cl N' C s H fp) tg g) (ht:∀C s H fp,JfI (blk X sc cl N' C s H fp) ifs tt) (he:∀C s H fp,PE (blk X sc cl N' C s H fp) elt te)
 (hs:∀x,foldedSetIterable iter X.env x=pure x:=by intro _;rfl):PE X (.ListComp elt [⟨tg,iter,ifs,0⟩] sc pos) (Jek wi g tt te imp):=by
 intro pins s σ H Q I h;rw[eval_ListComp];refine wpAny_comprehension_free (use:=none) rfl hs B.clos B.kind B.names (thn (hi pins s σ H _ I h) fun v s1 h1=>thn h1 fun itv s2 h2=>?_);refine Zq (RR:=fun acc C=>compPost (model X.prog X.w) X.A X.xe none (EP X pins σ Q) acc C) hc B hg ht he h2 fun C D s4 H' ys m hC hn hCf hI q=>?_
 exact⟨m,hn,fun h' hsb=>⟨.ref D,H',hI h' hsb,rfl,q⟩⟩
theorem JcP{i:Nat}{x:Str}{pos' spos:Pos}(hN:X.N.Nodup)(hx1:X.N[i]?=some x)(hx2:Loc X.env.scope x)(hc:X.calm=true)(hi:PI X tg iter wi)(B:Blk X sc cl N' imp)
 (hg:∀C s H fp,PG (blk X sc cl N' C s H fp) tg g) (ht:∀C s H fp,JfI (blk X sc cl N' C s H fp) ifs tt) (he:∀C s H fp,PE (blk X sc cl N' C s H fp) elt te)
 (hsw:swapsWith (.ListComp elt [⟨tg,iter,ifs,0⟩] sc pos) (some (.Name x pos')) spos.line X.env=pure true) (hf:X.fn x=true\/X.env.scope.names.lookup x=some .local)
 (hs:∀x,foldedSetIterable iter X.env x=pure x:=by intro _;rfl):PS X (.Assign [.Name x pos'] (.ListComp elt [⟨tg,iter,ifs,0⟩] sc pos) spos) (Jfv (Jek wi g tt te imp) (Vm i)):=by
 intro pins s σ H D I h;rw[exec_Assign_Name_used _ _ _ _ hsw];refine wpAny_bind (wpAny_standAt (wpAny_bind ?_));show wpAny _ X.A (do let _ <- comprehension (.ListComp elt [⟨tg,iter,ifs,0⟩] sc pos) sc X.env _ (newList []) false (eval iter X.env) (some (assign (.Name x pos') X.env))) _ _ s;refine wpAny_bind (wpAny_mono (wpAny_comprehension_free (use:=some (assign (.Name x pos') X.env)) (Q:=fun _ s'=>SP X pins D .next s') rfl hs B.clos B.kind B.names
  (thn (hi pins s σ H _ I h) fun v s1 h1=>thn h1 fun itv s2 h2=>?_)) (fun _ s' hq=>wpAny_pure (wpAny_pure hq)) fun _ _ e=>e)
 refine Zq (Q:=fun y H1=>Vm i y σ H1 D.nx) (RR:=fun acc C=>compPost (model X.prog X.w) X.A X.xe (some (assign (.Name x pos') X.env)) (fun _ s'=>SP X pins D .next s') acc C) hc B hg ht he h2 fun C Dl s4 H' ys m hC hn hCf hI q=>?_
 obtain⟨it,fp,tn,J,H2,e,I2,_⟩:=h2;have I4:Inv X pins σ H' s4:=hI s4.heap (.refl ..);have neC:X.env.locals≠C:=Nat.ne_of_lt (Nat.lt_trans I2.lt hC)
 have neCc:∀y c,X.env.cells.lookup y=some c->c≠C:=fun y c e=>by obtain⟨v,qc⟩:=I2.cell y c e;exact Nat.ne_of_lt (Nat.lt_trans qc.lt hC)
 show wpAny _ X.A (assign (.Name x pos') X.env (.ref Dl)) _ _ s4;refine wpAny_assign_Name (ZM I4 hN hx1 hx2 (v:=.ref Dl) rfl (fun s5 I5 ⟨c0,hs5,hc0⟩=>?_) hf)
 have ne0:C≠c0:=by
  rcases hc0 with z|z
  ·rw[z];exact Ne.symm neC
  ·exact Ne.symm (neCc _ _ z)
 refine⟨m,hn.sameBut hs5 ne0,fun h' hsb=>⟨_,H',?_,q⟩⟩;refine I5.turned (t':=s5.toks) (it:=C) (fun b o hb e=>hsb.extBut b o hb e) hCf (Ne.symm neC) (.inr (Nat.le_of_lt (Nat.lt_of_le_of_lt I2.sz hC))) neCc fun p hp z=>?_
 have:=Heap.lt_size (I2.pin p hp).1;rw[z] at this;exact absurd (Nat.lt_trans this hC) (Nat.lt_irrefl _)
end
end L2

namespace L2
open PySem PySem.Spec PyProof.Rows

inductive Rep (K:Frag) (H:Hp):V->PyData->Prop
 | non:Rep K H .non .none
 | bl (b:Bool):Rep K H (.bl b) (.bool b)
 | int (i:Int):Rep K H (.int i) (.int i)
 | str (x:Str):Rep K H (.str x) (.str x)
 | tup {a:Addr} {xs:List V} {ds:List PyData}:SqT K H a xs->xs.length=ds.length->(∀(i:Nat) (x:V) (d:PyData),xs[i]?=some x->ds[i]?=some d->Rep K H x d)->Rep K H (.ref a) (.tuple ds)
 | lst {a:Addr} {xs:List V} {ds:List PyData}:SqL K H a xs->xs.length=ds.length->(∀(i:Nat) (x:V) (d:PyData),xs[i]?=some x->ds[i]?=some d->Rep K H x d)->Rep K H (.ref a) (.list ds)

noncomputable def RepL(K:Frag)(H:Hp)(xs:List V)(ds:List PyData):Prop :=
 xs.length=ds.length/\∀(i:Nat) (x:V) (d:PyData),xs[i]?=some x->ds[i]?=some d->Rep K H x d

section
variable{K:Frag}{H H':Hp}
theorem RepL.nil:RepL K H [] []:=⟨rfl,fun i x d e=>by simp at e⟩
theorem RepL.cons{x:V}{d:PyData}{xs:List V}{ds:List PyData}(h:Rep K H x d)(r:RepL K H xs ds):RepL K H (x::xs) (d::ds):=by
 refine⟨by simp[r.1],fun i y e h1 h2=>?_⟩
 cases i with
 | zero=>simp at h1 h2;subst h1 h2;exact h
 | succ i=>exact r.2 i y e (by simpa using h1) (by simpa using h2)
theorem RepL.append{xs ys:List V}{ds es:List PyData}(r:RepL K H xs ds)(q:RepL K H ys es):RepL K H (xs++ys) (ds++es):=by
 refine⟨by simp[r.1,q.1],fun i x d h1 h2=>?_⟩
 by_cases hi:i<xs.length
 ·rw[List.getElem?_append_left hi] at h1;rw[List.getElem?_append_left (by rw[<- r.1];exact hi)] at h2;exact r.2 i x d h1 h2
 ·rw[List.getElem?_append_right (by omega)] at h1;rw[List.getElem?_append_right (by rw[<- r.1];omega)] at h2;rw[<- r.1] at h2;exact q.2 _ x d h1 h2
theorem RepL.snoc{xs:List V}{ds:List PyData}{x:V}{d:PyData}(r:RepL K H xs ds)(h:Rep K H x d):RepL K H (xs++[x]) (ds++[d]):=r.append (.cons h .nil)
theorem RepL.get{xs:List V}{ds:List PyData}{i:Nat}{d:PyData}(r:RepL K H xs ds)(e:ds[i]?=some d):∃x,xs[i]?=some x/\Rep K H x d:=by
 have hi:=(List.getElem?_eq_some_iff.mp e).1
 have hx:i<xs.length:=by rw[r.1];exact hi
 exact⟨xs[i],by simp[hx],r.2 i _ d (by simp[hx]) e⟩
theorem RepL.get'{xs:List V}{ds:List PyData}{i:Nat}{x:V}(r:RepL K H xs ds)(e:xs[i]?=some x):∃d,ds[i]?=some d/\Rep K H x d:=by
 have hi:=(List.getElem?_eq_some_iff.mp e).1
 have hx:i<ds.length:=by rw[<- r.1];exact hi
 exact⟨ds[i],by simp[hx],r.2 i x _ e (by simp[hx])⟩
theorem Rep.tupL{a:Addr}{xs:List V}{ds:List PyData}(h:SqT K H a xs)(r:RepL K H xs ds):Rep K H (.ref a) (.tuple ds):=.tup h r.1 r.2
theorem Rep.lstL{a:Addr}{xs:List V}{ds:List PyData}(h:SqL K H a xs)(r:RepL K H xs ds):Rep K H (.ref a) (.list ds):=.lst h r.1 r.2
theorem Rep.tupI{v:V}{ds:List PyData}(r:Rep K H v (.tuple ds)):∃a xs,v=.ref a/\SqT K H a xs/\RepL K H xs ds:=by
 cases r with
 | tup h l q=>exact⟨_,_,rfl,h,l,q⟩
theorem Rep.lstI{v:V}{ds:List PyData}(r:Rep K H v (.list ds)):∃a xs,v=.ref a/\SqL K H a xs/\RepL K H xs ds:=by
 cases r with
 | lst h l q=>exact⟨_,_,rfl,h,l,q⟩
theorem Rep.intI{v:V}{i:Int}(r:Rep K H v (.int i)):v=.int i:=by cases r;rfl
theorem Rep.strI{v:V}{i:Str}(r:Rep K H v (.str i)):v=.str i:=by cases r;rfl
theorem Rep.blI{v:V}{i:Bool}(r:Rep K H v (.bool i)):v=.bl i:=by cases r;rfl
theorem Same.seqT{a:Addr}{xs:List V}(e:Same H H')(h:SqT K H a xs):SqT K H' a xs:=by
 rcases h with (h|⟨o,h⟩)|h
 ·exact .inl (.inl (e _ _ h))
 ·exact .inl (.inr ⟨o,e _ _ h⟩)
 ·exact .inr h
theorem Rep.mono{v:V}{d:PyData}(e:Same H H')(r:Rep K H v d):Rep K H' v d:=by
 induction r with
 | non=>exact .non
 | bl b=>exact .bl b
 | int i=>exact .int i
 | str x=>exact .str x
 | tup h l _ ih=>exact .tup (e.seqT h) l ih
 | lst h l _ ih=>exact .lst (e.seq h) l ih
theorem RepL.mono{xs:List V}{ds:List PyData}(e:Same H H')(r:RepL K H xs ds):RepL K H' xs ds:=⟨r.1,fun i x d h1 h2=>(r.2 i x d h1 h2).mono e⟩

noncomputable def SameEx(l:Addr)(H H':Hp):Prop:=∀b o,b≠l->H b=some o->H' b=some o
theorem SameEx.upd{l:Addr}{o:HO}:SameEx l H (upd H l o):=fun b o' hb e=>by rw[Jh hb];exact e
theorem Same.ex{H0:Hp}{l:Addr}(s:Same H0 H)(hn:H0 l=none)(e:SameEx l H H'):Same H0 H':=fun b o h=>e b o (Js h hn) (s b o h)
theorem Same.new{p:Addr}{o:HO}(hn:H p=none):Same H (upd H p o):=fun b o' e=>by rw[Jh (Js e hn)];exact e
theorem SameEx.sqT{l a:Addr}{ys xs:List V}(e:SameEx l H H')(hl:H l=some (.lst ys))(h:SqT K H a xs):SqT K H' a xs:=by
 rcases h with (h|⟨o,h⟩)|h
 ·exact .inl (.inl (e _ _ (ZD h hl (by intro z;cases z)) h))
 ·exact .inl (.inr ⟨o,e _ _ (ZD h hl (by intro z;cases z)) h⟩)
 ·exact .inr h
theorem Same.ex_trans{l:Addr}{H2:Hp}(s:Same H H')(e:SameEx l H' H2):SameEx l H H2:=fun b o hb h=>e b o hb (s b o h)
inductive NoLst:PyData->Prop
 | non:NoLst .none
 | bl (b:Bool):NoLst (.bool b)
 | int (i:Int):NoLst (.int i)
 | str (x:Str):NoLst (.str x)
 | tup {ds:List PyData}:(∀d∈ds,NoLst d)->NoLst (.tuple ds)
end

theorem Vals.get':∀{xs:List V} {us:List Value} {i:Nat} {u:Value},Vals xs us->us[i]?=some u->∃x,xs[i]?=some x/\RelV x u
 | _,_,_,_,.nil,e=>by simp at e
 | _,_,0,_,.cons r _,e=>by simp at e;subst e;exact⟨_,rfl,r⟩
 | _,_,i+1,u,.cons _ t,e=>by obtain⟨x,h1,h2⟩:=Vals.get' (i:=i) (u:=u) t (by simpa using e);exact⟨x,by simpa using h1,h2⟩
theorem UP{h:Heap}:∀(us:List Value) (ds:List PyData),us.length=ds.length->(∀(i:Nat) (u:Value) (d:PyData),us[i]?=some u->ds[i]?=some d->∃as,Reads h u d as)->∃as,ReadsAll h us ds as
 | [],[],_,_=>⟨_,.nil⟩
 | [],_::_,e,_=>by simp at e
 | _::_,[],e,_=>by simp at e
 | u::us,d::ds,e,f=>by
  obtain⟨as,h1⟩:=f 0 u d rfl rfl;obtain⟨bs,h2⟩:=UP us ds (by simpa using e) fun i v c q1 q2=>f (i+1) v c (by simpa using q1) (by simpa using q2)
  exact⟨_,.cons h1 h2⟩
section
variable{X:Cx}{pins:List (Addr×Obj)}{σ:St}{H:Hp}{s:Shared}
theorem Rep.reads{v:V}{d:PyData}(I:Inv X pins σ H s)(r:Rep X.K H v d):∀u,RelV v u->∃as,Reads s.heap u d as:=by
 induction r with
 | non=>intro u r;cases r;exact⟨_,.none⟩
 | bl b=>intro u r;cases r;exact⟨_,.bool b⟩
 | int i=>intro u r;obtain⟨t,rfl⟩:=r;exact⟨_,.int i t⟩
 | str x=>intro u r;obtain⟨t,rfl⟩:=r;exact⟨_,.str x t⟩
 | tup h l _ ih =>
  intro u r;cases r;obtain⟨its,rv,p,hz⟩:=I.tuple h;obtain⟨o,ho,hc,n,hd⟩:=p
  obtain⟨as,q⟩:=UP (h:=s.heap) its _ (rv.length.symm.trans l) fun i u d h1 h2=>by obtain⟨x,e1,e2⟩:=rv.get' h1;exact ih i x d e1 h2 u e2
  exact⟨_,.tuple ho hc hd q⟩
 | lst h l _ ih =>
  intro u r;cases r;obtain⟨its,rv,p,hz⟩:=I.list h;obtain⟨o,ho,hc,n,hd⟩:=p.isList
  obtain⟨as,q⟩:=UP (h:=s.heap) its _ (rv.length.symm.trans l) fun i u d h1 h2=>by obtain⟨x,e1,e2⟩:=rv.get' h1;exact ih i x d e1 h2 u e2
  exact⟨_,.list ho hc hd q⟩
end

section
variable{X:Cx}
noncomputable def JdX(K:Frag):R2:=fun x y H Q=>rI0 (fun i j=>.int (i+j)) x y H Q\/(∃i j,x=.str i/\y=.str j/\i.length+j.length<=sizeLine/\Q (.str (i++j)) H)\/Jm6 x y H Q
theorem JiV:OpR X (binaryOp .Add) (JdX X.K):=op_add.or (op_add_str.or Jlk)
noncomputable def Jm7(K:Frag):R2:=fun x y H Q=>∃d e,Rep K H x d/\Rep K H y e/\d.canLay0=true/\e.canLay0=true/\min d.depth e.depth<=60/\Q (.bl (PyData.eqv d e)) H
noncomputable def Jnb(K:Frag):R2:=fun x y H Q=>∃d e,Rep K H x d/\Rep K H y e/\d.canLay0=true/\e.canLay0=true/\min d.depth e.depth<=60/\Q (.bl (!PyData.eqv d e)) H
theorem Jlm(hu:X.A.units+64<cLine):OpR X (compareOp .Eq) (Jm7 X.K):=by intro pins s σ H x y v u Q I rx ry h;obtain⟨d,e,h1,h2,c1,c2,hd,q⟩:=h;obtain⟨as,r1⟩:=h1.reads I v rx;obtain⟨bs,r2⟩:=h2.reads I u ry;exact SeqAt.compareEq_reads r1 r2 c1 c2 (by omega) ⟨.bl _,H,I,rfl,q⟩
theorem Jlp(hu:X.A.units+64<cLine):OpR X (compareOp .NotEq) (Jnb X.K):=by intro pins s σ H x y v u Q I rx ry h;obtain⟨d,e,h1,h2,c1,c2,hd,q⟩:=h;obtain⟨as,r1⟩:=h1.reads I v rx;obtain⟨bs,r2⟩:=h2.reads I u ry;exact SeqAt.compareNe_reads r1 r2 c1 c2 (by omega) ⟨.bl _,H,I,rfl,q⟩
noncomputable def Jg0(K:Frag):R2:=fun x y H Q=>rEq x y H Q\/Jm7 K x y H Q
noncomputable def Jg3(K:Frag):R2:=fun x y H Q=>rNe x y H Q\/Jnb K x y H Q
theorem Jll(hu:X.A.units+64<cLine):OpR X (compareOp .Eq) (Jg0 X.K):=op_eq.or (Jlm hu)
theorem Jlo(hu:X.A.units+64<cLine):OpR X (compareOp .NotEq) (Jg3 X.K):=op_ne.or (Jlp hu)
noncomputable def JcQ(K:Frag):List V->Hp->VK->Prop:=fun xs H Q=>∃x n,xs=[x]/\JmC K x H n/\Q (.int n) H
theorem JeI:CallR X (.builtin "len") (JcQ X.K):=JfY
noncomputable def UO(K:Frag):List V->Hp->VK->Prop:=fun xs H Q=>∃p ys,xs=[.ref p]/\((SqL K H p ys/\∀l,H l=none->Q (.ref l) (upd H l (.tup ys)))\/(SqT K H p ys/\Q (.ref p) H))
theorem JaW:CallR X (.type "tuple") (UO X.K):=W7
inductive TyS (K:Frag) (H:Hp):V->Value->Prop where
 | of {x:V} {t:Value} (h:TyOf K H x t):TyS K H x t
 | sqT {a:Addr} {xs:List V} (h:SqT K H a xs):TyS K H (.ref a) (.type "tuple")
 | sqL {a:Addr} {xs:List V} (h:SqL K H a xs):TyS K H (.ref a) (.type "list")
noncomputable def JlG:R2:=fun x y H Q=>y=.non/\Q (.bl (decide (x=.non))) H
noncomputable def Jg4:R2:=fun x y H Q=>y=.non/\Q (.bl (!decide (x=.non))) H
theorem JiX:OpR X (compareOp .Is) JlG:=Jln
theorem Jbx:OpR X (compareOp .IsNot) Jg4:=JiY
noncomputable def JnO:List V->Hp->VK->Prop:=fun xs H Q=>∃i j,xs=[.int i,.int j]/\Q (.int (if j>i then j else i)) H
noncomputable def JlH:List V->Hp->VK->Prop:=fun xs H Q=>∃i j,xs=[.int i,.int j]/\Q (.int (if j<i then j else i)) H
theorem VQ(hc:X.calm=true):CallR X (.builtin "min") JlH:=JeJ hc
noncomputable def JjH(K:Frag)(ta:TE):TT:=fun σ H Q=>ta σ H fun x H1=>∃k,JeA K x H1 k/\Q k H1
theorem JlD{a:Expr}{ta:TE}(ha:PE X a ta)(he:∀whole,isTrue a X.env whole=(do let v <- whole;standAt a.pos;holding [v] (truthy v))):PT X a (JjH X.K ta):=JgV ha he
noncomputable def GV(mg:Str->Option Value)(x:Str)(v:V):Prop:=∃u,mg x=some u/\RelV v u
theorem JgM{x:Str}{v:V}{pos:Pos}(hg:Gl X x)(hm:GV X.mg x v)(hd:(x == ("__debug__":Str))=false:=by decide):PE X (.Name x pos) (tC v):=by obtain⟨u,h1,h2⟩:=hm;exact Ji1 hg h1 h2 hd
end
theorem JfS:bootBuiltins "len"=some (.builtin "len"):=by decide +kernel
theorem ZZ:bootBuiltins "min"=some (.builtin "min"):=by decide +kernel
theorem Z0:bootBuiltins "sum"=some (.builtin "sum"):=by decide +kernel
theorem Jkj:bootBuiltins "any"=some (.builtin "any"):=by decide +kernel
theorem Jki:bootBuiltins "all"=some (.builtin "all"):=by decide +kernel
theorem JeD:bootBuiltins "sorted"=some (.builtin "sorted"):=by decide +kernel
theorem Jh1:bootBuiltins "list"=some (.type "list"):=by decide +kernel
theorem Wy:bootBuiltins "tuple"=some (.type "tuple"):=by decide +kernel
theorem JfT:bootBuiltins "zip"=some (.type "zip"):=by decide +kernel
theorem ZY:bootBuiltins "enumerate"=some (.type "enumerate"):=by decide +kernel
theorem JaV:bootBuiltins "reversed"=some (.type "reversed"):=by decide +kernel
structure Cal (P:Program) (w:World) (K:Frag) (mg:Str->Option Value) (base:Heap) (x:Str) (k:Nat) (ps:List Str) (sp:Sp):Prop where
 ex:∃(f:Addr) (fd:FuncData),FnOk P w K mg base CX0 k f fd ps sp/\mg x=some (.ref f)/\keepIn K (.ref f)=true/\Binds K fd ps []
structure CalM (P:Program) (w:World) (K:Frag) (mg:Str->Option Value) (base:Heap) (x:Str) (C:Addr) (k:Nat) (ps:List Str) (sp:Sp):Prop where
 ex:∃(f:Addr) (fd:FuncData),Mk K C f/\FnOk P w K mg base CX0 k f fd ps sp/\mg x=some (.ref C)/\Binds K fd ps []
section
variable{X:Cx}{k:Nat}{C:Addr}{ps:List Str}{sp:Sp}{x:Str}{p pos:Pos}{e:Expr}{es:List Expr}{t:TA}
theorem Jl(c:Cal X.prog X.w X.K X.mg X.base x k ps sp)(hr:Room k X.A)(hg:Gl X x)(ha:PA X (e::es) t)(hdb:(x == ("__debug__":Str))=false:=by decide)
 (he:starEach (e::es) X.env=(false,eval e X.env)::starEach es X.env:=by rfl) (hpl:(backTo pos (starEach es X.env)).any (·.1)=false:=by rfl):PE X (.Call (.Name x p) (e::es) [] pos) (Jej sp [] E0 t):=by
 obtain⟨f,fd,F,h1,h2,h3⟩:=c.ex;exact Ji0 F hr hg h1 h2 h3 .nil JjV ha hdb he hpl
theorem Uo(c:CalM X.prog X.w X.K X.mg X.base x C k ps sp)(hr:Room (k+1) X.A)(hg:Gl X x)(ha:PA X (e::es) t)(hdb:(x == ("__debug__":Str))=false:=by decide)
 (he:starEach (e::es) X.env=(false,eval e X.env)::starEach es X.env:=by rfl) (hpl:(backTo pos (starEach es X.env)).any (·.1)=false:=by rfl):PE X (.Call (.Name x p) (e::es) [] pos) (Jel C sp [] E0 t):=by
 obtain⟨f,fd,M,F,h1,h3⟩:=c.ex;exact Ji2 M F hr hg h1 h3 .nil JjV ha hdb he hpl
end

noncomputable def JeY(K:Frag)(tl:TE):TI:=fun σ H R=>JjS K tl σ H R\/JmX K tl σ H R
theorem Jly{X:Cx}{tg l:Expr}{tl:TE}(hl:PE X l tl):PI X tg l (JeY X.K tl):=by
 intro pins s σ H R I h;rcases h with h|h
 ·exact Ji3 hl pins s σ H R I h
 ·exact Jlz hl pins s σ H R I h

theorem Wg{X:Cx}{sc:Scope}{N':List Str}{imp:List (Option Nat)}(h1:sc.kind=.function)
 (h2:(sc.names.all (fun y=>y.2 != .free && y.2 != .cell && (y.2 != .local || sc.names.lookup y.1 == some .local)) && imp.all (·.isNone) && (imp.length == N'.length))=true):Blk X sc [] N' imp:=by
 simp only[Bool.and_eq_true,List.all_eq_true] at h2;obtain⟨⟨h2,h3⟩,h4⟩:=h2
 have nofree:∀y∈sc.names,y.2≠.free:=fun y hy=>by
  have:=(h2 y hy).1.1
  simpa using this
 have nocell:∀y∈sc.names,y.2≠.cell:=fun y hy=>by
  have:=(h2 y hy).1.2
  simpa using this
 refine⟨closureFor_none nofree,h1,nocell,fun y hy hl=>?_,(fun p hp=>nomatch hp),fun y hy hk=>?_,by simpa using h4,fun p hp k e=>?_⟩
 ·have:=(h2 y hy).2;rw[hl] at this
  simpa using this
 ·have:(relabel sc X.env).names=sc.names:=by
   unfold relabel;refine map_eq_self fun x hx=>?_
   obtain⟨n,q⟩:=x;have:(q == NameKind.free)=false:=by simpa using nofree _ hx
   simp[this]
  rw[this] at hy;rcases hk with z|z
  ·exact absurd z (nocell y hy)
  ·exact absurd z (nofree y hy)
 ·have:=h3 p.1 (List.of_mem_zip hp).1;rw[e] at this;cases this

section
variable{K:Frag}{σ:St}{H H1:Hp}{Q:VK}{i:Nat}{v:V}{ta tb te:TE}{r:R2}{D:Ends}{t u:TS}{c:TT}
theorem Jl7(h:σ[i]?=some (some v))(q:Q v H):Zh i σ H Q:=⟨v,h,q⟩
theorem JnP(q:Q v H):tC v σ H Q:=q
theorem Jnj(q:ta σ H fun x H1=>tb σ H1 fun y H2=>r x y H2 Q):tOp r ta tb σ H Q:=q
theorem Jnm{r:V->Hp->VK->Prop}(q:ta σ H fun x H1=>r x H1 Q):tUn r ta σ H Q:=q
theorem Jnh{g:Int->Int->V}{a b:Int}(q:Q (g a b) H):rI0 g (.int a) (.int b) H Q:=⟨a,b,rfl,rfl,q⟩
theorem JnQ{C:Int->Int->Prop}{g:Int->Int->V}{a b:Int}(h:C a b)(q:Q (g a b) H):rI C g (.int a) (.int b) H Q:=⟨a,b,rfl,rfl,h,q⟩
theorem JnR{g:Int->V}{a:Int}(q:Q (g a) H):rU g (.int a) H Q:=⟨a,rfl,q⟩
theorem Ji8{a b:Int}(q:Q (.int (a+b)) H):JdX K (.int a) (.int b) H Q:=.inl ⟨a,b,rfl,rfl,q⟩
theorem JlN{a b:Int}(q:Q (.bl (decide (a=b))) H):Jg0 K (.int a) (.int b) H Q:=.inl ⟨rfl,by
 have:decide (V.int a=V.int b)=decide (a=b):=by simp
 rw[this];exact q⟩
theorem JlY{a b:Int}(q:Q (.bl (!decide (a=b))) H):Jg3 K (.int a) (.int b) H Q:=.inl ⟨rfl,by
 have:decide (V.int a=V.int b)=decide (a=b):=by simp
 rw[this];exact q⟩
theorem JlO{a b:Str}(q:Q (.bl (decide (a=b))) H):Jg0 K (.str a) (.str b) H Q:=.inl ⟨rfl,by
 have:decide (V.str a=V.str b)=decide (a=b):=by simp
 rw[this];exact q⟩
theorem JlZ{a b:Str}(q:Q (.bl (!decide (a=b))) H):Jg3 K (.str a) (.str b) H Q:=.inl ⟨rfl,by
 have:decide (V.str a=V.str b)=decide (a=b):=by simp
 rw[this];exact q⟩
theorem JlS{x:V}(q:Q (.bl (decide (x=.non))) H):JlG x .non H Q:=⟨rfl,q⟩
theorem Jji{x:V}(q:Q (.bl (!decide (x=.non))) H):Jg4 x .non H Q:=⟨rfl,q⟩
theorem JlX{a b:Int}(q:Q (.int (max a b)) H):JnO [.int a,.int b] H Q:=⟨a,b,rfl,by
 have e:(if b>a then b else a)=max a b:=by rw[Int.max_def];split <;> split <;> omega
 rw[e];exact q⟩
theorem Jg9{a b:Int}(q:Q (.int (min a b)) H):JlH [.int a,.int b] H Q:=⟨a,b,rfl,by
 have e:(if b<a then b else a)=min a b:=by rw[Int.min_def];split <;> split <;> omega
 rw[e];exact q⟩
theorem Jjm{Qb:Bool->Hp->Prop}(q:ta σ H fun x H1=>∃k,JeA K x H1 k/\Qb k H1):JjH K ta σ H Qb:=q
theorem JlP{f:Str}(q:ta σ H fun x H1=>∃a C dx fs v,x=.ref a/\H1 a=some (.ins C dx fs)/\Cls K C/\NoAttr K C f/\fs.lookup f=some v/\Q v H1):JjF K ta f σ H Q:=q
theorem Jjl{Qb:Bool->Hp->Prop}(q:te σ H fun x H'=>∃k,x=.bl k/\Qb k H'):Jhw te σ H Qb:=q
theorem Jnl{Qb:Bool->Hp->Prop}(q:te σ H fun x H'=>∃k,x=.bl k/\Qb k H'):tB te σ H Qb:=q
theorem JlL{c':TT}{Qb:Bool->Hp->Prop}(q:c σ H fun b H1=>if b=true then c' σ H1 Qb else Qb false H1):Jmg c c' σ H Qb:=q
theorem Jnk{c':TT}{Qb:Bool->Hp->Prop}(q:c σ H fun b H1=>if b=true then Qb true H1 else c' σ H1 Qb):tOr c c' σ H Qb:=q
theorem Jl1{Qb:Bool->Hp->Prop}(q:c σ H fun b H1=>Qb (!b) H1):Jml c σ H Qb:=q
theorem Jjj(q:te σ H fun x H1=>∃b,x=.bl b/\Q (.bl (!b)) H1):Jns te σ H Q:=q
theorem Ji9(q:ta σ H fun x H1=>∃b,x=.bl b/\if b=true then tb σ H1 Q else Q (.bl false) H1):Jhp ta tb σ H Q:=q
theorem Jl2(q:ta σ H fun x H1=>∃b,x=.bl b/\if b=true then Q (.bl true) H1 else tb σ H1 Q):JnU ta tb σ H Q:=q
theorem JlQ(q:c σ H fun b H1=>if b=true then ta σ H1 Q else tb σ H1 Q):tIf c ta tb σ H Q:=q
theorem Jl5(q:t { D with nx:=u D } σ H):Jmm t u D σ H:=q
theorem JlM{g:TG}(q:te σ H fun x H1=>g x σ H1 D.nx):Jfv te g D σ H:=q
theorem Jg8{Qs:St->Hp->Prop}(q:Qs (σ.set i (some v)) H):Vm i v σ H Qs:=q
theorem JlR(q:c σ H fun b H1=>if b=true then t D σ H1 else u D σ H1):Jmj c t u D σ H:=q
theorem Jl3(q:te σ H D.rt):JjG te D σ H:=q
theorem Jjb(q:te σ H fun _ H1=>D.nx σ H1):JbZ te D σ H:=q
theorem Jjh(q:D.nx σ H):Jhu D σ H:=q
theorem Jja{tr:TA}{Ql:List V->Hp->Prop}(q:ta σ H fun x H1=>tr σ H1 fun xs H2=>Ql (x::xs) H2):VE ta tr σ H Ql:=q
theorem Jl0{Ql:List V->Hp->Prop}(q:Ql [] H):JaG σ H Ql:=q
theorem Jng{r:List V->Hp->VK->Prop}{ts:TA}(q:ts σ H fun vs H1=>r vs H1 Q):tCB r ts σ H Q:=q
theorem Jd1{sp:Sp}{E:XK}{ts:TA}(q:ts σ H fun vs H1=>sp vs H1 Q E):Jej sp [] E ts σ H Q:=by
 have e:(fun vs H1=>sp (vs++[]) H1 Q E)=fun vs H1=>sp vs H1 Q E:=by funext vs H1;rw[List.append_nil]
 show ts σ H fun vs H1=>sp (vs++[]) H1 Q E
 rw[e];exact q
noncomputable def JfE(xs:List V)(H:Hp)(Q:VK):Prop:=xs.length<=sizeLine/\∀p,H p=none->Q (.ref p) (upd H p (.tup xs))
noncomputable def Jkd(xs:List V)(H:Hp)(Q:VK):Prop:=xs.length<=sizeLine/\∀p,H p=none->Q (.ref p) (upd H p (.lst xs))
theorem Jl6{ts:TA}(q:ts σ H fun xs H1=>JfE xs H1 Q):Jmn ts σ H Q:=q
theorem JlW{ts:TA}(q:ts σ H fun xs H1=>Jkd xs H1 Q):Jmk ts σ H Q:=q
theorem Jkg{xs:List V}(hl:xs.length<=sizeLine)(q:∀p H',H p=none->Same H H'->H' p=some (.tup xs)->Q (.ref p) H'):JfE xs H Q:=⟨hl,fun p hp=>q p _ hp (.new hp) Jo⟩
theorem Jje{a:Addr}{xs:List V}(h:SqL K H a xs)(q:Q (.int xs.length) H):JcQ K [.ref a] H Q:=⟨_,_,rfl,.inl ⟨xs,h,rfl⟩,q⟩
theorem Jjg{a:Addr}{xs:List V}(h:SqT K H a xs)(q:Q (.int xs.length) H):JcQ K [.ref a] H Q:=⟨_,_,rfl,.inr ⟨xs,h,rfl⟩,q⟩
theorem Jjf{x:Str}(h:x.length<=sizeLine)(q:Q (.int x.length) H):JcQ K [.str x] H Q:=⟨_,_,rfl,⟨h,rfl⟩,q⟩
theorem Jfp{a:Addr}{xs:List V}(h:SqL K H a xs)(q:∀p H',H p=none->Same H H'->H' p=some (.tup xs)->Q (.ref p) H'):UO K [.ref a] H Q:=⟨a,xs,rfl,.inl ⟨h,fun p hp=>q p _ hp (.new hp) Jo⟩⟩
theorem JlT{a:Addr}{xs:List V}{j:Int}{v:V}(h:SqL K H a xs)(e:atI xs j=some v)(q:Q v H):rIx K (.ref a) (.int j) H Q:=.inl ⟨a,xs,j,v,rfl,rfl,h,e,q⟩
theorem JlV{a:Addr}{xs:List V}{j:Int}{v:V}(h:SqT K H a xs)(e:atI xs j=some v)(q:Q v H):rIx K (.ref a) (.int j) H Q:=.inr (.inl ⟨a,xs,j,v,rfl,rfl,h,e,q⟩)
theorem JlU{z:Str}{j:Int}{c:Nat}(hz:z.length<=sizeLine)(e:atI z.cps.toList j=some c)(q:Q (.str ⟨#[c]⟩) H):rIx K (.str z) (.int j) H Q:=.inr (.inr ⟨z,j,c,rfl,rfl,hz,e,q⟩)
theorem Jni{T:String}{rm:V->List V->Hp->VK->Prop}{to:TE}{ts:TA}(q:to σ H fun x H1=>tyV K T x H1/\ts σ H1 fun xs H2=>rm x xs H2 Q):tBM K T rm to ts σ H Q:=q
theorem Jjd{to ti:TE}{ts:JmF}{Qs:St->Hp->Prop}(q:to σ H fun o H1=>ti σ H1 fun i H2=>ts o i v H2 fun H3=>Qs σ H3):JnI to ti ts v σ H Qs:=q
theorem Jd2{a:Addr}{xs:List V}{n:Nat}{ts:TGs}{Qs:St->Hp->Prop}(h:SqT K H a xs)(hl:xs.length=n)(q:ts xs σ H Qs):Jgh K n ts (.ref a) σ H Qs:=⟨a,xs,rfl,h,hl,q⟩
theorem Jg7{t:TG}{u:TGs}{x:V}{xs:List V}{Qs:St->Hp->Prop}(q:t x σ H fun σ' H'=>u xs σ' H' Qs):Jgg t u (x::xs) σ H Qs:=⟨x,xs,rfl,q⟩
theorem Jjc{Qs:St->Hp->Prop}(q:Qs σ H):JkJ [] σ H Qs:=⟨rfl,q⟩
theorem Jjk{f:Str}{tv:TE}(q:tv σ H fun y H1=>ta σ H1 fun x H2=>∃a C dx fs,x=.ref a/\H2 a=some (.ins C dx fs)/\Cls K C/\NoAttr K C f/\fs.length<1000/\D.nx σ (upd H2 a (.ins C dx (UF f y fs)))):Jma K ta tv f D σ H:=q
theorem Jg6{r':R2}{tc:TE}(q:ta σ H fun x H1=>tb σ H1 fun y H2=>r x y H2 fun z H3=>∃k,z=.bl k/\(if k=true then tc σ H3 fun w' H4=>r' y w' H4 Q else Q (.bl false) H3)):Jc1 r r' ta tb tc σ H Q:=q
theorem Jl8{Qb:Bool->Hp->Prop}(q:Qb true H):Jmo σ H Qb:=q
theorem ifd{c A B:Prop}[Decidable c](h1:c->A)(h2:¬c->B):if decide c=true then A else B:=by
 by_cases h:c
 ·rw[if_pos (decide_eq_true h)];exact h1 h
 ·rw[if_neg (by simpa using h)];exact h2 h
theorem ifT{b:Bool}{A B:Prop}(e:b=true)(h:A):if b=true then A else B:=by rw[if_pos e];exact h
theorem ifF{b:Bool}{A B:Prop}(e:b=false)(h:B):if b=true then A else B:=by rw[if_neg (by rw[e];exact Bool.false_ne_true)];exact h

theorem Jfo{tl:TE}{g:TG}{a:Addr}{xs:List V}(hx:∀R:VK,R (.ref a) H1->tl σ H R)(hq:SqL K H1 a xs\/SqT K H1 a xs)(Pv:Nat->St->Hp->Prop)(h0:Pv 0 σ H1)(hS:∀i σ' H',Pv i σ' H'->Same H1 H')
 (hs:∀i x σ' H',xs[i]?=some x->Pv i σ' H'->g x σ' H' fun σ2 H2=>t { D with nx:=Pv (i+1),ct:=Pv (i+1),bk:=D.nx } σ2 H2) (hd:∀σ' H',Pv xs.length σ' H'->D.nx σ' H'):Jmi (JeY K tl) g t D σ H:=by
 rcases hq with hq|hq
 ·exact .inl (hx _ ⟨a,rfl,⟨xs,hq⟩,Jge (xs:=xs) Pv h0 (fun i σ' H' _ p=>(hS i σ' H' p).seq hq) hs hd⟩)
 ·exact .inr (hx _ ⟨a,rfl,⟨xs,hq⟩,JiB (xs:=xs) Pv h0 (fun i σ' H' _ p=>(hS i σ' H' p).seqT hq) hs hd⟩)
theorem Jdi{J:It}{g:TG}{tt:TT}{imp:List (Option Nat)}{n:Nat}(hn:n<=sizeLine)(Pv:Nat->List V->St->Hp->Prop)(h0:Pv 0 [] (WJ imp σ) H1)(hy:∀i ys σ' H',Pv i ys σ' H'->ys.length<=i)
 (hstop:∀ys σ' H',Pv n ys σ' H'->J.stop n H') (hgo:∀i ys σ' H',i<n->Pv i ys σ' H'->J.go i H')
 (hs:∀i ys x σ' H' H2,i<n->J.yld i H' x H2->Pv i ys σ' H'->g x σ' H2 fun σ2 H3=>tt σ2 H3 fun b H4=>if b=true then te σ2 H4 fun y H5=>Pv (i+1) (ys++[y]) σ2 H5 else Pv (i+1) ys σ2 H4)
 (hd:∀ys σ' H',Pv n ys σ' H'->∀p H2,H' p=none->Same H' H2->H2 p=some (.lst ys)->Q (.ref p) H2) :
 ∃W:Nat->Nat->List V->St->Hp->Prop,(∃m,W 0 m [] (WJ imp σ) H1)/\∀i m ys σ' H',W i m ys σ' H' ->
  (J.stop i H'/\ys.length<=sizeLine/\∀D,H' D=none->Q (.ref D) (upd H' D (.lst ys))) ∨
  (J.go i H'/\ys.length<sizeLine/\∃N:List V->St->Hp->Prop,(∀ys' σ2 H2,N ys' σ2 H2->∃m',m'<m/\W (i+1) m' ys' σ2 H2) ∧
   ∀x H2,J.yld i H' x H2->g x σ' H2 fun σ2 H3=>tt σ2 H3 fun b H4=>if b=true then te σ2 H4 fun y H5=>N (ys++[y]) σ2 H5 else N ys σ2 H4):=by
 refine⟨fun i m ys σ' H'=>m=n-i/\i<=n/\Pv i ys σ' H',⟨n,by simp,Nat.zero_le _,h0⟩,?_⟩;rintro i m ys σ' H' ⟨rfl,hi,p⟩;have hl:=hy i ys σ' H' p
 by_cases hlt:i<n
 ·exact .inr ⟨hgo i ys σ' H' hlt p,by omega,fun ys' σ2 H2=>Pv (i+1) ys' σ2 H2,fun ys' σ2 H2 p'=>⟨n-(i+1),by omega,rfl,hlt,p'⟩,fun x H2 y=>hs i ys x σ' H' H2 hlt y p⟩
 ·have e:i=n:=by omega
  subst e;exact .inl ⟨hstop ys σ' H' p,by omega,fun q hq=>hd ys σ' H' p q _ hq (.new hq) Jo⟩
theorem JcR{tl:TE}{g:TG}{tt:TT}{imp:List (Option Nat)}{a:Addr}{xs:List V}(hx:∀R:VK,R (.ref a) H1->tl σ H R)(hq:SqL K H1 a xs\/SqT K H1 a xs)(hn:xs.length<=sizeLine)(Pv:Nat->List V->St->Hp->Prop)
 (h0:Pv 0 [] (WJ imp σ) H1) (hy:∀i ys σ' H',Pv i ys σ' H'->ys.length<=i) (hS:∀i ys σ' H',Pv i ys σ' H'->Same H1 H')
 (hs:∀i ys x σ' H',xs[i]?=some x->Pv i ys σ' H'->g x σ' H' fun σ2 H3=>tt σ2 H3 fun b H4=>if b=true then te σ2 H4 fun y H5=>Pv (i+1) (ys++[y]) σ2 H5 else Pv (i+1) ys σ2 H4)
 (hd:∀ys σ' H',Pv xs.length ys σ' H'->∀p H2,H' p=none->Same H' H2->H2 p=some (.lst ys)->Q (.ref p) H2):Jek (JeY K tl) g tt te imp σ H Q:=by
 rcases hq with hq|hq
 ·refine .inl (hx _ ⟨a,rfl,⟨xs,hq⟩,Jdi (n:=xs.length) hn Pv h0 hy (fun ys σ' H' p=>⟨xs,(hS _ _ _ _ p).seq hq,Nat.le_refl _⟩) (fun i ys σ' H' hi p=>⟨xs,xs[i],(hS _ _ _ _ p).seq hq,by simp[hi]⟩) (fun i ys x σ' H' H2 hi y p=>?_) hd⟩);obtain⟨e,y⟩:=y;subst e;exact hs i ys x σ' _ (y xs ((hS _ _ _ _ p).seq hq)) p
 ·refine .inr (hx _ ⟨a,rfl,⟨xs,hq⟩,Jdi (n:=xs.length) hn Pv h0 hy (fun ys σ' H' p=>⟨xs,(hS _ _ _ _ p).seqT hq,Nat.le_refl _⟩) (fun i ys σ' H' hi p=>⟨xs,xs[i],(hS _ _ _ _ p).seqT hq,by simp[hi]⟩) (fun i ys x σ' H' H2 hi y p=>?_) hd⟩);obtain⟨e,y⟩:=y;subst e;exact hs i ys x σ' _ (y xs ((hS _ _ _ _ p).seqT hq)) p
end
end L2
namespace L2
open PySem PySem.Spec PyProof.Rows
section
variable{X:Cx}{K:Frag}{pos:Pos}
theorem JdL(hK:X.K=K):OpR X (binaryOp .Add) (JdX K):=hK▸JiV
theorem JgH(hK:X.K=K)(hu:X.A.units+64<cLine):OpR X (compareOp .Eq) (Jg0 K):=hK▸Jll hu
theorem JgI(hK:X.K=K)(hu:X.A.units+64<cLine):OpR X (compareOp .NotEq) (Jg3 K):=hK▸Jlo hu
theorem Zo(hK:X.K=K):CallR X (.builtin "len") (JcQ K):=hK▸JeI
theorem UI(hK:X.K=K):CallR X (.type "tuple") (UO K):=hK▸JaW
theorem Yr(hK:X.K=K):IxR X (rIx K):=hK▸JkS
theorem J9{e:Expr}{ta:TE}{f:Str}(hK:X.K=K)(he:PE X e ta)(hb:attributeBase e f X.env (eval e X.env)=eval e X.env):PE X (.Attribute e f pos) (JjF K ta f):=hK▸Jlt he hb
theorem Ji6{o value:Expr}{f:Str}{pos':Pos}{ta tv:TE}(hK:X.K=K)(ha:PE X o ta)(hv:PE X value tv)(hs:swapsWith value (some (.Attribute o f pos')) pos.line X.env=pure false):PS X (.Assign [.Attribute o f pos'] value pos) (Jma K ta tv f):=hK▸JlB ha hv hs
theorem Yf{tg l:Expr}{tl:TE}(hK:X.K=K)(hl:PE X l tl):PI X tg l (JeY K tl):=hK▸Jly hl
theorem JH{es:List Expr}{k:Nat}{t:TGs}{n:Nat}(hK:X.K=K)(hc:X.calm=true)(h:PGs X es t)(hn:(assignEach es X.env).length=n)(hst:(assignEach es X.env).findIdx? (·.1)=none):PG X (.Tuple es k pos) (Jgh K n t):=hK▸Jlx hc h hn hst
theorem Vv{a:Expr}{ta:TE}(hK:X.K=K)(ha:PE X a ta)(he:∀whole,isTrue a X.env whole=(do let v <- whole;standAt a.pos;holding [v] (truthy v))):PT X a (JjH K ta):=hK▸JlD ha he
theorem VY{o e:Expr}{es:List Expr}{to:TE}{t:TA}{name:Str}{apos cpos:Pos}{T id:String}{r:V->List V->Hp->VK->Prop}(hK:X.K=K)(pa:PlainAttrs T)(slot:Slot T name id)(hty:typeOf (.builtin id)=pure (.type "method_descriptor"))(hm:MtR X id r)(ho:PE X o to)(ha:PA X (e::es) t)
 (hbase:attributeBase o name X.env (eval o X.env)=eval o X.env:=by rfl)
 (hfew:((backTo cpos (starEach (e::es) X.env)).all (fun x=>!x.1) && (backToKw cpos (keywordEach [] X.env)).all (fun x=>x.1.isSome)
  && decide ((e::es).length+([]:List Keyword).length+(if ([]:List Keyword).isEmpty then 0 else 1)<30))=true:=by rfl)
 (hline:(apos.endLine == cpos.line)=true:=by rfl) (hs:starEach (e::es) X.env=(false,eval e X.env)::starEach es X.env:=by rfl) (hplain:(backTo cpos (starEach es X.env)).any (·.1)=false:=by rfl) :
 PE X (.Call (.Attribute o name apos) (e::es) [] cpos) (tBM K T r to t):=hK▸Jm4 pa slot hty hm ho ha hbase hfew hline hs hplain
theorem JiZ{o:Expr}{to:TE}{name:Str}{apos cpos:Pos}{T id:String}{r:V->List V->Hp->VK->Prop}(hK:X.K=K)(pa:PlainAttrs T)(slot:Slot T name id)(hty:typeOf (.builtin id)=pure (.type "method_descriptor"))(hm:MtR X id r)(ho:PE X o to)
 (hbase:attributeBase o name X.env (eval o X.env)=eval o X.env:=by rfl) (hline:(apos.endLine == cpos.line)=true:=by rfl):PE X (.Call (.Attribute o name apos) [] [] cpos) (Jmh K T r to):=hK▸Jls pa slot hty hm ho hbase hline
end
end L2

namespace LR
open PySem L2

theorem sz2{a b:V}:[a,b].length<=sizeLine:=by show 2<=sizeLine;decide
theorem Jmt(K:Frag)(H:Hp)(k:Bool):JeA K (.bl k) H k:=rfl
noncomputable abbrev Pr:=Int×Int
noncomputable def prD(p:Pr):PyData:=.tuple [.int p.1,.int p.2]
section
variable{K:Frag}{H H':Hp}
theorem Ji4{v:V}{p:Pr}(r:Rep K H v (prD p)):∃a,v=.ref a/\SqT K H a [.int p.1,.int p.2]:=by
 obtain⟨a,xs,rfl,h,l,q⟩:=r.tupI
 match xs,l,q,h with
 | [x,y],_,q,h =>
  have e1:=(q 0 x (.int p.1) rfl rfl).intI
  have e2:=(q 1 y (.int p.2) rfl rfl).intI;subst e1 e2;exact⟨a,rfl,h⟩
theorem JgT{a:Addr}{b n:Int}(h:SqT K H a [.int b,.int n]):Rep K H (.ref a) (prD (b,n)):=.tupL h (.cons (.int b) (.cons (.int n) .nil))
theorem Ji5{a:Addr}{b n:Int}(h:H a=some (.tup [.int b,.int n])):Rep K H (.ref a) (prD (b,n)):=JgT (.of h)
noncomputable abbrev Prs(K:Frag)(H:Hp)(vs:List V)(ps:List Pr):Prop:=RepL K H vs (ps.map prD)
theorem Prs.len{vs:List V}{ps:List Pr}(r:Prs K H vs ps):vs.length=ps.length:=by have:=r.1;rwa [List.length_map] at this
theorem Prs.at{vs:List V}{ps:List Pr}{i:Nat}{v:V}(r:Prs K H vs ps)(e:vs[i]?=some v):∃p a,ps[i]?=some p/\v=.ref a/\SqT K H a [.int p.1,.int p.2]:=by
 obtain⟨d,h1,h2⟩:=r.get' e;rw[List.getElem?_map] at h1
 cases hp:ps[i]? with
 | none=>rw[hp] at h1;cases h1
 | some p=>rw[hp] at h1;cases h1;obtain⟨a,e1,e2⟩:=Ji4 h2;exact⟨p,a,rfl,e1,e2⟩
theorem Prs.snoc{vs:List V}{ps:List Pr}{v:V}{p:Pr}(r:Prs K H vs ps)(h:Rep K H v (prD p)):Prs K H (vs++[v]) (ps++[p]):=by show RepL K H _ _;rw[List.map_append];exact RepL.snoc r h
noncomputable def JhV(K:Frag)(H:Hp)(v:V)(ps:List Pr):Prop:=∃a vs,v=.ref a/\(SqL K H a vs\/SqT K H a vs)/\Prs K H vs ps
end

structure Good (ps:List Pr):Prop where
 one:∀(i:Nat) (p:Pr),ps[i]?=some p->1<=p.2
 gap:∀(i:Nat) (p q:Pr),ps[i]?=some p->ps[i+1]?=some q->p.1+p.2<q.1
theorem Good.nil:Good []:=⟨fun i p e=>by simp at e,fun i p q e=>by simp at e⟩
theorem Good.snoc{ps:List Pr}{p:Pr}(g:Good ps)(h1:1<=p.2)(h2:∀q,ps[ps.length-1]?=some q->q.1+q.2<p.1):Good (ps++[p]):=by
 refine⟨fun i q e=>?_,fun i q r e1 e2=>?_⟩
 ·by_cases hi:i<ps.length
  ·rw[List.getElem?_append_left hi] at e;exact g.one i q e
  ·rw[List.getElem?_append_right (by omega)] at e;obtain⟨h3,h4⟩:=List.getElem?_eq_some_iff.mp e;have:i-ps.length=0:=by simp at h3;omega
   rw[this] at e;simp at e;subst e;exact h1
 ·by_cases hi:i+1<ps.length
  ·rw[List.getElem?_append_left (by omega)] at e1;rw[List.getElem?_append_left hi] at e2;exact g.gap i q r e1 e2
  ·rw[List.getElem?_append_right (by omega)] at e2;obtain⟨h3,h4⟩:=List.getElem?_eq_some_iff.mp e2;have h5:i+1-ps.length=0:=by simp at h3;omega
   rw[h5] at e2;simp at e2;subst e2;have h6:i=ps.length-1:=by omega
   have h7:i<ps.length:=by omega
   rw[List.getElem?_append_left h7] at e1;rw[h6] at e1;exact h2 q e1

noncomputable def JcS(t:Addr):List (Str×V):=[("stretches",.ref t)]
noncomputable def RowAt(C:Addr)(K:Frag)(H:Hp)(v:V)(ps:List Pr):Prop :=
 ∃x dx t ts,v=.ref x/\H x=some (.ins C dx (JcS t))/\H t=some (.tup ts)/\Prs K H ts ps
theorem RowAt.mono{C:Addr}{K:Frag}{H H':Hp}{v:V}{ps:List Pr}(e:Same H H')(r:RowAt C K H v ps):RowAt C K H' v ps:=by obtain⟨x,dx,t,ts,h0,h1,h2,h3⟩:=r;exact⟨x,dx,t,ts,h0,e _ _ h1,e _ _ h2,RepL.mono e h3⟩
structure RowC (K:Frag) (C:Addr):Prop where
 cl:Cls K C
 ns:NoAttr K C "stretches"
theorem Jfq(t:Addr):(JcS t).lookup ("stretches":Str)=some (.ref t):=by
 unfold JcS;rw[List.lookup_cons];have:(("stretches":Str) == ("stretches":Str))=true:=by decide +kernel
 rw[this]
theorem JgW(t:Addr):UF "stretches" (.ref t) []=JcS t:=rfl

noncomputable def Wt(K:Frag):Sp:=fun vs H Q _=>∃v ps,vs=[v]/\JhV K H v ps/\Good ps/\∀H',Same H H'->Q .non H'
noncomputable def UQ(C:Addr)(K:Frag):Sp:=fun vs H Q _=>∃x dx v ps,vs=[.ref x,v]/\H x=some (.ins C dx [])/\JhV K H v ps/\Good ps/\ps.length<=30 ∧
 ∀H' t ts,SameEx x H H'->H' x=some (.ins C dx (JcS t))->H' t=some (.tup ts)->Prs K H' ts ps->Q .non H'
noncomputable def JfH(C:Addr)(sp:Sp)(E:XK)(vs:List V)(H1:Hp)(Q:VK):Prop:=∀x dx,H1 x=none->H1 dx=none->dx≠x ->
 sp (.ref x::vs) (upd (upd H1 dx (.own x)) x (.ins C dx [])) (fun v H2=>v=.non/\Q (.ref x) H2) E
theorem Jd3{C:Addr}{sp:Sp}{E:XK}{ts:TA}{σ:St}{H:Hp}{Q:VK}(q:ts σ H fun vs H1=>JfH C sp E vs H1 Q):Jel C sp [] E ts σ H Q:=by
 have e:(fun vs H1=>JfH C sp E vs H1 Q)=fun vs H1=>∀x dx,H1 x=none->H1 dx=none->dx≠x->sp (.ref x::(vs++[])) (upd (upd H1 dx (.own x)) x (.ins C dx [])) (fun v H2=>v=.non/\Q (.ref x) H2) E:=by funext vs H1;rw[List.append_nil];rfl
 show ts σ H _;rw[<- e];exact q
theorem Jl4{C:Addr}{K:Frag}{H:Hp}{Q:VK}{v:V}{ps:List Pr}{E:XK}(h:JhV K H v ps)(g:Good ps)(hl:ps.length<=30)(q:∀x H',H x=none->Same H H'->RowAt C K H' (.ref x) ps->Q (.ref x) H'):JfH C (UQ C K) E [v] H Q:=by
 intro x dx nx ndx nex
 have s0:Same H (upd (upd H dx (.own x)) x (.ins C dx [])):=fun b o e=>by rw[Jh (Js e nx),Jh (Js e ndx)];exact e
 obtain⟨a,vs,rfl,hq,hp⟩:=h;refine⟨x,dx,_,ps,rfl,Jo,⟨a,vs,rfl,hq.imp s0.seq s0.seqT,RepL.mono s0 hp⟩,g,hl,fun H' t ts e h1 h2 h3=>⟨rfl,q x H' nx (fun b o h=>e b o (Js h nx) (s0 b o h)) ⟨x,dx,t,ts,rfl,h1,h2,h3⟩⟩⟩

noncomputable def cell(ns:List Int)(k:Int):Int:=ns.getD k.toNat 0
end LR

namespace LR
open PySem L2

theorem JfZ{ns:List Int}{k:Int}(h:¬k<(ns.length:Int)):cell ns k=0:=by unfold cell;rw[List.getD_eq_getElem?_getD,List.getElem?_eq_none (by omega)];rfl
noncomputable def JbD(l:List Int)(k:Int):Int:=l.getD k.toNat 0
theorem JbE{l:List Int}{k:Int}{P:Int->Prop}(h0:0<=k)(h1:k<(l.length:Int))(h:∀x∈l,P x):P (JbD l k):=by
 unfold JbD;have:k.toNat<l.length:=by omega
 rw[List.getD_eq_getElem?_getD,List.getElem?_eq_getElem this];exact h _ (List.getElem_mem this)
noncomputable def Jc9(ps:List Pr):Nat->V
 | 0=>.non
 | i+1=>match ps[i]? with
  | some p=>.int (p.1+p.2)
  | none=>.non
theorem UG{ps:List Pr}{i:Nat}{p:Pr}(e:ps[i]?=some p):Jc9 ps (i+1)=.int (p.1+p.2):=by show(match ps[i]? with|some p=>V.int (p.1+p.2)|none=>V.non)=_;rw[e]
theorem Jf1{K:Frag}{v:V}{ps:List Pr}{H:Hp}{Q:VK}{E:XK}(h:JhV K H v ps)(g:Good ps)(q:∀H',Same H H'->Q .non H'):Wt K [v] H Q E:=⟨v,ps,rfl,h,g,q⟩
theorem JbG{K:Frag}{a:Addr}{xs:List V}{H:Hp}{Q:VK}(h:SqL K H a xs\/SqT K H a xs)(q:Q (.int xs.length) H):JcQ K [.ref a] H Q:=by
 rcases h with h|h
 ·exact Jje h q
 ·exact Jjg h q
theorem SameEx.sqT'{K:Frag}{H H':Hp}{x a C dx:Addr}{fs:List (Str×V)}{xs:List V}(e:SameEx x H H')(hx:H x=some (.ins C dx fs))(h:SqT K H a xs):SqT K H' a xs:=by
 rcases h with (h|⟨o,h⟩)|h
 ·exact .inl (.inl (e _ _ (ZD h hx (by intro z;cases z)) h))
 ·exact .inl (.inr ⟨o,e _ _ (ZD h hx (by intro z;cases z)) h⟩)
 ·exact .inr h
theorem Prs.monoIns{K:Frag}{H H':Hp}{x C dx:Addr}{fs:List (Str×V)}{vs:List V}{ps:List Pr}(e:SameEx x H H')(hx:H x=some (.ins C dx fs))(r:Prs K H vs ps):Prs K H' vs ps:=by refine⟨r.1,fun i v d h1 h2=>?_⟩;obtain⟨p,a,e1,e2,e3⟩:=r.at h1;rw[List.getElem?_map,e1] at h2;cases h2;subst e2;exact JgT (SameEx.sqT' e hx e3)
noncomputable def Jed(K:Frag):Sp:=fun vs H Q _=>∃(a:Addr) (ns:List Int),vs=[.ref a]/\SqL K H a (ns.map V.int)/\ns.length<=63/\∀H',Q (.bl true) H'
end LR
namespace LR
open PySem L2
end LR

namespace L2
open PySem PySem.Spec PyProof.Rows

section
variable{X:Cx}{pins:List (Addr×Obj)}{σ:St}{H:Hp}{s:Shared}
theorem VR{A':Around}{E:Value->Shared->Prop}{Q:Value->Shared->Prop}{a:Addr}{vs:List V}(hh:A'.handled=none)(I:Inv X pins σ H s)(hq:SqL X.K H a vs\/SqT X.K H a vs)
 (h:∀(its:List Value) (J:Addr) (fp wr:List Addr) (Sx:Nat->Heap->Prop) (s2:Shared),Vals vs its->Walks X.prog X.w A' J fp wr its.toArray.size (fun i v=>its.toArray[i]?=some v) Sx->Sx 0 s2.heap->(∀b∈fp,b<s2.heap.objs.size) ->
  (∀h' tk,(∀b o,b∉wr->s2.heap.get? b=some o->h'.get? b=some o)->Inv X pins σ H { s2 with heap:=h',toks:=tk })->Q (.ref J) s2):wpAny (model X.prog X.w) A' (pyIter (.ref a)) Q E s:=by
 have nin:∀b o,s.heap.get? b=some o->b∉[s.heap.objs.size]:=fun b o e z=>by
  have:b=s.heap.objs.size:=by simpa using z
  exact absurd (Heap.lt_size e) (by rw[this];exact Nat.lt_irrefl _)
 rcases hq with hq|hq
 ·obtain⟨its,rv,p,hz⟩:=I.list hq;have hlt:a<s.heap.objs.size:=by obtain⟨_,e,_⟩:=p.isList;exact Heap.lt_size e
  refine wpAny_pyIter_list p.isList ?_;refine h its _ _ _ _ _ rv (Walks.list hh _ a (Nat.ne_of_lt hlt) its.toArray) ⟨⟨_,Heap.get?_push_size _ rfl,rfl,rfl⟩,p.isList.push _⟩ (fun b hb=>?_) fun h' tk hk=>I.kept fun b o e=>hk b o (nin b o e) (Heap.get?_push_of_some _ e)
  show b<(s.heap.push _).objs.size;rw[Heap.size_push];rcases List.mem_cons.mp hb with z|z
  ·rw[z];exact Nat.lt_succ_self _
  ·have:b=a:=by simpa using z
   rw[this];exact Nat.lt_succ_of_lt hlt
 ·obtain⟨its,rv,p,hz⟩:=I.tuple hq;have ht:s.heap.IsTuple a its.toArray:=p;have hlt:a<s.heap.objs.size:=by obtain⟨_,e,_⟩:=ht;exact Heap.lt_size e
  refine wpAny_pyIter_tuple ht ?_;refine h its _ _ _ _ _ rv (Walks.tuple hh _ a (Nat.ne_of_lt hlt) its.toArray) ⟨⟨_,Heap.get?_push_size _ rfl,rfl,rfl⟩,?_⟩ (fun b hb=>?_) fun h' tk hk=>I.kept fun b o e=>hk b o (nin b o e) (Heap.get?_push_of_some _ e)
  ·obtain⟨o,e,c⟩:=ht;exact⟨o,Heap.get?_push_of_some _ e,c⟩
  ·show b<(s.heap.push _).objs.size;rw[Heap.size_push];rcases List.mem_cons.mp hb with z|z
   ·rw[z];exact Nat.lt_succ_self _
   ·have:b=a:=by simpa using z
    rw[this];exact Nat.lt_succ_of_lt hlt
end

theorem We(l:List Int):∀j,j<=l.length->preSum (fun i=>l.getD i 0) j=(l.take j).sum
 | 0,_=>by simp[preSum]
 | j+1,h=>by
  rw[preSum,We l j (by omega)];have hj:j<l.length:=by omega
  rw[List.take_add_one,List.sum_append];simp[hj]
section
variable{X:Cx}
noncomputable def JlK(K:Frag):List V->Hp->VK->Prop:=fun xs H Q=>∃(a:Addr) (ns:List Int),xs=[.ref a]/\(SqL K H a (ns.map V.int)\/SqT K H a (ns.map V.int))/\Q (.int ns.sum) H
theorem JeN(hc:X.calm=true):CallR X (.builtin "sum") (JlK X.K):=by
 intro pins s σ H xs us Q I r h;obtain⟨a,ns,rfl,hq,q⟩:=h;obtain⟨u,rfl,rx⟩:=U5 r;cases rx;refine call_sum_walkG (VR (A':=X.A.in1) (I.ok.hd hc) I hq fun its J fp wr Sx s2 rv W st hfp hI=>?_);have hi:=Y4 rv;have hl:=rv.length;rw[List.length_map] at hl;refine⟨J,fp,wr,_,_,Sx,fun i=>ns.getD i 0,rfl,W,st,hfp,fun i v e=>?_,fun h' tk t' hk=>?_⟩
 ·have e':its[i]?=some v:=by simpa using e
  obtain⟨x,e1,e2⟩:=rv.get' e';rw[List.getElem?_map] at e1
  cases hn:ns[i]? with
  | none=>rw[hn] at e1;cases e1
  | some n=>rw[hn] at e1;cases e1;obtain⟨t,rfl⟩:=e2;exact⟨t,by simp[List.getD_eq_getElem?_getD,hn]⟩
 ·refine⟨.int ns.sum,H,hI h' tk hk,⟨t',?_⟩,q⟩;rw[show its.toArray.size=ns.length by simp[hl],We ns _ (Nat.le_refl _),List.take_length]
noncomputable def JlF(K:Frag):List V->Hp->VK->Prop:=fun xs H Q=>∃(a:Addr) (bs:List Bool),xs=[.ref a]/\(SqL K H a (bs.map V.bl)\/SqT K H a (bs.map V.bl))/\Q (.bl (bs.any id)) H
noncomputable def JlE(K:Frag):List V->Hp->VK->Prop:=fun xs H Q=>∃(a:Addr) (bs:List Bool),xs=[.ref a]/\(SqL K H a (bs.map V.bl)\/SqT K H a (bs.map V.bl))/\Q (.bl (bs.all id)) H
theorem Jfn(bs:List Bool):(List.range bs.length).any (fun i=>bs.getD i false)=bs.any id:=by
 rw[Bool.eq_iff_iff];simp only[List.any_eq_true,List.mem_range,id];constructor
 ·rintro⟨i,hi,e⟩;simp[List.getD_eq_getElem?_getD,hi] at e;exact⟨bs[i],List.getElem_mem hi,e⟩
 ·rintro⟨b,hb,rfl⟩;obtain⟨i,hi,e⟩:=List.mem_iff_getElem.mp hb;exact⟨i,hi,by simp[List.getD_eq_getElem?_getD,hi,e]⟩
theorem Jfm(bs:List Bool):(List.range bs.length).all (fun i=>bs.getD i false)=bs.all id:=by
 rw[Bool.eq_iff_iff];simp only[List.all_eq_true,List.mem_range,id];constructor
 ·intro h b hb;obtain⟨i,hi,e⟩:=List.mem_iff_getElem.mp hb;have:=h i hi;simp[List.getD_eq_getElem?_getD,hi] at this;rw[<- e];exact this
 ·intro h i hi;simp[List.getD_eq_getElem?_getD,hi];exact h _ (List.getElem_mem hi)
theorem Wf{A:Around}{bs:List Bool}{its:List Value}(rv:Vals (bs.map V.bl) its):TruthOf X.prog X.w A (fun i v=>its.toArray[i]?=some v) (fun i=>bs.getD i false):=by
 intro i v s Q E e q;have e':its[i]?=some v:=by simpa using e
 obtain⟨x,e1,e2⟩:=rv.get' e';rw[List.getElem?_map] at e1
 cases hn:bs[i]? with
 | none=>rw[hn] at e1;cases e1
 | some n =>
  rw[hn] at e1;cases e1;cases e2;have:bs.getD i false=n:=by simp[List.getD_eq_getElem?_getD,hn]
  have q':Q (bs.getD i false) s:=q;rw[this] at q';exact wpAny_truthy_bool q'
theorem JeH(hc:X.calm=true):CallR X (.builtin "any") (JlF X.K):=by intro pins s σ H xs us Q I r h;obtain⟨a,bs,rfl,hq,q⟩:=h;obtain⟨u,rfl,rx⟩:=U5 r;cases rx;refine call_any_walk (VR (A':=X.A.in1) (I.ok.hd hc) I hq fun its J fp wr Sx s2 rv W st hfp hI=>?_);have hl:=rv.length;rw[List.length_map] at hl;refine⟨J,fp,wr,_,_,Sx,_,rfl,W,st,Wf rv,fun h' tk hk=>⟨.bl _,H,hI h' tk hk,rfl,?_⟩⟩;rw[show its.toArray.size=bs.length by simp[hl],Jfn];exact q
theorem JeF(hc:X.calm=true):CallR X (.builtin "all") (JlE X.K):=by intro pins s σ H xs us Q I r h;obtain⟨a,bs,rfl,hq,q⟩:=h;obtain⟨u,rfl,rx⟩:=U5 r;cases rx;refine call_all_walk (VR (A':=X.A.in1) (I.ok.hd hc) I hq fun its J fp wr Sx s2 rv W st hfp hI=>?_);have hl:=rv.length;rw[List.length_map] at hl;refine⟨J,fp,wr,_,_,Sx,_,rfl,W,st,Wf rv,fun h' tk hk=>⟨.bl _,H,hI h' tk hk,rfl,?_⟩⟩;rw[show its.toArray.size=bs.length by simp[hl],Jfm];exact q
noncomputable def strI(i:Int):Str:=(toString i:String)
end
section
variable{X:Cx}{K:Frag}
theorem US(hK:X.K=K)(hc:X.calm=true):CallR X (.builtin "sum") (JlK K):=hK▸JeN hc
theorem JeG(hK:X.K=K)(hc:X.calm=true):CallR X (.builtin "any") (JlF K):=hK▸JeH hc
theorem JeE(hK:X.K=K)(hc:X.calm=true):CallR X (.builtin "all") (JlE K):=hK▸JeF hc
end
section
variable{K:Frag}{H:Hp}{Q:VK}
end
end L2
namespace L2
open PySem PySem.Spec PyProof.Rows
noncomputable def AllP{α:Type}(P:α->Prop):List α->Prop
 | []=>True
 | x::xs=>P x/\AllP P xs
theorem AllP.mem{α:Type}{P:α->Prop}:∀{l:List α},AllP P l->∀x∈l,P x
 | [],_,x,hx=>nomatch hx
 | y::l,h,x,hx=>by
  rcases List.mem_cons.mp hx with z|z
  ·rw[z];exact h.1
  ·exact AllP.mem h.2 x z
theorem U8{cl:List (Str×Addr)}{x:Str}(h:cl.any (fun p=>p.1 == x)=true):(cl.lookup x).isSome=true:=by
 induction cl with
 | nil=>simp at h
 | cons p cl ih =>
  obtain⟨n,a⟩:=p;rw[List.lookup_cons]
  by_cases e:x == n
  ·rw[e];rfl
  ·have e':(x == n)=false:=by simpa using e
   rw[e'];rw[List.any_cons] at h;rcases Bool.or_eq_true_iff.mp h with z|z
   ·have:n=x:=eq_of_beq z;rw[this] at e';simp at e'
   ·exact ih z
theorem JeC{X:Cx}{sc:Scope}{cl:List (Str×Addr)}{own:List Str}{fr:List (Str×Nat)}(h1:sc.kind=.function)(h2:closureFor sc X.env=pure cl)
 (h3:(sc.names.all fun y=>y.2 != .cell && (y.2 != .local || sc.names.lookup y.1 == some .local))=true) (h4:AllP (fun p=>X.env.cells.lookup p.1=some p.2) cl)
 (h5:((relabel sc X.env).names.all fun y=>(y.2 != .cell && y.2 != .free) || cl.any (fun p=>p.1 == y.1))=true)
 (h6:AllP (fun p=>X.N[p.2]?=some p.1/\X.env.scope.names.lookup p.1=some .cell/\(relabel sc X.env).names.lookup p.1=some .cell) fr) :
 Blk X sc cl (own++fr.map (·.1)) (own.map (fun _=>none)++fr.map (fun p=>some p.2)):=by
 simp only[List.all_eq_true,Bool.and_eq_true] at h3;simp only[List.all_eq_true] at h5;refine⟨h2,h1,fun y hy=>?_,fun y hy hl=>?_,AllP.mem h4,fun y hy hk=>?_,by simp,fun p hp k e=>?_⟩
 ·have:=(h3 y hy).1
  simpa using this
 ·have:=(h3 y hy).2;rw[hl] at this
  simpa using this
 ·have:=h5 y hy;rcases Bool.or_eq_true_iff.mp this with z|z
  ·rcases hk with q|q
   ·rw[q] at z;simp at z
   ·rw[q] at z;simp at z
  ·exact U8 z
 ·rw[List.zip_append (by simp)] at hp;rcases List.mem_append.mp hp with z|z
  ·have:=(List.of_mem_zip z).1;obtain⟨_,_,q⟩:=List.mem_map.mp this;rw[<- q] at e;cases e
  ·rw[List.zip_map_left] at z;obtain⟨q,hq,eq⟩:=List.mem_map.mp z
   have hz:q.1∈fr/\q.1.1=q.2:=by
    clear h6 e eq z hp;rw[List.zip_map_right] at hq;obtain⟨q',hq',eq'⟩:=List.mem_map.mp hq
    have:q'.1=q'.2:=by
     clear eq' hq
     induction fr with
     | nil=>cases hq'
     | cons x fr ih =>
      rcases List.mem_cons.mp hq' with z|z
      ·rw[z]
      ·exact ih z
    rw[<- eq'];exact⟨(List.of_mem_zip hq').1,by show q'.1.1=q'.2.1;rw[this]⟩
   obtain⟨a1,a2,a3⟩:=AllP.mem h6 q.1 hz.1;rw[<- eq] at e ⊢;have ek:q.1.2=k:=by simpa using e
   subst ek;rw[hz.2] at a1 a2 a3;exact⟨a1,.inl a2,.inl a3⟩
end L2

namespace LR
open PySem L2

noncomputable def Small(i:Int):Prop:=i.natAbs.log2<1920
theorem Small.of{i:Int}(h:i.natAbs<2 ^ 1920):Small i:=by
 unfold Small
 by_cases h0:i.natAbs=0
 ·rw[h0];decide
 ·exact(Nat.log2_lt h0).mpr h
theorem Small.le{i:Int}(h1:-(10 ^ 100)<=i)(h2:i<=10 ^ 100):Small i:=Small.of (by
 have h3:i.natAbs<=10 ^ 100:=by omega
 exact Nat.lt_of_le_of_lt h3 (by decide +kernel))
end LR

namespace LE
open PySem L2 LR

inductive D where
 | non|bl (b:Bool)|int (i:Int)|str (x:Str)|tup (l:List D)|lst (l:List D)|fz (l:List D)|row (l:List D)|dct (ks:List Int) (l:List D)|dfz (ks:List Int) (l:List D)|exc (n:Str)
noncomputable def dkO(ks:List Int)(xs:List V):HO:=.dK ((ks.map Sum.inl).zip xs)
noncomputable def dtK(p:Int×Int):List Key:=[Sum.inl p.1,Sum.inl p.2]
noncomputable def dtO(ps:List (Int×Int))(xs:List V):HO:=.dT ((ps.map dtK).zip xs)
noncomputable def XO(a:Addr)(c:Value):HO:=.ext fun h=>∃o,h.get? a=some o/\o.cls=c/\PySem.W.notCls o=true/\o.dict=none

section
variable(K:Frag)(C:Addr)
inductive RD (H:Hp):V->D->Prop
 | non:RD H .non .non
 | bl (b:Bool):RD H (.bl b) (.bl b)
 | int (i:Int):RD H (.int i) (.int i)
 | str (x:Str):RD H (.str x) (.str x)
 | tup {a:Addr} {xs:List V} {ds:List D}:SqT K H a xs->xs.length=ds.length->(∀(i:Nat) (x:V) (d:D),xs[i]?=some x->ds[i]?=some d->RD H x d)->RD H (.ref a) (.tup ds)
 | lst {a:Addr} {xs:List V} {ds:List D}:H a=some (.lst xs)->xs.length=ds.length->(∀(i:Nat) (x:V) (d:D),xs[i]?=some x->ds[i]?=some d->RD H x d)->RD H (.ref a) (.lst ds)
 | fz {a:Addr} {xs:List V} {ds:List D}:SqL K H a xs->xs.length=ds.length->(∀(i:Nat) (x:V) (d:D),xs[i]?=some x->ds[i]?=some d->RD H x d)->RD H (.ref a) (.fz ds)
 | row {x dx t:Addr} {ts:List V} {ds:List D}:H x=some (.ins C dx (JcS t))->SqT K H t ts->ts.length=ds.length->(∀(i:Nat) (x:V) (d:D),ts[i]?=some x->ds[i]?=some d->RD H x d)->RD H (.ref x) (.row ds)
 | dct {a:Addr} {ks:List Int} {xs:List V} {ds:List D}:H a=some (dkO ks xs)->ks.length=ds.length->xs.length=ds.length->(∀(i:Nat) (x:V) (d:D),xs[i]?=some x->ds[i]?=some d->RD H x d)->RD H (.ref a) (.dct ks ds)
 | dfz {a:Addr} {ks:List Int} {xs:List V} {ds:List D} {o:Obj}:H a=some (.frz o (dkO ks xs))->ks.length=ds.length->xs.length=ds.length->(∀(i:Nat) (x:V) (d:D),xs[i]?=some x->ds[i]?=some d->RD H x d)->RD H (.ref a) (.dfz ks ds)
 | exc {a c:Addr} {n:Str}:H a=some (XO a (.ref c))->nsIn K mainGlobals n=some (some (.ref c))->RD H (.ref a) (.exc n)
noncomputable def RDL(H:Hp)(xs:List V)(ds:List D):Prop:=xs.length=ds.length/\∀(i:Nat) (x:V) (d:D),xs[i]?=some x->ds[i]?=some d->RD K C H x d
end

section
variable{K:Frag}{C:Addr}{H H':Hp}
theorem RD.mono{v:V}{d:D}(e:Same H H')(r:RD K C H v d):RD K C H' v d:=by
 induction r with
 | non=>exact .non
 | bl b=>exact .bl b
 | int i=>exact .int i
 | str x=>exact .str x
 | tup h l _ ih=>exact .tup (e.seqT h) l ih
 | lst h l _ ih=>exact .lst (e _ _ h) l ih
 | fz h l _ ih=>exact .fz (e.seq h) l ih
 | row h1 h2 l _ ih=>exact .row (e _ _ h1) (e.seqT h2) l ih
 | dct h1 h2 l _ ih=>exact .dct (e _ _ h1) h2 l ih
 | dfz h1 h2 l _ ih=>exact .dfz (e _ _ h1) h2 l ih
 | exc h1 h2=>exact .exc (e _ _ h1) h2
theorem RDL.mono{xs:List V}{ds:List D}(e:Same H H')(r:RDL K C H xs ds):RDL K C H' xs ds:=⟨r.1,fun i x d h1 h2=>(r.2 i x d h1 h2).mono e⟩
theorem RDL.nil:RDL K C H [] []:=⟨rfl,fun i x d e=>by simp at e⟩
theorem RDL.cons{x:V}{d:D}{xs:List V}{ds:List D}(h:RD K C H x d)(r:RDL K C H xs ds):RDL K C H (x::xs) (d::ds):=by
 refine⟨by simp[r.1],fun i y e h1 h2=>?_⟩
 cases i with
 | zero=>simp at h1 h2;subst h1 h2;exact h
 | succ i=>exact r.2 i y e (by simpa using h1) (by simpa using h2)
theorem RDL.append{xs ys:List V}{ds es:List D}(r:RDL K C H xs ds)(q:RDL K C H ys es):RDL K C H (xs++ys) (ds++es):=by
 refine⟨by simp[r.1,q.1],fun i x d h1 h2=>?_⟩
 by_cases hi:i<xs.length
 ·rw[List.getElem?_append_left hi] at h1;rw[List.getElem?_append_left (by rw[<- r.1];exact hi)] at h2;exact r.2 i x d h1 h2
 ·rw[List.getElem?_append_right (by omega)] at h1;rw[List.getElem?_append_right (by rw[<- r.1];omega)] at h2;rw[<- r.1] at h2;exact q.2 _ x d h1 h2
theorem RDL.snoc{xs:List V}{ds:List D}{x:V}{d:D}(r:RDL K C H xs ds)(h:RD K C H x d):RDL K C H (xs++[x]) (ds++[d]):=r.append (.cons h .nil)
theorem RDL.get{xs:List V}{ds:List D}{i:Nat}{d:D}(r:RDL K C H xs ds)(e:ds[i]?=some d):∃x,xs[i]?=some x/\RD K C H x d:=by
 have hi:=(List.getElem?_eq_some_iff.mp e).1
 have hx:i<xs.length:=by rw[r.1];exact hi
 exact⟨xs[i],by simp[hx],r.2 i _ d (by simp[hx]) e⟩
theorem RDL.get'{xs:List V}{ds:List D}{i:Nat}{x:V}(r:RDL K C H xs ds)(e:xs[i]?=some x):∃d,ds[i]?=some d/\RD K C H x d:=by
 have hi:=(List.getElem?_eq_some_iff.mp e).1
 have hx:i<ds.length:=by rw[<- r.1];exact hi
 exact⟨ds[i],by simp[hx],r.2 i x _ e (by simp[hx])⟩
theorem RDL.head{x:V}{xs:List V}{d:D}{ds:List D}(r:RDL K C H (x::xs) (d::ds)):RD K C H x d:=r.2 0 x d rfl rfl
theorem RDL.tail{x:V}{xs:List V}{d:D}{ds:List D}(r:RDL K C H (x::xs) (d::ds)):RDL K C H xs ds:=⟨by have:=r.1;simpa using this,fun i y e h1 h2=>r.2 (i+1) y e (by simpa using h1) (by simpa using h2)⟩
theorem RDL.take{xs:List V}{ds:List D}(n:Nat)(r:RDL K C H xs ds):RDL K C H (xs.take n) (ds.take n):=by
 refine⟨by simp[r.1],fun i x d h1 h2=>?_⟩;rw[List.getElem?_take] at h1 h2;split at h1
 ·rw[if_pos (by assumption)] at h2;exact r.2 i x d h1 h2
 ·cases h1
theorem RDL.drop{xs:List V}{ds:List D}(n:Nat)(r:RDL K C H xs ds):RDL K C H (xs.drop n) (ds.drop n):=by refine⟨by simp[r.1],fun i x d h1 h2=>?_⟩;rw[List.getElem?_drop] at h1 h2;exact r.2 _ x d h1 h2
theorem RDL.set{xs:List V}{ds:List D}{v:V}{e:D}(n:Nat)(r:RDL K C H xs ds)(h:RD K C H v e):RDL K C H (xs.set n v) (ds.set n e):=by
 refine⟨by simp[r.1],fun i x d h1 h2=>?_⟩;rw[List.getElem?_set] at h1 h2;split at h1
 ·rw[if_pos (by assumption)] at h2;split at h1
  ·rw[if_pos (by rw[<- r.1];assumption)] at h2;cases h1;cases h2;exact h
  ·cases h1
 ·rw[if_neg (by assumption)] at h2;exact r.2 i x d h1 h2
theorem RDL.reverse{xs:List V}{ds:List D}(r:RDL K C H xs ds):RDL K C H xs.reverse ds.reverse:=by
 refine⟨by simp[r.1],fun i x d h1 h2=>?_⟩;have hi:i<xs.length:=by have:=(List.getElem?_eq_some_iff.mp h1).1;simpa using this
 rw[List.getElem?_reverse hi] at h1;rw[List.getElem?_reverse (by rw[<- r.1];exact hi)] at h2;rw[<- r.1] at h2;exact r.2 _ x d h1 h2
theorem RDL.ints:∀{xs:List V} {ns:List Int},RDL K C H xs (ns.map D.int)->xs=ns.map V.int
 | [],[],_=>rfl
 | [],_::_,r=>by have:=r.1;simp at this
 | _::_,[],r=>by have:=r.1;simp at this
 | x::xs,n::ns,r=>by have h:=r.head;cases h;rw[RDL.ints r.tail];rfl
theorem RDL.ofInts:∀(ns:List Int),RDL K C H (ns.map V.int) (ns.map D.int)
 | []=>.nil
 | n::ns=>.cons (.int n) (RDL.ofInts ns)
theorem RDL.bls:∀{xs:List V} {ns:List Bool},RDL K C H xs (ns.map D.bl)->xs=ns.map V.bl
 | [],[],_=>rfl
 | [],_::_,r=>by have:=r.1;simp at this
 | _::_,[],r=>by have:=r.1;simp at this
 | x::xs,n::ns,r=>by have h:=r.head;cases h;rw[RDL.bls r.tail];rfl
theorem RDL.strs:∀{xs:List V} {ns:List Str},RDL K C H xs (ns.map D.str)->xs=ns.map V.str
 | [],[],_=>rfl
 | [],_::_,r=>by have:=r.1;simp at this
 | _::_,[],r=>by have:=r.1;simp at this
 | x::xs,n::ns,r=>by have h:=r.head;cases h;rw[RDL.strs r.tail];rfl
theorem RD.mkT{a:Addr}{xs:List V}{ds:List D}(h:SqT K H a xs)(r:RDL K C H xs ds):RD K C H (.ref a) (.tup ds):=.tup h r.1 r.2
theorem RD.mkL{a:Addr}{xs:List V}{ds:List D}(h:H a=some (.lst xs))(r:RDL K C H xs ds):RD K C H (.ref a) (.lst ds):=.lst h r.1 r.2
theorem RD.mkF{a:Addr}{xs:List V}{ds:List D}(h:SqL K H a xs)(r:RDL K C H xs ds):RD K C H (.ref a) (.fz ds):=.fz h r.1 r.2
theorem RD.tupI{v:V}{ds:List D}(r:RD K C H v (.tup ds)):∃a xs,v=.ref a/\SqT K H a xs/\RDL K C H xs ds:=by
 cases r with
 | tup h l q=>exact⟨_,_,rfl,h,l,q⟩
theorem RD.lstI{v:V}{ds:List D}(r:RD K C H v (.lst ds)):∃a xs,v=.ref a/\H a=some (.lst xs)/\RDL K C H xs ds:=by
 cases r with
 | lst h l q=>exact⟨_,_,rfl,h,l,q⟩
theorem RD.fzI{v:V}{ds:List D}(r:RD K C H v (.fz ds)):∃a xs,v=.ref a/\SqL K H a xs/\RDL K C H xs ds:=by
 cases r with
 | fz h l q=>exact⟨_,_,rfl,h,l,q⟩
theorem RD.rowI{v:V}{ds:List D}(r:RD K C H v (.row ds)):∃x dx t ts,v=.ref x/\H x=some (.ins C dx (JcS t))/\SqT K H t ts/\RDL K C H ts ds:=by
 cases r with
 | row h1 h2 l q=>exact⟨_,_,_,_,rfl,h1,h2,l,q⟩
theorem RD.mkD{a:Addr}{ks:List Int}{xs:List V}{ds:List D}(h:H a=some (dkO ks xs))(hk:ks.length=ds.length)(r:RDL K C H xs ds):RD K C H (.ref a) (.dct ks ds):=.dct h hk r.1 r.2
theorem RD.dctI{v:V}{ks:List Int}{ds:List D}(r:RD K C H v (.dct ks ds)):∃a xs,v=.ref a/\H a=some (dkO ks xs)/\ks.length=ds.length/\RDL K C H xs ds:=by
 cases r with
 | dct h hk l q=>exact⟨_,_,rfl,h,hk,l,q⟩
theorem RD.mkZ{a:Addr}{ks:List Int}{xs:List V}{ds:List D}{o:Obj}(h:H a=some (.frz o (dkO ks xs)))(hk:ks.length=ds.length)(r:RDL K C H xs ds):RD K C H (.ref a) (.dfz ks ds):=.dfz h hk r.1 r.2
theorem RD.dfzI{v:V}{ks:List Int}{ds:List D}(r:RD K C H v (.dfz ks ds)):∃a xs o,v=.ref a/\H a=some (.frz o (dkO ks xs))/\ks.length=ds.length/\RDL K C H xs ds:=by
 cases r with
 | dfz h hk l q=>exact⟨_,_,_,rfl,h,hk,l,q⟩
theorem RD.intI{v:V}{i:Int}(r:RD K C H v (.int i)):v=.int i:=by cases r;rfl
theorem RD.strI{v:V}{i:Str}(r:RD K C H v (.str i)):v=.str i:=by cases r;rfl
theorem RD.blI{v:V}{i:Bool}(r:RD K C H v (.bl i)):v=.bl i:=by cases r;rfl
theorem RD.nonI{v:V}(r:RD K C H v .non):v=.non:=by cases r;rfl
end

mutual
noncomputable def D.py:D->PyData
 | .non=>.none
 | .bl b=>.bool b
 | .int i=>.int i
 | .str x=>.str x
 | .tup l=>.tuple (D.pyL l)
 | .lst l=>.list (D.pyL l)
 | .fz l=>.list (D.pyL l)
 | .row _=>.dict []
 | .dct _ _=>.dict []
 | .dfz _ _=>.dict []
 | .exc _=>.dict []
noncomputable def D.pyL:List D->List PyData
 | []=>[]
 | d::ds=>d.py::D.pyL ds
end
theorem JdW:∀ds:List D,D.pyL ds=ds.map D.py
 | []=>rfl
 | d::ds=>by rw[D.pyL,JdW ds];rfl
theorem WP:∀{ds:List PyData},PyData.canLayAll0 ds=true->∀d∈ds,d.canLay0=true
 | [],_,d,hd=>nomatch hd
 | x::ds,h,d,hd=>by
  have h':(PyData.canLay0 x && PyData.canLayAll0 ds)=true:=h;rw[Bool.and_eq_true] at h';rcases List.mem_cons.mp hd with z|z
  ·rw[z];exact h'.1
  ·exact WP h'.2 d z
theorem RD.rep{K:Frag}{C:Addr}{H:Hp}{v:V}{d:D}(r:RD K C H v d):d.py.canLay0=true->Rep K H v d.py:=by
 have all:∀{xs:List V} {ds:List D},xs.length=ds.length->(∀(i:Nat) (x:V) (d:D),xs[i]?=some x->ds[i]?=some d->d.py.canLay0=true->Rep K H x d.py)->PyData.canLayAll0 (D.pyL ds)=true->RepL K H xs (D.pyL ds):=by
  intro xs ds l ih hc;rw[JdW] at hc ⊢;refine⟨by simpa using l,fun i x d h1 h2=>?_⟩;rw[List.getElem?_map] at h2
  cases e:ds[i]? with
  | none=>rw[e] at h2;cases h2
  | some q=>rw[e] at h2;cases h2;exact ih i x q h1 e (WP hc _ (List.mem_map.mpr ⟨q,List.mem_of_getElem? e,rfl⟩))
 induction r with
 | non=>intro _;exact .non
 | bl b=>intro _;exact .bl b
 | int i=>intro _;exact .int i
 | str x=>intro _;exact .str x
 | tup h l _ ih=>intro hc;exact .tupL h (all l ih hc)
 | lst h l _ ih=>intro hc;exact .lstL (.of h) (all l ih hc)
 | fz h l _ ih=>intro hc;exact .lstL h (all l ih hc)
 | row h1 h2 l _ ih=>intro hc;cases hc
 | dct h1 h2 l _ ih=>intro hc;cases hc
 | dfz h1 h2 l _ ih=>intro hc;cases hc
 | exc h1 h2=>intro hc;cases hc

inductive Sl where
 | no|sh (d:D)|bo (ds:List D)|own (ds:List D)|bd (ks:List Int) (ds:List D)|od (ks:List Int) (ds:List D)|bt (ps:List (Int×Int)) (ds:List D)|ot (ps:List (Int×Int)) (ds:List D)
noncomputable def JV:Sl->Bool
 | .own _=>true
 | .od _ _=>true
 | .ot _ _=>true
 | _=>false
noncomputable def JkP:Sl->Bool
 | .bo _=>true
 | .bd _ _=>true
 | .bt _ _=>true
 | _=>false

section
variable(K:Frag)(C:Addr)
noncomputable def RR(Hs H0 H:Hp)(v:V):Sl->Prop
 | .no=>False
 | .sh d=>RD K C H0 v d
 | .bo ds=>∃l xs,v=.ref l/\H l=some (.lst xs)/\RDL K C H0 xs ds
 | .own ds=>∃l xs,v=.ref l/\H l=some (.lst xs)/\H0 l=none/\Hs l=none/\RDL K C H0 xs ds
 | .bd ks ds=>∃l xs,v=.ref l/\H l=some (dkO ks xs)/\ks.length=ds.length/\RDL K C H0 xs ds
 | .bt ks ds=>∃l xs,v=.ref l/\H l=some (dtO ks xs)/\ks.length=ds.length/\RDL K C H0 xs ds
 | .od ks ds=>∃l xs,v=.ref l/\H l=some (dkO ks xs)/\H0 l=none/\Hs l=none/\ks.length=ds.length/\RDL K C H0 xs ds
 | .ot ks ds=>∃l xs,v=.ref l/\H l=some (dtO ks xs)/\H0 l=none/\Hs l=none/\ks.length=ds.length/\RDL K C H0 xs ds
noncomputable def RSl(B H0 H:Hp)(v:V):Sl->Prop
 | .no=>True
 | .sh d=>RD K C H0 v d
 | .bo ds=>∃l xs,v=.ref l/\B l=some (.lst xs)/\RDL K C H0 xs ds
 | .own ds=>∃l xs,v=.ref l/\H l=some (.lst xs)/\H0 l=none/\B l=none/\RDL K C H0 xs ds
 | .bd ks ds=>∃l xs,v=.ref l/\B l=some (dkO ks xs)/\ks.length=ds.length/\RDL K C H0 xs ds
 | .bt ks ds=>∃l xs,v=.ref l/\B l=some (dtO ks xs)/\ks.length=ds.length/\RDL K C H0 xs ds
 | .od ks ds=>∃l xs,v=.ref l/\H l=some (dkO ks xs)/\H0 l=none/\B l=none/\ks.length=ds.length/\RDL K C H0 xs ds
 | .ot ks ds=>∃l xs,v=.ref l/\H l=some (dtO ks xs)/\H0 l=none/\B l=none/\ks.length=ds.length/\RDL K C H0 xs ds
structure EnvR (B H0 H:Hp) (σ:St) (E:List Sl):Prop where
 b:Same B H
 h:Same H0 H
 len:σ.length=E.length
 at':∀(i:Nat) (s:Sl),E[i]?=some s->s=.no\/∃v,σ[i]?=some (some v)/\RSl K C B H0 H v s
 sep:∀(i j:Nat) (s t:Sl) (v:V),i≠j->E[i]?=some s->E[j]?=some t->JV s=true->JV t=true->σ[i]?=some (some v)->σ[j]?≠some (some v)
end
noncomputable def isT:HO->Bool
 | .tup _=>true
 | .frz _ (.tup _)=>true
 | _=>false
structure Step (Hs H0 H H0' H':Hp):Prop where
 h:Same H H'
 z:Same H0 H0'
 n:∀a o,H0' a=some o->H0 a=some o\/Hs a=none\/isT o=true
 i:Same H0' H'
structure SStep (B H0 H0' H':Hp):Prop where
 b:Same B H'
 z:Same H0 H0'
 n:∀a o,H0' a=some o->H0 a=some o\/B a=none\/isT o=true
 i:Same H0' H'

section
variable{K:Frag}{C:Addr}{B Hs H0 H H0' H' H0'' H'':Hp}{σ:St}{E:List Sl}{v:V}{s:Sl}
theorem Step.refl(i:Same H0 H):Step Hs H0 H H0 H:=⟨Same.refl _,Same.refl _,fun _ _ e=>.inl e,i⟩
theorem Step.comp{Hs':Hp}(s1:Step Hs H0 H H0' H')(s2:Step Hs' H0' H' H0'' H'')(w:∀a,Hs' a=none->Hs a=none):Step Hs H0 H H0'' H'' :=
 ⟨s1.h.trans s2.h,s1.z.trans s2.z,fun a o e=>(s2.n a o e).elim (fun q=>s1.n a o q) fun q=>.inr (q.imp (w a) id),s2.i⟩
theorem Step.trans(s1:Step H H0 H H0' H')(s2:Step H' H0' H' H0'' H''):Step H H0 H H0'' H'':=s1.comp s2 fun _ q=>Same.free s1.h q
theorem Step.ss(b:Same B H)(s:Step H H0 H H0' H'):SStep B H0 H0' H':=⟨b.trans s.h,s.z,fun a o e=>(s.n a o e).imp id fun q=>q.imp (fun q=>Same.free b q) id,s.i⟩
theorem SStep.refl(b:Same B H)(i:Same H0 H):SStep B H0 H0 H:=⟨b,Same.refl _,fun _ _ e=>.inl e,i⟩
theorem SStep.trans(s1:SStep B H0 H0' H')(s2:SStep B H0' H0'' H''):SStep B H0 H0'' H'':=⟨s2.b,s1.z.trans s2.z,fun a o e=>(s2.n a o e).elim (fun q=>s1.n a o q) .inr,s2.i⟩
theorem RR.step(r:RR K C Hs H0 H v s)(st:Step H H0 H H0' H'):RR K C Hs H0' H' v s:=by
 cases s with
 | no=>exact r
 | sh d=>exact RD.mono st.z r
 | bo ds=>obtain⟨l,xs,e,h,q⟩:=r;exact⟨l,xs,e,st.h _ _ h,q.mono st.z⟩
 | bd ks ds=>obtain⟨l,xs,e,h,hk,q⟩:=r;exact⟨l,xs,e,st.h _ _ h,hk,q.mono st.z⟩
 | bt ks ds=>obtain⟨l,xs,e,h,hk,q⟩:=r;exact⟨l,xs,e,st.h _ _ h,hk,q.mono st.z⟩
 | own ds =>
  obtain⟨l,xs,e,h,n,m,q⟩:=r;refine⟨l,xs,e,st.h _ _ h,?_,m,q.mono st.z⟩
  cases z:H0' l with
  | none=>rfl
  | some o =>
   rcases st.n l o z with y|y|y
   ·rw[n] at y;cases y
   ·rw[h] at y;cases y
   ·have:=st.i l o z;rw[st.h _ _ h] at this;cases this;cases y
 | od ks ds =>
  obtain⟨l,xs,e,h,n,m,hk,q⟩:=r;refine⟨l,xs,e,st.h _ _ h,?_,m,hk,q.mono st.z⟩
  cases z:H0' l with
  | none=>rfl
  | some o =>
   rcases st.n l o z with y|y|y
   ·rw[n] at y;cases y
   ·rw[h] at y;cases y
   ·have:=st.i l o z;rw[st.h _ _ h] at this;cases this;cases y
 | ot ks ds =>
  obtain⟨l,xs,e,h,n,m,hk,q⟩:=r;refine⟨l,xs,e,st.h _ _ h,?_,m,hk,q.mono st.z⟩
  cases z:H0' l with
  | none=>rfl
  | some o =>
   rcases st.n l o z with y|y|y
   ·rw[n] at y;cases y
   ·rw[h] at y;cases y
   ·have:=st.i l o z;rw[st.h _ _ h] at this;cases this;cases y
theorem RR.weak{Hs':Hp}(r:RR K C Hs' H0 H v s)(w:∀a,Hs' a=none->Hs a=none):RR K C Hs H0 H v s:=by
 cases s with
 | own ds=>obtain⟨l,xs,e,h,n,m,q⟩:=r;exact⟨l,xs,e,h,n,w _ m,q⟩
 | od ks ds=>obtain⟨l,xs,e,h,n,m,q⟩:=r;exact⟨l,xs,e,h,n,w _ m,q⟩
 | ot ks ds=>obtain⟨l,xs,e,h,n,m,q⟩:=r;exact⟨l,xs,e,h,n,w _ m,q⟩
 | _=>exact r
theorem RSl.owned(r:RSl K C B H0 H v s)(o:JV s=true):∃l,v=.ref l/\H l≠none/\H0 l=none/\B l=none:=by
 cases s with
 | own ds=>obtain⟨l,xs,e,h,n,m,q⟩:=r;exact⟨l,e,(by rw[h];intro z;cases z),n,m⟩
 | od ks ds=>obtain⟨l,xs,e,h,n,m,q⟩:=r;exact⟨l,e,(by rw[h];intro z;cases z),n,m⟩
 | ot ks ds=>obtain⟨l,xs,e,h,n,m,q⟩:=r;exact⟨l,e,(by rw[h];intro z;cases z),n,m⟩
 | _=>cases o
theorem RR.owned(r:RR K C Hs H0 H v s)(o:JV s=true):∃l,v=.ref l/\H l≠none/\H0 l=none/\Hs l=none:=by
 cases s with
 | own ds=>obtain⟨l,xs,e,h,n,m,q⟩:=r;exact⟨l,e,(by rw[h];intro z;cases z),n,m⟩
 | od ks ds=>obtain⟨l,xs,e,h,n,m,q⟩:=r;exact⟨l,e,(by rw[h];intro z;cases z),n,m⟩
 | ot ks ds=>obtain⟨l,xs,e,h,n,m,q⟩:=r;exact⟨l,e,(by rw[h];intro z;cases z),n,m⟩
 | _=>cases o
theorem EnvR.step(I:EnvR K C B H0 H σ E)(st:Step H H0 H H0' H'):EnvR K C B H0' H' σ E:=by
 refine⟨I.b.trans st.h,st.i,I.len,fun i s e=>?_,I.sep⟩;rcases I.at' i s e with z|⟨v,h1,h2⟩
 ·exact .inl z
 ·refine .inr ⟨v,h1,?_⟩
  cases s with
  | no=>trivial
  | sh d=>exact RD.mono st.z h2
  | bo ds=>obtain⟨l,xs,e,h,q⟩:=h2;exact⟨l,xs,e,h,q.mono st.z⟩
  | own ds=>exact RR.step (Hs:=B) (s:=.own ds) h2 st
  | bd ks ds=>obtain⟨l,xs,e,h,hk,q⟩:=h2;exact⟨l,xs,e,h,hk,q.mono st.z⟩
  | bt ks ds=>obtain⟨l,xs,e,h,hk,q⟩:=h2;exact⟨l,xs,e,h,hk,q.mono st.z⟩
  | od ks ds=>exact RR.step (Hs:=B) (s:=.od ks ds) h2 st
  | ot ks ds=>exact RR.step (Hs:=B) (s:=.ot ks ds) h2 st
theorem EnvR.sub{E':List Sl}(I:EnvR K C B H0 H σ E)(hl:E'.length=E.length)(h:∀(i:Nat) (s:Sl),E'[i]?=some s->s=.no\/E[i]?=some s):EnvR K C B H0 H σ E':=by
 refine⟨I.b,I.h,I.len.trans hl.symm,fun i s e=>?_,fun i j s t v hij e1 e2 o1 o2=>?_⟩
 ·rcases h i s e with z|z
  ·exact .inl z
  ·exact I.at' i s z
 ·rcases h i _ e1 with z|z
  ·subst z;cases o1
  ·rcases h j _ e2 with y|y
   ·subst y;cases o2
   ·exact I.sep i j s t v hij z y o1 o2
theorem EnvR.put(I:EnvR K C B H0 H σ E){i:Nat}(hi:i<E.length){Hs:Hp}(hB:∀a,Hs a=none->B a=none)(hf:∀(j:Nat) (t:Sl) (l:Addr),E[j]?=some t->JV t=true->σ[j]?=some (some (.ref l))->Hs l≠none)(r:RR K C Hs H0 H v s)(hb:JkP s=false):EnvR K C B H0 H (σ.set i (some v)) (E.set i s):=by
 refine⟨I.b,I.h,by simp[I.len],fun j t e=>?_,fun j k s1 s2 u hjk e1 e2 o1 o2 e3 e4=>?_⟩
 ·rw[List.getElem?_set] at e
  by_cases hj:i=j
  ·subst hj;rw[if_pos rfl,if_pos hi] at e;cases e;refine .inr ⟨v,by rw[List.getElem?_set];simp[I.len,hi],?_⟩
   cases s with
   | no=>trivial
   | sh d=>exact r
   | bo ds=>cases hb
   | own ds=>obtain⟨l,xs,e,h,n,m,q⟩:=r;exact⟨l,xs,e,h,n,hB _ m,q⟩
   | bd ks ds=>cases hb
   | bt ks ds=>cases hb
   | od ks ds=>obtain⟨l,xs,e,h,n,m,q⟩:=r;exact⟨l,xs,e,h,n,hB _ m,q⟩
   | ot ks ds=>obtain⟨l,xs,e,h,n,m,q⟩:=r;exact⟨l,xs,e,h,n,hB _ m,q⟩
  ·rw[if_neg hj] at e;rcases I.at' j t e with z|⟨u,h1,h2⟩
   ·exact .inl z
   ·exact .inr ⟨u,by rw[List.getElem?_set,if_neg hj];exact h1,h2⟩
 ·rw[List.getElem?_set] at e1 e2 e3 e4
  by_cases hj:i=j
  ·subst hj;rw[if_neg hjk] at e2 e4;rw[if_pos rfl,if_pos hi] at e1;rw[if_pos rfl,if_pos (by rw[I.len];exact hi)] at e3;cases e3;cases e1;obtain⟨l,e,_,_,m⟩:=r.owned o1;subst e;exact hf k _ l e2 o2 e4 m
  ·rw[if_neg hj] at e1 e3
   by_cases hk:i=k
   ·subst hk;rw[if_pos rfl,if_pos hi] at e2;rw[if_pos rfl,if_pos (by rw[I.len];exact hi)] at e4;cases e2;have e4':v=u:=Option.some.inj (Option.some.inj e4);subst e4';obtain⟨l,e,_,_,m⟩:=r.owned o2;subst e;exact hf j _ l e1 o1 e3 m
   ·rw[if_neg hk] at e2 e4;exact I.sep j k _ _ u hjk e1 e2 o1 o2 e3 e4
theorem EnvR.ownG(I:EnvR K C B H0 H σ E){j:Nat}{t:Sl}{l:Addr}(e1:E[j]?=some t)(ho:JV t=true)(e2:σ[j]?=some (some (.ref l))):H l≠none/\H0 l=none/\B l=none:=by
 rcases I.at' j _ e1 with z|⟨v,h1,h2⟩
 ·subst z;cases ho
 ·rw[e2] at h1;cases h1;obtain⟨l',e,h⟩:=h2.owned ho;cases e;exact h
theorem EnvR.put'{H1 H01:Hp}(I:EnvR K C B H0 H σ E)(st:Step H H0 H H01 H1){i:Nat}(hi:i<E.length)(r:RR K C H H01 H1 v s)(hb:JkP s=false):EnvR K C B H01 H1 (σ.set i (some v)) (E.set i s) :=
 (I.step st).put hi (fun a q=>Same.free I.b q) (fun j t l e1 o1 e2=>(I.ownG e1 o1 e2).1) r hb
noncomputable def JdF:Option HO->Option HO
 | some o=>if isT o=true then some o else none
 | none=>none
noncomputable def Yi(Hs H0 H:Hp):Hp:=fun a=>match H0 a with
 | some o=>some o
 | none=>match Hs a with
  | none=>H a
  | some _=>JdF (H a)
theorem WN{o:Option HO}{u:HO}(e:JdF o=some u):o=some u/\isT u=true:=by
 cases o with
 | none=>cases e
 | some w =>
  unfold JdF at e;dsimp only at e;split at e
  ·cases e;exact⟨rfl,by assumption⟩
  ·cases e
theorem JP(i:Same H0 H):Step Hs H0 H (Yi Hs H0 H) H:=by
 refine⟨Same.refl _,fun a o e=>by unfold Yi;rw[e],fun a o e=>?_,fun a o e=>?_⟩
 ·unfold Yi at e
  cases h:H0 a with
  | some u=>rw[h] at e;exact .inl e
  | none =>
   rw[h] at e
   cases h2:Hs a with
   | none=>exact .inr (.inl rfl)
   | some u=>rw[h2] at e;exact .inr (.inr (WN e).2)
 ·unfold Yi at e
  cases h:H0 a with
  | some u=>rw[h] at e;cases e;exact i a _ h
  | none =>
   rw[h] at e
   cases h2:Hs a with
   | none=>rw[h2] at e;exact e
   | some u=>rw[h2] at e;exact(WN e).1
theorem Jak{a:Addr}{o:HO}(i:Same H0 H)(n:Hs a=none)(h:H a=some o):Yi Hs H0 H a=some o:=by
 unfold Yi
 cases z:H0 a with
 | some u=>rw[i a u z] at h;exact h
 | none=>dsimp only;rw[n];exact h
theorem Jdy{a:Addr}{o:HO}(i:Same H0 H)(n:isT o=true)(h:H a=some o):Yi Hs H0 H a=some o:=by
 unfold Yi
 cases z:H0 a with
 | some u=>rw[i a u z] at h;exact h
 | none =>
  dsimp only
  cases y:Hs a with
  | none=>exact h
  | some u=>dsimp only;rw[h];unfold JdF;dsimp only;rw[if_pos n]
theorem Jdx{a:Addr}{xs:List V}(i:Same H0 H)(h:SqT K H a xs):SqT K (Yi Hs H0 H) a xs:=by
 rcases h with (h|⟨o,h⟩)|h
 ·exact .inl (.inl (Jdy i rfl h))
 ·exact .inl (.inr ⟨o,Jdy i rfl h⟩)
 ·exact .inr h
noncomputable def Sl.frz:Sl->Option D
 | .sh d=>some d
 | .own ds=>some (.lst ds)
 | .od ks ds=>some (.dct ks ds)
 | _=>none
theorem RR.frz{d:D}(i:Same H0 H)(r:RR K C Hs H0 H v s)(e:s.frz=some d):RD K C (Yi Hs H0 H) v d:=by
 have st:Step Hs H0 H (Yi Hs H0 H) H:=JP i
 cases s with
 | no=>cases e
 | sh d'=>cases e;exact RD.mono st.z r
 | bo ds=>cases e
 | own ds=>cases e;obtain⟨l,xs,e,h,n,m,q⟩:=r;subst e;exact .mkL (Jak i m h) (q.mono st.z)
 | bd ks ds=>cases e
 | bt ks ds=>cases e
 | od ks ds=>cases e;obtain⟨l,xs,e,h,n,m,hk,q⟩:=r;subst e;exact .mkD (Jak i m h) hk (q.mono st.z)
 | ot ks ds=>cases e
end
end LE

namespace LE
open PySem L2 LR

noncomputable abbrev En:=List Sl
noncomputable abbrev Ev:=En->Option Sl
section
variable(K:Frag)(C:Addr)
noncomputable def SE(te:TE)(ev:Ev):Prop:=∀(B H0 H:Hp) (σ:St) (E:En) (r:Sl) (Q:VK),EnvR K C B H0 H σ E->ev E=some r ->
 (∀v H0' H',Step H H0 H H0' H'->RR K C H H0' H' v r->Q v H')->te σ H Q
noncomputable def ST(t:TT)(ev:En->Option Bool):Prop:=∀(B H0 H:Hp) (σ:St) (E:En) (r:Bool) (Q:Bool->Hp->Prop),EnvR K C B H0 H σ E->ev E=some r ->
 (∀H0' H',Step H H0 H H0' H'->Q r H')->t σ H Q
inductive RRL (Hs H0 H:Hp):List V->List Sl->Prop
 | nil:RRL Hs H0 H [] []
 | cons {v:V} {s:Sl} {vs:List V} {ss:List Sl}:RR K C Hs H0 H v s->RRL Hs H0 H vs ss->RRL Hs H0 H (v::vs) (s::ss)
noncomputable def SA(t:TA)(ev:En->Option (List Sl)):Prop:=∀(B H0 H:Hp) (σ:St) (E:En) (r:List Sl) (Q:List V->Hp->Prop),EnvR K C B H0 H σ E->ev E=some r ->
 (∀vs H0' H',Step H H0 H H0' H'->RRL K C H H0' H' vs r->Q vs H')->t σ H Q
noncomputable def OpS(r:R2)(f:Sl->Sl->Option Sl):Prop:=∀(Hs H0 H:Hp) (x y:V) (a b c:Sl) (Q:VK),Same H0 H->Same Hs H->RR K C Hs H0 H x a->RR K C Hs H0 H y b->f a b=some c ->
 (∀v H0' H',Step Hs H0 H H0' H'->RR K C Hs H0' H' v c->Q v H')->r x y H Q
noncomputable def UnS(r:V->Hp->VK->Prop)(f:Sl->Option Sl):Prop:=∀(Hs H0 H:Hp) (x:V) (a c:Sl) (Q:VK),Same H0 H->Same Hs H->RR K C Hs H0 H x a->f a=some c ->
 (∀v H0' H',Step Hs H0 H H0' H'->RR K C Hs H0' H' v c->Q v H')->r x H Q
noncomputable def Vi(r:List V->Hp->VK->Prop)(f:List Sl->Option Sl):Prop:=∀(Hs H0 H:Hp) (xs:List V) (as:List Sl) (c:Sl) (Q:VK),Same H0 H->Same Hs H->RRL K C Hs H0 H xs as->f as=some c ->
 (∀v H0' H',Step Hs H0 H H0' H'->RR K C Hs H0' H' v c->Q v H')->r xs H Q
end

noncomputable def Jd(i:Nat):Ev:=fun E=>match E[i]? with
 | some (.sh d)=>some (.sh d)
 | some (.bo ds)=>some (.bo ds)
 | some (.own ds)=>some (.bo ds)
 | some (.bd ks ds)=>some (.bd ks ds)
 | some (.od ks ds)=>some (.bd ks ds)
 | some (.bt ks ds)=>some (.bt ks ds)
 | some (.ot ks ds)=>some (.bt ks ds)
 | _=>none
noncomputable def eC(d:D):Ev:=fun _=>some (.sh d)
noncomputable def e2(f:Sl->Sl->Option Sl)(a b:Ev):Ev:=fun E=>(a E).bind fun x=>(b E).bind fun y=>f x y
noncomputable def e1(f:Sl->Option Sl)(a:Ev):Ev:=fun E=>(a E).bind f
noncomputable def a0:En->Option (List Sl):=fun _=>some []
noncomputable def aC(a:Ev)(as:En->Option (List Sl)):En->Option (List Sl):=fun E=>(a E).bind fun x=>(as E).bind fun xs=>some (x::xs)
noncomputable def eF(f:List Sl->Option Sl)(as:En->Option (List Sl)):Ev:=fun E=>(as E).bind f
noncomputable def bool?:Sl->Option Bool
 | .sh (.bl b)=>some b
 | _=>none
noncomputable def Jkq(a b:Ev):Ev:=fun E=>((a E).bind bool?).bind fun k=>if k=true then b E else some (.sh (.bl false))
noncomputable def eIf(c:En->Option Bool)(a b:Ev):Ev:=fun E=>(c E).bind fun k=>if k=true then a E else b E
noncomputable def sh?:Sl->Option D
 | .sh d=>some d
 | _=>none
noncomputable def Jcm(f g:Sl->Sl->Option Sl)(a b c:Ev):Ev:=fun E=>((a E).bind sh?).bind fun x=>((b E).bind sh?).bind fun y=>((f (.sh x) (.sh y)).bind bool?).bind fun k=>if k=true then((c E).bind sh?).bind fun z=>g (.sh y) (.sh z) else some (.sh (.bl false))
noncomputable def tB?(a:Ev):En->Option Bool:=fun E=>(a E).bind bool?
noncomputable def tAnd?(a b:En->Option Bool):En->Option Bool:=fun E=>(a E).bind fun k=>if k=true then b E else some false
noncomputable def tOr?(a b:En->Option Bool):En->Option Bool:=fun E=>(a E).bind fun k=>if k=true then some true else b E
noncomputable def tNot?(a:En->Option Bool):En->Option Bool:=fun E=>(a E).bind fun k=>some (!k)

section
variable{K:Frag}{C:Addr}
theorem bind_some{α β:Type}{x:Option α}{f:α->Option β}{b:β}(e:x.bind f=some b):∃a,x=some a/\f a=some b:=by
 cases x with
 | none=>cases e
 | some a=>exact⟨a,rfl,e⟩
theorem VP{s:Sl}{b:Bool}(e:bool? s=some b):s=.sh (.bl b):=by
 cases s with
 | sh d=>cases d with
  | bl x=>cases e;rfl
  | _=>cases e
 | _=>cases e
variable{ta tb tc te:TE}{ea eb ec:Ev}
theorem Jb(i:Nat):SE K C (Zh i) (Jd i):=by
 intro B H0 H σ E r Q I e q;unfold Jd at e
 cases h:E[i]? with
 | none=>rw[h] at e;cases e
 | some s =>
  rw[h] at e;rcases I.at' i s h with z|⟨v,h1,h2⟩
  ·subst z;cases e
  ·refine⟨v,h1,q v H0 H (.refl I.h) ?_⟩
   cases s with
   | no=>cases e
   | sh d=>cases e;exact h2
   | bo ds=>cases e;obtain⟨l,xs,e,hl,r⟩:=h2;exact⟨l,xs,e,I.b _ _ hl,r⟩
   | own ds=>cases e;obtain⟨l,xs,e,hl,_,_,r⟩:=h2;exact⟨l,xs,e,hl,r⟩
   | bd ks ds=>cases e;obtain⟨l,xs,e,hl,r⟩:=h2;exact⟨l,xs,e,I.b _ _ hl,r⟩
   | bt ks ds=>cases e;obtain⟨l,xs,e,hl,r⟩:=h2;exact⟨l,xs,e,I.b _ _ hl,r⟩
   | od ks ds=>cases e;obtain⟨l,xs,e,hl,_,_,r⟩:=h2;exact⟨l,xs,e,hl,r⟩
   | ot ks ds=>cases e;obtain⟨l,xs,e,hl,_,_,r⟩:=h2;exact⟨l,xs,e,hl,r⟩
theorem Jd7:SE K C (tC .non) (eC .non):=fun _ _ _ _ _ _ _ I e q=>by cases e;exact q _ _ _ (.refl I.h) .non
theorem JbI{b:Bool}:SE K C (tC (.bl b)) (eC (.bl b)):=fun _ _ _ _ _ _ _ I e q=>by cases e;exact q _ _ _ (.refl I.h) (.bl b)
theorem Jt{i:Int}:SE K C (tC (.int i)) (eC (.int i)):=fun _ _ _ _ _ _ _ I e q=>by cases e;exact q _ _ _ (.refl I.h) (.int i)
theorem Jr{r:R2}{f:Sl->Sl->Option Sl}(ho:OpS K C r f)(ha:SE K C ta ea)(hb:SE K C tb eb):SE K C (tOp r ta tb) (e2 f ea eb):=by
 intro B H0 H σ E c Q I e q;obtain⟨a,e1,e⟩:=bind_some e;obtain⟨b,e2,e⟩:=bind_some e;exact ha B H0 H σ E a _ I e1 fun x H1 H1' s1 r1=>hb B H1 H1' σ E b _ (I.step s1) e2 fun y H2 H2' s2 r2=>ho H H2 H2' x y a b c Q s2.i (s1.h.trans s2.h) (r1.step s2) (r2.weak fun a q=>Same.free s1.h q) e fun v H3 H3' s3 r3=>q v H3 H3' ((s1.trans s2).comp s3 fun _ z=>z) r3
theorem Jnq{r:V->Hp->VK->Prop}{f:Sl->Option Sl}(ho:UnS K C r f)(ha:SE K C ta ea):SE K C (tUn r ta) (e1 f ea):=by intro B H0 H σ E c Q I e q;obtain⟨a,e1,e⟩:=bind_some e;exact ha B H0 H σ E a _ I e1 fun x H1 H1' s1 r1=>ho H H1 H1' x a c Q s1.i s1.h r1 e fun v H3 H3' s3 r3=>q v H3 H3' (s1.comp s3 fun _ z=>z) r3
theorem Jj:SA K C JaG a0:=fun _ _ _ _ _ _ _ I e q=>by cases e;exact q _ _ _ (.refl I.h) .nil
theorem RRL.step{Hs H0 H H0' H':Hp}{vs:List V}{ss:List Sl}(r:RRL K C Hs H0 H vs ss)(st:Step H H0 H H0' H'):RRL K C Hs H0' H' vs ss:=by
 induction r with
 | nil=>exact .nil
 | cons h _ ih=>exact .cons (h.step st) ih
theorem RRL.weak{Hs Hs' H0 H:Hp}{vs:List V}{ss:List Sl}(r:RRL K C Hs' H0 H vs ss)(w:∀a,Hs' a=none->Hs a=none):RRL K C Hs H0 H vs ss:=by
 induction r with
 | nil=>exact .nil
 | cons h _ ih=>exact .cons (h.weak w) ih
theorem Jc{tr:TA}{er:En->Option (List Sl)}(ha:SE K C ta ea)(hr:SA K C tr er):SA K C (VE ta tr) (aC ea er):=by
 intro B H0 H σ E c Q I e q;obtain⟨a,e1,e⟩:=bind_some e;obtain⟨b,e2,e⟩:=bind_some e;cases e;exact ha B H0 H σ E a _ I e1 fun x H1 H1' s1 r1=>hr B H1 H1' σ E b _ (I.step s1) e2 fun y H2 H2' s2 r2=>q _ H2 H2' (s1.trans s2) (.cons (r1.step s2) (r2.weak fun a q=>Same.free s1.h q))
theorem Vy{r:List V->Hp->VK->Prop}{t:TA}{ev:En->Option (List Sl)}{f:List Sl->Option Sl}(hc:Vi K C r f)(ha:SA K C t ev):SE K C (tCB r t) (eF f ev):=by intro B H0 H σ E c Q I e q;obtain⟨a,e1,e⟩:=bind_some e;exact ha B H0 H σ E a _ I e1 fun x H1 H1' s1 r1=>hc H H1 H1' x a c Q s1.i s1.h r1 e fun v H3 H3' s3 r3=>q v H3 H3' (s1.comp s3 fun _ z=>z) r3
theorem Jno(ha:SE K C ta ea)(hb:SE K C tb eb):SE K C (Jhp ta tb) (Jkq ea eb):=by
 intro B H0 H σ E c Q I e q;obtain⟨k,e1,e⟩:=bind_some e;obtain⟨a,e0,e1⟩:=bind_some e1;refine ha B H0 H σ E a _ I e0 fun x H1 H1' s1 r1=>?_
 rw[VP e1] at r1;refine⟨k,RD.blI r1,?_⟩
 cases k with
 | true=>exact hb B H1 H1' σ E c Q (I.step s1) e fun y H2 H2' s2 r2=>q y H2 H2' (s1.trans s2) (r2.weak fun a q=>Same.free s1.h q)
 | false=>cases e;exact q _ _ _ s1 (RD.bl false)
theorem Jj4{c:TT}{cv:En->Option Bool}(hc:ST K C c cv)(ha:SE K C ta ea)(hb:SE K C tb eb):SE K C (tIf c ta tb) (eIf cv ea eb):=by
 intro B H0 H σ E r Q I e q;obtain⟨k,e1,e⟩:=bind_some e;refine hc B H0 H σ E k _ I e1 fun H1 H1' s1=>?_
 cases k with
 | true=>exact ha B H1 H1' σ E r Q (I.step s1) e fun y H2 H2' s2 r2=>q y H2 H2' (s1.trans s2) (r2.weak fun a q=>Same.free s1.h q)
 | false=>exact hb B H1 H1' σ E r Q (I.step s1) e fun y H2 H2' s2 r2=>q y H2 H2' (s1.trans s2) (r2.weak fun a q=>Same.free s1.h q)
theorem Ws{s:Sl}{d:D}(e:sh? s=some d):s=.sh d:=by
 cases s with
 | sh d'=>cases e;rfl
 | _=>cases e
theorem Jjp{r r':R2}{f g:Sl->Sl->Option Sl}(ho:OpS K C r f)(ho':OpS K C r' g)(ha:SE K C ta ea)(hb:SE K C tb eb)(hc:SE K C tc ec):SE K C (Jc1 r r' ta tb tc) (Jcm f g ea eb ec):=by
 intro B H0 H σ E c Q I e q;obtain⟨a,e1,e⟩:=bind_some e;obtain⟨a',e1,f1⟩:=bind_some e1;obtain rfl:=Ws f1;obtain⟨b,e2,e⟩:=bind_some e;obtain⟨b',e2,f2⟩:=bind_some e2;obtain rfl:=Ws f2;obtain⟨k,e3,e⟩:=bind_some e;obtain⟨z,e4,e3⟩:=bind_some e3;refine ha B H0 H σ E _ _ I e1 fun x H1 H1' s1 r1=>hb B H1 H1' σ E _ _ (I.step s1) e2 fun y H2 H2' s2 r2=>?_
 have x2:RD K C H2 x a:=RD.mono s2.z r1
 have y2:RD K C H2 y b:=r2;refine ho H2' H2 H2' x y (.sh a) (.sh b) z _ s2.i (Same.refl _) x2 y2 e4 fun w H3 H3' s3 r3=>?_
 rw[VP e3] at r3;have s13:=(s1.trans s2).trans s3;refine⟨k,RD.blI r3,?_⟩
 cases k with
 | false=>cases e;exact q _ _ _ s13 (RD.bl false)
 | true =>
  obtain⟨d,e5,e⟩:=bind_some e;obtain⟨d',e5,f5⟩:=bind_some e5;obtain rfl:=Ws f5;refine hc B H3 H3' σ E _ _ (I.step s13) e5 fun u H4 H4' s4 r4=>?_
  exact ho' H H4 H4' y u (.sh b) (.sh d) c Q s4.i (s13.h.trans s4.h) (RD.mono (s3.z.trans s4.z) y2) (show RD K C H4 u d from r4) e fun v H5 H5' s5 r5=>q v H5 H5' ((s13.trans s4).comp s5 fun _ z=>z) r5

theorem YF(ha:SE K C te ea):ST K C (Jhw te) (tB? ea):=by
 intro B H0 H σ E k Q I e q;obtain⟨a,e1,e⟩:=bind_some e;refine ha B H0 H σ E a _ I e1 fun x H1 H1' s1 r1=>?_
 rw[VP e] at r1;exact⟨k,RD.blI r1,q _ _ s1⟩
theorem Jax{c d:TT}{ev ew:En->Option Bool}(hc:ST K C c ev)(hd:ST K C d ew):ST K C (Jmg c d) (tAnd? ev ew):=by
 intro B H0 H σ E k Q I e q;obtain⟨a,e1,e⟩:=bind_some e;refine hc B H0 H σ E a _ I e1 fun H1 H1' s1=>?_
 cases a with
 | true=>exact hd B H1 H1' σ E k Q (I.step s1) e fun H2 H2' s2=>q H2 H2' (s1.trans s2)
 | false=>cases e;exact q _ _ s1
theorem Jj5{c d:TT}{ev ew:En->Option Bool}(hc:ST K C c ev)(hd:ST K C d ew):ST K C (tOr c d) (tOr? ev ew):=by
 intro B H0 H σ E k Q I e q;obtain⟨a,e1,e⟩:=bind_some e;refine hc B H0 H σ E a _ I e1 fun H1 H1' s1=>?_
 cases a with
 | false=>exact hd B H1 H1' σ E k Q (I.step s1) e fun H2 H2' s2=>q H2 H2' (s1.trans s2)
 | true=>cases e;exact q _ _ s1
theorem Jmc{c:TT}{ev:En->Option Bool}(hc:ST K C c ev):ST K C (Jml c) (tNot? ev):=by intro B H0 H σ E k Q I e q;obtain⟨a,e1,e⟩:=bind_some e;cases e;exact hc B H0 H σ E a _ I e1 fun H1 H1' s1=>q _ _ s1
end

noncomputable def Sl.m:Sl->Option (List D)
 | .sh (.lst ds)=>some ds
 | .bo ds=>some ds
 | .own ds=>some ds
 | _=>none
noncomputable def Sl.r:Sl->Option (List D)
 | .sh (.lst ds)=>some ds
 | .sh (.fz ds)=>some ds
 | .bo ds=>some ds
 | .own ds=>some ds
 | _=>none
noncomputable def Sl.q:Sl->Option (List D)
 | .sh (.lst ds)=>some ds
 | .sh (.fz ds)=>some ds
 | .sh (.tup ds)=>some ds
 | .bo ds=>some ds
 | .own ds=>some ds
 | _=>none
noncomputable def Sl.d:Sl->Option D
 | .sh d=>some d
 | .bo ds=>some (.lst ds)
 | .own ds=>some (.lst ds)
 | .bd ks ds=>some (.dct ks ds)
 | .od ks ds=>some (.dct ks ds)
 | .bt _ _=>none
 | .ot _ _=>none
 | .no=>none
section
variable{K:Frag}{C:Addr}{Hs H0 H:Hp}{v:V}{s:Sl}{ds:List D}{d:D}
theorem RR.m(r:RR K C Hs H0 H v s)(i:Same H0 H)(e:s.m=some ds):∃l xs,v=.ref l/\H l=some (.lst xs)/\RDL K C H0 xs ds:=by
 cases s with
 | no=>cases e
 | bo es=>cases e;exact r
 | own es=>cases e;obtain⟨l,xs,h1,h2,_,_,h3⟩:=r;exact⟨l,xs,h1,h2,h3⟩
 | bd _ _=>cases e
 | bt _ _=>cases e
 | od _ _=>cases e
 | ot _ _=>cases e
 | sh d=>cases d with
  | lst es=>cases e;obtain⟨l,xs,h1,h2,h3⟩:=RD.lstI r;exact⟨l,xs,h1,i _ _ h2,h3⟩
  | _=>cases e
theorem RR.r(r:RR K C Hs H0 H v s)(i:Same H0 H)(e:s.r=some ds):∃l xs,v=.ref l/\SqL K H l xs/\RDL K C H0 xs ds:=by
 cases s with
 | no=>cases e
 | bo es=>cases e;obtain⟨l,xs,h1,h2,h3⟩:=r;exact⟨l,xs,h1,.of h2,h3⟩
 | own es=>cases e;obtain⟨l,xs,h1,h2,_,_,h3⟩:=r;exact⟨l,xs,h1,.of h2,h3⟩
 | bd _ _=>cases e
 | bt _ _=>cases e
 | od _ _=>cases e
 | ot _ _=>cases e
 | sh d=>cases d with
  | lst es=>cases e;obtain⟨l,xs,h1,h2,h3⟩:=RD.lstI r;exact⟨l,xs,h1,.of (i _ _ h2),h3⟩
  | fz es=>cases e;obtain⟨l,xs,h1,h2,h3⟩:=RD.fzI r;exact⟨l,xs,h1,i.seq h2,h3⟩
  | _=>cases e
theorem RR.q(r:RR K C Hs H0 H v s)(i:Same H0 H)(e:s.q=some ds):∃l xs,v=.ref l/\(SqL K H l xs\/SqT K H l xs)/\RDL K C H0 xs ds:=by
 cases s with
 | no=>cases e
 | bo es=>cases e;obtain⟨l,xs,h1,h2,h3⟩:=r;exact⟨l,xs,h1,.inl (.of h2),h3⟩
 | own es=>cases e;obtain⟨l,xs,h1,h2,_,_,h3⟩:=r;exact⟨l,xs,h1,.inl (.of h2),h3⟩
 | bd _ _=>cases e
 | bt _ _=>cases e
 | od _ _=>cases e
 | ot _ _=>cases e
 | sh d=>cases d with
  | lst es=>cases e;obtain⟨l,xs,h1,h2,h3⟩:=RD.lstI r;exact⟨l,xs,h1,.inl (.of (i _ _ h2)),h3⟩
  | fz es=>cases e;obtain⟨l,xs,h1,h2,h3⟩:=RD.fzI r;exact⟨l,xs,h1,.inl (i.seq h2),h3⟩
  | tup es=>cases e;obtain⟨l,xs,h1,h2,h3⟩:=RD.tupI r;exact⟨l,xs,h1,.inr (i.seqT h2),h3⟩
  | _=>cases e
theorem RR.dat(r:RR K C Hs H0 H v s)(i:Same H0 H)(e:s.d=some d):RD K C H v d:=by
 cases s with
 | no=>cases e
 | bo es=>cases e;obtain⟨l,xs,h1,h2,h3⟩:=r;subst h1;exact .mkL h2 (h3.mono i)
 | own es=>cases e;obtain⟨l,xs,h1,h2,_,_,h3⟩:=r;subst h1;exact .mkL h2 (h3.mono i)
 | bd _ _=>cases e;obtain⟨l,xs,h1,h2,hk,h3⟩:=r;subst h1;exact .mkD h2 hk (h3.mono i)
 | bt _ _=>cases e
 | od _ _=>cases e;obtain⟨l,xs,h1,h2,_,_,hk,h3⟩:=r;subst h1;exact .mkD h2 hk (h3.mono i)
 | ot _ _=>cases e
 | sh d'=>cases e;exact RD.mono i r
theorem UY{p:Addr}{xs:List V}{Q:VK}(i:Same H0 H)(hs:Same Hs H)(hp:H p=none)(r:RDL K C H0 xs ds)(q:∀v H0' H',Step Hs H0 H H0' H'->RR K C Hs H0' H' v (.own ds)->Q v H'):Q (.ref p) (upd H p (.lst xs)) :=
 q _ H0 _ ⟨.new hp,Same.refl _,fun _ _ e=>.inl e,i.trans (.new hp)⟩ ⟨p,xs,rfl,Jo,Same.free i hp,Same.free hs hp,r⟩
theorem Wv{p:Addr}{xs:List V}{Q:VK}(i:Same H0 H)(hs:Same Hs H)(hp:H p=none)(r:RDL K C H0 xs ds)(q:∀v H0' H',Step Hs H0 H H0' H'->RR K C Hs H0' H' v (.sh (.tup ds))->Q v H'):Q (.ref p) (upd H p (.tup xs)):=by
 have h0:H0 p=none:=Same.free i hp;refine q _ (upd H0 p (.tup xs)) _ ⟨.new hp,.new h0,fun a o e=>?_,fun a o e=>?_⟩ ?_
 ·by_cases h:a=p
  ·subst h;exact .inr (.inl (Same.free hs hp))
  ·rw[Jh h] at e;exact .inl e
 ·by_cases h:a=p
  ·subst h;rw[Jo] at e ⊢;exact e
  ·rw[Jh h] at e ⊢;exact i a o e
 ·exact RD.mkT (.of Jo) (r.mono (.new h0))
end

noncomputable def fI(g:Int->Int->D):Sl->Sl->Option Sl
 | .sh (.int a),.sh (.int b)=>some (.sh (g a b))
 | _,_=>none
noncomputable def fIc(c:Int->Int->Bool)(g:Int->Int->D):Sl->Sl->Option Sl
 | .sh (.int a),.sh (.int b)=>if c a b=true then some (.sh (g a b)) else none
 | _,_=>none
noncomputable def JeS(x y:Sl):Option Sl:=x.m.bind fun a=>y.m.bind fun b=>if a.length+b.length<=sizeLine then some (.own (a++b)) else none
noncomputable def Ya:Sl->Sl->Option Sl
 | .sh (.int a),.sh (.int b)=>some (.sh (.int (a+b)))
 | .sh (.str a),.sh (.str b)=>if a.length+b.length<=sizeLine then some (.sh (.str (a++b))) else none
 | .sh (.tup a),.sh (.tup b)=>if a.isEmpty=false/\b.isEmpty=false/\a.length+b.length<=sizeLine then some (.sh (.tup (a++b))) else none
 | .sh (.lst a),y=>JeS (.sh (.lst a)) y
 | .bo a,y=>JeS (.bo a) y
 | .own a,y=>JeS (.own a) y
 | _,_=>none
noncomputable abbrev Ux:=fI fun a b=>.int (a-b)
noncomputable abbrev fLt:=fI fun a b=>.bl (decide (a<b))
noncomputable abbrev fLe:=fI fun a b=>.bl (decide (a<=b))
noncomputable abbrev fGt:=fI fun a b=>.bl (decide (b<a))
noncomputable def VC(a:Int):Bool:=Nat.ble a.natAbs 18446744073709551615
theorem UA{a:Int}:VC a=true↔-18446744073709551616<a/\a<18446744073709551616:=by unfold VC;rw[Nat.ble_eq];omega
noncomputable def JaD(a:Int):Bool:=Nat.ble a.natAbs 1073741823 && decide (0<a)
theorem smallP_ok{a:Int}:JaD a=true↔0<a/\a<1073741824:=by unfold JaD;rw[Bool.and_eq_true,Nat.ble_eq,decide_eq_true_eq];omega
noncomputable abbrev W9:=fIc (fun a b=>VC a || VC b) fun a b=>.int (a*b)
noncomputable abbrev Ja6:=fIc (fun _ b=>decide (0<b)) fun a b=>.int (a % b)
noncomputable abbrev Jiu:=fIc (fun _ b=>JaD b) fun a b=>.int (a / b)
noncomputable abbrev JkH:=fIc (fun a b=>decide (0<=b) && Nat.ble b.natAbs 1000000 && VC a) fun a b=>.int (a ^ b.toNat)
noncomputable def JeT:Sl->Option Sl
 | .sh (.int a)=>some (.sh (.int (-a)))
 | _=>none
noncomputable def eqD(d e:D):Option Bool:=if (d.py.canLay0 && e.py.canLay0 && decide (min d.py.depth e.py.depth<=60))=true then some (PyData.eqv d.py e.py) else none
noncomputable def eqA:D->D->Option Bool
 | .int a,.int b=>some (decide (a=b))
 | .str a,.str b=>some (decide (a=b))
 | .bl a,.bl b=>some (decide (a=b))
 | .non,.non=>some true
 | .non,.int _=>some false
 | .int _,.non=>some false
 | .non,.str _=>some false
 | .str _,.non=>some false
 | .non,.bl _=>some false
 | .bl _,.non=>some false
 | .int _,.str _=>some false
 | .str _,.int _=>some false
 | d,e=>eqD d e
noncomputable def fEq(x y:Sl):Option Sl:=x.d.bind fun d=>y.d.bind fun e=>(eqA d e).map fun k=>.sh (.bl k)
noncomputable def fNe(x y:Sl):Option Sl:=x.d.bind fun d=>y.d.bind fun e=>(eqA d e).map fun k=>.sh (.bl (!k))
noncomputable def D.isNon:D->Bool
 | .non=>true
 | _=>false
noncomputable def fIs:Sl->Sl->Option Sl
 | x,.sh .non=>x.d.map fun d=>.sh (.bl d.isNon)
 | _,_=>none
noncomputable def Jai:Sl->Sl->Option Sl
 | x,.sh .non=>x.d.map fun d=>.sh (.bl (!d.isNon))
 | _,_=>none
noncomputable def fIx:Sl->Sl->Option Sl
 | .sh (.str z),.sh (.int i)=>if z.length<=sizeLine then(atI z.cps.toList i).map fun c=>.sh (.str ⟨#[c]⟩) else none
 | x,.sh (.int i)=>x.q.bind fun ds=>(atI ds i).map .sh
 | _,_=>none
section
variable{K:Frag}{C:Addr}
theorem o_I{g:Int->Int->V}{g':Int->Int->D}(h:∀i j H,RD K C H (g i j) (g' i j)):OpS K C (rI0 g) (fI g'):=by
 intro Hs H0 H x y a b c Q i hs ra rb e q;unfold fI at e;split at e
 ·cases e;exact⟨_,_,RD.intI ra,RD.intI rb,q _ _ _ (.refl i) (h _ _ _)⟩
 ·cases e
theorem JiQ{P:Int->Int->Prop}{c':Int->Int->Bool}{g:Int->Int->V}{g':Int->Int->D}(hp:∀i j,c' i j=true->P i j)(h:∀i j H,RD K C H (g i j) (g' i j)):OpS K C (rI P g) (fIc c' g'):=by
 intro Hs H0 H x y a b c Q i hs ra rb e q;unfold fIc at e;split at e
 ·split at e
  ·cases e;exact⟨_,_,RD.intI ra,RD.intI rb,hp _ _ (by assumption),q _ _ _ (.refl i) (h _ _ _)⟩
  ·cases e
 ·cases e
theorem Y7:OpS K C (rI0 fun i j=>.int (i-j)) Ux:=o_I fun _ _ _=>.int _
theorem Jld:OpS K C (rI0 fun i j=>.bl (decide (i<j))) fLt:=o_I fun _ _ _=>.bl _
theorem Jlc:OpS K C (rI0 fun i j=>.bl (decide (i<=j))) fLe:=o_I fun _ _ _=>.bl _
theorem Jlb:OpS K C (rI0 fun i j=>.bl (decide (j<i))) fGt:=o_I fun _ _ _=>.bl _
theorem Wb:OpS K C (rI CMul fun i j=>.int (i*j)) W9:=JiQ (fun i j h=>by simp only[Bool.or_eq_true,UA] at h;exact h) fun _ _ _=>.int _
theorem ZE:OpS K C (rI (fun _ j=>0<j) fun i j=>.int (i % j)) Ja6:=JiQ (fun i j h=>by simpa using h) fun _ _ _=>.int _
theorem JjU:OpS K C (rI Jmy fun i j=>.int (i / j)) Jiu:=JiQ (fun i j h=>smallP_ok.mp h) fun _ _ _=>.int _
theorem Jm2:OpS K C (rI Jmz fun i j=>.int (i ^ j.toNat)) JkH:=JiQ (fun i j h=>by simp only[Bool.and_eq_true,decide_eq_true_eq,Nat.ble_eq,UA] at h;refine⟨h.1.1,by omega,?_⟩;show i.natAbs<18446744073709551616;omega) fun _ _ _=>.int _
theorem Jj9:UnS K C (rU fun i=>.int (-i)) JeT:=by
 intro Hs H0 H x a c Q i hs ra e q;unfold JeT at e;split at e
 ·cases e;exact⟨_,RD.intI ra,q _ _ _ (.refl i) (RD.int _)⟩
 ·cases e
noncomputable def JgZ(K:Frag):R2:=fun x y H Q=>JdX K x y H Q\/JjY K x y H Q
theorem JE{X:Cx}(hK:X.K=K):OpR X (binaryOp .Add) (JgZ K):=(JdL hK).or (hK▸JiW)
theorem Yo:OpS K C (JgZ K) Ya:=by
 intro Hs H0 H x y a b c Q i hs ra rb e q
 have cat:∀{a b:Sl},RR K C Hs H0 H x a->RR K C Hs H0 H y b->JeS a b=some c->JgZ K x y H Q:=by
  intro a b ra rb e;obtain⟨xs,e1,e⟩:=bind_some e;obtain⟨ys,e2,e⟩:=bind_some e;split at e
  ·next hz=>cases e;obtain⟨l,us,rfl,h1,r1⟩:=ra.m i e1;obtain⟨l',ws,rfl,h2,r2⟩:=rb.m i e2;exact .inl (.inr (.inr ⟨l,l',us,ws,rfl,rfl,h1,h2,by rw[r1.1,r2.1];exact hz,fun p hp=>UY i hs hp (r1.append r2) q⟩))
  ·cases e
 unfold Ya at e;split at e
 ·cases e;exact .inl (.inl ⟨_,_,RD.intI ra,RD.intI rb,q _ _ _ (.refl i) (RD.int _)⟩)
 ·split at e
  ·cases e;exact .inl (.inr (.inl ⟨_,_,RD.strI ra,RD.strI rb,by assumption,q _ _ _ (.refl i) (RD.str _)⟩))
  ·cases e
 ·split at e
  ·next hz =>
   cases e;obtain⟨l,us,rfl,h1,r1⟩:=RD.tupI ra;obtain⟨l',ws,rfl,h2,r2⟩:=RD.tupI rb;have n1:us≠[]:=by rintro rfl;have:=r1.1;have z:=hz.1;simp at this;rw[List.eq_nil_of_length_eq_zero this.symm] at z;cases z
   have n2:ws≠[]:=by rintro rfl;have:=r2.1;have z:=hz.2.1;simp at this;rw[List.eq_nil_of_length_eq_zero this.symm] at z;cases z
   exact .inr ⟨l,l',us,ws,rfl,rfl,i.seqT h1,i.seqT h2,n1,by rw[r1.1,r2.1];exact hz.2.2,fun z=>absurd z n2,fun _ p hp=>Wv i hs hp (r1.append r2) q⟩
  ·cases e
 ·exact cat ra rb e
 ·exact cat ra rb e
 ·exact cat ra rb e
 ·cases e
theorem Ja5{d e:D}{k:Bool}(h:eqD d e=some k):d.py.canLay0=true/\e.py.canLay0=true/\min d.py.depth e.py.depth<=60/\k=PyData.eqv d.py e.py:=by
 unfold eqD at h;split at h
 ·next z=>cases h;simp only[Bool.and_eq_true,decide_eq_true_eq] at z;exact⟨z.1.1,z.1.2,z.2,rfl⟩
 ·cases h
theorem map_some{α β:Type}{x:Option α}{f:α->β}{b:β}(e:x.map f=some b):∃a,x=some a/\f a=b:=by
 cases x with
 | none=>cases e
 | some a=>cases e;exact⟨a,rfl,rfl⟩
theorem Ja4{H:Hp}{x y:V}{d e:D}{k:Bool}(h:eqA d e=some k)(rx:RD K C H x d)(ry:RD K C H y e):(Jmd x y=true/\decide (x=y)=k)\/eqD d e=some k:=by
 unfold eqA at h;split at h
 ·cases h;rw[RD.intI rx,RD.intI ry];exact .inl ⟨rfl,by simp⟩
 ·cases h;rw[RD.strI rx,RD.strI ry];exact .inl ⟨rfl,by simp⟩
 ·cases h;rw[RD.blI rx,RD.blI ry];exact .inl ⟨rfl,by simp⟩
 ·cases h;rw[RD.nonI rx,RD.nonI ry];exact .inl ⟨rfl,by simp⟩
 ·cases h;rw[RD.nonI rx,RD.intI ry];exact .inl ⟨rfl,by simp⟩
 ·cases h;rw[RD.intI rx,RD.nonI ry];exact .inl ⟨rfl,by simp⟩
 ·cases h;rw[RD.nonI rx,RD.strI ry];exact .inl ⟨rfl,by simp⟩
 ·cases h;rw[RD.strI rx,RD.nonI ry];exact .inl ⟨rfl,by simp⟩
 ·cases h;rw[RD.nonI rx,RD.blI ry];exact .inl ⟨rfl,by simp⟩
 ·cases h;rw[RD.blI rx,RD.nonI ry];exact .inl ⟨rfl,by simp⟩
 ·cases h;rw[RD.intI rx,RD.strI ry];exact .inl ⟨rfl,by simp⟩
 ·cases h;rw[RD.strI rx,RD.intI ry];exact .inl ⟨rfl,by simp⟩
 ·exact .inr h
theorem Jm0:OpS K C (Jg0 K) fEq:=by
 intro Hs H0 H x y a b c Q i hs ra rb e q;obtain⟨d,e1,e⟩:=bind_some e;obtain⟨d',e2,e⟩:=bind_some e;obtain⟨k,e3,rfl⟩:=map_some e;have r1:=ra.dat i e1;have r2:=rb.dat i e2;rcases Ja4 e3 r1 r2 with ⟨h1,h2⟩|h
 ·exact .inl ⟨h1,by rw[h2];exact q _ _ _ (.refl i) (RD.bl _)⟩
 ·obtain⟨h1,h2,h3,rfl⟩:=Ja5 h;exact .inr ⟨_,_,r1.rep h1,r2.rep h2,h1,h2,h3,q _ _ _ (.refl i) (RD.bl _)⟩
theorem Jm1:OpS K C (Jg3 K) fNe:=by
 intro Hs H0 H x y a b c Q i hs ra rb e q;obtain⟨d,e1,e⟩:=bind_some e;obtain⟨d',e2,e⟩:=bind_some e;obtain⟨k,e3,rfl⟩:=map_some e;have r1:=ra.dat i e1;have r2:=rb.dat i e2;rcases Ja4 e3 r1 r2 with ⟨h1,h2⟩|h
 ·exact .inl ⟨h1,by rw[h2];exact q _ _ _ (.refl i) (RD.bl _)⟩
 ·obtain⟨h1,h2,h3,rfl⟩:=Ja5 h;exact .inr ⟨_,_,r1.rep h1,r2.rep h2,h1,h2,h3,q _ _ _ (.refl i) (RD.bl _)⟩
theorem Jbb{H:Hp}{x:V}{d:D}(r:RD K C H x d):decide (x=.non)=d.isNon:=by cases r <;> simp[D.isNon]
theorem JnN:OpS K C JlG fIs:=by
 intro Hs H0 H x y a b c Q i hs ra rb e q;unfold fIs at e;split at e
 ·obtain⟨d,e1,rfl⟩:=map_some e;refine⟨RD.nonI rb,?_⟩;rw[Jbb (ra.dat i e1)];exact q _ _ _ (.refl i) (RD.bl _)
 ·cases e
theorem JiR:OpS K C Jg4 Jai:=by
 intro Hs H0 H x y a b c Q i hs ra rb e q;unfold Jai at e;split at e
 ·obtain⟨d,e1,rfl⟩:=map_some e;refine⟨RD.nonI rb,?_⟩;rw[Jbb (ra.dat i e1)];exact q _ _ _ (.refl i) (RD.bl _)
 ·cases e
theorem RDL.atI{H:Hp}{xs:List V}{ds:List D}{i:Int}{d:D}(r:RDL K C H xs ds)(e:L2.atI ds i=some d):∃x,L2.atI xs i=some x/\RD K C H x d:=by unfold L2.atI at e ⊢;rw[r.1];obtain⟨j,e1,e⟩:=bind_some e;obtain⟨x,e2,r2⟩:=r.get e;exact⟨x,by rw[e1];exact e2,r2⟩
theorem Wj:OpS K C (rIx K) fIx:=by
 intro Hs H0 H x y a b c Q i hs ra rb e q;unfold fIx at e;split at e
 ·split at e
  ·obtain⟨z,e1,rfl⟩:=map_some e;rw[RD.strI ra,RD.intI rb];exact JlU (by assumption) e1 (q _ _ _ (.refl i) (RD.str _))
  ·cases e
 ·obtain⟨ds,e1,e⟩:=bind_some e;obtain⟨d,e2,rfl⟩:=map_some e;obtain⟨l,xs,rfl,h,r⟩:=ra.q i e1;obtain⟨v,e3,r3⟩:=r.atI e2;rw[RD.intI rb];rcases h with h|h
  ·exact JlT h e3 (q _ _ _ (.refl i) r3)
  ·exact JlV h e3 (q _ _ _ (.refl i) r3)
 ·cases e
end
end LE

namespace LE
open PySem L2 LR

noncomputable def WF:List Sl->Option (List D)
 | []=>some []
 | s::ss=>s.frz.bind fun d=>(WF ss).bind fun ds=>some (d::ds)
noncomputable def Uv(as:En->Option (List Sl)):Ev:=fun E=>(as E).bind fun ss=>(WF ss).bind fun ds=>if ds.length<=100 then some (.sh (.tup ds)) else none
noncomputable def Jah(as:En->Option (List Sl)):Ev:=fun E=>(as E).bind fun ss=>(WF ss).bind fun ds=>if ds.length<=100 then some (.own ds) else none
section
variable{K:Frag}{C:Addr}{t:TA}{ev:En->Option (List Sl)}{Hs H0 H:Hp}{ta te:TE}{ea:Ev}
theorem RRL.frz{vs:List V}{ss:List Sl}(i:Same H0 H)(r:RRL K C Hs H0 H vs ss):∀{ds:List D},WF ss=some ds->RDL K C (Yi Hs H0 H) vs ds:=by
 induction r with
 | nil=>intro ds e;cases e;exact .nil
 | cons h _ ih=>intro ds e;obtain⟨d,e1,e⟩:=bind_some e;obtain⟨ds',e2,e⟩:=bind_some e;cases e;exact .cons (h.frz i e1) (ih e2)
theorem Uq(ha:SA K C t ev):SE K C (Jmn t) (Uv ev):=by
 intro B H0 H σ E c Q I e q;obtain⟨ss,e1,e⟩:=bind_some e;obtain⟨ds,e2,e⟩:=bind_some e;split at e
 ·next hl =>
  cases e;refine ha B H0 H σ E ss _ I e1 fun vs H1 H1' s1 r1=>?_
  have f:=JP (Hs:=H) s1.i
  have r2:=r1.frz s1.i e2;exact⟨by rw[r2.1];exact Nat.le_trans hl (by decide),fun p hp=>Wv f.i s1.h hp r2 fun v H2 H2' s2 r2=>q v H2 H2' ((s1.comp f fun _ z=>z).comp s2 fun _ z=>z) r2⟩
 ·cases e
theorem WX(ha:SA K C t ev):SE K C (Jmk t) (Jah ev):=by
 intro B H0 H σ E c Q I e q;obtain⟨ss,e1,e⟩:=bind_some e;obtain⟨ds,e2,e⟩:=bind_some e;split at e
 ·next hl =>
  cases e;refine ha B H0 H σ E ss _ I e1 fun vs H1 H1' s1 r1=>?_
  have f:=JP (Hs:=H) s1.i
  have r2:=r1.frz s1.i e2;exact⟨by rw[r2.1];exact Nat.le_trans hl (by decide),fun p hp=>UY f.i s1.h hp r2 fun v H2 H2' s2 r2=>q v H2 H2' ((s1.comp f fun _ z=>z).comp s2 fun _ z=>z) r2⟩
 ·cases e

noncomputable def Sl.pass:Sl->Option Sl
 | .sh d=>some (.sh d)
 | .own ds=>some (.sh (.lst ds))
 | .bo ds=>some (.bo ds)
 | .bd ks ds=>some (.bd ks ds)
 | .od ks ds=>some (.sh (.dct ks ds))
 | .bt _ _=>none
 | .ot _ _=>none
 | .no=>none
end
noncomputable def Wr:List Sl->Option (List Sl)
 | []=>some []
 | s::ss=>s.pass.bind fun d=>(Wr ss).bind fun ds=>some (d::ds)
noncomputable def spE(K:Frag)(C:Addr)(n:Nat)(f:List Sl->Option Sl):Sp:=fun vs H Q _=>∃H0 as r,Same H0 H/\RRL K C H H0 H vs as/\as.all (fun s=>!JV s)=true/\as.length=n/\f as=some r ∧
 ∀v H0' H',Step H H0 H H0' H'->RR K C H H0' H' v r->Q v H'
noncomputable def eU(n:Nat)(f:List Sl->Option Sl)(as:En->Option (List Sl)):Ev:=fun E=>(as E).bind fun ss=>(Wr ss).bind fun bs=>if bs.length=n then f bs else none
section
variable{K:Frag}{C:Addr}{t:TA}{ev:En->Option (List Sl)}{Hs H0 H:Hp}{ta te:TE}{ea:Ev}
theorem RRL.len{vs:List V}{ss:List Sl}(r:RRL K C Hs H0 H vs ss):vs.length=ss.length:=by
 induction r with
 | nil=>rfl
 | cons _ _ ih=>simp[ih]
theorem JF{n:Nat}{f:List Sl->Option Sl}{vs:List V}{Q:VK}{E:XK}(h:spE K C n f vs H Q E):vs.length=n:=by obtain⟨H0,as,r,_,h1,_,h2,_⟩:=h;rw[h1.len];exact h2
theorem RR.pass{v:V}{s s':Sl}(i:Same H0 H)(r:RR K C Hs H0 H v s)(e:s.pass=some s'):RR K C H (Yi Hs H0 H) H v s'/\JV s'=false:=by
 have st:Step Hs H0 H (Yi Hs H0 H) H:=JP i
 cases s with
 | no=>cases e
 | sh d=>cases e;exact⟨RD.mono st.z r,rfl⟩
 | own ds=>cases e;exact⟨RR.frz (s:=.own ds) i r rfl,rfl⟩
 | bo ds=>cases e;obtain⟨l,xs,h1,h2,h3⟩:=r;exact⟨⟨l,xs,h1,h2,h3.mono st.z⟩,rfl⟩
 | od ks ds=>cases e;exact⟨RR.frz (s:=.od ks ds) i r rfl,rfl⟩
 | ot ks ds=>cases e
 | bd ks ds=>cases e;obtain⟨l,xs,h1,h2,hk,h3⟩:=r;exact⟨⟨l,xs,h1,h2,hk,h3.mono st.z⟩,rfl⟩
 | bt ks ds=>cases e
theorem RRL.pass{vs:List V}{ss:List Sl}(i:Same H0 H)(r:RRL K C Hs H0 H vs ss):∀{bs:List Sl},Wr ss=some bs->RRL K C H (Yi Hs H0 H) H vs bs/\bs.all (fun s=>!JV s)=true:=by
 induction r with
 | nil=>intro bs e;cases e;exact⟨.nil,rfl⟩
 | cons h _ ih=>intro bs e;obtain⟨d,e1,e⟩:=bind_some e;obtain⟨ds',e2,e⟩:=bind_some e;cases e;obtain⟨h1,h2⟩:=h.pass i e1;obtain⟨h3,h4⟩:=ih e2;exact⟨.cons h1 h3,by rw[List.all_cons,h2,h4];rfl⟩
theorem Jv{n:Nat}{f:List Sl->Option Sl}{X:XK}(ha:SA K C t ev):SE K C (Jej (spE K C n f) [] X t) (eU n f ev):=by
 intro B H0 H σ E c Q I e q;obtain⟨ss,e1,e⟩:=bind_some e;obtain⟨bs,e2,e⟩:=bind_some e;split at e
 ·next hl=>refine Jd1 (ha B H0 H σ E ss _ I e1 fun vs H1 H1' s1 r1=>?_);obtain⟨h1,h2⟩:=r1.pass s1.i e2;have f:=JP (Hs:=H) s1.i;exact⟨_,bs,c,f.i,h1,h2,hl,e,fun v H2 H2' s2 r2=>q v H2 H2' ((s1.comp f fun _ z=>z).comp s2 fun a z=>Same.free s1.h z) (r2.weak fun a z=>Same.free s1.h z)⟩
 ·cases e

noncomputable def prE(p:Pr):D:=.tup [.int p.1,.int p.2]
noncomputable def Jmv:D->Option Pr
 | .tup [.int a,.int b]=>some (a,b)
 | _=>none
noncomputable def Jb6:List D->Option (List Pr)
 | []=>some []
 | d::ds=>(Jmv d).bind fun p=>(Jb6 ds).bind fun ps=>some (p::ps)
end
theorem ZO:∀ps:List Pr,Jb6 (ps.map prE)=some ps
 | []=>rfl
 | p::ps=>by rw[List.map_cons,Jb6,ZO ps];rfl
theorem JfA{d:D}{p:Pr}(e:Jmv d=some p):d=prE p:=by
 unfold Jmv at e;split at e
 ·cases e;rfl
 ·cases e
theorem W4:∀{ds:List D} {ps:List Pr},Jb6 ds=some ps->ds=ps.map prE
 | [],_,e=>by cases e;rfl
 | d::ds,_,e=>by obtain⟨p,e1,e⟩:=bind_some e;obtain⟨ps,e2,e⟩:=bind_some e;cases e;rw[JfA e1,W4 e2];rfl
noncomputable def V7:List Pr->Bool
 | []=>true
 | [p]=>decide (1<=p.2)
 | p::q::r=>decide (1<=p.2) && decide (p.1+p.2<q.1) && V7 (q::r)
theorem WH:∀{ps:List Pr},V7 ps=true->Good ps
 | [],_=>.nil
 | [p],h=>⟨fun i q e=>by
  cases i with
  | zero=>simp at e;subst e;simpa [V7] using h
  | succ i=>simp at e,fun i q r e1 e2=>by simp at e2⟩
 | p::q::r,h=>by
  simp only[V7,Bool.and_eq_true,decide_eq_true_eq] at h;have g:=WH h.2;refine⟨fun i x e=>?_,fun i x y e1 e2=>?_⟩
  ·cases i with
   | zero=>simp at e;subst e;exact h.1.1
   | succ i=>exact g.one i x (by simpa using e)
  ·cases i with
   | zero=>simp at e1 e2;subst e1 e2;exact h.1.2
   | succ i=>exact g.gap i x y (by simpa using e1) (by simpa using e2)
theorem WI:∀{ps:List Pr},Good ps->V7 ps=true
 | [],_=>rfl
 | [p],g=>by simpa [V7] using g.one 0 p rfl
 | p::q::r,g=>by
  have g':Good (q::r):=⟨fun i x e=>g.one (i+1) x (by simpa using e),fun i x y e1 e2=>g.gap (i+1) x y (by simpa using e1) (by simpa using e2)⟩
  simp only[V7,Bool.and_eq_true,decide_eq_true_eq];exact⟨⟨g.one 0 p rfl,g.gap 0 p q rfl rfl⟩,WI g'⟩
noncomputable def Za:List Sl->Option Sl
 | [s]=>s.q.bind fun ds=>(Jb6 ds).bind fun ps=>if (V7 ps && decide (ps.length<=30))=true then some (.sh (.row ds)) else none
 | _=>none
noncomputable def Uh:Sl->Option Sl
 | .sh (.row ds)=>some (.sh (.tup ds))
 | _=>none
section
variable{K:Frag}{C:Addr}{t:TA}{ev:En->Option (List Sl)}{Hs H0 H:Hp}{ta te:TE}{ea:Ev}
theorem JlA{xs:List V}{ps:List Pr}(r:RDL K C H xs (ps.map prE)):Prs K H xs ps:=by
 refine⟨by rw[r.1];simp,fun i x d h1 h2=>?_⟩;rw[List.getElem?_map] at h2
 cases e:ps[i]? with
 | none=>rw[e] at h2;cases h2
 | some p=>rw[e] at h2;cases h2;have h:=r.2 i x (prE p) h1 (by rw[List.getElem?_map,e];rfl);exact RD.rep h rfl
theorem Jlf{xs:List V}{ps:List Pr}(i:Same H0 H)(r:Prs K H xs ps):RDL K C (Yi Hs H0 H) xs (ps.map prE):=by refine⟨by rw[r.len];simp,fun j x d h1 h2=>?_⟩;obtain⟨p,a,e1,e2,e3⟩:=r.at h1;rw[List.getElem?_map,e1] at h2;cases h2;subst e2;exact .mkT (Jdx i e3) (.cons (.int _) (.cons (.int _) .nil))
theorem ZJ{X:XK}(ha:SA K C t ev):SE K C (Jel C (UQ C K) [] X t) (eF Za ev):=by
 intro B H0 H σ E c Q I e q;obtain⟨ss,e1,e⟩:=bind_some e;refine LR.Jd3 (ha B H0 H σ E ss _ I e1 fun vs H1 H1' s1 r1=>?_);unfold Za at e;split at e
 ·next s =>
  cases r1 with
  | cons r1 r1' =>
   cases r1';obtain⟨ds,e2,e⟩:=bind_some e;obtain⟨ps,e3,e⟩:=bind_some e;split at e
   ·next hg =>
    cases e;simp only[Bool.and_eq_true,decide_eq_true_eq] at hg;have e4:=W4 e3;subst e4;obtain⟨l,xs,rfl,hq,r⟩:=r1.q s1.i e2;refine Jl4 ⟨l,xs,rfl,hq,JlA (r.mono s1.i)⟩ (WH hg.1) hg.2 fun x H2 nx s2 R=>?_
    obtain⟨x',dx,t',ts,ex,hx,ht,hp⟩:=R;cases ex;have i2:Same H1 H2:=s1.i.trans s2;have f:=JP (Hs:=H) i2;refine q _ (Yi H H1 H2) H2 ⟨s1.h.trans s2,s1.z.trans f.z,fun a o e=>(f.n a o e).elim (fun z=>s1.n a o z) .inr,f.i⟩ ?_;have ts':=Jlf (Hs:=H) (C:=C) i2 hp;exact .row (Jak i2 (Same.free s1.h nx) hx) (Jdx i2 (.of ht)) ts'.1 ts'.2
   ·cases e
 ·cases e
theorem Y8{K:Frag}{C:Addr}{ta:TE}{ea:Ev}(T:RowC K C)(ha:SE K C ta ea):SE K C (JjF K ta "stretches") (e1 Uh ea):=by
 intro B H0 H σ E c Q I e q;obtain⟨a,e1,e⟩:=bind_some e;refine ha B H0 H σ E a _ I e1 fun x H1 H1' s1 r1=>?_
 unfold Uh at e;split at e
 ·cases e;obtain⟨x',dx,t',ts,rfl,hx,ht,hp⟩:=RD.rowI r1;exact⟨x',C,dx,_,_,rfl,s1.i _ _ hx,T.cl,T.ns,Jfq t',q _ _ _ s1 (RD.mkT ht hp)⟩
 ·cases e

noncomputable def ints?:List D->Option (List Int)
 | []=>some []
 | .int i::ds=>(ints? ds).map (i::·)
 | _::_=>none
noncomputable def bls?:List D->Option (List Bool)
 | []=>some []
 | .bl i::ds=>(bls? ds).map (i::·)
 | _::_=>none
end
theorem WL:∀ns:List Int,ints? (ns.map .int)=some ns
 | []=>rfl
 | n::ns=>by rw[List.map_cons,ints?,WL ns];rfl
theorem ZX:∀ns:List Bool,bls? (ns.map .bl)=some ns
 | []=>rfl
 | n::ns=>by rw[List.map_cons,bls?,ZX ns];rfl
theorem YW:∀{ds:List D} {ns:List Int},ints? ds=some ns->ds=ns.map .int
 | [],_,e=>by cases e;rfl
 | .int i::ds,_,e=>by obtain⟨ns,e1,e2⟩:=map_some (show(ints? ds).map (i::·)=_ from e);rw[<- e2,YW e1];rfl
 | .non::_,_,e|.bl _::_,_,e|.str _::_,_,e|.tup _::_,_,e|.lst _::_,_,e|.fz _::_,_,e|.row _::_,_,e=>by cases e
theorem Wx:∀{ds:List D} {ns:List Bool},bls? ds=some ns->ds=ns.map .bl
 | [],_,e=>by cases e;rfl
 | .bl i::ds,_,e=>by obtain⟨ns,e1,e2⟩:=map_some (show(bls? ds).map (i::·)=_ from e);rw[<- e2,Wx e1];rfl
 | .non::_,_,e|.int _::_,_,e|.str _::_,_,e|.tup _::_,_,e|.lst _::_,_,e|.fz _::_,_,e|.row _::_,_,e=>by cases e
noncomputable def Jaj:List Sl->Option Sl
 | [.sh (.str x)]=>if x.length<=sizeLine then some (.sh (.int x.length)) else none
 | [s]=>s.q.map fun ds=>.sh (.int ds.length)
 | _=>none
noncomputable def WE:List Sl->Option Sl
 | [s]=>s.q.map fun ds=>.sh (.tup ds)
 | _=>none
noncomputable def Jcv:List Sl->Option Sl
 | [s]=>s.q.bind fun ds=>(ints? ds).map fun ns=>.sh (.int ns.sum)
 | _=>none
noncomputable def Jis:List Sl->Option Sl
 | [s]=>s.q.bind fun ds=>(bls? ds).map fun ns=>.sh (.bl (ns.any id))
 | _=>none
noncomputable def Jiq:List Sl->Option Sl
 | [s]=>s.q.bind fun ds=>(bls? ds).map fun ns=>.sh (.bl (ns.all id))
 | _=>none
noncomputable def Jcu:List Sl->Option Sl
 | [.sh (.int a),.sh (.int b)]=>some (.sh (.int (min a b)))
 | _=>none
section
variable{K:Frag}{C:Addr}{Hs H0 H:Hp}
theorem RRL.one{vs:List V}{s:Sl}(r:RRL K C Hs H0 H vs [s]):∃v,vs=[v]/\RR K C Hs H0 H v s:=by
 cases r with
 | cons h t=>cases t;exact⟨_,rfl,h⟩
theorem RRL.two{vs:List V}{s t:Sl}(r:RRL K C Hs H0 H vs [s,t]):∃v w,vs=[v,w]/\RR K C Hs H0 H v s/\RR K C Hs H0 H w t:=by
 cases r with
 | cons h r=>cases r with
  | cons h' r=>cases r;exact⟨_,_,rfl,h,h'⟩
theorem JmK:Vi K C (JcQ K) Jaj:=by
 intro Hs H0 H xs as c Q i hs r e q;unfold Jaj at e;split at e
 ·split at e
  ·cases e;obtain⟨v,rfl,r0⟩:=r.one;rw[RD.strI r0];exact Jjf (by assumption) (q _ _ _ (.refl i) (RD.int _))
  ·cases e
 ·obtain⟨v,rfl,r0⟩:=r.one;obtain⟨ds,e1,rfl⟩:=map_some e;obtain⟨l,xs,rfl,h,r1⟩:=r0.q i e1;have z:=q (.int ds.length) _ _ (.refl i) (RD.int _);rw[<- r1.1] at z;exact JbG h z
 ·cases e
theorem Jdc:Vi K C (UO K) WE:=by
 intro Hs H0 H xs as c Q i hs r e q;unfold WE at e;split at e
 ·obtain⟨v,rfl,r0⟩:=r.one;obtain⟨ds,e1,rfl⟩:=map_some e;rename_i s
  have lst:∀{l:Addr} {ys:List V},v=.ref l->SqL K H l ys->RDL K C H0 ys ds->UO K [v] H Q:=fun {l ys} ev h r2=>by subst ev;exact⟨l,ys,rfl,.inl ⟨h,fun p hp=>Wv i hs hp r2 q⟩⟩
  cases s with
  | no=>cases e1
  | bo es=>cases e1;obtain⟨l,ys,h1,h2,h3⟩:=r0;exact lst h1 (.of h2) h3
  | own es=>cases e1;obtain⟨l,ys,h1,h2,_,_,h3⟩:=r0;exact lst h1 (.of h2) h3
  | bd _ _=>cases e1
  | bt _ _=>cases e1
  | od _ _=>cases e1
  | ot _ _=>cases e1
  | sh d=>cases d with
   | lst es=>cases e1;obtain⟨l,ys,h1,h2,h3⟩:=RD.lstI r0;exact lst h1 (.of (i _ _ h2)) h3
   | fz es=>cases e1;obtain⟨l,ys,h1,h2,h3⟩:=RD.fzI r0;exact lst h1 (i.seq h2) h3
   | tup es=>cases e1;obtain⟨l,ys,rfl,h2,h3⟩:=RD.tupI r0;exact⟨l,ys,rfl,.inr ⟨i.seqT h2,q _ _ _ (.refl i) r0⟩⟩
   | _=>cases e1
 ·cases e
theorem Jdb:Vi K C (JlK K) Jcv:=by
 intro Hs H0 H xs as c Q i hs r e q;unfold Jcv at e;split at e
 ·obtain⟨v,rfl,r0⟩:=r.one;obtain⟨ds,e1,e⟩:=bind_some e;obtain⟨ns,e2,rfl⟩:=map_some e;obtain⟨l,ys,rfl,h,r1⟩:=r0.q i e1;rw[YW e2] at r1;have:=r1.ints;subst this;exact⟨l,ns,rfl,h,q _ _ _ (.refl i) (RD.int _)⟩
 ·cases e
theorem JmJ:Vi K C (JlF K) Jis:=by
 intro Hs H0 H xs as c Q i hs r e q;unfold Jis at e;split at e
 ·obtain⟨v,rfl,r0⟩:=r.one;obtain⟨ds,e1,e⟩:=bind_some e;obtain⟨ns,e2,rfl⟩:=map_some e;obtain⟨l,ys,rfl,h,r1⟩:=r0.q i e1;rw[Wx e2] at r1;have:=r1.bls;subst this;exact⟨l,ns,rfl,h,q _ _ _ (.refl i) (RD.bl _)⟩
 ·cases e
theorem JmI:Vi K C (JlE K) Jiq:=by
 intro Hs H0 H xs as c Q i hs r e q;unfold Jiq at e;split at e
 ·obtain⟨v,rfl,r0⟩:=r.one;obtain⟨ds,e1,e⟩:=bind_some e;obtain⟨ns,e2,rfl⟩:=map_some e;obtain⟨l,ys,rfl,h,r1⟩:=r0.q i e1;rw[Wx e2] at r1;have:=r1.bls;subst this;exact⟨l,ns,rfl,h,q _ _ _ (.refl i) (RD.bl _)⟩
 ·cases e
theorem JfV:Vi K C JlH Jcu:=by
 intro Hs H0 H xs as c Q i hs r e q;unfold Jcu at e;split at e
 ·cases e;obtain⟨v,w,rfl,r1,r2⟩:=r.two;rw[RD.intI r1,RD.intI r2];exact Jg9 (q _ _ _ (.refl i) (RD.int _))
 ·cases e
end

noncomputable def Jms:Sl->Option Bool
 | .sh .non=>some false
 | .sh (.bl b)=>some b
 | .sh (.int i)=>some (i != 0)
 | .sh (.str y)=>if y.length<=sizeLine then some ((y.length:Int) != 0) else none
 | s=>s.q.map fun ds=>!ds.isEmpty
noncomputable def tTru?(a:Ev):En->Option Bool:=fun E=>(a E).bind Jms
noncomputable def tyN:D->Option String
 | .non=>some "NoneType"
 | .bl _=>some "bool"
 | .int _=>some "int"
 | .str _=>some "str"
 | .tup _=>some "tuple"
 | .lst _=>some "list"
 | .fz _=>some "list"
 | .row _=>none
 | .dct _ _=>none
 | .dfz _ _=>none
 | .exc _=>none
noncomputable def Je9(t n:String):Bool:=t == n || (t == "bool" && n == "int")
noncomputable def D.isRow:D->Bool
 | .row _=>true
 | _=>false
section
variable{K:Frag}{C:Addr}{Hs H0 H:Hp}{te:TE}{ea:Ev}
theorem RDL.empty{xs:List V}{ds:List D}(r:RDL K C H xs ds):xs.isEmpty=ds.isEmpty:=by cases xs <;> cases ds <;> first|rfl|(have:=r.1;simp at this)
theorem JbJ(ha:SE K C te ea):ST K C (JjH K te) (tTru? ea):=by
 intro B H0 H σ E k Q I e q;obtain⟨a,e1,e⟩:=bind_some e;refine ha B H0 H σ E a _ I e1 fun x H1 H1' s1 r1=>?_
 have seq:∀{a:Sl},RR K C H H1 H1' x a->a.q.map (fun ds=>!ds.isEmpty)=some k->∃k',JeA K x H1' k'/\Q k' H1':=fun {a} r1 e=>by
  obtain⟨ds,e2,rfl⟩:=map_some e;obtain⟨l,xs,rfl,h,r⟩:=r1.q s1.i e2;have z:=q _ _ s1;rw[<- r.empty] at z;rcases h with h|h
  ·exact⟨_,.inl ⟨xs,h,rfl⟩,z⟩
  ·exact⟨_,.inr (.inl ⟨xs,h,rfl⟩),z⟩
 unfold Jms at e;split at e
 ·cases e;rw[RD.nonI r1];exact⟨_,rfl,q _ _ s1⟩
 ·cases e;rw[RD.blI r1];exact⟨_,rfl,q _ _ s1⟩
 ·cases e;rw[RD.intI r1];exact⟨_,rfl,q _ _ s1⟩
 ·split at e
  ·cases e;rw[RD.strI r1];exact⟨_,⟨by assumption,rfl⟩,q _ _ s1⟩
  ·cases e
 ·exact seq r1 e
theorem RD.ty{x:V}{d:D}{t:String}(r:RD K C H x d)(e:tyN d=some t):TyS K H x (.type t):=by
 cases r with
 | non=>cases e;exact .of .non
 | bl b=>cases e;exact .of (.bl b)
 | int i=>cases e;exact .of (.int i)
 | str i=>cases e;exact .of (.str i)
 | tup h _ _=>cases e;exact .sqT h
 | lst h _ _=>cases e;exact .sqL (.of h)
 | fz h _ _=>cases e;exact .sqL h
 | row _ _ _ _=>cases e
 | dct _ _ _ _=>cases e
 | dfz _ _ _ _=>cases e
 | exc _ _=>cases e
end
end LE

namespace LE
open PySem L2 LR

mutual
inductive Pt where
 | nm (i:Nat)
 | tp (l:Pts)
inductive Pts where
 | nil
 | cons (p:Pt) (l:Pts)
end
mutual
noncomputable def Pt.bind:Pt->D->En->Option En
 | .nm i,d,E=>if i<E.length then some (E.set i (.sh d)) else none
 | .tp l,.tup ds,E=>l.bind ds E
 | .tp _,_,_=>none
noncomputable def Pts.bind:Pts->List D->En->Option En
 | .nil,[],E=>some E
 | .cons p l,d::ds,E=>(p.bind d E).bind fun E'=>l.bind ds E'
 | _,_,_=>none
end
mutual
noncomputable def Pt.slots:Pt->List Nat
 | .nm i=>[i]
 | .tp l=>l.slots
noncomputable def Pts.slots:Pts->List Nat
 | .nil=>[]
 | .cons p l=>p.slots++l.slots
end
mutual
theorem Pt.keep:∀{p:Pt} {d:D} {E E':En},p.bind d E=some E'->E'.length=E.length/\∀i,i∉p.slots->E'[i]?=E[i]?
 | .nm i,d,E,E',e=>by
  unfold Pt.bind at e;split at e
  ·cases e;refine⟨by simp,fun j hj=>?_⟩;rw[List.getElem?_set,if_neg];intro z;exact hj (by simp[Pt.slots,z])
  ·cases e
 | .tp l,d,E,E',e=>by
  cases d with
  | tup ds=>exact Pts.keep (p:=l) (ds:=ds) (by simpa [Pt.bind] using e)
  | _=>simp[Pt.bind] at e
theorem Pts.keep:∀{p:Pts} {ds:List D} {E E':En},p.bind ds E=some E'->E'.length=E.length/\∀i,i∉p.slots->E'[i]?=E[i]?
 | .nil,[],E,E',e=>by simp[Pts.bind] at e;subst e;exact⟨rfl,fun _ _=>rfl⟩
 | .nil,_::_,_,_,e=>by simp[Pts.bind] at e
 | .cons _ _,[],_,_,e=>by simp[Pts.bind] at e
 | .cons p l,d::ds,E,E',e=>by rw[Pts.bind] at e;obtain⟨E1,e1,e2⟩:=bind_some e;obtain⟨h1,h2⟩:=Pt.keep e1;obtain⟨h3,h4⟩:=Pts.keep e2;refine⟨h3.trans h1,fun i hi=>?_⟩;simp[Pts.slots] at hi;rw[h4 i hi.2,h2 i hi.1]
end
section
variable(K:Frag)(C:Addr)
noncomputable def SG(g:TG)(p:Pt):Prop:=∀(B H0 H:Hp) (σ:St) (E E':En) (x:V) (d:D) (Q:St->Hp->Prop),EnvR K C B H0 H σ E->RD K C H0 x d->p.bind d E=some E'->(∀σ',EnvR K C B H0 H σ' E'->Q σ' H)->g x σ H Q
noncomputable def SGs(g:TGs)(p:Pts):Prop:=∀(B H0 H:Hp) (σ:St) (E E':En) (xs:List V) (ds:List D) (Q:St->Hp->Prop),EnvR K C B H0 H σ E->RDL K C H0 xs ds->p.bind ds E=some E'->(∀σ',EnvR K C B H0 H σ' E'->Q σ' H)->g xs σ H Q
end
section
variable{K:Frag}{C:Addr}
theorem EnvR.setSh{B H0 H:Hp}{σ:St}{E:En}{i:Nat}{v:V}{d:D}(I:EnvR K C B H0 H σ E)(hi:i<E.length)(r:RD K C H0 v d):EnvR K C B H0 H (σ.set i (some v)) (E.set i (.sh d)) :=
 I.put' (s:=.sh d) (.refl I.h) hi r rfl
theorem JU(i:Nat):SG K C (Vm i) (.nm i):=by
 intro B H0 H σ E E' x d Q I r e q;rw[Pt.bind] at e;split at e
 ·cases e;exact q _ (I.setSh (by assumption) r)
 ·cases e
theorem YC:SGs K C JkJ .nil:=by
 intro B H0 H σ E E' xs ds Q I r e q
 cases ds with
 | nil =>
  cases xs with
  | nil=>rw[Pts.bind] at e;cases e;exact⟨rfl,q σ I⟩
  | cons _ _=>have:=r.1;simp at this
 | cons _ _=>simp[Pts.bind] at e
theorem Jp{g:TG}{gs:TGs}{p:Pt}{ps:Pts}(h:SG K C g p)(hs:SGs K C gs ps):SGs K C (Jgg g gs) (.cons p ps):=by
 intro B H0 H σ E E' xs ds Q I r e q
 cases ds with
 | nil=>simp[Pts.bind] at e
 | cons d ds =>
  cases xs with
  | nil=>have:=r.1;simp at this
  | cons x xs=>rw[Pts.bind] at e;obtain⟨E1,e1,e2⟩:=bind_some e;exact⟨x,xs,rfl,h B H0 H σ E E1 x d _ I r.head e1 fun σ1 I1=>hs B H0 H σ1 E1 E' xs ds Q I1 r.tail e2 q⟩
theorem JnJ{n:Nat}{gs:TGs}{ps:Pts}(hn:∀(ds:List D) (E E':En),ps.bind ds E=some E'->ds.length=n)(hs:SGs K C gs ps):SG K C (Jgh K n gs) (.tp ps):=by
 intro B H0 H σ E E' x d Q I r e q
 cases d with
 | tup ds=>rw[Pt.bind] at e;obtain⟨a,xs,rfl,h,r⟩:=RD.tupI r;exact⟨a,xs,rfl,I.h.seqT h,by rw[r.1];exact hn ds E E' e,hs B H0 H σ E E' xs ds Q I r e q⟩
 | _=>simp[Pt.bind] at e
noncomputable def Pts.len:Pts->Nat
 | .nil=>0
 | .cons _ l=>l.len+1
theorem Pts.bind_len:∀{ps:Pts} {ds:List D} {E E':En},ps.bind ds E=some E'->ds.length=ps.len
 | .nil,[],_,_,_=>rfl
 | .nil,_::_,_,_,e=>by simp[Pts.bind] at e
 | .cons _ _,[],_,_,e=>by simp[Pts.bind] at e
 | .cons p l,d::ds,E,E',e=>by rw[Pts.bind] at e;obtain⟨E1,e1,e2⟩:=bind_some e;rw[List.length_cons,Pts.bind_len e2];rfl
theorem YD{n:Nat}{gs:TGs}{ps:Pts}(hs:SGs K C gs ps)(hn:ps.len=n):SG K C (Jgh K n gs) (.tp ps):=JnJ (fun _ _ _ e=>(Pts.bind_len e).trans hn) hs
end

section
variable(K:Frag)(C:Addr)
noncomputable def JhS(A:Hp)(J:It)(ds:List D)(H0:Hp):Prop:=∀H0' H',SStep A H0 H0' H'->(∀(i:Nat) (d:D),ds[i]?=some d->J.go i H'/\∀x H2,J.yld i H' x H2->∃H02,Step H' H0' H' H02 H2/\RD K C H02 x d)/\J.stop ds.length H'
noncomputable def SI(m:Bool)(wi:TI)(ev:En->Option (List D)):Prop:=∀(B H0 H:Hp) (σ:St) (E:En) (ds:List D) (R:It->Hp->Prop),EnvR K C B H0 H σ E->ev E=some ds ->
 (∀J H0' H',Step H H0 H H0' H'->JhS K C (if m=true then H' else B) J ds H0'->R J H')->wi σ H R
end
noncomputable def Sl.it(m:Bool):Sl->Option (List D)
 | .bo ds=>if m=true then some ds else none
 | s=>s.q
noncomputable def iE(m:Bool)(a:Ev):En->Option (List D):=fun E=>(a E).bind (Sl.it m)
noncomputable def iV(i:Nat):En->Option (List D):=fun E=>match E[i]? with
 | some (.bo ds)=>some ds
 | some (.sh d)=>(Sl.sh d).q
 | _=>none
noncomputable def rng(lo:Int)(n:Nat):List D:=(List.range n).map fun(i:Nat)=>.int (lo+(i:Int))
noncomputable def Jgn(a:Int):Bool:=Nat.ble a.natAbs 4611686018427387903
noncomputable def iR1(as:En->Option (List Sl)):En->Option (List D):=fun E=>(as E).bind fun ss=>match ss with
 | [.sh (.int n)]=>if Jgn n=true then some (rng 0 n.toNat) else none
 | _=>none
section
variable{K:Frag}{C:Addr}{te:TE}{ea:Ev}{m:Bool}
theorem Vs{A H0:Hp}{a:Addr}{xs:List V}{ds:List D}(hd:∀H0' H',SStep A H0 H0' H'->SqL K H' a xs)(r:RDL K C H0 xs ds):JhS K C A (Itl K a) ds H0:=by intro H0' H' st;have hq:=hd H0' H' st;refine⟨fun i d e=>?_,⟨xs,hq,by rw[r.1];exact Nat.le_refl _⟩⟩;obtain⟨x,e1,r1⟩:=r.get e;refine⟨⟨xs,x,hq,e1⟩,fun y H2 ⟨e2,e3⟩=>?_⟩;subst e2;have:=e3 xs hq;rw[e1] at this;cases this;exact⟨H0',.refl st.i,r1.mono st.z⟩
theorem JkR{A H0:Hp}{a:Addr}{xs:List V}{ds:List D}(hd:∀H0' H',SStep A H0 H0' H'->SqT K H' a xs)(r:RDL K C H0 xs ds):JhS K C A (Itt K a) ds H0:=by intro H0' H' st;have hq:=hd H0' H' st;refine⟨fun i d e=>?_,⟨xs,hq,by rw[r.1];exact Nat.le_refl _⟩⟩;obtain⟨x,e1,r1⟩:=r.get e;refine⟨⟨xs,x,hq,e1⟩,fun y H2 ⟨e2,e3⟩=>?_⟩;subst e2;have:=e3 xs hq;rw[e1] at this;cases this;exact⟨H0',.refl st.i,r1.mono st.z⟩
theorem Wk(ha:SE K C te ea):SI K C m (JeY K te) (iE m ea):=by
 intro B H0 H σ E ds R I e q;obtain⟨s,e1,e⟩:=bind_some e
 cases s with
 | no=>cases e
 | bd _ _=>cases e
 | bt _ _=>cases e
 | od _ _=>cases e
 | ot _ _=>cases e
 | bo es =>
  unfold Sl.it at e;dsimp only at e;split at e
  ·next hm=>cases e;refine .inl (ha B H0 H σ E _ _ I e1 fun x H1 H1' s1 r1=>?_);obtain⟨l,xs,rfl,h,r⟩:=r1;refine⟨l,rfl,⟨xs,.of h⟩,q _ _ _ s1 ?_⟩;rw[if_pos hm];exact Vs (fun H0' H' st=>.of (st.b _ _ h)) r
  ·cases e
 | own es=>cases (show some es=some ds from e);refine .inl (ha B H0 H σ E _ _ I e1 fun x H1 H1' s1 r1=>?_);have f:=JP (Hs:=H) s1.i;have r2:=RR.frz s1.i r1 rfl;obtain⟨l,xs,rfl,h,r⟩:=RD.lstI r2;exact⟨l,rfl,⟨xs,.of (f.i _ _ h)⟩,q _ _ _ (s1.comp f fun _ z=>z) (Vs (fun H0' H' st=>.of (st.i _ _ (st.z _ _ h))) r)⟩
 | sh d =>
  cases d with
  | lst es=>cases (show some es=some ds from e);refine .inl (ha B H0 H σ E _ _ I e1 fun x H1 H1' s1 r1=>?_);obtain⟨l,xs,rfl,h,r⟩:=RD.lstI r1;exact⟨l,rfl,⟨xs,.of (s1.i _ _ h)⟩,q _ _ _ s1 (Vs (fun H0' H' st=>.of (st.i _ _ (st.z _ _ h))) r)⟩
  | fz es=>cases (show some es=some ds from e);refine .inl (ha B H0 H σ E _ _ I e1 fun x H1 H1' s1 r1=>?_);obtain⟨l,xs,rfl,h,r⟩:=RD.fzI r1;exact⟨l,rfl,⟨xs,s1.i.seq h⟩,q _ _ _ s1 (Vs (fun H0' H' st=>(st.z.trans st.i).seq h) r)⟩
  | tup es=>cases (show some es=some ds from e);refine .inr (ha B H0 H σ E _ _ I e1 fun x H1 H1' s1 r1=>?_);obtain⟨l,xs,rfl,h,r⟩:=RD.tupI r1;exact⟨l,rfl,⟨xs,s1.i.seqT h⟩,q _ _ _ s1 (JkR (fun H0' H' st=>(st.z.trans st.i).seqT h) r)⟩
  | _=>cases (show none=some ds from e)
theorem JnS(i:Nat):SI K C false (JeY K (Zh i)) (iV i):=by
 intro B H0 H σ E ds R I e q;unfold iV at e;split at e
 ·next es h =>
  cases e;rcases I.at' i _ h with z|⟨v,h1,h2⟩
  ·cases z
  ·obtain⟨l,xs,rfl,hl,r⟩:=h2;refine .inl ⟨_,h1,l,rfl,⟨xs,.of (I.b _ _ hl)⟩,q _ _ _ (.refl I.h) (Vs (fun H0' H' st=>.of (st.b _ _ hl)) r)⟩
 ·next d h=>refine Wk (m:=false) (ea:=Jd i) (Jb i) B H0 H σ E ds R I ?_ q;show(Jd i E).bind _=_;unfold Jd;rw[h];exact e
 ·cases e
theorem Jjo{lo:Int}{n i:Nat}{d:D}(e:(rng lo n)[i]?=some d):i<n/\d=.int (lo+(i:Int)):=by
 unfold rng at e;rw[List.getElem?_map] at e
 cases h:(List.range n)[i]? with
 | none=>rw[h] at e;cases e
 | some j=>rw[h] at e;cases e;obtain⟨h1,h2⟩:=List.getElem?_eq_some_iff.mp h;simp at h1 h2;subst h2;exact⟨h1,rfl⟩
theorem JkQ{A H0:Hp}{lo:Int}{n:Nat}:JhS K C A (Itr lo n) (rng lo n) H0:=by intro H0' H' st;refine⟨fun i d e=>?_,by show n<=_;simp[rng]⟩;obtain⟨h1,rfl⟩:=Jjo e;refine⟨h1,fun x H2 ⟨e1,e2⟩=>?_⟩;subst e1 e2;exact⟨H0',.refl st.i,.int _⟩
theorem JdC{a:Int}(h:Jgn a=true):-(2 ^ 62)<=a/\a<2 ^ 62:=by unfold Jgn at h;rw[Nat.ble_eq] at h;omega
theorem Jj3{t:TA}{ev:En->Option (List Sl)}(ha:SA K C t ev):SI K C m (JjT t) (iR1 ev):=by
 intro B H0 H σ E ds R I e q;obtain⟨ss,e1,e⟩:=bind_some e;split at e
 ·split at e
  ·next hn =>
   cases e;refine ha B H0 H σ E _ _ I e1 fun vs H1 H1' s1 r1=>?_
   obtain⟨v,rfl,r⟩:=r1.one;rw[RD.intI r];exact⟨_,rfl,(JdC hn).1,(JdC hn).2,q _ _ _ s1 JkQ⟩
  ·cases e
 ·cases e
end

noncomputable def yes?:En->Option Bool:=fun _=>some true
noncomputable def Vr(imp:List (Option Nat))(E:En):En:=imp.map fun o=>match o with
 | none=>.no
 | some k=>match E[k]? with
  | some (.own ds)=>.bo ds
  | some (.od ks ds)=>.bd ks ds
  | some (.ot ks ds)=>.bt ks ds
  | some s=>s
  | none=>.no
noncomputable def Y2(p:Pt)(c:En->Option Bool)(a:Ev)(E1:En):List D->Option (List D)
 | []=>some []
 | d::ds=>(p.bind d E1).bind fun E2=>(c E2).bind fun k=>if k=true then(a E2).bind fun s=>s.frz.bind fun y=>(Y2 p c a E1 ds).bind fun ys=>some (y::ys) else Y2 p c a E1 ds
noncomputable def Yu(it:En->Option (List D))(p:Pt)(c:En->Option Bool)(a:Ev)(imp:List (Option Nat)):Ev:=fun E=>(it E).bind fun ds=>if ds.length<=sizeLine then(Y2 p c a (Vr imp E) ds).map .own else none
section
variable{K:Frag}{C:Addr}
theorem YU:ST K C Jmo yes?:=fun _ _ _ _ _ _ _ I e q=>by cases e;exact q _ _ (.refl I.h)
theorem Jib{B H0 H:Hp}{σ:St}{E:En}{imp:List (Option Nat)}(I:EnvR K C B H0 H σ E):EnvR K C H H0 H (WJ imp σ) (Vr imp E):=by
 have get:∀(i:Nat) (s:Sl),(Vr imp E)[i]?=some s->s=.no\/∃v,(WJ imp σ)[i]?=some (some v)/\RSl K C H H0 H v s/\JV s=false:=fun i s e=>by
  unfold Vr at e;unfold WJ;rw[List.getElem?_map] at e ⊢
  cases h:imp[i]? with
  | none=>rw[h] at e;cases e
  | some o =>
   rw[h] at e
   cases o with
   | none=>cases e;exact .inl rfl
   | some k =>
    have e':(match E[k]? with|some (.own ds)=>Sl.bo ds|some (.od ks ds)=>Sl.bd ks ds|some (.ot ks ds)=>Sl.bt ks ds|some s=>s|none=>.no)=s:=Option.some.inj e
    cases hE:E[k]? with
    | none=>rw[hE] at e';exact .inl e'.symm
    | some s' =>
     rw[hE] at e';rcases I.at' k s' hE with z|⟨v,h1,h2⟩
     ·subst z;exact .inl e'.symm
     ·have g:(σ[k]?).join=some v:=by rw[h1];rfl
      cases s' with
      | no=>exact .inl e'.symm
      | sh d=>dsimp only at e';subst e';exact .inr ⟨v,by show some ((σ[k]?).join)=_;rw[g],h2,rfl⟩
      | bo ds=>dsimp only at e';subst e';obtain⟨l,xs,q1,q2,q3⟩:=h2;exact .inr ⟨v,by show some ((σ[k]?).join)=_;rw[g],⟨l,xs,q1,I.b _ _ q2,q3⟩,rfl⟩
      | own ds=>dsimp only at e';subst e';obtain⟨l,xs,q1,q2,_,_,q3⟩:=h2;exact .inr ⟨v,by show some ((σ[k]?).join)=_;rw[g],⟨l,xs,q1,q2,q3⟩,rfl⟩
      | bd ks ds=>dsimp only at e';subst e';obtain⟨l,xs,q1,q2,q3⟩:=h2;exact .inr ⟨v,by show some ((σ[k]?).join)=_;rw[g],⟨l,xs,q1,I.b _ _ q2,q3⟩,rfl⟩
      | bt ks ds=>dsimp only at e';subst e';obtain⟨l,xs,q1,q2,q3⟩:=h2;exact .inr ⟨v,by show some ((σ[k]?).join)=_;rw[g],⟨l,xs,q1,I.b _ _ q2,q3⟩,rfl⟩
      | od ks ds=>dsimp only at e';subst e';obtain⟨l,xs,q1,q2,_,_,q3⟩:=h2;exact .inr ⟨v,by show some ((σ[k]?).join)=_;rw[g],⟨l,xs,q1,q2,q3⟩,rfl⟩
      | ot ks ds=>dsimp only at e';subst e';obtain⟨l,xs,q1,q2,_,_,q3⟩:=h2;exact .inr ⟨v,by show some ((σ[k]?).join)=_;rw[g],⟨l,xs,q1,q2,q3⟩,rfl⟩
 refine⟨Same.refl _,I.h,by simp[WJ,Vr],fun i s e=>?_,fun i j s t v hij e1 e2 o1 o2=>?_⟩
 ·rcases get i s e with z|⟨v,h1,h2,_⟩
  ·exact .inl z
  ·exact .inr ⟨v,h1,h2⟩
 ·rcases get i _ e1 with z|⟨v,h1,h2,h3⟩
  ·subst z;cases o1
  ·rw[h3] at o1;cases o1
theorem Yg{wi:TI}{g:TG}{tt:TT}{te:TE}{imp:List (Option Nat)}{it:En->Option (List D)}{p:Pt}{c:En->Option Bool}{a:Ev}(hi:SI K C true wi it)(hg:SG K C g p)(hc:ST K C tt c)(ha:SE K C te a)
 (hp:(p.slots.all fun i=>match imp[i]? with|some none=>true|_=>false)=true):SE K C (Jek wi g tt te imp) (Yu it p c a imp):=by
 intro B H0 H σ E r Q I e q;obtain⟨ds,e1,e⟩:=bind_some e;split at e
 ·next hl =>
  obtain⟨es,e2,rfl⟩:=map_some e;refine hi B H0 H σ E ds _ I e1 fun J H1 H1' s1 ok=>?_
  rw[if_pos rfl] at ok;have I1:EnvR K C H1' H1 H1' (WJ imp σ) (Vr imp E):=Jib (I.step s1)
  -- the loop: what was gathered,what comes
  refine⟨fun i m ys σ' H'=>m=ds.length-i/\i<=ds.length/\∃H0' gs rs,EnvR K C H1' H0' H' σ' (Vr imp E)/\Step H1' H1 H1' H0' H'/\RDL K C H0' ys gs/\Y2 p c a (Vr imp E) (ds.drop i)=some rs/\es=gs++rs/\gs.length<=i,
   ⟨ds.length,by simp,Nat.zero_le _,H1,[],es,I1,.refl s1.i,.nil,e2,rfl,Nat.le_refl _⟩,?_⟩
  rintro i m ys σ' H' ⟨rfl,hi',H0',gs,rs,I',st,rys,er,ees,hgl⟩;have stop:=ok H0' H' ⟨st.h,st.z,st.n,st.i⟩
  by_cases hlt:i<ds.length
  ·have hd:ds[i]?=some ds[i]:=by simp[hlt]
   obtain⟨go,yl⟩:=stop.1 i _ hd;refine .inr ⟨go,by rw[rys.1];omega,fun ys' σ2 H2=>∃H02 gs rs,EnvR K C H1' H02 H2 σ2 (Vr imp E)/\Step H1' H1 H1' H02 H2/\RDL K C H02 ys' gs/\Y2 p c a (Vr imp E) (ds.drop (i+1))=some rs/\es=gs++rs/\gs.length<=i+1,
    fun ys' σ2 H2 h=>⟨ds.length-(i+1),by omega,rfl,hlt,h⟩,fun x H2 y=>?_⟩
   obtain⟨H02,st2,rx⟩:=yl x H2 y;rw[List.drop_eq_getElem_cons hlt,Y2] at er;obtain⟨E2,b1,er⟩:=bind_some er;obtain⟨k,b2,er⟩:=bind_some er;refine hg H1' H02 H2 σ' (Vr imp E) E2 x _ _ (I'.step st2) rx b1 fun σ2 I2=>?_
   have back:∀{H03 H3:Hp},EnvR K C H1' H03 H3 σ2 E2->EnvR K C H1' H03 H3 σ2 (Vr imp E):=fun {H03 H3} J=>by
    obtain⟨k1,k2⟩:=Pt.keep b1;refine J.sub k1.symm fun j s ej=>?_
    by_cases hj:j∈p.slots
    ·have:=List.all_eq_true.mp hp j hj
     have ej':=ej;unfold Vr at ej';rw[List.getElem?_map] at ej'
     cases hm:imp[j]? with
     | none=>rw[hm] at this;cases this
     | some o =>
      rw[hm] at this ej'
      cases o with
      | none=>cases ej';exact .inl rfl
      | some _=>cases this
    ·exact .inr (by rw[k2 j hj];exact ej)
   refine hc H1' H02 H2 σ2 E2 k _ I2 b2 fun H03 H3 st3=>?_
   have st13:Step H1' H1 H1' H03 H3:=(st.trans st2).trans st3
   cases k with
   | false=>rw[if_neg (by simp)];rw[if_neg (by simp)] at er;exact⟨H03,gs,rs,back (I2.step st3),st13,rys.mono (st2.z.trans st3.z),er,ees,by omega⟩
   | true =>
    rw[if_pos rfl];rw[if_pos rfl] at er;obtain⟨s,b3,er⟩:=bind_some er;obtain⟨y',b4,er⟩:=bind_some er;obtain⟨ws,b5,er⟩:=bind_some er;cases er;refine ha H1' H03 H3 σ2 E2 s _ (I2.step st3) b3 fun v H04 H4 st4 r4=>?_
    have f:=JP (Hs:=H3) st4.i
    have st5:Step H3 H03 H3 (Yi H3 H04 H4) H4:=st4.comp f fun _ z=>z
    exact⟨_,gs++[y'],ws,back ((I2.step st3).step st5),st13.trans st5,(rys.mono ((st2.z.trans st3.z).trans st5.z)).snoc (RR.frz st4.i r4 b4),b5,by rw[ees,List.append_assoc];rfl,by rw[List.length_append];simp;exact hgl⟩
  ·have e3:i=ds.length:=by omega
   subst e3;refine .inl ⟨stop.2,by rw[rys.1];omega,fun p hp=>?_⟩;rw[List.drop_length,Y2] at er;cases er;rw[List.append_nil] at ees;subst ees;exact UY (Hs:=H) st.i (s1.h.trans st.h) hp rys fun v H2 H2' s2 r2=>q v H2 H2' ((s1.trans st).comp s2 fun _ z=>z) r2
 ·cases e
end
end LE

namespace LE
open PySem L2 LR

inductive Out where
 | nx (E:En)|rt (r:Sl)|bk (E:En)|ct (E:En)
noncomputable abbrev Es:=En->Option Out
section
variable(K:Frag)(C:Addr)
noncomputable def Fin(B H0:Hp)(D:Ends):Out->Prop
 | .nx E=>∀σ' H0' H',SStep B H0 H0' H'->EnvR K C B H0' H' σ' E->D.nx σ' H'
 | .bk E=>∀σ' H0' H',SStep B H0 H0' H'->EnvR K C B H0' H' σ' E->D.bk σ' H'
 | .ct E=>∀σ' H0' H',SStep B H0 H0' H'->EnvR K C B H0' H' σ' E->D.ct σ' H'
 | .rt r=>∀v H0' H',SStep B H0 H0' H'->RR K C B H0' H' v r->D.rt v H'
noncomputable def SS(ts:TS)(ev:Es):Prop:=∀(B H0 H:Hp) (σ:St) (E:En) (o:Out) (D:Ends),EnvR K C B H0 H σ E->ev E=some o->Fin K C B H0 D o->ts D σ H
end
noncomputable def VO:Es:=fun E=>some (.nx E)
noncomputable def JaA(b:Es):Out->Option Out
 | .nx E=>b E
 | .rt r=>some (.rt r)
 | .bk E=>some (.bk E)
 | .ct E=>some (.ct E)
noncomputable def JB(a b:Es):Es:=fun E=>(a E).bind (JaA b)
noncomputable def xIf(c:En->Option Bool)(a b:Es):Es:=fun E=>(c E).bind fun k=>if k=true then a E else b E
noncomputable def keep?:Sl->Option Sl
 | .sh d=>some (.sh d)
 | .own ds=>some (.own ds)
 | .od ks ds=>some (.od ks ds)
 | .ot ks ds=>some (.ot ks ds)
 | _=>none
noncomputable def Jb9(i:Nat)(a:Ev):Es:=fun E=>(a E).bind fun s=>(keep? s).bind fun s=>if i<E.length then some (.nx (E.set i s)) else none
noncomputable def JN(i:Nat)(a:Ev):Es:=fun E=>(a E).bind fun s=>s.frz.bind fun d=>if i<E.length then some (.nx (E.set i (.sh d))) else none
noncomputable def JhL(a:Ev):Es:=fun E=>(a E).map fun _=>.nx E
noncomputable def Y9(a:Ev):Es:=fun E=>(a E).bind fun s=>(keep? s).map .rt
noncomputable def UD(i:Nat):Es:=fun E=>match E[i]? with
 | some (.sh d)=>some (.rt (.sh d))
 | some (.own ds)=>some (.rt (.own ds))
 | some (.od ks ds)=>some (.rt (.od ks ds))
 | _=>none
noncomputable def JhN:Es:=fun _=>none
noncomputable def Jc6(i:Nat)(a:Ev):Es:=fun E=>match E[i]? with
 | some (.own ds)=>(a E).bind fun s=>s.frz.bind fun d=>if ds.length<sizeLine then some (.nx (E.set i (.own (ds++[d])))) else none
 | _=>none
noncomputable def JhM(i:Nat)(a:Ev):Es:=fun E=>match E[i]? with
 | some (.own ds)=>(a E).bind fun s=>s.m.bind fun es=>if ds.length+es.length<=sizeLine then some (.nx (E.set i (.own (ds++es)))) else none
 | _=>none
noncomputable def JjO(i j:Nat)(f:Sl->Option Sl):Es:=fun E=>match E[i]? with
 | some (.own ds)=>(ds[ds.length-1]?).bind fun d=>(f (.sh d)).bind fun s=>(sh? s).bind fun d'=>if j<E.length then some (.nx ((E.set i (.own ds.dropLast)).set j (.sh d'))) else none
 | _=>none
noncomputable def Jc7(f:Int->Int->Int)(i:Nat)(a:Ev):Es:=fun E=>match E[i]? with
 | some (.sh (.int x))=>(a E).bind fun s=>match s with
  | .sh (.int y)=>some (.nx (E.set i (.sh (.int (f x y)))))
  | _=>none
 | _=>none
noncomputable def JkI(i:Nat)(E:En):En:=match E[i]? with
 | some (.own ds)=>E.set i (.sh (.lst ds))
 | some (.od ks ds)=>E.set i (.sh (.dct ks ds))
 | _=>E
noncomputable def U6(p:Pt)(b:Es):List D->Es
 | [],E=>some (.nx E)
 | d::ds,E=>(p.bind d E).bind fun E1=>(b E1).bind fun o=>match o with
  | .nx E2=>U6 p b ds E2
  | .ct E2=>U6 p b ds E2
  | .bk E2=>some (.nx E2)
  | .rt r=>some (.rt r)
noncomputable def Jc8(it:En->Option (List D))(p:Pt)(b:Es):Es:=fun E=>(it E).bind fun ds=>U6 p b ds E
noncomputable def Yp(c:En->Option Bool)(b:Es):Nat->Es
 | 0,_=>none
 | n+1,E=>(c E).bind fun k=>if k=true then(b E).bind fun o=>match o with
  | .nx E2=>Yp c b n E2
  | .ct E2=>Yp c b n E2
  | .bk E2=>some (.nx E2)
  | .rt r=>some (.rt r)
  else some (.nx E)
section
variable{K:Frag}{C:Addr}{B H0 H H0' H':Hp}{σ:St}{E:En}{D:Ends}{o:Out}{te:TE}{ea:Ev}{t u:TS}{et eu:Es}
theorem Fin.step(st:SStep B H0 H0' H')(f:Fin K C B H0 D o):Fin K C B H0' D o:=by
 cases o with
 | nx E=>exact fun σ' H1 H1' s1 I=>f σ' H1 H1' (st.trans s1) I
 | bk E=>exact fun σ' H1 H1' s1 I=>f σ' H1 H1' (st.trans s1) I
 | ct E=>exact fun σ' H1 H1' s1 I=>f σ' H1 H1' (st.trans s1) I
 | rt r=>exact fun v H1 H1' s1 I=>f v H1 H1' (st.trans s1) I
theorem EnvR.ss(I:EnvR K C B H0 H σ E):SStep B H0 H0 H:=.refl I.b I.h
theorem Vh:SS K C Jhu VO:=fun _ _ _ _ _ _ _ I e f=>by cases e;exact f _ _ _ I.ss I
theorem JjP:SS K C Jht JhN:=fun _ _ _ _ _ _ _ _ e _=>by cases e
theorem Jx(ht:SS K C t et)(hu:SS K C u eu):SS K C (Jmm t u) (JB et eu):=by
 intro B H0 H σ E o D I e f;obtain⟨o1,e1,e⟩:=bind_some e;refine ht B H0 H σ E o1 _ I e1 ?_
 cases o1 with
 | nx E1=>exact fun σ1 H1 H1' s1 I1=>hu B H1 H1' σ1 E1 o D I1 e (f.step s1)
 | bk E1=>cases e;exact f
 | ct E1=>cases e;exact f
 | rt r=>cases e;exact f
theorem Jcb{c:TT}{ec:En->Option Bool}(hc:ST K C c ec)(ht:SS K C t et)(hu:SS K C u eu):SS K C (Jmj c t u) (xIf ec et eu):=by
 intro B H0 H σ E o D I e f;obtain⟨k,e1,e⟩:=bind_some e;refine hc B H0 H σ E k _ I e1 fun H1 H1' s1=>?_
 cases k with
 | true=>rw[if_pos rfl];exact ht B H1 H1' σ E o D (I.step s1) e (f.step (s1.ss I.b))
 | false=>rw[if_neg (by simp)];exact hu B H1 H1' σ E o D (I.step s1) e (f.step (s1.ss I.b))
theorem Zx{s r:Sl}(e:keep? s=some r):s=r/\JkP r=false:=by cases s <;> cases e <;> exact⟨rfl,rfl⟩
theorem ZR{i:Nat}(ha:SE K C te ea):SS K C (Jfv te (Vm i)) (Jb9 i ea):=by
 intro B H0 H σ E o D I e f;obtain⟨s,e1,e⟩:=bind_some e;obtain⟨s',e2,e⟩:=bind_some e;obtain⟨rfl,hb⟩:=Zx e2;split at e
 ·cases e;exact ha B H0 H σ E _ _ I e1 fun v H1 H1' s1 r1=>f _ _ _ (s1.ss I.b) (I.put' s1 (by assumption) r1 hb)
 ·cases e
theorem JC{i:Nat}(ha:SE K C te ea):SS K C (Jfv te (Vm i)) (JN i ea):=by
 intro B H0 H σ E o D I e f;obtain⟨s,e1,e⟩:=bind_some e;obtain⟨d,e2,e⟩:=bind_some e;split at e
 ·cases e;refine ha B H0 H σ E _ _ I e1 fun v H1 H1' s1 r1=>?_
  have s2:Step H H0 H (Yi H H1 H1') H1':=s1.comp (JP s1.i) fun _ z=>z
  exact f _ _ _ (s2.ss I.b) ((I.step s2).setSh (by assumption) (RR.frz s1.i r1 e2))
 ·cases e
theorem Jmw(ha:SE K C te ea):SS K C (JbZ te) (JhL ea):=by intro B H0 H σ E o D I e f;obtain⟨s,e1,rfl⟩:=map_some e;exact ha B H0 H σ E _ _ I e1 fun v H1 H1' s1 r1=>f _ _ _ (s1.ss I.b) (I.step s1)
theorem Yq(ha:SE K C te ea):SS K C (JjG te) (Y9 ea):=by intro B H0 H σ E o D I e f;obtain⟨s,e1,e⟩:=bind_some e;obtain⟨s',e2,rfl⟩:=map_some e;obtain⟨rfl,hb⟩:=Zx e2;exact ha B H0 H σ E _ _ I e1 fun v H1 H1' s1 r1=>f _ _ _ (s1.ss I.b) (r1.weak fun a z=>Same.free I.b z)
theorem W5{i:Nat}:SS K C (JjG (Zh i)) (UD i):=by
 intro B H0 H σ E o D I e f;unfold UD at e;split at e
 ·next d h =>
  cases e;rcases I.at' i _ h with z|⟨v,h1,h2⟩
  ·cases z
  ·exact⟨v,h1,f _ _ _ I.ss h2⟩
 ·next d h =>
  cases e;rcases I.at' i _ h with z|⟨v,h1,h2⟩
  ·cases z
  ·exact⟨v,h1,f _ _ _ I.ss h2⟩
 ·next d h =>
  cases e;rcases I.at' i _ h with z|⟨v,h1,h2⟩
  ·cases z
  ·exact⟨v,h1,f _ _ _ I.ss h2⟩
 ·cases e
theorem EnvR.mutG{i:Nat}{l:Addr}{t t':Sl}{o':HO}(I:EnvR K C B H0 H σ E)(e1:E[i]?=some t)(ho:JV t=true)(ho':JV t'=true)(e2:σ[i]?=some (some (.ref l)))(r:RSl K C B H0 (upd H l o') (.ref l) t') :
 EnvR K C B H0 (upd H l o') σ (E.set i t'):=by
 obtain⟨h1,h2,h3⟩:=I.ownG e1 ho e2;have hi:i<E.length:=(List.getElem?_eq_some_iff.mp e1).1;have nb:∀{A:Hp},A l=none->Same A H->Same A (upd H l o'):=fun {A} n s a o e=>by rw[Jh (Js e n)];exact s a o e
 refine⟨nb h3 I.b,nb h2 I.h,by simp[I.len],fun j s e=>?_,fun j k s1 s2 v hjk a1 a2 p1 p2 a3=>?_⟩
 ·rw[List.getElem?_set] at e
  by_cases hj:i=j
  ·subst hj;rw[if_pos rfl,if_pos hi] at e;cases e;exact .inr ⟨_,e2,r⟩
  ·rw[if_neg hj] at e;rcases I.at' j s e with z|⟨v,q1,q2⟩
   ·exact .inl z
   ·refine .inr ⟨v,q1,?_⟩
    cases s with
    | no=>trivial
    | sh d=>exact q2
    | bo es=>exact q2
    | bd ks es=>exact q2
    | bt ks es=>exact q2
    | own es =>
     obtain⟨l',ys,p1,p2,p3,p4,p5⟩:=q2;subst p1;have:l'≠l:=fun z=>by subst z;exact I.sep i j t _ (.ref l') hj e1 e ho rfl e2 q1
     exact⟨l',ys,rfl,by rw[Jh this];exact p2,p3,p4,p5⟩
    | od ks es =>
     obtain⟨l',ys,p1,p2,p3,p4,p5⟩:=q2;subst p1;have:l'≠l:=fun z=>by subst z;exact I.sep i j t _ (.ref l') hj e1 e ho rfl e2 q1
     exact⟨l',ys,rfl,by rw[Jh this];exact p2,p3,p4,p5⟩
    | ot ks es =>
     obtain⟨l',ys,p1,p2,p3,p4,p5⟩:=q2;subst p1;have:l'≠l:=fun z=>by subst z;exact I.sep i j t _ (.ref l') hj e1 e ho rfl e2 q1
     exact⟨l',ys,rfl,by rw[Jh this];exact p2,p3,p4,p5⟩
 ·have own:∀{j:Nat} {u:Sl},(E.set i t')[j]?=some u->JV u=true->∃g,E[j]?=some g/\JV g=true:=fun {j u} a w=>by
   rw[List.getElem?_set] at a
   by_cases hj:i=j
   ·subst hj;exact⟨t,e1,ho⟩
   ·rw[if_neg hj] at a;exact⟨_,a,w⟩
  obtain⟨g1,b1,c1⟩:=own a1 p1;obtain⟨g2,b2,c2⟩:=own a2 p2;exact I.sep j k g1 g2 v hjk b1 b2 c1 c2 a3
theorem EnvR.mut{i:Nat}{l:Addr}{ds ds':List LE.D}{xs xs':List V}(I:EnvR K C B H0 H σ E)(e1:E[i]?=some (.own ds))(e2:σ[i]?=some (some (.ref l)))(r:RDL K C H0 xs' ds') :
 EnvR K C B H0 (upd H l (.lst xs')) σ (E.set i (.own ds')):=by
 obtain⟨_,h2,h3⟩:=I.ownG e1 rfl e2;exact I.mutG (t':=.own ds') e1 rfl rfl e2 ⟨l,xs',rfl,Jo,h2,h3,r⟩
theorem EnvR.slot{i:Nat}{ds:List LE.D}(I:EnvR K C B H0 H σ E)(e1:E[i]?=some (.own ds)):∃l xs,σ[i]?=some (some (.ref l))/\H l=some (.lst xs)/\H0 l=none/\B l=none/\RDL K C H0 xs ds:=by
 rcases I.at' i _ e1 with z|⟨v,h1,l,xs,rfl,h2,h3,h4,h5⟩
 ·cases z
 ·exact⟨l,xs,h1,h2,h3,h4,h5⟩
theorem Jex{i:Nat}(ha:SE K C te ea):SS K C (JbZ (tBM K "list" JdY (Zh i) (VE te JaG))) (Jc6 i ea):=by
 intro B H0 H σ E o D I e f;unfold Jc6 at e;split at e
 ·next ds h =>
  obtain⟨s,e1,e⟩:=bind_some e;obtain⟨d,e2,e⟩:=bind_some e;split at e
  ·next hz =>
   cases e;obtain⟨l,xs,g1,g2,g3,g4,g5⟩:=I.slot h;refine⟨_,g1,.inl ⟨rfl,_,.of g2⟩,?_⟩;refine ha B H0 H σ E _ _ I e1 fun v H1 H1' s1 r1=>?_
   have s2:Step H H0 H (Yi H H1 H1') H1':=s1.comp (JP s1.i) fun _ z=>z
   have I2:=I.step s2
   have m:=I2.mut (xs:=xs) h g1 ((g5.mono s2.z).snoc (RR.frz s1.i r1 e2));exact⟨l,xs,v,rfl,rfl,s2.h _ _ g2,by rw[g5.1];exact hz,f _ _ _ ⟨m.b,s2.z,(s2.ss I.b).n,m.h⟩ m⟩
  ·cases e
 ·cases e
theorem Jnw{i:Nat}(ha:SE K C te ea):SS K C (JbZ (tBM K "list" Jd0 (Zh i) (VE te JaG))) (JhM i ea):=by
 intro B H0 H σ E o D I e f;unfold JhM at e;split at e
 ·next ds h =>
  obtain⟨s,e1,e⟩:=bind_some e;obtain⟨es,e2,e⟩:=bind_some e;split at e
  ·next hz =>
   cases e;obtain⟨l,xs,g1,g2,g3,g4,g5⟩:=I.slot h;refine⟨_,g1,.inl ⟨rfl,_,.of g2⟩,?_⟩;refine ha B H0 H σ E _ _ I e1 fun v H1 H1' s1 r1=>?_
   have I2:=I.step s1;obtain⟨l',ys,rfl,k1,k2⟩:=r1.m s1.i e2
   have m:=I2.mut (xs:=xs) h g1 ((g5.mono s1.z).append k2);exact⟨l,l',xs,ys,rfl,rfl,s1.h _ _ g2,k1,by rw[g5.1,k2.1];exact hz,f _ _ _ ⟨m.b,s1.z,(s1.ss I.b).n,m.h⟩ m⟩
  ·cases e
 ·cases e
theorem Jnx{i j:Nat}:SS K C (Jfv (Jmh K "list" Jnc (Zh i)) (Vm j)) (JjO i j some):=by
 intro B H0 H σ E o D I e f;unfold JjO at e;split at e
 ·next ds h =>
  obtain⟨d,e1,e⟩:=bind_some e;obtain⟨s,e2,e⟩:=bind_some e;cases e2;obtain⟨d',e3,e⟩:=bind_some e;cases e3;split at e
  ·next hj =>
   cases e;obtain⟨l,xs,g1,g2,g3,g4,g5⟩:=I.slot h;rw[<- g5.1] at e1;obtain⟨y,e4,r4⟩:=g5.get e1;have hd:RDL K C H0 xs.dropLast ds.dropLast:=by rw[List.dropLast_eq_take,List.dropLast_eq_take,g5.1];exact g5.take _
   have m:=I.mut (xs:=xs) h g1 hd;refine⟨_,g1,.inl ⟨rfl,_,.of g2⟩,l,xs,y,rfl,rfl,g2,e4,?_⟩;exact f _ _ _ ⟨m.b,Same.refl _,fun _ _ e=>.inl e,m.h⟩ (m.setSh (by simpa using hj) r4)
  ·cases e
 ·cases e
theorem Jka{i:Nat}{g:Int->Int->Int}(ha:SE K C te ea):SS K C (Jnr i te (ipI g)) (Jc7 g i ea):=by
 intro B H0 H σ E o D I e f;unfold Jc7 at e;split at e
 ·next x h =>
  obtain⟨s,e1,e⟩:=bind_some e;split at e
  ·cases e;rcases I.at' i _ h with z|⟨v,h1,h2⟩
   ·cases z
   ·have hi:i<E.length:=(List.getElem?_eq_some_iff.mp h).1;refine⟨v,h1,ha B H0 H σ E _ _ I e1 fun w H1 H1' s1 r1=>⟨_,_,RD.intI h2,RD.intI r1,f _ _ _ (s1.ss I.b) ((I.step s1).setSh hi (.int _))⟩⟩
  ·cases e
 ·cases e
theorem EnvR.slotD{i:Nat}{ks:List Int}{ds:List LE.D}(I:EnvR K C B H0 H σ E)(e1:E[i]?=some (.od ks ds)):∃l xs,σ[i]?=some (some (.ref l))/\H l=some (dkO ks xs)/\H0 l=none/\B l=none/\ks.length=ds.length/\RDL K C H0 xs ds:=by
 rcases I.at' i _ e1 with z|⟨v,h1,l,xs,rfl,h2,h3,h4,h5⟩
 ·cases z
 ·exact⟨l,xs,h1,h2,h3,h4,h5⟩
theorem EnvR.frzG(I:EnvR K C B H0 H σ E){i:Nat}{t:Sl}{l:Addr}{o:HO}{d:LE.D}(h:E[i]?=some t)(ho:JV t=true)(g1:σ[i]?=some (some (.ref l)))(g2:H l=some o)(g5:∀H1,Same H0 H1->H1 l=some o->RD K C H1 (.ref l) d):∃H0',SStep B H0 H0' H/\EnvR K C B H0' H σ (E.set i (.sh d)):=by
 obtain⟨_,g3,g4⟩:=I.ownG h ho g1;have hi:i<E.length:=(List.getElem?_eq_some_iff.mp h).1;have s0:Same H0 (upd H0 l o):=.new g3
 have s1:Same (upd H0 l o) H:=fun a o e=>by
  by_cases ha:a=l
  ·subst ha;rw[Jo] at e;cases e;exact g2
  ·rw[Jh ha] at e;exact I.h a o e
 refine⟨upd H0 l o,⟨I.b,s0,fun a o e=>?_,s1⟩,I.b,s1,by simp[I.len],fun j s e=>?_,fun j k u1 u2 v hjk a1 a2 w1 w2 a3=>?_⟩
 ·by_cases ha:a=l
  ·subst ha;exact .inr (.inl g4)
  ·rw[Jh ha] at e;exact .inl e
 ·rw[List.getElem?_set] at e
  by_cases hj:i=j
  ·subst hj;rw[if_pos rfl,if_pos hi] at e;cases e;exact .inr ⟨_,g1,g5 _ s0 Jo⟩
  ·rw[if_neg hj] at e;rcases I.at' j s e with z|⟨v,q1,q2⟩
   ·exact .inl z
   ·refine .inr ⟨v,q1,?_⟩
    cases s with
    | no=>trivial
    | sh d=>exact RD.mono s0 q2
    | bo es=>obtain⟨l',ys,p1,p2,p3⟩:=q2;exact⟨l',ys,p1,p2,p3.mono s0⟩
    | bd ks es=>obtain⟨l',ys,p1,p2,hk,p3⟩:=q2;exact⟨l',ys,p1,p2,hk,p3.mono s0⟩
    | bt ks es=>obtain⟨l',ys,p1,p2,hk,p3⟩:=q2;exact⟨l',ys,p1,p2,hk,p3.mono s0⟩
    | own es =>
     obtain⟨l',ys,p1,p2,p3,p4,p5⟩:=q2;subst p1;have:l'≠l:=fun z=>by subst z;exact I.sep i j t _ (.ref l') hj h e ho rfl g1 q1
     exact⟨l',ys,rfl,p2,by rw[Jh this];exact p3,p4,p5.mono s0⟩
    | od ks es =>
     obtain⟨l',ys,p1,p2,p3,p4,hk,p5⟩:=q2;subst p1;have:l'≠l:=fun z=>by subst z;exact I.sep i j t _ (.ref l') hj h e ho rfl g1 q1
     exact⟨l',ys,rfl,p2,by rw[Jh this];exact p3,p4,hk,p5.mono s0⟩
    | ot ks es =>
     obtain⟨l',ys,p1,p2,p3,p4,hk,p5⟩:=q2;subst p1;have:l'≠l:=fun z=>by subst z;exact I.sep i j t _ (.ref l') hj h e ho rfl g1 q1
     exact⟨l',ys,rfl,p2,by rw[Jh this];exact p3,p4,hk,p5.mono s0⟩
 ·have own:∀{j:Nat} {u:Sl},(E.set i (.sh d))[j]?=some u->JV u=true->E[j]?=some u:=fun {j u} a w=>by
   rw[List.getElem?_set] at a
   by_cases hj:i=j
   ·subst hj;rw[if_pos rfl,if_pos hi] at a;cases a;cases w
   ·rw[if_neg hj] at a;exact a
  exact I.sep j k u1 u2 v hjk (own a1 w1) (own a2 w2) w1 w2 a3
theorem EnvR.frz(I:EnvR K C B H0 H σ E)(i:Nat):∃H0',SStep B H0 H0' H/\EnvR K C B H0' H σ (JkI i E):=by
 unfold JkI;split
 ·next ds h=>obtain⟨l,xs,g1,g2,g3,g4,g5⟩:=I.slot h;exact I.frzG h rfl g1 g2 fun H1 s0 hl=>.mkL hl (g5.mono s0)
 ·next ks ds h=>obtain⟨l,xs,g1,g2,g3,g4,hk,g5⟩:=I.slotD h;exact I.frzG h rfl g1 g2 fun H1 s0 hl=>.mkD hl hk (g5.mono s0)
 ·exact⟨H0,I.ss,I⟩
theorem Jca{wi:TI}{g:TG}{it:En->Option (List LE.D)}{p:Pt}(hi:SI K C false wi it)(hg:SG K C g p)(ht:SS K C t et):SS K C (Jmi wi g t) (Jc8 it p et):=by
 intro B H0 H σ E o D I e f;obtain⟨ds,e1,e⟩:=bind_some e;refine hi B H0 H σ E ds _ I e1 fun J H1 H1' s1 ok=>?_
 rw[if_neg (by simp)] at ok;refine⟨fun i m σ' H'=>m=ds.length-i/\i<=ds.length/\∃H0' E',EnvR K C B H0' H' σ' E'/\SStep B H1 H0' H'/\U6 p et (ds.drop i) E'=some o,
  ⟨ds.length,by simp,Nat.zero_le _,H1,E,I.step s1,.refl (I.b.trans s1.h) s1.i,e⟩,?_⟩
 rintro i m σ' H' ⟨rfl,hi',H0',E',I',st,er⟩;have stop:=ok H0' H' st;have f':Fin K C B H0' D o:=(f.step (s1.ss I.b)).step st
 by_cases hlt:i<ds.length
 ·have hd:ds[i]?=some ds[i]:=by simp[hlt]
  obtain⟨go,yl⟩:=stop.1 i _ hd;refine .inr ⟨go,fun σ2 H2=>∃H02 E2,EnvR K C B H02 H2 σ2 E2/\SStep B H1 H02 H2/\U6 p et (ds.drop (i+1)) E2=some o,fun σ2 H2 h=>⟨ds.length-(i+1),by omega,rfl,hlt,h⟩,fun x H2 y=>?_⟩;obtain⟨H02,st2,rx⟩:=yl x H2 y;rw[List.drop_eq_getElem_cons hlt,U6] at er;obtain⟨E1,b1,er⟩:=bind_some er;obtain⟨o1,b2,er⟩:=bind_some er;have ss2:SStep B H0' H02 H2:=st2.ss I'.b;refine hg B H02 H2 σ' E' E1 x _ _ (I'.step st2) rx b1 fun σ2 I2=>?_
  refine ht B H02 H2 σ2 E1 o1 _ I2 b2 ?_
  cases o1 with
  | nx E2=>exact fun σ3 H3 H3' s3 I3=>⟨H3,E2,I3,(st.trans ss2).trans s3,er⟩
  | ct E2=>exact fun σ3 H3 H3' s3 I3=>⟨H3,E2,I3,(st.trans ss2).trans s3,er⟩
  | bk E2=>cases er;exact f'.step ss2
  | rt r=>cases er;exact f'.step ss2
 ·have e3:i=ds.length:=by omega
  subst e3;rw[List.drop_length,U6] at er;cases er;exact .inl ⟨stop.2,f' _ _ _ I'.ss I'⟩
theorem Jey{c:TT}{ec:En->Option Bool}{n:Nat}(hc:ST K C c ec)(ht:SS K C t et):SS K C (Jhx c t) (Yp ec et n):=by
 intro B H0 H σ E o D I e f;refine⟨fun m σ' H'=>∃H0' E',EnvR K C B H0' H' σ' E'/\SStep B H0 H0' H'/\Yp ec et m E'=some o,⟨n,H0,E,I,I.ss,e⟩,?_⟩;rintro m σ' H' ⟨H0',E',I',st,er⟩
 cases m with
 | zero=>cases er
 | succ m =>
  rw[Yp] at er;obtain⟨k,b1,er⟩:=bind_some er;refine hc B H0' H' σ' E' k _ I' b1 fun H1 H1' s1=>?_
  have f':Fin K C B H1 D o:=(f.step st).step (s1.ss I'.b)
  cases k with
  | false=>rw[if_neg (by simp)] at er ⊢;cases er;exact f' _ _ _ (I'.step s1).ss (I'.step s1)
  | true =>
   rw[if_pos rfl] at er ⊢;obtain⟨o1,b2,er⟩:=bind_some er;refine⟨fun σ2 H2=>∃H02 E2,EnvR K C B H02 H2 σ2 E2/\SStep B H0 H02 H2/\Yp ec et m E2=some o,fun σ2 H2 h=>⟨m,Nat.lt_succ_self _,h⟩,?_⟩;have st1:=st.trans (s1.ss I'.b);refine ht B H1 H1' σ' E' o1 _ (I'.step s1) b2 ?_
   cases o1 with
   | nx E2=>exact fun σ3 H3 H3' s3 I3=>⟨H3,E2,I3,st1.trans s3,er⟩
   | ct E2=>exact fun σ3 H3 H3' s3 I3=>⟨H3,E2,I3,st1.trans s3,er⟩
   | bk E2=>cases er;exact f'
   | rt r=>cases er;exact f'
end

noncomputable def Jco:Out->Option Sl
 | .nx _=>some (.sh .non)
 | .rt r=>some r
 | .bk _=>none
 | .ct _=>none
noncomputable def YS(N:Nat)(b:Es):List Sl->Option Sl:=fun as=>(b (as++List.replicate (N-as.length) .no)).bind Jco
section
variable{K:Frag}{C:Addr}
theorem RRL.get{Hs H0 H:Hp}:∀{vs:List V} {ss:List Sl} {i:Nat} {s:Sl},RRL K C Hs H0 H vs ss->ss[i]?=some s->∃v,vs[i]?=some v/\RR K C Hs H0 H v s
 | _,_,_,_,.nil,e=>by simp at e
 | _,_,0,_,.cons h _,e=>by simp at e;subst e;exact⟨_,rfl,h⟩
 | _,_,i+1,s,.cons _ t,e=>by obtain⟨v,h1,h2⟩:=RRL.get (i:=i) (s:=s) t (by simpa using e);exact⟨v,by simpa using h1,h2⟩
theorem JD{N:List Str}{n:Nat}{b:Es}{ts:TS}{vs:List V}{H:Hp}{Q:VK}{E:XK}(hb:SS K C ts b)(h:spE K C n (YS N.length b) vs H Q E):ts { nx:=fun _ H'=>Q .non H',rt:=Q } (L2.UC N vs) H:=by
 obtain⟨H0,as,r,i,ra,ho,hl,e,q⟩:=h;have lens:=ra.len
 have noOwn:∀(j:Nat) (s:Sl),as[j]?=some s->JV s=false:=fun j s e=>by
  have:=List.all_eq_true.mp ho s (List.mem_of_getElem? e)
  simpa using this
 have get:∀(j:Nat) (s:Sl),(as++List.replicate (N.length-as.length) Sl.no)[j]?=some s->s=.no\/as[j]?=some s:=fun j s e=>by
  by_cases hj:j<as.length
  ·rw[List.getElem?_append_left hj] at e;exact .inr e
  ·rw[List.getElem?_append_right (by omega),List.getElem?_replicate] at e;split at e
   ·cases e;exact .inl rfl
   ·cases e
 have I:EnvR K C H H0 H (L2.UC N vs) (as++List.replicate (N.length-as.length) .no):=by
  refine⟨Same.refl _,i,by simp[L2.UC,lens],fun j s e=>?_,fun j k s1 s2 v hjk e1 e2 w1 w2=>?_⟩
  ·rcases get j s e with z|z
   ·exact .inl z
   ·obtain⟨v,h1,h2⟩:=ra.get z;refine .inr ⟨v,?_,?_⟩
    ·unfold L2.UC;rw[List.getElem?_append_left (by have:=(List.getElem?_eq_some_iff.mp h1).1;simpa using this),List.getElem?_map,h1];rfl
    ·cases s with
     | no=>trivial
     | sh d=>exact h2
     | bo ds=>exact h2
     | own ds=>exact absurd (noOwn j _ z) (by simp[JV])
     | bd ks ds=>exact h2
     | bt ks ds=>exact h2
     | od ks ds=>exact absurd (noOwn j _ z) (by simp[JV])
     | ot ks ds=>exact absurd (noOwn j _ z) (by simp[JV])
  ·rcases get j _ e1 with z|z
   ·subst z;cases w1
   ·rw[noOwn j _ z] at w1;cases w1
 obtain⟨o,e1,e⟩:=bind_some e;refine hb H H0 H _ _ o _ I e1 ?_
 cases o with
 | nx E1=>cases e;exact fun σ' H1 H1' s1 I1=>q _ H1 H1' ⟨s1.b,s1.z,s1.n,s1.i⟩ RD.non
 | rt r'=>cases e;exact fun v H1 H1' s1 r1=>q v H1 H1' ⟨s1.b,s1.z,s1.n,s1.i⟩ r1
 | bk _=>cases e
 | ct _=>cases e
theorem JiI{P:Program}{w:World}{mg:Str->Option Value}{base:Heap}{k:Nat}{f:Addr}{fd:FuncData}{ps:List Str}{ev:List Sl->Option Sl}(F:FnOk P w K mg base CX0 k f fd ps (spE K C 1 ev))
 (h:∀ns:List Int,ns.length<=63->ev [.sh (.fz (ns.map .int))]=some (.sh (.bl true))):FnOk P w K mg base CX0 k f fd ps (Jed K) :=
 F.imp fun vs H Q E ⟨a,ns,e,hS,hl,q⟩=>by subst e;exact⟨H,[.sh (.fz (ns.map .int))],_,Same.refl _,.cons (show RD K C H _ _ from RD.mkF hS (RDL.ofInts ns)) .nil,rfl,rfl,h ns hl,fun v H0' H' _ r=>by rw[RD.blI r];exact q H'⟩
structure RowK (K:Frag) (C:Addr):Prop where
 t:RowC K C
 k1:findIn K (.ref C) "__class__"=some (some (.builtin "object.__class__"))
 k2:specialIn K (.builtin "object.__class__") "__get__"=some (some (.builtin "getset_descriptor.__get__"))
 k3:takesIn K (.builtin "object.__class__")=some true
 k4:mroIn K C (.type "object")=some true
end
end LE

namespace L2
open PySem PySem.Spec PyProof.Rows
end L2
namespace LE
open PySem L2 LR
noncomputable def JkK(a:Int):Bool:=Nat.ble a.natAbs 1152921504606846975
theorem in60_ok{a:Int}:JkK a=true↔-1152921504606846976<a/\a<1152921504606846976:=by unfold JkK;rw[Nat.ble_eq];omega
section
variable{K:Frag}{C:Addr}{m:Bool}
theorem RRL.three{Hs H0 H:Hp}{vs:List V}{s t u:Sl}(r:RRL K C Hs H0 H vs [s,t,u]):∃v w x,vs=[v,w,x]/\RR K C Hs H0 H v s/\RR K C Hs H0 H w t/\RR K C Hs H0 H x u:=by
 cases r with
 | cons h r=>cases r with
  | cons h' r=>cases r with
   | cons h'' r=>cases r;exact⟨_,_,_,rfl,h,h',h''⟩
noncomputable def str?:Sl->Option Str
 | .sh (.str z)=>some z
 | _=>none
end
end LE

namespace LE
open PySem L2 LR
noncomputable def okS(P:En->Prop):Option Out->Prop
 | some (.nx E)=>P E
 | some (.ct E)=>P E
 | _=>False
theorem Jlh{P:En->Prop}{E:En}:okS P (some (.nx E))=P E:=rfl
theorem Jlg{P:En->Prop}{E:En}:okS P (some (.ct E))=P E:=rfl
theorem Jbq{P:En->Prop}{o:Option Out}(h:okS P o):∃E,(o=some (.nx E)\/o=some (.ct E))/\P E:=by
 unfold okS at h;split at h
 ·exact⟨_,.inl rfl,h⟩
 ·exact⟨_,.inr rfl,h⟩
 ·exact h.elim
theorem Uj{γ α β:Type}{p:Pt}{b:Es}{f:α->D}{k:Out->Option γ}{r:Option γ}(R:List α->β->En->Prop)(g:β->α->β):∀{as:List α} {E:En} (s:β) (h0:R as s E)
 (h:∀a as s E,R (a::as) s E->okS (R as (g s a)) ((p.bind (f a) E).bind b)) (fin:∀E',R [] (as.foldl g s) E'->k (.nx E')=r),(U6 p b (as.map f) E).bind k=r
 | [],E,s,h0,_,fin=>fin E h0
 | a::as,E,s,h0,h,fin=>by
  obtain⟨E2,e2,r2⟩:=Jbq (h a as s E h0);have ih:=Uj (k:=k) (r:=r) R g (as:=as) (E:=E2) (g s a) r2 h fin;rw[List.map_cons,U6]
  cases hp:p.bind (f a) E with
  | none=>rw[hp] at e2;rcases e2 with e2|e2 <;> cases e2
  | some E1=>rw[hp,Option.bind_some] at e2;rw[Option.bind_some];rcases e2 with e2|e2 <;> (rw[e2,Option.bind_some];exact ih)
theorem Jgw{γ:Type}{p:Pt}{b:Es}{f:Nat->D}{n:Nat}{E:En}{k:Out->Option γ}{r:Option γ}(R:Nat->En->Prop)(h0:R 0 E)
 (h:∀i E,i<n->R i E->okS (R (i+1)) ((p.bind (f i) E).bind b)) (fin:∀E',R n E'->k (.nx E')=r):(U6 p b ((List.range n).map f) E).bind k=r:=by
 refine Uj (fun(as:List Nat) (i:Nat) E=>i+as.length=n/\as=List.range' i as.length/\R i E) (fun i _=>i+1) 0 ⟨by simp,by simp[List.range_eq_range'],h0⟩ (fun a as i E ⟨hk,e,q⟩=>?_) fun E' ⟨hk,_,q⟩=>?_
 ·rw[List.length_cons,List.range'_succ] at e;have e1:a=i:=(List.cons.inj e).1;subst e1;obtain⟨E2,e2,r2⟩:=Jbq (h a E (by rw[List.length_cons] at hk;omega) q);have fin2:(a+1)+as.length=n/\as=List.range' (a+1) as.length/\R (a+1) E2:=⟨by rw[List.length_cons] at hk;omega,(List.cons.inj e).2,r2⟩
  rcases e2 with e2|e2 <;> (rw[e2];exact fin2)
 ·have e3:(List.range n).foldl (fun i _=>i+1) 0=n:=by simpa using hk
  rw[e3] at q;exact fin E' q
theorem JJ{α:Type}{p:Pt}{a:Ev}{E1:En}{f g:α->D}:∀{xs:List α},(∀x∈xs,((p.bind (f x) E1).bind a).bind Sl.frz=some (g x))->Y2 p yes? a E1 (xs.map f)=some (xs.map g)
 | [],_=>rfl
 | x::xs,h=>by have h1:=h x List.mem_cons_self;obtain⟨s,e1,e2⟩:=bind_some h1;obtain⟨E2,e3,e4⟩:=bind_some e1;rw[List.map_cons,Y2,e3];simp only[Option.bind_some,yes?,if_true,e4,e2];rw[JJ fun y hy=>h y (List.mem_cons_of_mem _ hy)];rfl
theorem Jdp{α:Type}{p:Pt}{c:En->Option Bool}{a:Ev}{E1:En}{f g:α->D}{k:α->Bool}:∀{xs:List α},(∀x∈xs,(p.bind (f x) E1).bind c=some (k x)/\(k x=true->((p.bind (f x) E1).bind a).bind Sl.frz=some (g x)))->Y2 p c a E1 (xs.map f)=some ((xs.filter k).map g)
 | [],_=>rfl
 | x::xs,h=>by
  obtain⟨h1,h2⟩:=h x List.mem_cons_self;obtain⟨E2,e3,e4⟩:=bind_some h1;have ih:=Jdp (xs:=xs) (fun y hy=>h y (List.mem_cons_of_mem _ hy));rw[List.map_cons,Y2,e3];simp only[Option.bind_some,e4]
  cases hk:k x with
  | false=>rw[if_neg (by simp),ih,List.filter_cons_of_neg (by simp[hk])]
  | true=>obtain⟨s,e1,e2⟩:=bind_some (h2 hk);rw[e3,Option.bind_some] at e1;rw[if_pos rfl,e1];simp only[Option.bind_some,e2];rw[ih,List.filter_cons_of_pos hk];rfl
theorem Jnn(n:Nat):rng 0 n=(List.range n).map fun i=>.int (i:Int):=by unfold rng;exact List.map_congr_left fun i _=>by rw[Int.zero_add]
theorem Jeb:sizeLine=16777216:=rfl
theorem ZW{α β:Type}(f:α->β)(xs:List α)(i:Int):atI (xs.map f) i=(atI xs i).map f:=by
 unfold atI;rw[List.length_map]
 cases ixN xs.length i with
 | none=>rfl
 | some j=>simp
theorem JaS{α:Type}{xs:List α}{k:Nat}(h:k<xs.length):atI xs (k:Int)=some xs[k]:=by unfold atI ixN;rw[if_pos (by omega),if_pos (by omega)];simp[h]
theorem JaR{ns:List Int}{k:Int}(h0:0<=k)(h:k<(ns.length:Int)):atI ns k=some (cell ns k):=by
 obtain⟨j,rfl⟩:=Int.eq_ofNat_of_zero_le h0;have hj:j<ns.length:=by omega
 rw[JaS hj];simp[cell,hj]
theorem JaT{l:List Int}{k:Int}(h0:0<=k)(h1:k<(l.length:Int)):atI (l.map D.int) k=some (.int (JbD l k)):=by rw[ZW,JaR h0 h1];rfl
structure Kd {α:Type} (f:α->D) (n:Nat):Prop where
 lay:∀a,(f a).py.canLay0=true
 dep:∀a,(f a).py.depth<=n
 eqv:∀a b,PyData.eqv (f a).py (f b).py=true↔a=b
theorem Kd.eq{α:Type}[DecidableEq α]{f:α->D}{n:Nat}(k:Kd f n)(h:n<=60)(a b:α):eqD (f a) (f b)=some (decide (a=b)):=by unfold eqD;have:=k.dep a;rw[k.lay a,k.lay b,if_pos (by simp;omega)];congr 1;rw[Bool.eq_iff_iff,k.eqv];simp
theorem JkU:Kd D.int 1:=⟨fun _=>rfl,fun _=>by simp[D.py,PyData.depth],fun a b=>by show(a == b)=true↔_;simp⟩
theorem VS{α:Type}{f:α->D}{n:Nat}(k:Kd f n):(∀xs:List α,PyData.canLayAll0 (D.pyL (xs.map f))=true)/\(∀xs:List α,PyData.depthAll (D.pyL (xs.map f))<=n)/\∀xs ys:List α,PyData.eqvAll (D.pyL (xs.map f)) (D.pyL (ys.map f))=true↔xs=ys:=by
 refine⟨fun xs=>?_,fun xs=>?_,fun xs=>?_⟩
 ·induction xs with
  | nil=>rfl
  | cons x xs ih=>show(PyData.canLay0 _ && PyData.canLayAll0 _)=true;rw[k.lay,ih];rfl
 ·induction xs with
  | nil=>simp[D.pyL,PyData.depthAll]
  | cons x xs ih=>have:=k.dep x;simp only[List.map_cons,D.pyL,PyData.depthAll];omega
 ·induction xs with
  | nil=>intro ys;cases ys with
   | nil=>simp[D.pyL,PyData.eqvAll]
   | cons y ys=>simp[D.pyL,PyData.eqvAll]
  | cons x xs ih=>intro ys;cases ys with
   | nil=>simp[D.pyL,PyData.eqvAll]
   | cons y ys=>simp only[List.map_cons,D.pyL,PyData.eqvAll,Bool.and_eq_true,k.eqv,ih,List.cons.injEq]
theorem Jgu{α:Type}{f:α->D}{n:Nat}(k:Kd f n):Kd (fun xs:List α=>D.lst (xs.map f)) (n+1) :=
 ⟨fun xs=>(VS k).1 xs,fun xs=>by have:=(VS k).2.1 xs;simp only[D.py,PyData.depth];omega,fun xs ys=>by simp only[D.py,PyData.eqv];exact(VS k).2.2 xs ys⟩
theorem JkV{α:Type}{f:α->D}{n:Nat}(k:Kd f n):Kd (fun xs:List α=>D.tup (xs.map f)) (n+1) :=
 ⟨fun xs=>(VS k).1 xs,fun xs=>by have:=(VS k).2.1 xs;simp only[D.py,PyData.depth];omega,fun xs ys=>by simp only[D.py,PyData.eqv];exact(VS k).2.2 xs ys⟩
theorem kd_pr:Kd prE 2:=⟨fun _=>rfl,fun _=>by simp[prE,D.py,D.pyL,PyData.depth,PyData.depthAll],fun a b=>by obtain⟨a1,a2⟩:=a;obtain⟨b1,b2⟩:=b;simp[prE,D.py,D.pyL,PyData.eqv,PyData.eqvAll]⟩
theorem Jkz(a b:Pr):eqD (prE a) (prE b)=some (decide (a=b)):=kd_pr.eq (by decide) a b
theorem Jic(a b:List Pr):eqD (.lst (a.map prE)) (.lst (b.map prE))=some (decide (a=b)):=(Jgu kd_pr).eq (by decide) a b
theorem Jid(a b:List Pr):eqD (.tup (a.map prE)) (.tup (b.map prE))=some (decide (a=b)):=(JkV kd_pr).eq (by decide) a b
theorem Jgc(a b:List Int):eqD (.lst (a.map .int)) (.lst (b.map .int))=some (decide (a=b)):=(Jgu JkU).eq (by decide) a b
theorem UU{s:Sl}{ps:List Pr}(e:s.q=some (ps.map prE))(g:Good ps)(h:ps.length<=30):Za [s]=some (.sh (.row (ps.map prE))):=by show(s.q.bind _)=_;rw[e,Option.bind_some,ZO,Option.bind_some,WI g,if_pos (by simp[h])]
section
variable{a b:Int}{xs ys:List D}{d:D}{x y:Str}{E:En}{B:Es}{r:Sl}
theorem Jjx:JaA B (.nx E)=B E:=rfl
theorem Jjy:JaA B (.rt r)=some (.rt r):=rfl
theorem Jjv:JaA B (.bk E)=some (.bk E):=rfl
theorem Jjw:JaA B (.ct E)=some (.ct E):=rfl
theorem Jh7:Jco (.nx E)=some (.sh .non):=rfl
theorem Jh8:Jco (.rt r)=some r:=rfl
theorem JmO{g:Int->Int->D}:fI g (.sh (.int a)) (.sh (.int b))=some (.sh (g a b)):=rfl
theorem Jix(h:(-18446744073709551616<a/\a<18446744073709551616)\/(-18446744073709551616<b/\b<18446744073709551616)):W9 (.sh (.int a)) (.sh (.int b))=some (.sh (.int (a*b))):=by show(if _ then _ else _)=_;rw[if_pos];simp only[Bool.or_eq_true,UA];exact h
theorem Jiw(h:0<b):Ja6 (.sh (.int a)) (.sh (.int b))=some (.sh (.int (a % b))):=by show(if _ then _ else _)=_;rw[if_pos (by simpa using h)]
theorem Jiv(h:0<b/\b<1073741824):Jiu (.sh (.int a)) (.sh (.int b))=some (.sh (.int (a / b))):=by show(if _ then _ else _)=_;rw[if_pos (smallP_ok.mpr h)]
theorem Jiz(h:0<=b/\b<=1000000/\-1000<a/\a<1000):JkH (.sh (.int a)) (.sh (.int b))=some (.sh (.int (a ^ b.toNat))):=by show(if _ then _ else _)=_;rw[if_pos];simp only[Bool.and_eq_true,decide_eq_true_eq,Nat.ble_eq,UA];omega
theorem Jiy:JeT (.sh (.int a))=some (.sh (.int (-a))):=rfl
theorem Jih:Ya (.sh (.int a)) (.sh (.int b))=some (.sh (.int (a+b))):=rfl
theorem Jio(h:x.length+y.length<=16777216):Ya (.sh (.str x)) (.sh (.str y))=some (.sh (.str (x++y))):=if_pos h
theorem Us{p q:Sl}(h1:p.m=some xs)(h2:q.m=some ys)(h:xs.length+ys.length<=16777216):JeS p q=some (.own (xs++ys)):=by unfold JeS;rw[h1,h2];exact if_pos h
theorem Jil(h:xs.length+ys.length<=16777216):Ya (.own xs) (.own ys)=some (.own (xs++ys)):=Us rfl rfl h
theorem Jik(h:xs.length+ys.length<=16777216):Ya (.own xs) (.bo ys)=some (.own (xs++ys)):=Us rfl rfl h
theorem Jif(h:xs.length+ys.length<=16777216):Ya (.bo xs) (.own ys)=some (.own (xs++ys)):=Us rfl rfl h
theorem Jie(h:xs.length+ys.length<=16777216):Ya (.bo xs) (.bo ys)=some (.own (xs++ys)):=Us rfl rfl h
theorem Jim(h:xs.length+ys.length<=16777216):Ya (.own xs) (.sh (.lst ys))=some (.own (xs++ys)):=Us rfl rfl h
theorem Jin(h:xs.length+ys.length<=16777216):Ya (.sh (.lst xs)) (.own ys)=some (.own (xs++ys)):=Us rfl rfl h
theorem Jii(h:xs.length+ys.length<=16777216):Ya (.sh (.lst xs)) (.bo ys)=some (.own (xs++ys)):=Us rfl rfl h
theorem Jig(h:xs.length+ys.length<=16777216):Ya (.bo xs) (.sh (.lst ys))=some (.own (xs++ys)):=Us rfl rfl h
theorem Jij(h:xs.length+ys.length<=16777216):Ya (.sh (.lst xs)) (.sh (.lst ys))=some (.own (xs++ys)):=Us rfl rfl h
theorem JkE(h:x.length<=16777216):Jaj [.sh (.str x)]=some (.sh (.int x.length)):=if_pos h
theorem JkC:Jaj [.sh (.lst xs)]=some (.sh (.int xs.length)):=rfl
theorem JkB:Jaj [.sh (.fz xs)]=some (.sh (.int xs.length)):=rfl
theorem JkF:Jaj [.sh (.tup xs)]=some (.sh (.int xs.length)):=rfl
theorem JkA:Jaj [.bo xs]=some (.sh (.int xs.length)):=rfl
theorem JkD:Jaj [.own xs]=some (.sh (.int xs.length)):=rfl
theorem JmR:fIx (.sh (.lst xs)) (.sh (.int a))=(atI xs a).map .sh:=rfl
theorem JmQ:fIx (.sh (.fz xs)) (.sh (.int a))=(atI xs a).map .sh:=rfl
theorem JmT:fIx (.sh (.tup xs)) (.sh (.int a))=(atI xs a).map .sh:=rfl
theorem JmP:fIx (.bo xs) (.sh (.int a))=(atI xs a).map .sh:=rfl
theorem JmS:fIx (.own xs) (.sh (.int a))=(atI xs a).map .sh:=rfl
theorem Jkw:eqA (.int a) (.int b)=some (decide (a=b)):=rfl
theorem Jky:eqA (.str x) (.str y)=some (decide (x=y)):=rfl
theorem Jkv{p q:Bool}:eqA (.bl p) (.bl q)=some (decide (p=q)):=rfl
theorem Jkx(p q:Pr):eqA (prE p) (prE q)=some (decide (p=q)):=Jkz p q
theorem Jkt(p q:List Pr):eqA (.lst (p.map prE)) (.lst (q.map prE))=some (decide (p=q)):=Jic p q
theorem Jku(p q:List Pr):eqA (.tup (p.map prE)) (.tup (q.map prE))=some (decide (p=q)):=Jid p q
theorem Jks(p q:List Int):eqA (.lst (p.map .int)) (.lst (q.map .int))=some (decide (p=q)):=Jgc p q
theorem JkM(h:-4611686018427387904<a/\a<4611686018427387904):Jgn a=true:=by unfold Jgn;rw[Nat.ble_eq];omega
theorem JkL(h:-1152921504606846976<a/\a<1152921504606846976):JkK a=true:=in60_ok.mpr h
theorem Jhn(h:0<a/\a<1073741824):JaD a=true:=smallP_ok.mpr h
theorem Wo{s:Sl}{ns:List Int}(e:s.q=some (ns.map .int)):Jcv [s]=some (.sh (.int ns.sum)):=by show(s.q.bind _)=_;rw[e,Option.bind_some,WL];rfl
theorem Jit{s:Sl}{ns:List Bool}(e:s.q=some (ns.map .bl)):Jis [s]=some (.sh (.bl (ns.any id))):=by show(s.q.bind _)=_;rw[e,Option.bind_some,ZX];rfl
theorem Jir{s:Sl}{ns:List Bool}(e:s.q=some (ns.map .bl)):Jiq [s]=some (.sh (.bl (ns.all id))):=by show(s.q.bind _)=_;rw[e,Option.bind_some,ZX];rfl
theorem JmD{i:Nat}:(Pt.nm i).bind d E=if i<E.length then some (E.set i (.sh d)) else none:=by rw[Pt.bind]
theorem JmE{l:Pts}:(Pt.tp l).bind (.tup xs) E=l.bind xs E:=by rw[Pt.bind]
theorem JhU:Pts.nil.bind [] E=some E:=by rw[Pts.bind]
theorem JfJ{q:Pt}{l:Pts}:(Pts.cons q l).bind (d::xs) E=(q.bind d E).bind fun E'=>l.bind xs E':=by rw[Pts.bind]
theorem JnC:((0:Nat):Int)=0:=rfl
theorem JnD:((1:Nat):Int)=1:=rfl
theorem JnE:((2:Nat):Int)=2:=rfl
theorem JnF:((3:Nat):Int)=3:=rfl
theorem JnG:((4:Nat):Int)=4:=rfl
theorem Je3:D.isNon .non=true:=rfl
theorem Je1:D.isNon (.int a)=false:=rfl
theorem Jgp{k:Bool}:D.isNon (.bl k)=false:=rfl
theorem Je5:D.isNon (.str x)=false:=rfl
theorem Je6:D.isNon (.tup xs)=false:=rfl
theorem Je2:D.isNon (.lst xs)=false:=rfl
theorem Jgq:D.isNon (.fz xs)=false:=rfl
theorem Je4:D.isNon (.row xs)=false:=rfl
theorem Jk1:Je9 "int" "int"=true:=by decide
theorem JiH:Je9 "int" "bool"=false:=by decide
theorem Jk0:Je9 "bool" "bool"=true:=by decide
theorem Jk4:Je9 "tuple" "tuple"=true:=by decide
theorem Jk2:Je9 "list" "list"=true:=by decide
theorem Jk3:Je9 "str" "str"=true:=by decide
end
end LE

namespace HT
open PySem PySem.Spec PyProof.Rows
section
variable{prog:Program}{w:World}{A:Around}{E:Value->Shared->Prop}{s:Shared}
theorem Vn{t sl:Addr}{items:Array Value}{vl vu:Value}{lo hi:Option Int}{Q:Value->Shared->Prop}(ht:IsTup s.heap t items)(hs:s.heap.IsSliceOf sl vl vu .none)(pl:IsPart vl lo)(pu:IsPart vu hi)
 (hw:sIx items.size 0 lo=0/\sIx items.size items.size hi=items.size) (h:Q (.ref t) s):wpAny (model prog w) A (getItem (.ref t) (.ref sl)) Q E s:=by
 obtain⟨os,hos,hcs,hds⟩:=id hs;have hTs:s.TypeIs (.ref sl) "slice":=⟨os,hos,hcs⟩
 unfold getItem
 try with_reducible refine wpAny_holding ?_
 first|refine wpAny_bind (wpAny_pure ?_)|skip
 refine wpAny_bind (wpAny_sequenceKey ht.typeIs (by decide) ?_);refine wpAny_bind (wpAny_callSpecial?_slot (name:=Str.ofString "__getitem__") ht.typeIs PyProof.Rows.slot_tuple_getitem
  (wpAny_call_entry PyProof.Rows.slot_tuple_getitem ht.typeIs entry_tuple_getitem ?_ (args_tuple_getitem _ _)))
 show wpAny _ _ (Builtin.Tuple.tupleItemsOf (.ref t) >>= _) _ _ s;refine wpAny_bind (tupleItemsOf_ ht ?_);refine wpAny_bind (wpAny_typeOf hTs ?_);rw[if_pos (by decide)];refine wpAny_bind (Ur hs pl pu ?_)
 have yes:(((sIx items.size 0 lo:Nat):Int) == 0 && (1:Int) == 1 && (sIx items.size items.size hi-sIx items.size 0 lo) == items.size)=true:=by rw[hw.1,hw.2];simp
 show wpAny _ _ (if (((sIx items.size 0 lo:Nat):Int) == 0 && (1:Int) == 1 && (sIx items.size items.size hi-sIx items.size 0 lo) == items.size)=true then _ else _) _ _ s;rw[if_pos yes];unfold Builtin.Tuple.tupleIsExact;refine wpAny_bind (wpAny_bind (wpAny_typeOf ht.typeIs (wpAny_pure ?_)));rw[if_pos (by decide)];refine wpAny_bind (wpAny_rule ?_);exact wpAny_pure ⟨_,rfl,wpAny_pure h⟩
end
end HT
namespace L2
open PySem PySem.Spec PyProof.Rows
section
variable{X:Cx}{K:Frag}
noncomputable def Jnf(K:Frag):V->Option Int->Option Int->Hp->VK->Prop:=fun x lo hi H Q=>∃a xs,x=.ref a/\SqT K H a xs/\(HT.sIx xs.length 0 lo=0/\HT.sIx xs.length xs.length hi=xs.length)/\Q (.ref a) H
theorem Jhm:SlR X (Jnf X.K):=by
 intro pins s σ H x v vl vu lo hi sl Q I rx hs pl pu h;obtain⟨a,xs,rfl,hx,hw,q⟩:=h;cases rx;obtain⟨its,r,ht,hz⟩:=I.tuple hx;have hlen:its.toArray.size=xs.length:=by rw[List.size_toArray];exact r.length.symm
 refine⟨"tuple",_,PyProof.Rows.slot_tuple_getitem.lookup,ht.typeIs,?_⟩;exact HT.Vn ht hs pl pu (by rw[hlen];exact hw) ⟨.ref a,H,I,rfl,q⟩
noncomputable def JlI(K:Frag):V->Option Int->Option Int->Hp->VK->Prop:=fun x lo hi H Q=>Jnd K x lo hi H Q\/Jne K x lo hi H Q\/Jnf K x lo hi H Q
theorem Jec(hK:X.K=K):SlR X (JlI K):=by subst hK;exact sl_list.or (sl_tup.or Jhm)
end
end L2
namespace LE
open PySem L2 LR
noncomputable def Jcl{α:Type}(xs:List α)(lo hi:Option Int):List α:=(xs.drop (HT.sIx xs.length 0 lo)).take (HT.sIx xs.length xs.length hi-HT.sIx xs.length 0 lo)
noncomputable def fSl(s:Sl)(lo hi:Option Int):Option Sl:=match s with
 | .sh (.tup ds)=>some (.sh (.tup (Jcl ds lo hi)))
 | s=>s.r.map fun ds=>.own (Jcl ds lo hi)
noncomputable def WB(o:Option Ev):En->Option (Option Int):=fun E=>match o with
 | none=>some none
 | some a=>(a E).bind fun s=>match s with
  | .sh (.int i)=>some (some i)
  | _=>none
noncomputable def eSl(a:Ev)(lo hi:Option Ev):Ev:=fun E=>(a E).bind fun s=>(WB lo E).bind fun l=>(WB hi E).bind fun h=>fSl s l h
section
variable{K:Frag}{C:Addr}{te:TE}{ea:Ev}{tl th:TO}{el eh:Option Ev}
noncomputable def SP'(K:Frag)(C:Addr)(t:TO)(ev:En->Option (Option Int)):Prop:=∀(B H0 H:Hp) (σ:St) (E:En) (r:Option Int) (Q:Option Int->Hp->Prop),EnvR K C B H0 H σ E->ev E=some r ->
 (∀H0' H',Step H H0 H H0' H'->Q r H')->t σ H Q
theorem JgJ:SP' K C Jem (WB none):=fun _ _ _ _ _ _ _ I e q=>by cases e;exact q _ _ (.refl I.h)
theorem JgK(ha:SE K C te ea):SP' K C (Jj8 te) (WB (some ea)):=by
 intro B H0 H σ E r Q I e q;obtain⟨s,e1,e⟩:=bind_some e;split at e
 ·cases e;exact ha B H0 H σ E _ _ I e1 fun x H1 H1' s1 r1=>⟨_,RD.intI r1,q _ _ s1⟩
 ·cases e
theorem RDL.cut{H:Hp}{xs:List V}{ds:List D}{lo hi:Option Int}(r:RDL K C H xs ds):RDL K C H (W8 xs lo hi) (Jcl ds lo hi):=by unfold W8 Jcl;rw[r.1];exact(r.drop _).take _
theorem Jnp(ha:SE K C te ea)(hl:SP' K C tl (WB el))(hh:SP' K C th (WB eh)):SE K C (tSl (JlI K) te tl th) (eSl ea el eh):=by
 intro B H0 H σ E c Q I e q;obtain⟨s,e1,e⟩:=bind_some e;obtain⟨l,e2,e⟩:=bind_some e;obtain⟨h,e3,e⟩:=bind_some e;refine ha B H0 H σ E _ _ I e1 fun x H1 H1' s1 r1=>hl B H1 H1' σ E l _ (I.step s1) e2 fun H2 H2' s2=>hh B H2 H2' σ E h _ (I.step (s1.trans s2)) e3 fun H3 H3' s3=>?_
 have s13:=(s1.trans s2).trans s3
 have r3:=(r1.step s2).step s3
 have lst:∀{ds:List D},s.r=some ds->c=.own (Jcl ds l h)->JlI K x l h H3' Q:=fun {ds} er ec=>by subst ec;obtain⟨a,xs,rfl,hq,r⟩:=r3.r s13.i er;exact .inl ⟨a,xs,rfl,hq,fun p hp=>UY s13.i s13.h hp r.cut fun v H4 H4' s4 r4=>q v H4 H4' (s13.comp s4 fun _ z=>z) r4⟩
 unfold fSl at e;split at e
 ·cases e;obtain⟨a,xs,rfl,hq,r⟩:=RD.tupI r3
  by_cases hw:HT.sIx xs.length 0 l=0/\HT.sIx xs.length xs.length h=xs.length
  ·refine .inr (.inr ⟨a,xs,rfl,s13.i.seqT hq,hw,q _ _ _ s13 ?_⟩);have e5:W8 xs l h=xs:=by unfold W8;rw[hw.1,hw.2];simp
   have r5:=r.cut (lo:=l) (hi:=h);rw[e5] at r5;exact RD.mkT hq r5
  ·exact .inr (.inl ⟨a,xs,rfl,s13.i.seqT hq,hw,fun p hp=>Wv s13.i s13.h hp r.cut fun v H4 H4' s4 r4=>q v H4 H4' (s13.comp s4 fun _ z=>z) r4⟩)
 ·obtain⟨ds,e4,e5⟩:=map_some e;exact lst e4 e5.symm
end
end LE

namespace PySem
section
variable{prog:Program}{w:World}{A:Around}
theorem Draws.tup(hh:A.handled=none)(j a:Addr)(ne:a≠j)(xs:Array Value):Draws prog w A j [j,a] xs.size (fun i v=>xs[i]?=some v) (fun i h=>h.IsTupleIter j a i/\h.IsTuple a xs) where
 live:=fun _ _ q=>let ⟨o,ho,_⟩:=q.1;⟨o,ho⟩
 frame:=fun _ _ _ q k=>⟨q.1.at fun o e=>k j (by simp) o e,q.2.at fun o e=>k a (by simp) o e⟩
 item:=fun i s Q E hi q hQ=>by
  obtain⟨o,ho,hc,hd⟩:=id q.1;obtain⟨ol,hol,_,nl,hdl⟩:=id q.2;have hx:xs[i]?=some xs[i]:=by simp[hi]
  unfold Builtin.SmallTypes.nextOf;refine wpAny_bind (wpAny_callSpecial?_slot (name:=Str.ofString "__next__") q.1.typeIs F.slot_tuple_iterator_next (wpAny_call_entry F.slot_tuple_iterator_next q.1.typeIs F.entry_tuple_iterator_next ?_ (F.args_tuple_iterator_next_1 _)));show wpAny _ _ (field (.ref j) 0 >>= _) _ _ s;refine wpAny_bind (wpAny_field ho hd (x:=.ref a) rfl ?_);show wpAny _ _ (if (Value.ref a == Value.none)=true then _ else _) _ _ s;rw[if_neg (show ¬((Value.ref a == Value.none)=true) from Bool.false_ne_true)]
  show wpAny _ _ (field (.ref j) 1 >>= _) _ _ s;refine wpAny_bind (wpAny_field ho hd (x:=.int i 0) rfl (show wpAny _ _ (seqItems? (.ref a) >>= _) _ _ s from wpAny_bind (wpAny_seqItems hol hdl ?_)));simp only[Int.toNat_natCast,hx];refine wpAny_bind (wpAny_setField ho hd (by simp) (wpAny_pure ⟨xs[i],rfl,wpAny_pure (hQ _ _ s.toks hx ⟨⟨_,Heap.get?_update_self _ ho (Obj.isFreed_of_fields (Obj.data_mapFields hd _)),(Obj.cls_mapFields ..).trans hc,?_⟩,q.2.extBut (Heap.SameBut.update ..).extBut ne⟩ (Heap.SameBut.update ..))⟩))
  rw[Obj.data_mapFields hd];simp[rawInt]
 done:=fun s Q E q hE=>by
  obtain⟨o,ho,hc,hd⟩:=id q.1;obtain⟨ol,hol,_,nl,hdl⟩:=id q.2;have hx:xs[xs.size]?=none:=by simp
  unfold Builtin.SmallTypes.nextOf;refine wpAny_bind (wpAny_callSpecial?_slot (name:=Str.ofString "__next__") q.1.typeIs F.slot_tuple_iterator_next (wpAny_call_entry F.slot_tuple_iterator_next q.1.typeIs F.entry_tuple_iterator_next ?_ (F.args_tuple_iterator_next_1 _)));show wpAny _ _ (field (.ref j) 0 >>= _) _ _ s;refine wpAny_bind (wpAny_field ho hd (x:=.ref a) rfl ?_);show wpAny _ _ (if (Value.ref a == Value.none)=true then _ else _) _ _ s;rw[if_neg (show ¬((Value.ref a == Value.none)=true) from Bool.false_ne_true)]
  show wpAny _ _ (field (.ref j) 1 >>= _) _ _ s;refine wpAny_bind (wpAny_field ho hd (x:=.int xs.size 0) rfl (show wpAny _ _ (seqItems? (.ref a) >>= _) _ _ s from wpAny_bind (wpAny_seqItems hol hdl ?_)));simp only[Int.toNat_natCast,hx];refine wpAny_bind (wpAny_rule (wpAny_bind (wpAny_setField ho hd (by simp) (show wpAny _ _ (newExc (.type "StopIteration") [] >>= _) _ _ _ from wpAny_bind ?_))));simp only[newExc,newTuple];refine wpAny_bind (wpAny_newObj_type (wpAny_bind (m:=firstArgMember _ _) (wpAny_of_eq (a:=Value.none) (by first | rfl | (simp only[firstArgMember];rfl)) (wpAny_newObj_type ?_ (by size_fits)))) (by size_fits))
  simp only[raiseNew];refine wpAny_bind (wpAny_handled ?_)
  first|rw[show A.in1.handled=none from hh]|rw[hh]
  refine wpAny_bind (wpAny_pure (wpAny_throw ?_));exact hE _ _ (((Heap.SameBut.update ..).extBut.push _).push _) ⟨_,Heap.get?_push_size _ rfl,rfl⟩
end

structure ZA (z TI TO i1 i2:Addr) (p1 p2:List Addr):Prop where
 a1:TI≠z
 a2:TO≠z
 a3:TI≠TO
 m1:i1∈p1
 m2:i2∈p2
 z1:z∉p1
 z2:z∉p2
 t1:TI∉p1
 t2:TI∉p2
 o1:TO∉p1
 o2:TO∉p2
 x1:i1∉p2
 x2:i2∉p1
section
variable{prog:Program}{w:World}{A:Around}{E:Value->Shared->Prop}{s:Shared}{z TI TO i1 i2:Addr}{p1 p2:List Addr}{n1 n2 k:Nat}{P1 P2:Nat->Value->Prop}{S1 S2:Nat->Heap->Prop}
theorem JfD{a b:Value}{Q:Value->Shared->Prop}(D:ZA z TI TO i1 i2 p1 p2)(D1:Draws prog w A i1 p1 n1 P1 S1)(D2:Draws prog w A i2 p2 n2 P2 S2)(gz:IsZip s.heap z TI TO .none)(gI:IsPair s.heap TI (.ref i1) (.ref i2))(gO:IsPair s.heap TO a b)
 (st1:S1 k s.heap) (st2:S2 k s.heap) (l1:k<n1) (l2:k<n2)
 (hQ:∀x y h' tk,P1 k x->P2 k y->IsZip h' z TI TO (rawInt s.heap.objs.size)->IsPair h' TI (.ref i1) (.ref i2)->IsPair h' TO x y->S1 (k+1) h'->S2 (k+1) h'->IsPair h' s.heap.objs.size x y->h'.objs.size=s.heap.objs.size+1 ->
  (∀c o,c≠z->c≠TO->c≠i1->c≠i2->s.heap.get? c=some o->h'.get? c=some o)->Q (.ref s.heap.objs.size) { s with heap:=h',toks:=tk }) :
 wpAny (model prog w) A (Builtin.«zip.__next__» ⟨[.ref z],[]⟩) (fun fin s'=>∃v,fin=.done (.ret v)/\Q v s') E s:=by
 obtain⟨hp,g,d,t0,os⟩:=s;have zi1:i1≠z:=fun q=>D.z1 (q▸D.m1)
 have zi2:i2≠z:=fun q=>D.z2 (q▸D.m2)
 have oi1:i1≠TO:=fun q=>D.o1 (q▸D.m1)
 have oi2:i2≠TO:=fun q=>D.o2 (q▸D.m2)
 have ii1:i1≠TI:=fun q=>D.t1 (q▸D.m1)
 have ii2:i2≠TI:=fun q=>D.t2 (q▸D.m2)
 have i12:i1≠i2:=fun q=>D.x1 (q▸D.m2)
 show wpAny _ _ (field (.ref z) 2 >>= _) _ _ _;refine wpAny_bind (wpAny_field gz rfl (x:=.bool false) rfl (show wpAny _ _ (field (.ref z) 3 >>= _) _ _ _ from wpAny_bind (wpAny_field gz rfl (x:=.ref TI) rfl (wpAny_bind (wpAny_seqItems gI rfl ?_)))))
 show wpAny _ _ (Builtin.SmallTypes.ownedTupleIsFree (.ref z) >>= _) _ _ _;refine wpAny_bind ?_;unfold Builtin.SmallTypes.ownedTupleIsFree;refine wpAny_bind (wpAny_field gz rfl (x:=.none) rfl (wpAny_pure ?_));simp only[if_true];refine wpAny_bind (wpAny_rule (wpAny_bind (wpAny_field gz rfl (x:=.ref TO) rfl (wpAny_bind (wpAny_setField_rec gz (by simp) fun k1 y1 e1=>?_)))))
 replace y1:IsZip k1 z TI TO .ellipsis:=y1
 replace e1:Heap.SameBut z hp k1:=e1;refine wpAny_bind ?_;simp only[List.zipIdx_cons,List.zipIdx_nil,List.forIn_cons,List.forIn_nil];refine wpAny_bind (wpAny_bind (wpAny_onRaise (show wpAny _ _ (Builtin.SmallTypes.nextOf (.ref i1) >>= _) _ _ _ from wpAny_bind (D1.item k _ _ _ l1 (D1.frame _ _ _ st1 fun b hb o q=>e1.extBut b o (fun r=>D.z1 (r▸hb)) q) fun x k2 t2 px s2 e2=>wpAny_pure ?_))))
 replace e2:Heap.SameBut i1 k1 k2:=e2;have O2:IsPair k2 TO a b:=e2.extBut _ _ (Ne.symm oi1) (e1.extBut _ _ D.a2 gO);refine wpAny_bind (wpAny_seqItems (s:=⟨k2,g,d,t2,os⟩) O2 rfl (wpAny_bind (wpAny_updateSeq_pair (s:=⟨k2,g,d,t2,os⟩) O2 fun k3 O3 e3=>?_)))
 replace O3:IsPair k3 TO x b:=O3
 replace e3:Heap.SameBut TO k2 k3:=e3;refine wpAny_bind (wpAny_letGo (wpAny_pure ?_));have st2':S2 k k3:=D2.frame _ _ _ st2 fun b hb o q=>e3.extBut b o (fun r=>D.o2 (r▸hb)) (e2.extBut b o (fun r=>D.x1 (r▸hb)) (e1.extBut b o (fun r=>D.z2 (r▸hb)) q))
 refine wpAny_bind (wpAny_bind (wpAny_onRaise (show wpAny _ _ (Builtin.SmallTypes.nextOf (.ref i2) >>= _) _ _ _ from wpAny_bind (D2.item k _ _ _ l2 st2' fun y k4 t4 py s4 e4=>wpAny_pure ?_))))
 replace e4:Heap.SameBut i2 k3 k4:=e4;have O4:IsPair k4 TO x b:=e4.extBut _ _ (Ne.symm oi2) O3;refine wpAny_bind (wpAny_seqItems (s:=⟨k4,g,d,t4,os⟩) O4 rfl (wpAny_bind (wpAny_updateSeq_pair (s:=⟨k4,g,d,t4,os⟩) O4 fun k5 O5 e5=>?_)))
 replace O5:IsPair k5 TO x y:=O5
 replace e5:Heap.SameBut TO k4 k5:=e5;refine wpAny_bind (wpAny_letGo (wpAny_pure (wpAny_pure (wpAny_bind (wpAny_seqItems (s:=⟨k5,g,d,t4,os⟩) O5 rfl (wpAny_bind (wpAny_newTuple ?_)))))));have hsz:k5.objs.size=hp.objs.size:=by rw[e5.1,e4.1,e3.1,e2.1,e1.1]
 have Z5:IsZip k5 z TI TO .ellipsis:=e5.extBut _ _ (Ne.symm D.a2) (e4.extBut _ _ (Ne.symm zi2) (e3.extBut _ _ (Ne.symm D.a2) (e2.extBut _ _ (Ne.symm zi1) y1)))
 have keep5:∀c o,c≠z->c≠TO->c≠i1->c≠i2->hp.get? c=some o->k5.get? c=some o:=fun c o c1 c2 c3 c4 q=>e5.extBut _ _ c2 (e4.extBut _ _ c4 (e3.extBut _ _ c2 (e2.extBut _ _ c3 (e1.extBut _ _ c1 q))))
 have T1:S1 (k+1) k5:=D1.frame _ _ _ s2 fun b hb o q=>e5.extBut b o (fun r=>D.o1 (r▸hb)) (e4.extBut b o (fun r=>D.x2 (r▸hb)) (e3.extBut b o (fun r=>D.o1 (r▸hb)) q))
 have T2:S2 (k+1) k5:=D2.frame _ _ _ s4 fun b hb o q=>e5.extBut b o (fun r=>D.o2 (r▸hb)) q
 have zlt:z<k5.objs.size:=Heap.lt_size Z5
 show wpAny _ _ (Builtin.SmallTypes.ownedTupleHandOut (.ref z) (.ref k5.objs.size) >>= _) _ _ _;refine wpAny_bind ?_;unfold Builtin.SmallTypes.ownedTupleHandOut
 have Z6:IsZip (k5.push { cls:=.type "tuple",data:=.seq #[x,y] }) z TI TO .ellipsis:=Heap.get?_push_of_some _ Z5;refine wpAny_bind (wpAny_setField_rec Z6 (by simp) fun k7 Z7 e7=>?_)
 replace Z7:IsZip k7 z TI TO (rawInt k5.objs.size):=Z7
 replace e7:Heap.SameBut z (k5.push { cls:=.type "tuple",data:=.seq #[x,y] }) k7:=e7;refine wpAny_setField_rec Z7 (by simp) fun k8 Z8 e8=>?_
 replace Z8:IsZip k8 z TI TO (rawInt k5.objs.size):=Z8
 replace e8:Heap.SameBut z k7 k8:=e8;have up:∀c o,c≠z->k5.get? c=some o->k8.get? c=some o:=fun c o c1 q=>e8.extBut _ _ c1 (e7.extBut _ _ c1 (Heap.get?_push_of_some _ q))
 have N8:IsPair k8 k5.objs.size x y:=e8.extBut _ _ (Nat.ne_of_gt zlt) (e7.extBut _ _ (Nat.ne_of_gt zlt) (Heap.get?_push_size _ rfl))
 have z8:k8.objs.size=k5.objs.size+1:=by rw[e8.1,e7.1,Heap.size_push]
 rw[hsz] at Z8 N8 z8;refine wpAny_pure ⟨_,rfl,?_⟩;show Q (.ref k5.objs.size) _;rw[hsz];refine hQ x y k8 t4 px py Z8 (up _ _ D.a1 (keep5 _ _ D.a1 D.a3 (Ne.symm ii1) (Ne.symm ii2) gI)) (up _ _ D.a2 O5) ?_ ?_ N8 z8 fun c o c1 c2 c3 c4 q=>up c o c1 (keep5 c o c1 c2 c3 c4 q)
 ·exact D1.frame _ _ _ T1 fun b hb o q=>up b o (fun r=>D.z1 (r▸hb)) q
 ·exact D2.frame _ _ _ T2 fun b hb o q=>up b o (fun r=>D.z2 (r▸hb)) q
theorem JhR{a b:Value}{Q:Fin->Shared->Prop}(D:ZA z TI TO i1 i2 p1 p2)(D1:Draws prog w A i1 p1 n1 P1 S1)(D2:Draws prog w A i2 p2 n2 P2 S2)(gz:IsZip s.heap z TI TO .none)(gI:IsPair s.heap TI (.ref i1) (.ref i2))(gO:IsPair s.heap TO a b)
 (st1:S1 k s.heap) (st2:S2 k s.heap) (hend:k=n1\/(k<n1/\k=n2))
 (hE:∀h' e tk,(∀c o,c≠z->c≠TO->c≠i1->c≠i2->s.heap.get? c=some o->h'.get? c=some o)->(∃o,h'.get? e=some o/\o.cls=.type "StopIteration")->E (.ref e) { s with heap:=h',toks:=tk }) :
 wpAny (model prog w) A (Builtin.«zip.__next__» ⟨[.ref z],[]⟩) Q E s:=by
 obtain⟨hp,g,d,t0,os⟩:=s;have zi1:i1≠z:=fun q=>D.z1 (q▸D.m1)
 have zi2:i2≠z:=fun q=>D.z2 (q▸D.m2)
 have oi1:i1≠TO:=fun q=>D.o1 (q▸D.m1)
 show wpAny _ _ (field (.ref z) 2 >>= _) _ _ _;refine wpAny_bind (wpAny_field gz rfl (x:=.bool false) rfl (show wpAny _ _ (field (.ref z) 3 >>= _) _ _ _ from wpAny_bind (wpAny_field gz rfl (x:=.ref TI) rfl (wpAny_bind (wpAny_seqItems gI rfl ?_)))))
 show wpAny _ _ (Builtin.SmallTypes.ownedTupleIsFree (.ref z) >>= _) _ _ _;refine wpAny_bind ?_;unfold Builtin.SmallTypes.ownedTupleIsFree;refine wpAny_bind (wpAny_field gz rfl (x:=.none) rfl (wpAny_pure ?_));simp only[if_true];refine wpAny_bind (wpAny_rule (wpAny_bind (wpAny_field gz rfl (x:=.ref TO) rfl (wpAny_bind (wpAny_setField_rec gz (by simp) fun k1 y1 e1=>?_)))))
 replace y1:IsZip k1 z TI TO .ellipsis:=y1
 replace e1:Heap.SameBut z hp k1:=e1;refine wpAny_bind ?_;simp only[List.zipIdx_cons,List.zipIdx_nil,List.forIn_cons,List.forIn_nil];refine wpAny_bind (wpAny_bind (wpAny_onRaise (show wpAny _ _ (Builtin.SmallTypes.nextOf (.ref i1) >>= _) _ _ _ from wpAny_bind ?_)));have q1:S1 k k1:=D1.frame _ _ _ st1 fun b hb o q=>e1.extBut b o (fun r=>D.z1 (r▸hb)) q
 rcases hend with rfl|⟨l1,rfl⟩
 ·refine D1.done _ _ _ q1 fun k2 e e2 he=>?_
  replace e2:Heap.ExtBut i1 k1 k2:=e2;obtain⟨oe,hoe,hce⟩:=he;have Z2:IsZip k2 z TI TO .ellipsis:=e2 _ _ (Ne.symm zi1) y1;have ez:e≠z:=fun q=>by subst q;rw[Z2] at hoe;cases hoe;simp at hce
  exact wpAny_setField_rec Z2 (by simp) fun k3 _ e3=>hE k3 e t0 (fun c o c1 _ c3 _ q=>e3.extBut _ _ c1 (e2 _ _ c3 (e1.extBut _ _ c1 q))) ⟨oe,e3.extBut _ _ ez hoe,hce⟩
 ·refine D1.item k _ _ _ l1 q1 fun x k2 t2 px s2 e2=>wpAny_pure ?_
  replace e2:Heap.SameBut i1 k1 k2:=e2;have O2:IsPair k2 TO a b:=e2.extBut _ _ (Ne.symm oi1) (e1.extBut _ _ D.a2 gO);refine wpAny_bind (wpAny_seqItems (s:=⟨k2,g,d,t2,os⟩) O2 rfl (wpAny_bind (wpAny_updateSeq_pair (s:=⟨k2,g,d,t2,os⟩) O2 fun k3 O3 e3=>?_)))
  replace e3:Heap.SameBut TO k2 k3:=e3;refine wpAny_bind (wpAny_letGo (wpAny_pure ?_));have st2':S2 k k3:=D2.frame _ _ _ st2 fun b hb o q=>e3.extBut b o (fun r=>D.o2 (r▸hb)) (e2.extBut b o (fun r=>D.x1 (r▸hb)) (e1.extBut b o (fun r=>D.z2 (r▸hb)) q))
  refine wpAny_bind (wpAny_bind (wpAny_onRaise (show wpAny _ _ (Builtin.SmallTypes.nextOf (.ref i2) >>= _) _ _ _ from wpAny_bind (D2.done _ _ _ st2' fun k4 e e4 he=>?_))))
  replace e4:Heap.ExtBut i2 k3 k4:=e4;obtain⟨oe,hoe,hce⟩:=he;have Z4:IsZip k4 z TI TO .ellipsis:=e4 _ _ (Ne.symm zi2) (e3.extBut _ _ (Ne.symm D.a2) (e2.extBut _ _ (Ne.symm zi1) y1));have ez:e≠z:=fun q=>by subst q;rw[Z4] at hoe;cases hoe;simp at hce
  exact wpAny_setField_rec Z4 (by simp) fun k5 _ e5=>hE k5 e t2 (fun c o c1 c2 c3 c4 q=>e5.extBut _ _ c1 (e4 _ _ c4 (e3.extBut _ _ c2 (e2.extBut _ _ c3 (e1.extBut _ _ c1 q))))) ⟨oe,e5.extBut _ _ ez hoe,hce⟩
end
end PySem

namespace PySem
def IsSq(b:Bool)(h:Heap)(a:Addr)(xs:Array Value):Prop:=match b with
 | true=>h.IsTuple a xs
 | false=>h.IsList a xs
def IsItr(b:Bool)(h:Heap)(j a:Addr)(i:Nat):Prop:=match b with
 | true=>h.IsTupleIter j a i
 | false=>h.IsListIter j a i
def itO(b:Bool)(a:Addr):Obj:=match b with
 | true=>{ cls:=.type "tuple_iterator",data:=.fields #[.ref a,.int 0 0] }
 | false=>{ cls:=.type "list_iterator",data:=.fields #[.ref a,.int 0 0] }
section
variable{prog:Program}{w:World}{A:Around}{E:Value->Shared->Prop}{s:Shared}{b b1 b2:Bool}{a a1 a2:Addr}{xs ys:Array Value}
theorem IsSq.push{h:Heap}(q:IsSq b h a xs)(o:Obj):IsSq b (h.push o) a xs:=by
 cases b with
 | true=>exact Heap.IsTuple.push q o
 | false=>exact Heap.IsList.push q o
theorem IsSq.lt{h:Heap}(q:IsSq b h a xs):a<h.objs.size:=by
 cases b with
 | true=>obtain⟨o,e,_⟩:=q;exact Heap.lt_size e
 | false=>obtain⟨o,e,_⟩:=q;exact Heap.lt_size e
theorem IsItr.new{h:Heap}(e:h.get? a1=some (itO b a)):IsItr b h a1 a 0:=by
 cases b with
 | true=>exact⟨_,e,rfl,rfl⟩
 | false=>exact⟨_,e,rfl,rfl⟩
theorem Yy{Q:Value->Shared->Prop}(q:IsSq b s.heap a xs)(h:Q (.ref s.heap.objs.size) { s with heap:=s.heap.push (itO b a) }):wpAny (model prog w) A (pyIter (.ref a)) Q E s:=by
 cases b with
 | true=>exact wpAny_pyIter_tuple q h
 | false=>exact wpAny_pyIter_list q h
theorem Draws.sq(hh:A.handled=none)(j:Addr)(ne:a≠j):Draws prog w A j [j,a] xs.size (fun i v=>xs[i]?=some v) (fun i h=>IsItr b h j a i/\IsSq b h a xs):=by
 cases b with
 | true=>exact Draws.tup hh j a ne xs
 | false=>exact Draws.list hh j a ne xs
abbrev zP1(h:Heap)(b1:Bool)(a1:Addr):Heap:=h.push (itO b1 a1)
abbrev zP2(h:Heap)(b1 b2:Bool)(a1 a2:Addr):Heap:=(zP1 h b1 a1).push (itO b2 a2)
abbrev zP3(h:Heap)(b1 b2:Bool)(a1 a2:Addr):Heap:=(zP2 h b1 b2 a1 a2).push { cls:=.type "tuple",data:=.seq #[.ref h.objs.size,.ref (zP1 h b1 a1).objs.size] }
abbrev zP4(h:Heap)(b1 b2:Bool)(a1 a2:Addr):Heap:=(zP3 h b1 b2 a1 a2).push { cls:=.type "tuple",data:=.seq #[.none,.none] }
abbrev zP5(h:Heap)(b1 b2:Bool)(a1 a2:Addr):Heap:=(zP4 h b1 b2 a1 a2).push { cls:=.type "zip",data:=.fields #[.none,.bool false,.bool false,.ref (zP2 h b1 b2 a1 a2).objs.size,.ref (zP3 h b1 b2 a1 a2).objs.size] }
theorem JcH(b1 b2:Bool)(a1 a2:Addr)(xs ys:Array Value):Meets (Builtin.«zip.__new__» ⟨[.type "zip",.ref a1,.ref a2],[]⟩) (fun _ R s=>IsSq b1 s.heap a1 xs/\IsSq b2 s.heap a2 ys ∧
 R (.ok (.ret (.ref (zP4 s.heap b1 b2 a1 a2).objs.size))) { s with heap:=zP5 s.heap b1 b2 a1 a2 }) :=
 .of_wp fun prog w A R s h=>by obtain⟨hp,g,d,tk,os⟩:=s;obtain⟨q1,q2,h⟩:=h;have hsub:=sub_zip;have r1:IsSq b1 (Shared.heap ⟨hp,g,d,tk,os⟩) a1 xs:=q1;have r2:IsSq b2 (Shared.heap ⟨hp.push (itO b1 a1),g,d,tk,os⟩) a2 ys:=IsSq.push q2 _;wp_walk using Yy r1,Yy r2;exact⟨_,rfl,h⟩
theorem JeP{Q:Value->Shared->Prop}(q1:IsSq b1 s.heap a1 xs)(q2:IsSq b2 s.heap a2 ys)
 (h:∀h',IsZip h' (s.heap.objs.size+4) (s.heap.objs.size+2) (s.heap.objs.size+3) .none->IsPair h' (s.heap.objs.size+2) (.ref s.heap.objs.size) (.ref (s.heap.objs.size+1))->IsPair h' (s.heap.objs.size+3) .none .none ->
  IsItr b1 h' s.heap.objs.size a1 0->IsItr b2 h' (s.heap.objs.size+1) a2 0->(∀c o,s.heap.get? c=some o->h'.get? c=some o)->Q (.ref (s.heap.objs.size+4)) { s with heap:=h' }) :
 wpAny (model prog w) A (call (.type "zip") [.ref a1,.ref a2]) Q E s:=by
 refine callType_new F.called_zip (by decide) (F.typeCall_zip_2 _ _) (F.newCall_zip_2 _ _) (fun obj=>F.args_object_init_3 obj _ _) F.entry_zip_new (JcH b1 b2 a1 a2 xs ys) ⟨q1,q2,?_⟩;have z1:(zP1 s.heap b1 a1).objs.size=s.heap.objs.size+1:=Heap.size_push ..;have z2:(zP2 s.heap b1 b2 a1 a2).objs.size=s.heap.objs.size+2:=by rw[Heap.size_push,z1]
 have z3:(zP3 s.heap b1 b2 a1 a2).objs.size=s.heap.objs.size+3:=by rw[Heap.size_push,z2]
 have z4:(zP4 s.heap b1 b2 a1 a2).objs.size=s.heap.objs.size+4:=by rw[Heap.size_push,z3]
 have up:∀{k:Heap} {c:Addr} {o u:Obj},k.get? c=some o->(k.push u).get? c=some o:=fun q=>Heap.get?_push_of_some _ q
 have fi1:(itO b1 a1).isFreed=false:=by cases b1 <;> rfl
 have fi2:(itO b2 a2).isFreed=false:=by cases b2 <;> rfl
 have g5:(zP5 s.heap b1 b2 a1 a2).get? (zP4 s.heap b1 b2 a1 a2).objs.size=some _:=Heap.get?_push_size _ rfl
 have g4:(zP5 s.heap b1 b2 a1 a2).get? (zP3 s.heap b1 b2 a1 a2).objs.size=some _:=up (Heap.get?_push_size _ rfl)
 have g3:(zP5 s.heap b1 b2 a1 a2).get? (zP2 s.heap b1 b2 a1 a2).objs.size=some _:=up (up (Heap.get?_push_size _ rfl))
 have g2:(zP5 s.heap b1 b2 a1 a2).get? (zP1 s.heap b1 a1).objs.size=some _:=up (up (up (Heap.get?_push_size _ fi2)))
 have g1:(zP5 s.heap b1 b2 a1 a2).get? s.heap.objs.size=some _:=up (up (up (up (Heap.get?_push_size _ fi1))))
 show _/\_;rw[z2,z3,z4] at g5;rw[z1,z2] at g3;rw[z3] at g4;rw[z1] at g2;rw[z4];exact⟨⟨_,g5,rfl⟩,h _ g5 g3 g4 (.new g1) (.new g2) fun c o q=>up (up (up (up (up q))))⟩
end
end PySem

namespace L2
open PySem PySem.Spec PyProof.Rows
section
variable{X:Cx}{pins:List (Addr×Obj)}{σ:St}{H:Hp}{s:Shared}{h':Heap}
theorem Inv.turnedL{t':Nat}{fp:List Addr}(I:Inv X pins σ H s)(k:∀b o,b∉fp->s.heap.get? b=some o->h'.get? b=some o)(hf:∀b∈fp,FpOk X pins H b):Inv X pins σ H { s with heap:=h',toks:=t' }:=by
 have nit:∀b u,H b=some u->b∉fp:=fun b u e z=>by rw[(hf b z).1] at e;cases e
 refine I.step (g':=s.gens) (d':=s.drawn) (ch:=fp) (fun b hb=>?_) (fun b o _ _ hc e _=>k b o hc e) (fun b o _ _ hc e _=>⟨o.slots,k b o hc e⟩) (fun _ _ _ _ n=>n)
  (fun b o hc e=>⟨o,k b o hc e⟩) (fun _ _ e=>e) (fun _ _ _ e=>e) (fun b ps e=>⟨#[],by rw[e];simp⟩) (fun m hm=>?_) (fun b u e=>?_) I.bare
 ·obtain⟨f0,f1,f2,f3,f4,f5⟩:=hf b hb;exact⟨f3,f1,f4,f5⟩
 ·obtain⟨o,es,ep,ho,r⟩:=hm;exact⟨o,es,ep,k _ o (fun z=>(hf _ z).2.1 rfl) ho,r⟩
 ·refine(I.hok b u e).stay (fun c v hc q=>k c v ?_ q) (fun _ q=>q) fun _ _ q=>q
  rcases hc with z|z
  ·rw[z];exact nit b u e
  ·exact nit c _ z
noncomputable def Sq(b:Bool)(K:Frag)(H:Hp)(a:Addr)(xs:List V):Prop:=match b with
 | true=>SqT K H a xs
 | false=>SqL K H a xs
theorem Sq.heap{b:Bool}{a:Addr}{xs:List V}(I:Inv X pins σ H s)(q:Sq b X.K H a xs):∃its:List Value,Vals xs its/\IsSq b s.heap a its.toArray:=by
 cases b with
 | true=>obtain⟨its,r,p,_⟩:=I.tuple q;exact⟨its,r,p⟩
 | false=>obtain⟨its,r,p,_⟩:=I.list q;exact⟨its,r,p.isList⟩
theorem Sq.inj{b:Bool}{a:Addr}{xs ys:List V}(I:Inv X pins σ H s)(q:Sq b X.K H a xs)(q':Sq b X.K H a ys):xs=ys:=by
 cases b with
 | true=>exact I.tuple_inj q q'
 | false=>exact I.list_inj q q'
theorem FpOk.off{b:Bool}{a c:Addr}{xs:List V}(I:Inv X pins σ H s)(q:Sq b X.K H a xs)(f:FpOk X pins H c):a≠c:=by
 intro e;subst e;have own:∀{o:HO},H a=some o->False:=fun h=>by rw[f.1] at h;cases h
 have mod:∀{o:Obj},X.K.lookup a=some o->False:=fun {o} h=>by
  have hb:=I.ok.mod.kin a o h;rcases f.2.2.2.1 with z|z
  ·exact I.ok.noex a o hb z
  ·exact absurd (Heap.lt_size hb) (Nat.not_lt.mpr (Nat.le_trans I.ok.bsz z))
 cases b with
 | true =>
  rcases q with (h|⟨o,h⟩)|⟨o,its,n,h,_⟩
  ·exact own h
  ·exact own h
  ·exact mod h
 | false =>
  rcases q with (h|⟨o,h⟩)|⟨o,its,n,h,_⟩
  ·exact own h
  ·exact own h
  ·exact mod h
noncomputable def Itz(K:Frag)(b1 b2:Bool)(a1 a2:Addr):It :=
 ⟨fun i H=>∃xs ys x y,Sq b1 K H a1 xs/\Sq b2 K H a2 ys/\xs[i]?=some x/\ys[i]?=some y,
  fun i H x H'=>∃p u v,x=.ref p/\H p=none/\H'=upd H p (.tup [u,v])/\∀xs ys,Sq b1 K H a1 xs->Sq b2 K H a2 ys->xs[i]?=some u/\ys[i]?=some v,
  fun i H=>∃xs ys,Sq b1 K H a1 xs/\Sq b2 K H a2 ys/\i=min xs.length ys.length⟩
noncomputable def ZSt(b1 b2:Bool)(a1 a2 z TI TO i1 i2:Addr)(i:Nat)(h:Heap):Prop:=IsZip h z TI TO .none/\IsPair h TI (.ref i1) (.ref i2)/\(∃a b,IsPair h TO a b)/\IsItr b1 h i1 a1 i/\IsItr b2 h i2 a2 i
theorem IsItr.keep{b:Bool}{h h':Heap}{j a:Addr}{i:Nat}(q:IsItr b h j a i)(k:∀o,h.get? j=some o->h'.get? j=some o):IsItr b h' j a i:=by
 cases b with
 | true=>obtain⟨o,e,r⟩:=q;exact⟨o,k o e,r⟩
 | false=>obtain⟨o,e,r⟩:=q;exact⟨o,k o e,r⟩
theorem IsItr.obj{b:Bool}{h:Heap}{j a:Addr}{i:Nat}(q:IsItr b h j a i):∃o,h.get? j=some o/\∀v,o.data≠.cell v:=by
 cases b with
 | true=>obtain⟨o,e,_,d⟩:=q;exact⟨o,e,fun v z=>by rw[d] at z;cases z⟩
 | false=>obtain⟨o,e,_,d⟩:=q;exact⟨o,e,fun v z=>by rw[d] at z;cases z⟩
end
theorem Jkb{X:Cx}{pins:List (Addr×Obj)}{σ:St}{H:Hp}{s:Shared}{b1 b2:Bool}{a1 a2 z TI TO i1 i2:Addr}{xs ys:List V}(I:Inv X pins σ H s)(q1:Sq b1 X.K H a1 xs)(q2:Sq b2 X.K H a2 ys)(hf:∀b∈[z,TI,TO,i1,i2],FpOk X pins H b)
 (nd:[z,TI,TO,i1,i2].Nodup):ZA z TI TO i1 i2 [i1,a1] [i2,a2]:=by
 have o1:∀c∈[z,TI,TO,i1,i2],a1≠c:=fun c hc=>FpOk.off I q1 (hf c hc)
 have o2:∀c∈[z,TI,TO,i1,i2],a2≠c:=fun c hc=>FpOk.off I q2 (hf c hc)
 simp only[List.nodup_cons,List.mem_cons,List.mem_nil_iff,or_false,not_or] at nd;obtain⟨⟨n1,n2,n3,n4⟩,⟨n5,n6,n7⟩,⟨n8,n9⟩,n10,_⟩:=nd;have c1:=o1 z (by simp);have c2:=o1 TI (by simp);have c3:=o1 TO (by simp);have c4:=o1 i2 (by simp);have d1:=o2 z (by simp);have d2:=o2 TI (by simp);have d3:=o2 TO (by simp);have d4:=o2 i1 (by simp);refine⟨Ne.symm n1,Ne.symm n2,n5,by simp,by simp,?_,?_,?_,?_,?_,?_,?_,?_⟩ <;> simp only[List.mem_cons,List.mem_nil_iff,or_false,not_or]
 ·exact⟨n3,Ne.symm c1⟩
 ·exact⟨n4,Ne.symm d1⟩
 ·exact⟨n6,Ne.symm c2⟩
 ·exact⟨n7,Ne.symm d2⟩
 ·exact⟨n8,Ne.symm c3⟩
 ·exact⟨n9,Ne.symm d3⟩
 ·exact⟨n10,Ne.symm d4⟩
 ·exact⟨Ne.symm n10,Ne.symm c4⟩
theorem JhF{P:Program}{w:World}{K:Frag}{elts:List Expr}{kk:Nat}{pos:Pos}(b1 b2:Bool)(a1 a2 z TI TO i1 i2:Addr)(nd:[z,TI,TO,i1,i2].Nodup) :
 Turn P w K (.Tuple elts kk pos) (Itz K b1 b2 a1 a2) [z,TI,TO,i1,i2] z (ZSt b1 b2 a1 a2 z TI TO i1 i2) where
 mem:=by simp
 obj:=fun i h st b hb=>by
  obtain⟨s1,s2,⟨u,v,s3⟩,s4,s5⟩:=st;simp only[List.mem_cons,List.mem_nil_iff,or_false] at hb;rcases hb with rfl|rfl|rfl|rfl|rfl
  ·exact⟨_,s1,fun v z=>nomatch (show Data.fields _=Data.cell v from z)⟩
  ·exact⟨_,s2,fun v z=>nomatch (show Data.seq _ _=Data.cell v from z)⟩
  ·exact⟨_,s3,fun v z=>nomatch (show Data.seq _ _=Data.cell v from z)⟩
  ·exact IsItr.obj (b:=b1) s4
  ·exact IsItr.obj (b:=b2) s5
 keep:=fun i h h' st k=>by obtain⟨s1,s2,⟨u,v,s3⟩,s4,s5⟩:=st;exact⟨k z (by simp) _ s1,k TI (by simp) _ s2,⟨u,v,k TO (by simp) _ s3⟩,IsItr.keep (b:=b1) s4 fun o e=>k i1 (by simp) o e,IsItr.keep (b:=b2) s5 fun o e=>k i2 (by simp) o e⟩
 item:=by
  intro X hP hw hK hc i pins s σ H E I hf st hg;subst hP hw hK;obtain⟨xs,ys,x,y,q1,q2,e1,e2⟩:=hg;obtain⟨its,r1,p1⟩:=q1.heap I;obtain⟨jts,r2,p2⟩:=q2.heap I;obtain⟨s1,s2,⟨u0,v0,s3⟩,s4,s5⟩:=st;have Z:=Jkb I q1 q2 hf nd;have hh:X.A.in1.handled=none:=I.ok.hd hc;have ne1:a1≠i1:=FpOk.off I q1 (hf i1 (by simp));have ne2:a2≠i2:=FpOk.off I q2 (hf i2 (by simp));have D1:=Draws.sq (prog:=X.prog) (w:=X.w) (b:=b1) (xs:=its.toArray) hh i1 ne1
  have D2:=Draws.sq (prog:=X.prog) (w:=X.w) (b:=b2) (xs:=jts.toArray) hh i2 ne2
  have hT:s.TypeIs (.ref z) "zip":=⟨_,s1,rfl⟩
  have l1:i<its.toArray.size:=by have:=(List.getElem?_eq_some_iff.mp e1).1;rw[List.size_toArray,<- r1.length];exact this
  have l2:i<jts.toArray.size:=by have:=(List.getElem?_eq_some_iff.mp e2).1;rw[List.size_toArray,<- r2.length];exact this
  unfold pyNext;refine wpAny_bind (wpAny_attempt (wpAny_callSpecial?_slot (name:=Str.ofString "__next__") hT F.slot_zip_next (wpAny_call_entry F.slot_zip_next hT F.entry_zip_next (JfD Z D1 D2 s1 s2 s3 ⟨s4,p1⟩ ⟨s5,p2⟩ l1 l2 fun u v k tk pu pv t1 t2 t3 t4 t5 t6 t7 t8=>wpAny_pure ?_) (F.args_zip_next_1 _))));refine⟨_,rfl,wpAny_letOwnedTupleGo_zip (s:={ s with heap:=k,toks:=tk }) t1 fun k2 t9 e9=>?_⟩
  replace e9:Heap.SameBut z k k2:=e9;obtain⟨ux,hx1,rx⟩:=r1.get e1;obtain⟨uy,hy1,ry⟩:=r2.get e2
  have eu:u=ux:=by
   have pu':its[i]?=some u:=by simpa using pu
   rw[hx1] at pu';exact(Option.some.inj pu').symm
  have ev:v=uy:=by
   have pv':jts[i]?=some v:=by simpa using pv
   rw[hy1] at pv';exact(Option.some.inj pv').symm
  subst eu ev
  have zlt:∀b∈[z,TI,TO,i1,i2],b<s.heap.objs.size:=fun b hb=>by
   simp only[List.mem_cons,List.mem_nil_iff,or_false] at hb;rcases hb with rfl|rfl|rfl|rfl|rfl
   ·exact Heap.lt_size s1
   ·exact Heap.lt_size s2
   ·exact Heap.lt_size s3
   ·obtain⟨_,e,_⟩:=IsItr.obj (b:=b1) s4;exact Heap.lt_size e
   ·obtain⟨_,e,_⟩:=IsItr.obj (b:=b2) s5;exact Heap.lt_size e
  have nz:s.heap.objs.size≠z:=Nat.ne_of_gt (zlt z (by simp))
  -- the pair is laid,then the private objects turn
  have I1:Inv X pins σ (upd H s.heap.objs.size (.tup [x,y])) { s with heap:=s.heap.push { cls:=.type "tuple",data:=.seq #[u,v] },toks:=s.toks } :=
   I.laid (o:=.tup [x,y]) (fun b ob q=>Heap.get?_push_of_some _ q) (Nat.le_refl _) ⟨by show 2<=sizeLine;decide,[u,v],.cons rx (.cons ry .nil),⟨_,Heap.get?_push_size _ rfl,rfl,_,rfl⟩⟩
  have hf1:∀b∈[z,TI,TO,i1,i2],FpOk X pins (upd H s.heap.objs.size (.tup [x,y])) b:=fun b hb=>⟨by rw[Jh (Nat.ne_of_lt (zlt b hb))];exact(hf b hb).1,(hf b hb).2⟩
  have I2:Inv X pins σ (upd H s.heap.objs.size (.tup [x,y])) { s with heap:=k2,toks:=tk }:=Inv.turnedL (s:={ s with heap:=s.heap.push { cls:=.type "tuple",data:=.seq #[u,v] },toks:=s.toks }) I1 (fun b o hb q=>by
   simp only[List.mem_cons,List.mem_nil_iff,or_false,not_or] at hb;refine e9.extBut b o hb.1 ?_
   by_cases hbs:b=s.heap.objs.size
   ·subst hbs;have q':(s.heap.push { cls:=.type "tuple",data:=.seq #[u,v] }).get? s.heap.objs.size=some o:=q;rw[Heap.get?_push_size _ rfl] at q';cases q';exact t6
   ·have q':s.heap.get? b=some o:=by have q2:(s.heap.push { cls:=.type "tuple",data:=.seq #[u,v] }).get? b=some o:=q;exact(Heap.get?_push_ne s.heap b _ hbs).symm.trans q2
    exact t8 b o hb.1 hb.2.2.1 hb.2.2.2.1 hb.2.2.2.2 q') hf1
  refine⟨.ref s.heap.objs.size,_,I2,rfl,⟨_,x,y,rfl,I.hok.fresh (Nat.le_refl _),rfl,fun xs' ys' h1 h2=>?_⟩,⟨t9,e9.extBut _ _ Z.a1 t2,⟨_,_,e9.extBut _ _ Z.a2 t3⟩,?_,?_⟩,fun b hb=>(hf1 b hb).1⟩
  ·rw[Sq.inj I h1 q1,Sq.inj I h2 q2];exact⟨e1,e2⟩
  ·exact IsItr.keep (b:=b1) t4.1 fun o e=>e9.extBut _ _ (fun q=>Z.z1 (q▸Z.m1)) e
  ·exact IsItr.keep (b:=b2) t5.1 fun o e=>e9.extBut _ _ (fun q=>Z.z2 (q▸Z.m2)) e
 done:=by
  intro X hP hw hK hc i pins s σ H E I hf st hg;subst hP hw hK;obtain⟨xs,ys,q1,q2,ei⟩:=hg;obtain⟨its,r1,p1⟩:=q1.heap I;obtain⟨jts,r2,p2⟩:=q2.heap I;obtain⟨s1,s2,⟨u0,v0,s3⟩,s4,s5⟩:=st;have Z:=Jkb I q1 q2 hf nd;have hh:X.A.in1.handled=none:=I.ok.hd hc;have D1:=Draws.sq (prog:=X.prog) (w:=X.w) (b:=b1) (xs:=its.toArray) hh i1 (FpOk.off I q1 (hf i1 (by simp)));have D2:=Draws.sq (prog:=X.prog) (w:=X.w) (b:=b2) (xs:=jts.toArray) hh i2 (FpOk.off I q2 (hf i2 (by simp)))
  have hT:s.TypeIs (.ref z) "zip":=⟨_,s1,rfl⟩
  have n1:its.toArray.size=xs.length:=by rw[List.size_toArray,r1.length]
  have n2:jts.toArray.size=ys.length:=by rw[List.size_toArray,r2.length]
  unfold pyNext;refine wpAny_bind (wpAny_attempt (wpAny_callSpecial?_slot (name:=Str.ofString "__next__") hT F.slot_zip_next (wpAny_call_entry F.slot_zip_next hT F.entry_zip_next (JhR Z D1 D2 s1 s2 s3 ⟨s4,p1⟩ ⟨s5,p2⟩ (by omega) fun k e tk kk he=>?_) (F.args_zip_next_1 _))));obtain⟨o,ho,hoc⟩:=he;refine wpAny_bind (wpAny_isInstance (T:="StopIteration") (b:=true) ⟨o,ho,hoc⟩ isSubtype_stop (wpAny_pure ⟨rfl,?_⟩));exact I.turnedL (fun b o hb q=>by simp only[List.mem_cons,List.mem_nil_iff,or_false,not_or] at hb;exact kk b o hb.1 hb.2.2.1 hb.2.2.2.1 hb.2.2.2.2 q) hf
 self:=fun _ _ _ _ _ st h=>wpAny_pyIter_zip st.1 h
noncomputable def iZp(K:Frag)(ta:TA):TI:=fun σ H R=>ta σ H fun vs H1=>∃(b1 b2:Bool) (a1 a2:Addr) (xs ys:List V),vs=[.ref a1,.ref a2]/\Sq b1 K H1 a1 xs/\Sq b2 K H1 a2 ys/\R (Itz K b1 b2 a1 a2) H1
theorem JdR{X:Cx}{K:Frag}{elts:List Expr}{kk:Nat}{tpos:Pos}{a b:Expr}{ta:TA}{p pos:Pos}(hK:X.K=K)(hg:Gl X "zip")(hm:X.mg "zip"=none)(ha:PA X [a,b] ta)(hs:starEach [a,b] X.env=[(false,eval a X.env),(false,eval b X.env)]:=by rfl)
 (hs2:starEach [b] X.env=[(false,eval b X.env)]:=by rfl):PI X (.Tuple elts kk tpos) (.Call (.Name "zip" p) [a,b] [] pos) (iZp K ta):=by
 subst hK;intro pins s σ H R I h;refine Call_ (UJ I hg hm JfT (PyProof.Rows.callWith_type1 (thn (ha pos pins s σ H _ I h) fun us s1 ⟨vs,H1,I1,r1,q1⟩=>?_) (by rw[hs,hs2]) (by rw[hs2];rfl)));obtain⟨b1,b2,a1,a2,xs,ys,e,c1,c2,q⟩:=q1;subst e
 cases r1 with
 | cons r rr =>
 cases rr with
 | cons r' rr =>
 cases rr;cases r;cases r';obtain⟨its,w1,p1⟩:=c1.heap I1;obtain⟨jts,w2,p2⟩:=c2.heap I1;refine JeP p1 p2 fun h' t1 t2 t3 t4 t5 kp=>wpAny_pyIter_zip t1 ?_
 refine⟨_,[s1.heap.objs.size+4,s1.heap.objs.size+2,s1.heap.objs.size+3,s1.heap.objs.size,s1.heap.objs.size+1],_,_,H1,rfl,I1.kept (t':=s1.toks) kp,JhF b1 b2 a1 a2 _ _ _ _ _ (by simp),⟨t1,t2,⟨_,_,t3⟩,t4,t5⟩,fun b hb=>?_,q⟩
 have hle:s1.heap.objs.size<=b:=by simp only[List.mem_cons,List.mem_nil_iff,or_false] at hb;rcases hb with rfl|rfl|rfl|rfl|rfl <;> first|exact Nat.le_refl _|exact Nat.le_add_right _ _
 exact I1.fpOk hle (I1.hok.fresh hle)
end L2

namespace LE
open PySem L2 LR
noncomputable def JhP(ds es:List D):List D:=List.zipWith (fun a b=>.tup [a,b]) ds es
noncomputable def JiE(m:Bool)(as:En->Option (List Sl)):En->Option (List D):=fun E=>(as E).bind fun ss=>match ss with
 | [s,t]=>(s.it m).bind fun ds=>(t.it m).bind fun es=>some (JhP ds es)
 | _=>none
section
variable{K:Frag}{C:Addr}{m:Bool}
theorem Jcy{H H1 H1':Hp}{v:V}{s:Sl}{ds:List D}(r:RR K C H H1 H1' v s)(i:Same H1 H1')(e:s.it m=some ds) :
 ∃(b:Bool) (a:Addr) (xs:List V),v=.ref a/\(∀A,(m=true->A=H1')->∀H0' H',SStep A (Yi H H1 H1') H0' H'->Sq b K H' a xs)/\RDL K C (Yi H H1 H1') xs ds:=by
 have f:=JP (Hs:=H) i
 have shared:∀{d:D},RD K C (Yi H H1 H1') v d->(Sl.sh d).q=some ds->∃(b:Bool) (a:Addr) (xs:List V),v=.ref a/\(∀A,(m=true->A=H1')->∀H0' H',SStep A (Yi H H1 H1') H0' H'->Sq b K H' a xs)/\RDL K C (Yi H H1 H1') xs ds:=fun {d} r e=>by
  cases d with
  | lst es=>cases e;obtain⟨l,xs,h1,h2,h3⟩:=RD.lstI r;exact⟨false,l,xs,h1,fun A _ H0' H' st=>SqL.of (st.i _ _ (st.z _ _ h2)),h3⟩
  | fz es=>cases e;obtain⟨l,xs,h1,h2,h3⟩:=RD.fzI r;exact⟨false,l,xs,h1,fun A _ H0' H' st=>(st.z.trans st.i).seq h2,h3⟩
  | tup es=>cases e;obtain⟨l,xs,h1,h2,h3⟩:=RD.tupI r;exact⟨true,l,xs,h1,fun A _ H0' H' st=>(st.z.trans st.i).seqT h2,h3⟩
  | _=>cases e
 cases s with
 | no=>cases e
 | sh d=>exact shared (RD.mono f.z r) e
 | own es=>exact shared (RR.frz (s:=.own es) i r rfl) e
 | bd _ _=>cases e
 | bt _ _=>cases e
 | od _ _=>cases e
 | ot _ _=>cases e
 | bo es =>
  unfold Sl.it at e;dsimp only at e;split at e
  ·next hm=>cases e;obtain⟨l,xs,h1,h2,h3⟩:=r;refine⟨false,l,xs,h1,fun A hA H0' H' st=>?_,h3.mono f.z⟩;have:=hA hm;subst this;exact SqL.of (st.b _ _ h2)
  ·cases e
theorem Jhg{t:TA}{ev:En->Option (List Sl)}(ha:SA K C t ev):SI K C m (iZp K t) (JiE m ev):=by
 intro B H0 H σ E ds R I e q;obtain⟨ss,e1,e⟩:=bind_some e;split at e
 ·next s u =>
  obtain⟨ds1,e2,e⟩:=bind_some e;obtain⟨ds2,e3,e⟩:=bind_some e;cases e;refine ha B H0 H σ E _ _ I e1 fun vs H1 H1' s1 r1=>?_
  obtain⟨v,w,rfl,ra,rb⟩:=r1.two;have f:=JP (Hs:=H) s1.i;obtain⟨b1,a1,xs,rfl,k1,w1⟩:=Jcy ra s1.i e2;obtain⟨b2,a2,ys,rfl,k2,w2⟩:=Jcy rb s1.i e3;have hA:m=true->(if m=true then H1' else B)=H1':=fun h=>if_pos h
  have sA:Same (if m=true then H1' else B) H1':=by
   split
   ·exact Same.refl _
   ·exact I.b.trans s1.h
  have st0:SStep (if m=true then H1' else B) (Yi H H1 H1') (Yi H H1 H1') H1':=⟨sA,Same.refl _,fun _ _ e=>.inl e,f.i⟩
  refine⟨b1,b2,a1,a2,xs,ys,rfl,k1 _ hA _ _ st0,k2 _ hA _ _ st0,q _ _ _ (s1.comp f fun _ z=>z) ?_⟩;intro H0' H' st;have q1:=k1 _ hA _ _ st;have q2:=k2 _ hA _ _ st;refine⟨fun i d e=>?_,⟨xs,ys,q1,q2,by unfold JhP;rw[List.length_zipWith,w1.1,w2.1]⟩⟩;unfold JhP at e;rw[List.getElem?_zipWith] at e
  cases g1:ds1[i]? with
  | none=>rw[g1] at e;cases e
  | some d1 =>
   cases g2:ds2[i]? with
   | none=>rw[g1,g2] at e;cases e
   | some d2 =>
    rw[g1,g2] at e;cases e;obtain⟨x,x1,x2⟩:=w1.get g1;obtain⟨y,y1,y2⟩:=w2.get g2;refine⟨⟨xs,ys,x,y,q1,q2,x1,y1⟩,?_⟩;rintro z H2 ⟨p,u',v',rfl,hp,rfl,hv⟩;obtain⟨h1,h2⟩:=hv xs ys q1 q2;rw[x1] at h1;cases h1;rw[y1] at h2;cases h2;have h0:H0' p=none:=Same.free st.i hp;refine⟨upd H0' p (.tup [x,y]),⟨.new hp,.new h0,fun a o e=>?_,fun a o e=>?_⟩,?_⟩
    ·by_cases h:a=p
     ·subst h;exact .inr (.inl hp)
     ·rw[Jh h] at e;exact .inl e
    ·by_cases h:a=p
     ·subst h;rw[Jo] at e ⊢;exact e
     ·rw[Jh h] at e ⊢;exact st.i a o e
    ·exact .mkT (.of Jo) (.cons (x2.mono (st.z.trans (.new h0))) (.cons (y2.mono (st.z.trans (.new h0))) .nil))
 ·cases e
theorem Jez{α β:Type}(f:α->D)(g:β->D)(xs:List α)(ys:List β):JhP (xs.map f) (ys.map g)=(List.zip xs ys).map fun p=>.tup [f p.1,g p.2]:=by
 unfold JhP
 induction xs generalizing ys with
 | nil=>rfl
 | cons x xs ih=>cases ys with
  | nil=>rfl
  | cons y ys=>simp[ih]
end
end LE

namespace PySem
namespace F
theorem Jhb:Manifest.owners.lookup (String.ofList ['d','e','s','r','e','v','e','r'].reverse)=some Manifest.sig_reversed:=by kernel_rfl
theorem Jaw:Slot "reversed" "__init__" "object.__init__" :=
 .of (owner:="object") (n:="__init__") (by rw[typeLookup_type,builtinLookup_eq_fast];kernel_rfl) (by decide +kernel) (by decide +kernel) (by decide +kernel) (by first | exact .inl (by decide +kernel) | exact .inr (by decide +kernel)) (by rw[isSubtype_type];kernel_rfl)
theorem rv_slot_next:Slot "reversed" "__next__" "reversed.__next__" :=
 .of (owner:="reversed") (n:="__next__") (by rw[typeLookup_type,builtinLookup_eq_fast];kernel_rfl) (by decide +kernel) (by decide +kernel) (by decide +kernel) (by first | exact .inl (by decide +kernel) | exact .inr (by decide +kernel)) (by rw[isSubtype_type];kernel_rfl)
theorem rv_slot_iter:Slot "reversed" "__iter__" "reversed.__iter__" :=
 .of (owner:="reversed") (n:="__iter__") (by rw[typeLookup_type,builtinLookup_eq_fast];kernel_rfl) (by decide +kernel) (by decide +kernel) (by decide +kernel) (by first | exact .inl (by decide +kernel) | exact .inr (by decide +kernel)) (by rw[isSubtype_type];kernel_rfl)
theorem rv_args_next(a:Value):argsOk "reversed.__next__" ⟨[a],[]⟩:=by unfold argsOk;rw[signature?_of (id:="reversed.__next__") (n:=['_','_','t','x','e','n','_','_']) (o:=['d','e','s','r','e','v','e','r']) (by kernel_rfl) Jhb];kernel_rfl
theorem rv_args_iter(a:Value):argsOk "reversed.__iter__" ⟨[a],[]⟩:=by unfold argsOk;rw[signature?_of (id:="reversed.__iter__") (n:=['_','_','r','e','t','i','_','_']) (o:=['d','e','s','r','e','v','e','r']) (by kernel_rfl) Jhb];kernel_rfl
theorem rv_entry_next:entryFor table "reversed.__next__"=some Builtin.«reversed.__next__»:=entryFor_of_tree (by kernel_rfl)
theorem rv_entry_iter:entryFor table "reversed.__iter__"=some Builtin.«dict_keyiterator.__iter__» :=
 entryFor_alias (id':="dict_keyiterator.__iter__") (by kernel_rfl) (by first | rfl | decide +kernel | (unfold String.splitOn;simp +decide [String.splitOnAux])) (by decide +kernel) (by kernel_rfl)
theorem rv_called:TypeCalled "reversed" "reversed.__new__" "object.__init__" :=
 ⟨by decide +kernel,by decide +kernel,⟨_,_,mro_reversed⟩,made_reversed,by decide +kernel,sub_reversed_self,Jaw⟩
theorem rv_tuple_none:typeLookup (.type "tuple") "__reversed__"=pure none:=by rw[typeLookup_type,builtinLookup_eq_fast];kernel_rfl
theorem rv_tuple_dict:isSubtype (.type "tuple") (.type "dict")=pure false:=by rw[isSubtype_type];kernel_rfl
end F
abbrev Jcd(h:Heap)(r a:Addr)(i:Int):Prop:=h.get? r=some { cls:=.type "reversed",dict:=none,data:=.fields #[.ref a,rawInt i],slots:=#[] }
section
variable{prog:Program}{w:World}{A:Around}{E:Value->Shared->Prop}{s:Shared}{a r:Addr}{xs:Array Value}
theorem JgC(a:Addr)(xs:Array Value):Meets (Builtin.«reversed.__new__» ⟨[.type "reversed",.ref a],[]⟩) (fun _ R s=>s.heap.IsTuple a xs/\(xs.size:Int)<2 ^ 63 ∧
 R (.ok (.ret (.ref s.heap.objs.size))) { s with heap:=s.heap.push { cls:=.type "reversed",data:=.fields #[.ref a,rawInt ((xs.size:Int)-1)] },toks:=s.toks+1+1 }) :=
 .of_wp fun prog w A R s h=>by
  obtain⟨hp,g,d,tk,os⟩:=s;obtain⟨q1,q2,h⟩:=h;have hT:(⟨hp,g,d,tk,os⟩:Shared).TypeIs (.ref a) "tuple":=q1.typeIs;unfold Builtin.«reversed.__new__»;refine wpAny_bind (wpAny_of_eq (newClass_reversed _) ?_)
  try dsimp only
  refine wpAny_bind (wpAny_of_eq (a:=()) (by first|rfl|kernel_rfl) ?_);refine wpAny_bind (wpAny_of_eq (a:=()) (by first|rfl|kernel_rfl) ?_)
  try dsimp only
  refine wpAny_bind (wpAny_specialOf hT F.rv_tuple_none ?_)
  try dsimp only
  refine wpAny_bind ?_;refine wpAny_bind (m:=isInstance (.ref a) (.type "dict")) (wpAny_isInstance hT F.rv_tuple_dict ?_);refine wpAny_bind (wpAny_specialOf hT PyProof.Rows.slot_tuple_getitem.lookup ?_);refine wpAny_pure ?_;refine wpAny_bind (PyProof.Rows.len_tuple (s:=⟨hp,g,d,tk,os⟩) q1 q2 ?_);refine wpAny_bind (wpAny_of_eq (a:=some (xs.size:Int)) rfl ?_)
  try dsimp only
  refine wpAny_bind ?_;show wpAny _ _ (newObj (.type "reversed") (.fields #[.ref a,rawInt ((xs.size:Int)-1)])) _ _ _;exact wpAny_newObj_type (wpAny_pure ⟨_,rfl,h⟩) (by size_fits)
theorem Jh3{Q:Value->Shared->Prop}(q1:s.heap.IsTuple a xs)(q2:(xs.size:Int)<2 ^ 63)
 (h:∀h' tk,Jcd h' s.heap.objs.size a ((xs.size:Int)-1)->(∀c o,s.heap.get? c=some o->h'.get? c=some o)->Q (.ref s.heap.objs.size) { s with heap:=h',toks:=tk }) :
 wpAny (model prog w) A (call (.type "reversed") [.ref a]) Q E s:=by
 refine callType_new F.rv_called (by decide) (F.typeCall_reversed_1 _) (F.newCall_reversed_1 _) (fun obj=>F.args_object_init_2 obj _) F.entry_reversed_new (JgC a xs) ⟨q1,q2,?_⟩;exact⟨⟨_,Heap.get?_push_size _ rfl,rfl⟩,h _ _ (Heap.get?_push_size _ rfl) fun c o q=>Heap.get?_push_of_some _ q⟩
theorem JiP{i:Nat}{x:Value}{Q:Option Value->Shared->Prop}(hit:Jcd s.heap r a (i:Int))(hl:s.heap.IsTuple a xs)(hb:(i:Int)<2 ^ 63)(hx:xs[i]?=some x)
 (hQ:∀h' tk,Jcd h' r a ((i:Int)-1)->Heap.SameBut r s.heap h'->Q (some x) { s with heap:=h',toks:=tk }):wpAny (model prog w) A (pyNext (.ref r)) Q E s:=by
 have hT:s.TypeIs (.ref r) "reversed":=⟨_,hit,rfl⟩
 have hi:i<xs.size:=by
  by_cases z:i<xs.size
  ·exact z
  ·rw[Array.getElem?_eq_none (by omega)] at hx;cases hx
 unfold pyNext;refine wpAny_bind (wpAny_attempt (wpAny_callSpecial?_slot (name:=Str.ofString "__next__") hT F.rv_slot_next
  (wpAny_call_entry F.rv_slot_next hT F.rv_entry_next ?_ (F.rv_args_next _))))
 unfold Builtin.«reversed.__next__»;refine wpAny_bind (wpAny_of_eq (a:=(Value.ref r,[])) rfl ?_)
 try dsimp only
 refine wpAny_bind (wpAny_field hit rfl (x:=.ref a) rfl ?_);refine wpAny_bind (wpAny_field hit rfl (x:=rawInt (i:Int)) rfl ?_);show wpAny _ _ (if (i:Int)<0 then _ else _) _ _ s;rw[if_neg (by omega)];show wpAny _ _ (specialOf (.ref a) _ >>= _) _ _ s;refine wpAny_bind (wpAny_specialOf hl.typeIs PyProof.Rows.slot_tuple_getitem.lookup ?_);show wpAny _ _ (mkInt (i:Int) >>= _) _ _ s;refine wpAny_bind (wpAny_mkInt ?_);refine wpAny_bind (wpAny_attempt (PyProof.Rows.getItem_tuple (s:={ s with toks:=s.toks+1 }) hl (by omega) hb (j:=i) (by simp[seqIndex?];omega) hx ?_))
 show wpAny _ _ (field (.ref r) 1 >>= _) _ _ _;refine wpAny_bind (wpAny_field hit rfl (x:=rawInt (i:Int)) rfl ?_)
 show wpAny _ _ (setField (.ref r) 1 (rawInt ((i:Int)-1)) >>= _) _ _ _;refine wpAny_bind (wpAny_setField_rec hit (by simp) fun k1 y1 e1=>?_);exact wpAny_pure ⟨x,rfl,wpAny_pure (hQ k1 _ y1 e1)⟩
theorem Jkr{Q:Option Value->Shared->Prop}(hh:A.handled=none)(hit:Jcd s.heap r a (-1))
 (hQ:∀h',Heap.ExtBut r s.heap h'->Q none { s with heap:=h' }):wpAny (model prog w) A (pyNext (.ref r)) Q E s:=by
 have hT:s.TypeIs (.ref r) "reversed":=⟨_,hit,rfl⟩
 unfold pyNext;refine wpAny_bind (wpAny_attempt (wpAny_callSpecial?_slot (name:=Str.ofString "__next__") hT F.rv_slot_next
  (wpAny_call_entry F.rv_slot_next hT F.rv_entry_next ?_ (F.rv_args_next _))))
 unfold Builtin.«reversed.__next__»;refine wpAny_bind (wpAny_of_eq (a:=(Value.ref r,[])) rfl ?_)
 try dsimp only
 refine wpAny_bind (wpAny_field hit rfl (x:=.ref a) rfl ?_);refine wpAny_bind (wpAny_field hit rfl (x:=rawInt (-1)) rfl ?_);show wpAny _ _ (if (-1:Int)<0 then _ else _) _ _ s;rw[if_pos (by decide)];refine wpAny_bind (wpAny_rule ?_);refine wpAny_bind ?_;refine wpAny_bind (m:=setField (.ref r) 1 (rawInt (-1))) (wpAny_setField_rec hit (by simp) fun k1 y1 e1=>?_);refine wpAny_setField_rec (s:={ s with heap:=k1 }) y1 (by simp) fun k2 y2 e2=>?_
 refine wpAny_bind ?_;show wpAny _ _ (newExc (.type "StopIteration") [] >>= _) _ _ _;refine wpAny_bind ?_;simp only[newExc,newTuple];refine wpAny_bind (wpAny_newObj_type ?_ (by size_fits));refine wpAny_bind (m:=firstArgMember _ _) (wpAny_of_eq (a:=Value.none) (by first | rfl | (simp only[firstArgMember];rfl)) ?_);refine wpAny_newObj_type ?_ (by size_fits);simp only[raiseNew];refine wpAny_bind (wpAny_handled ?_)
 first|rw[show A.in1.handled=none from hh]|rw[hh]
 refine wpAny_bind (wpAny_pure (wpAny_throw ?_));refine wpAny_bind (wpAny_isInstance (T:="StopIteration") (b:=true) ⟨_,Heap.get?_push_size _ rfl,rfl⟩ isSubtype_stop ?_)
 replace e1:Heap.SameBut r s.heap k1:=e1
 replace e2:Heap.SameBut r k1 k2:=e2;refine wpAny_pure (hQ _ ?_);exact(Heap.ExtBut.push (Heap.ExtBut.push (fun b o hb q=>e2.extBut b o hb (e1.extBut b o hb q)) _) _)
theorem JdE{i:Int}{Q:Value->Shared->Prop}(hit:Jcd s.heap r a i)(h:Q (.ref r) s):wpAny (model prog w) A (pyIter (.ref r)) Q E s:=by
 have hT:s.TypeIs (.ref r) "reversed":=⟨_,hit,rfl⟩
 refine wpAny_pyIter_slot hT F.rv_slot_iter (wpAny_call_entry F.rv_slot_iter hT F.rv_entry_iter ?_ (F.rv_args_iter _));show wpAny _ _ (ret (.ref r)) _ _ s;exact wpAny_pure ⟨_,rfl,"reversed",_,hT,F.rv_slot_next.lookup,h⟩
end
end PySem
namespace L2
open PySem PySem.Spec PyProof.Rows
noncomputable def Itv(K:Frag)(b:Bool)(a:Addr)(n:Nat):It :=
 ⟨fun i H=>i<n/\∃xs,Sq b K H a xs/\xs.length=n,fun i H x H'=>H'=H/\∀xs,Sq b K H a xs->xs[n-1-i]?=some x,fun i _=>i=n⟩
noncomputable def Jnz(b:Bool)(r a:Addr)(i:Int)(h:Heap):Prop:=match b with
 | true=>Jcd h r a i
 | false=>h.IsRevIter r a i
theorem Jeu{P:Program}{w:World}{K:Frag}{tg:Expr}(b:Bool)(a r:Addr)(n:Nat)(hn:n<=sizeLine):Turn P w K tg (Itv K b a n) [r] r (fun i h=>Jnz b r a ((n:Int)-1-(i:Int)) h) where
 mem:=by simp
 obj:=fun i h st c hc=>by
  have e:c=r:=by simpa using hc
  subst e
  cases b with
  | true=>exact⟨_,st,fun v z=>nomatch (show Data.fields _=Data.cell v from z)⟩
  | false=>obtain⟨o,e,_,d⟩:=st;exact⟨o,e,fun v z=>by rw[d] at z;cases z⟩
 keep:=fun i h h' st k=>by
  cases b with
  | true=>exact k r (by simp) _ st
  | false=>exact Heap.IsRevIter.at st fun o e=>k r (by simp) o e
 item:=by
  intro X hP hw hK hc i pins s σ H E I hf st hg;subst hP hw hK;obtain⟨hi,xs,hq,hlen⟩:=hg;obtain⟨f0,f1,f2,f3,f4,f5⟩:=hf r (by simp);obtain⟨its,rv,p⟩:=hq.heap I;obtain⟨x,hx⟩:∃x,xs[n-1-i]?=some x:=⟨xs[n-1-i]'(by omega),by simp⟩
  obtain⟨u,hu,ru⟩:=rv.get hx;have e:(n:Int)-1-(i:Int)=((n-1-i:Nat):Int):=by omega
  have e2:((n-1-i:Nat):Int)-1=(n:Int)-1-((i+1:Nat):Int):=by omega
  rw[e] at st;have hz:sizeLine<2 ^ 63:=by decide
  cases b with
  | true =>
   refine JiP (s:=s) st p (by omega) (x:=u) (by simpa using hu) fun h' tk st' sb=>?_
   replace sb:Heap.SameBut r s.heap h':=sb;have I1:Inv X pins σ H { s with heap:=h',toks:=tk }:=I.turned (fun b o hb e=>(sb.2 b hb).trans e) f0 f1 f3 f4 f5;rw[e2] at st';exact⟨u,rfl,Ja7 (s:={ s with heap:=h',toks:=tk }) st' rfl rfl (by decide) ⟨x,H,I1,ru,⟨rfl,fun ys hy=>by rw[Sq.inj I hy hq];exact hx⟩,st',fun b hb=>(hf b hb).1⟩⟩
  | false =>
   refine wpAny_pyNext_rev_item (s:=s) st p (x:=u) (by simpa using hu) fun h' st' sb=>?_
   have I1:Inv X pins σ H { s with heap:=h' }:=I.turned (t':=s.toks) (fun b o hb e=>(sb.2 b hb).trans e) f0 f1 f3 f4 f5;rw[e2] at st';obtain⟨o,eo,co,d⟩:=id st';exact⟨u,rfl,Ja7 (s:={ s with heap:=h' }) eo co d (by decide) ⟨x,H,I1,ru,⟨rfl,fun ys hy=>by rw[Sq.inj I hy hq];exact hx⟩,st',fun b hb=>(hf b hb).1⟩⟩
 done:=by
  intro X hP hw hK hc i pins s σ H E I hf st hg;subst hP hw hK;obtain⟨f0,f1,f2,f3,f4,f5⟩:=hf r (by simp)
  replace hg:i=n:=hg;have e:(n:Int)-1-(i:Int)=-1:=by omega
  rw[e] at st
  cases b with
  | true=>exact Jkr (s:=s) (a:=a) (I.ok.hd hc) st fun h' eb=>⟨rfl,I.turned (t':=s.toks) (fun b o hb e=>eb b o hb e) f0 f1 f3 f4 f5⟩
  | false=>exact wpAny_pyNext_rev_end (s:=s) (I.ok.hd hc) st fun h' eb=>⟨rfl,I.turned (t':=s.toks) (fun b o hb e=>eb b o hb e) f0 f1 f3 f4 f5⟩
 self:=fun _ i s _ _ st h=>by
  cases b with
  | true=>exact JdE (s:=s) st h
  | false=>exact wpAny_pyIter_revIter (s:=s) st h
noncomputable def iRv(K:Frag)(ta:TA):TI:=fun σ H R=>ta σ H fun vs H1=>∃(b:Bool) (a:Addr) (xs:List V),vs=[.ref a]/\Sq b K H1 a xs/\R (Itv K b a xs.length) H1
theorem JdQ{X:Cx}{K:Frag}{tg:Expr}{a:Expr}{ta:TA}{p pos:Pos}(hK:X.K=K)(hg:Gl X "reversed")(hm:X.mg "reversed"=none)(ha:PA X [a] ta)(hs:starEach [a] X.env=[(false,eval a X.env)]:=by rfl)
:PI X tg (.Call (.Name "reversed" p) [a] [] pos) (iRv K ta):=by
 subst hK;intro pins s σ H R I h;refine Call_ (UJ I hg hm JaV (PyProof.Rows.callWith_type1 (thn (ha pos pins s σ H _ I h) fun us s1 ⟨vs,H1,I1,r1,q1⟩=>?_) (by rw[hs];rfl) (by rfl)));obtain⟨b,a,xs,e,c1,q⟩:=q1;subst e
 cases r1 with
 | cons r rr =>
 cases rr;cases r
 have fresh:∀c∈[s1.heap.objs.size],FpOk X pins H1 c:=fun c hc=>by
  have e:c=s1.heap.objs.size:=by simpa using hc
  subst e;exact I1.fpOk (Nat.le_refl _) (I1.hok.fresh (Nat.le_refl _))
 have hz:sizeLine<2 ^ 63:=by decide
 cases b with
 | true =>
  obtain⟨its,rv,p1,sz⟩:=I1.tuple c1;have hl:=rv.length;refine Jh3 (s:=s1) (xs:=its.toArray) p1 (by rw[List.size_toArray];omega) fun h' tk t1 kp=>JdE (s:={ s1 with heap:=h',toks:=tk }) t1 ?_
  refine⟨_,[s1.heap.objs.size],_,_,H1,rfl,I1.kept (t':=tk) kp,Jeu true a _ xs.length sz,?_,fresh,q⟩;show Jcd h' s1.heap.objs.size a _;have e:(its.toArray.size:Int)-1=(xs.length:Int)-1-((0:Nat):Int):=by rw[List.size_toArray,<- hl];simp
  rw[<- e];exact t1
 | false =>
  obtain⟨its,rv,p1,sz⟩:=I1.list c1;have hl:=rv.length;refine call_reversed_list (s:=s1) p1.isList (wpAny_pyIter_revIter (l:=a) (i:=((its.toArray.size:Int)-1)) ⟨_,Heap.get?_push_size _ rfl,rfl,rfl⟩ ?_);refine⟨_,[s1.heap.objs.size],_,_,H1,rfl,I1.kept (t':=s1.toks) fun b o e=>Heap.get?_push_of_some _ e,Jeu false a _ xs.length sz,?_,fresh,q⟩;refine⟨_,Heap.get?_push_size _ rfl,rfl,?_⟩;have e:(its.toArray.size:Int)-1=(xs.length:Int)-1-((0:Nat):Int):=by rw[List.size_toArray,<- hl];simp
  rw[e];rfl
end L2
namespace LE
open PySem L2 LR
noncomputable def JiD(m:Bool)(as:En->Option (List Sl)):En->Option (List D):=fun E=>(as E).bind fun ss=>match ss with
 | [s]=>(s.it m).map List.reverse
 | _=>none
section
variable{K:Frag}{C:Addr}{m:Bool}
theorem Jhf{t:TA}{ev:En->Option (List Sl)}(ha:SA K C t ev):SI K C m (iRv K t) (JiD m ev):=by
 intro B H0 H σ E ds R I e q;obtain⟨ss,e1,e⟩:=bind_some e;split at e
 ·next s =>
  obtain⟨ds1,e2,e⟩:=Option.map_eq_some_iff.mp e;subst e;refine ha B H0 H σ E _ _ I e1 fun vs H1 H1' s1 r1=>?_
  obtain⟨v,rfl,ra⟩:=r1.one;have f:=JP (Hs:=H) s1.i;obtain⟨b1,a1,xs,rfl,k1,w1⟩:=Jcy ra s1.i e2;have hA:m=true->(if m=true then H1' else B)=H1':=fun h=>if_pos h
  have sA:Same (if m=true then H1' else B) H1':=by
   split
   ·exact Same.refl _
   ·exact I.b.trans s1.h
  have st0:SStep (if m=true then H1' else B) (Yi H H1 H1') (Yi H H1 H1') H1':=⟨sA,Same.refl _,fun _ _ e=>.inl e,f.i⟩
  refine⟨b1,a1,xs,rfl,k1 _ hA _ _ st0,q _ _ _ (s1.comp f fun _ z=>z) ?_⟩;intro H0' H' st;have q1:=k1 _ hA _ _ st;refine⟨fun i d e=>?_,by rw[List.length_reverse,w1.1];rfl⟩;have hi:i<ds1.length:=by have:=(List.getElem?_eq_some_iff.mp e).1;rwa [List.length_reverse] at this
  rw[List.getElem?_reverse hi,<- w1.1] at e;obtain⟨x,x1,x2⟩:=w1.get e;refine⟨⟨by rw[w1.1];exact hi,xs,q1,rfl⟩,?_⟩;rintro z H2 ⟨rfl,hv⟩;have h1:=hv xs q1;rw[x1] at h1;cases h1;exact⟨H0',.refl st.i,x2.mono st.z⟩
 ·cases e
end
end LE

namespace PySem
open AutoSeq1 (wpAny_loadPart')
abbrev enO(it:Addr):Obj:={ cls:=.type "enumerate",data:=.fields #[.none,.bool false,.ref it,rawInt 0,.none,.none] }
theorem Jfc(b:Bool)(a:Addr)(xs:Array Value):Meets (Builtin.«enumerate.__new__» ⟨[.type "enumerate",.ref a],[]⟩) (fun _ R s=>IsSq b s.heap a xs ∧
 R (.ok (.ret (.ref (s.heap.push (itO b a)).objs.size))) { s with heap:=(s.heap.push (itO b a)).push (enO s.heap.objs.size) }) :=
 .of_wp fun prog w A R s h=>by
  obtain⟨hp,g,d,tk,os⟩:=s;obtain⟨q,h⟩:=h;have hsub:=sub_enumerate;have r:IsSq b (Shared.heap ⟨hp,g,d,tk,os⟩) a xs:=q
  obtain⟨o,hl⟩:∃o,hp.get? a=some o:=by
   cases b with
   | true=>obtain⟨o,e,_⟩:=q;exact⟨o,e⟩
   | false=>obtain⟨o,e,_⟩:=q;exact⟨o,e⟩
  wp_walk using wpAny_loadPart' hl
  refine wpAny_stack_any fun st=>wpAny_pure ?_
  split
  ·rename_i c _ _ _ _ _;cases (c == Value.type "enumerate")
   ·wp_walk using wpAny_loadPart' hl,Yy r
    exact⟨_,rfl,h⟩
   ·wp_walk using wpAny_loadPart' hl,Yy r
    exact⟨_,rfl,h⟩
  ·wp_walk using wpAny_loadPart' hl,Yy r
   exact⟨_,rfl,h⟩
section
variable{prog:Program}{w:World}{A:Around}{E:Value->Shared->Prop}{s:Shared}{b:Bool}{a e it:Addr}{xs:Array Value}
theorem JfX{Q:Value->Shared->Prop}(q:IsSq b s.heap a xs)
 (h:∀h',IsEnum h' (s.heap.objs.size+1) s.heap.objs.size 0 .none->IsItr b h' s.heap.objs.size a 0->(∀c o,s.heap.get? c=some o->h'.get? c=some o)->Q (.ref (s.heap.objs.size+1)) { s with heap:=h' }) :
 wpAny (model prog w) A (call (.type "enumerate") [.ref a]) Q E s:=by
 refine callType_new F.called_enumerate (by decide) (F.typeCall_enumerate_1 _) (F.newCall_enumerate_1 _) (fun obj=>F.args_object_init_2 obj _) F.entry_enumerate_new (Jfc b a xs) ⟨q,?_⟩;have hz:(s.heap.push (itO b a)).objs.size=s.heap.objs.size+1:=Heap.size_push ..;have fi:(itO b a).isFreed=false:=by cases b <;> rfl
 have g2:((s.heap.push (itO b a)).push (enO s.heap.objs.size)).get? (s.heap.push (itO b a)).objs.size=some _:=Heap.get?_push_size _ rfl
 have g1:((s.heap.push (itO b a)).push (enO s.heap.objs.size)).get? s.heap.objs.size=some _:=Heap.get?_push_of_some _ (Heap.get?_push_size _ fi)
 show _/\_;rw[hz] at g2;rw[hz];exact⟨⟨_,g2,rfl⟩,h _ g2 (.new g1) fun c o x=>Heap.get?_push_of_some _ (Heap.get?_push_of_some _ x)⟩
theorem Jgb{p:List Addr}{n i:Nat}{P:Nat->Value->Prop}{S:Nat->Heap->Prop}{old:Value}{Q:Value->Shared->Prop}(D:Draws prog w A it p n P S)(he:IsEnum s.heap e it i old)(st:S i s.heap)(hi:i<n)(hne:e∉p)(him:it∈p)
 (hQ:∀x h' tk t,P i x->IsEnumOut h' e it ((i:Int)+1) x s.heap.objs.size->S (i+1) h'->h'.get? s.heap.objs.size=some { cls:=.type "tuple",data:=.seq #[.int i t,x] }->h'.objs.size=s.heap.objs.size+1 ->
  (∀c o,c≠e->c≠it->s.heap.get? c=some o->h'.get? c=some o)->Q (.ref s.heap.objs.size) { s with heap:=h',toks:=tk }) :
 wpAny (model prog w) A (Builtin.«enumerate.__next__» ⟨[.ref e],[]⟩) (fun fin s'=>∃v,fin=.done (.ret v)/\Q v s') E s:=by
 obtain⟨hp,g,d,tk,os⟩:=s;have ne:e≠it:=fun q=>hne (q▸him)
 show wpAny _ _ (field (.ref e) 2 >>= _) _ _ _;refine wpAny_bind (wpAny_field he rfl (x:=.ref it) rfl (wpAny_bind (D.item i _ _ _ hi st fun x k1 t1 px s1 e1=>?_)))
 replace e1:Heap.SameBut it hp k1:=e1;have E1:IsEnum k1 e it i old:=(e1.2 e ne).trans he;refine wpAny_bind (wpAny_field (s:=⟨k1,g,d,t1,os⟩) E1 rfl (x:=rawInt i) rfl ?_);show wpAny _ _ (field (.ref e) 4 >>= _) _ _ ⟨k1,g,d,t1,os⟩;refine wpAny_bind (wpAny_field (s:=⟨k1,g,d,t1,os⟩) E1 rfl (x:=.none) rfl ?_);show wpAny _ _ (mkInt i >>= _) _ _ ⟨k1,g,d,t1,os⟩;refine wpAny_bind (wpAny_mkInt ?_);show wpAny _ _ (setField (.ref e) 3 (rawInt ((i:Int)+1)) >>= _) _ _ ⟨k1,g,d,t1+1,os⟩
 refine wpAny_bind (wpAny_setField_rec E1 (by simp) fun k2 E2 e2=>?_)
 replace e2:Heap.SameBut e k1 k2:=e2
 replace E2:IsEnum k2 e it ((i:Int)+1) old:=E2;show wpAny _ _ (setField (.ref e) 4 .none >>= _) _ _ ⟨k2,g,d,t1+1,os⟩;refine wpAny_bind (wpAny_setField_rec E2 (by simp) fun k3 E3 e3=>?_)
 replace e3:Heap.SameBut e k2 k3:=e3
 replace E3:IsEnum k3 e it ((i:Int)+1) old:=E3;show wpAny _ _ (newTuple [.int i t1,x] >>= _) _ _ ⟨k3,g,d,t1+1,os⟩;refine wpAny_bind (wpAny_newTuple ?_);have hsz:k3.objs.size=hp.objs.size:=by rw[e3.1,e2.1,e1.1]
 have elt:e<hp.objs.size:=Heap.lt_size he
 have E4:IsEnum (k3.push { cls:=.type "tuple",data:=.seq #[.int i t1,x] }) e it ((i:Int)+1) old:=Heap.get?_push_of_some _ E3
 have T4:(k3.push { cls:=.type "tuple",data:=.seq #[.int i t1,x] }).get? hp.objs.size=some { cls:=.type "tuple",data:=.seq #[.int i t1,x] }:=by rw[<- hsz];exact Heap.get?_push_size _ rfl
 have z4:(k3.push { cls:=.type "tuple",data:=.seq #[.int i t1,x] }).objs.size=hp.objs.size+1:=by rw[Heap.size_push,hsz]
 have kp:∀c o,c≠e->k1.get? c=some o->(k3.push { cls:=.type "tuple",data:=.seq #[.int i t1,x] }).get? c=some o:=fun c o c1 q=>Heap.get?_push_of_some _ (e3.extBut c o c1 (e2.extBut c o c1 q))
 show wpAny _ _ (Builtin.SmallTypes.ownedTupleIsFree (.ref e) >>= _) _ _ ⟨k3.push { cls:=.type "tuple",data:=.seq #[.int i t1,x] },g,d,t1+1,os⟩;rw[hsz]
 generalize k3.push { cls:=.type "tuple",data:=.seq #[.int i t1,x] }=k4 at E4 T4 z4 kp ⊢
 refine wpAny_bind ?_;unfold Builtin.SmallTypes.ownedTupleIsFree;refine wpAny_bind (wpAny_field (s:=⟨k4,g,d,t1+1,os⟩) E4 rfl (x:=.none) rfl (wpAny_pure ?_));simp only[if_true];refine wpAny_bind (wpAny_rule (wpAny_bind (wpAny_field (s:=⟨k4,g,d,t1+1,os⟩) E4 rfl (x:=old) rfl (wpAny_bind (wpAny_setField_rec E4 (by simp) fun k5 E5 e5=>?_)))))
 replace e5:Heap.SameBut e k4 k5:=e5
 replace E5:IsEnum k5 e it ((i:Int)+1) x:=E5;show wpAny _ _ (Builtin.SmallTypes.ownedTupleHandOut (.ref e) (.ref hp.objs.size) >>= _) _ _ ⟨k5,g,d,t1+1,os⟩;refine wpAny_bind ?_;unfold Builtin.SmallTypes.ownedTupleHandOut;refine wpAny_bind (wpAny_setField_rec E5 (by simp) fun k6 E6 e6=>?_)
 replace e6:Heap.SameBut e k5 k6:=e6
 replace E6:IsEnumOut k6 e it ((i:Int)+1) x hp.objs.size:=E6;refine wpAny_setField_rec E6 (by simp) fun k7 E7 e7=>?_
 replace e7:Heap.SameBut e k6 k7:=e7
 replace E7:IsEnumOut k7 e it ((i:Int)+1) x hp.objs.size:=E7;have up:∀c o,c≠e->k4.get? c=some o->k7.get? c=some o:=fun c o c1 q=>e7.extBut c o c1 (e6.extBut c o c1 (e5.extBut c o c1 q))
 refine wpAny_bind (wpAny_letGo (wpAny_pure ⟨_,rfl,hQ x k7 (t1+1) t1 px E7 ?_ (up _ _ (Nat.ne_of_gt elt) T4) (by rw[e7.1,e6.1,e5.1,z4]) fun c o c1 c2 q=>up c o c1 (kp c o c1 (e1.extBut c o c2 q))⟩));exact D.frame _ _ _ s1 fun c hc o q=>up c o (fun z=>hne (z▸hc)) (kp c o (fun z=>hne (z▸hc)) q)
theorem Jh6{p:List Addr}{n:Nat}{P:Nat->Value->Prop}{S:Nat->Heap->Prop}{old:Value}{Q:Fin->Shared->Prop}(D:Draws prog w A it p n P S)(he:IsEnum s.heap e it n old)(st:S n s.heap)
 (hE:∀h' x tk,Heap.ExtBut it s.heap h'->(∃o,h'.get? x=some o/\o.cls=.type "StopIteration")->E (.ref x) { s with heap:=h',toks:=tk }) :
 wpAny (model prog w) A (Builtin.«enumerate.__next__» ⟨[.ref e],[]⟩) Q E s:=by
 show wpAny _ _ (field (.ref e) 2 >>= _) _ _ _;refine wpAny_bind (wpAny_field he rfl (x:=.ref it) rfl (wpAny_bind (D.done _ _ _ st fun k1 x e1 hx=>?_)));exact hE k1 x s.toks e1 hx
end
end PySem
namespace L2
open PySem PySem.Spec PyProof.Rows
noncomputable def Ite(K:Frag)(b:Bool)(a:Addr):It :=
 ⟨fun i H=>∃xs x,Sq b K H a xs/\xs[i]?=some x,
  fun i H x H'=>∃p v,x=.ref p/\H p=none/\H'=upd H p (.tup [.int i,v])/\∀xs,Sq b K H a xs->xs[i]?=some v,
  fun i H=>∃xs,Sq b K H a xs/\i=xs.length⟩
theorem JjL{P:Program}{w:World}{K:Frag}{elts:List Expr}{kk:Nat}{pos:Pos}(b:Bool)(a e it:Addr)(ne:e≠it) :
 Turn P w K (.Tuple elts kk pos) (Ite K b a) [e,it] e (fun i h=>(∃old,IsEnum h e it i old)/\IsItr b h it a i) where
 mem:=by simp
 obj:=fun i h st c hc=>by
  obtain⟨⟨old,s1⟩,s2⟩:=st;simp only[List.mem_cons,List.mem_nil_iff,or_false] at hc;rcases hc with rfl|rfl
  ·exact⟨_,s1,fun v z=>nomatch (show Data.fields _=Data.cell v from z)⟩
  ·exact IsItr.obj (b:=b) s2
 keep:=fun i h h' st k=>by obtain⟨⟨old,s1⟩,s2⟩:=st;exact⟨⟨old,k e (by simp) _ s1⟩,IsItr.keep (b:=b) s2 fun o q=>k it (by simp) o q⟩
 item:=by
  intro X hP hw hK hc i pins s σ H E I hf st hg;subst hP hw hK;obtain⟨xs,x,q1,e1⟩:=hg;obtain⟨its,r1,p1⟩:=q1.heap I;obtain⟨⟨old,s1⟩,s2⟩:=st;have hh:X.A.in1.handled=none:=I.ok.hd hc;have ne1:a≠it:=FpOk.off I q1 (hf it (by simp));have ne2:a≠e:=FpOk.off I q1 (hf e (by simp));have D1:=Draws.sq (prog:=X.prog) (w:=X.w) (b:=b) (xs:=its.toArray) hh it ne1;have hT:s.TypeIs (.ref e) "enumerate":=⟨_,s1,rfl⟩
  have l1:i<its.toArray.size:=by have:=(List.getElem?_eq_some_iff.mp e1).1;rw[List.size_toArray,<- r1.length];exact this
  unfold pyNext;refine wpAny_bind (wpAny_attempt (wpAny_callSpecial?_slot (name:=Str.ofString "__next__") hT F.slot_enumerate_next (wpAny_call_entry F.slot_enumerate_next hT F.entry_enumerate_next
   (Jgb D1 s1 ⟨s2,p1⟩ l1 (by simp[ne,Ne.symm ne2]) (by simp) fun u k tk t pu t1 t2 t3 t4 t5=>wpAny_pure ?_) (F.args_enumerate_next_1 _))))
  refine⟨_,rfl,wpAny_letOwnedTupleGo_enum (s:={ s with heap:=k,toks:=tk }) t1 fun k2 t9 e9=>?_⟩
  replace e9:Heap.SameBut e k k2:=e9;obtain⟨ux,hx1,rx⟩:=r1.get e1
  have eu:u=ux:=by
   have pu':its[i]?=some u:=by simpa using pu
   rw[hx1] at pu';exact(Option.some.inj pu').symm
  subst eu
  have elt:∀c∈[e,it],c<s.heap.objs.size:=fun c hc=>by
   simp only[List.mem_cons,List.mem_nil_iff,or_false] at hc;rcases hc with rfl|rfl
   ·exact Heap.lt_size s1
   ·obtain⟨_,q,_⟩:=IsItr.obj (b:=b) s2;exact Heap.lt_size q
  have ri:RelV (.int i) (.int i t):=⟨t,rfl⟩
  have I1:Inv X pins σ (upd H s.heap.objs.size (.tup [.int i,x])) { s with heap:=s.heap.push { cls:=.type "tuple",data:=.seq #[.int i t,u] },toks:=s.toks } :=
   I.laid (o:=.tup [.int i,x]) (fun c ob q=>Heap.get?_push_of_some _ q) (Nat.le_refl _) ⟨by show 2<=sizeLine;decide,[.int i t,u],.cons ri (.cons rx .nil),⟨_,Heap.get?_push_size _ rfl,rfl,_,rfl⟩⟩
  have hf1:∀c∈[e,it],FpOk X pins (upd H s.heap.objs.size (.tup [.int i,x])) c:=fun c hc=>⟨by rw[Jh (Nat.ne_of_lt (elt c hc))];exact(hf c hc).1,(hf c hc).2⟩
  have I2:Inv X pins σ (upd H s.heap.objs.size (.tup [.int i,x])) { s with heap:=k2,toks:=tk }:=Inv.turnedL (s:={ s with heap:=s.heap.push { cls:=.type "tuple",data:=.seq #[.int i t,u] },toks:=s.toks }) I1 (fun c o hc q=>by
   simp only[List.mem_cons,List.mem_nil_iff,or_false,not_or] at hc;refine e9.extBut c o hc.1 ?_
   by_cases hcs:c=s.heap.objs.size
   ·subst hcs;have q':(s.heap.push { cls:=.type "tuple",data:=.seq #[.int i t,u] }).get? s.heap.objs.size=some o:=q;rw[Heap.get?_push_size _ rfl] at q';cases q';exact t3
   ·have q':s.heap.get? c=some o:=by have q2:(s.heap.push { cls:=.type "tuple",data:=.seq #[.int i t,u] }).get? c=some o:=q;exact(Heap.get?_push_ne s.heap c _ hcs).symm.trans q2
    exact t5 c o hc.1 hc.2 q') hf1
  refine⟨.ref s.heap.objs.size,_,I2,rfl,⟨_,x,rfl,I.hok.fresh (Nat.le_refl _),rfl,fun xs' h1=>?_⟩,⟨⟨u,?_⟩,?_⟩,fun c hc=>(hf1 c hc).1⟩
  ·rw[Sq.inj I h1 q1];exact e1
  ·have ei:((i+1:Nat):Int)=(i:Int)+1:=by omega
   rw[ei];exact t9
  ·exact IsItr.keep (b:=b) t2.1 fun o q=>e9.extBut _ _ (Ne.symm ne) q
 done:=by
  intro X hP hw hK hc i pins s σ H E I hf st hg;subst hP hw hK;obtain⟨xs,q1,ei⟩:=hg;obtain⟨its,r1,p1⟩:=q1.heap I;obtain⟨⟨old,s1⟩,s2⟩:=st;have hh:X.A.in1.handled=none:=I.ok.hd hc;have D1:=Draws.sq (prog:=X.prog) (w:=X.w) (b:=b) (xs:=its.toArray) hh it (FpOk.off I q1 (hf it (by simp)));have hT:s.TypeIs (.ref e) "enumerate":=⟨_,s1,rfl⟩
  have n1:i=its.toArray.size:=by rw[List.size_toArray,<- r1.length];exact ei
  subst n1;unfold pyNext;refine wpAny_bind (wpAny_attempt (wpAny_callSpecial?_slot (name:=Str.ofString "__next__") hT F.slot_enumerate_next (wpAny_call_entry F.slot_enumerate_next hT F.entry_enumerate_next (Jh6 D1 s1 ⟨s2,p1⟩ fun k x tk kk he=>?_) (F.args_enumerate_next_1 _))));obtain⟨o,ho,hoc⟩:=he;refine wpAny_bind (wpAny_isInstance (T:="StopIteration") (b:=true) ⟨o,ho,hoc⟩ isSubtype_stop (wpAny_pure ⟨rfl,?_⟩));exact I.turnedL (fun c o hc q=>by simp only[List.mem_cons,List.mem_nil_iff,or_false,not_or] at hc;exact kk c o hc.2 q) hf
 self:=fun _ _ _ _ _ st h=>by obtain⟨⟨old,s1⟩,_⟩:=st;exact wpAny_pyIter_enum s1 h
noncomputable def iEn(K:Frag)(ta:TA):TI:=fun σ H R=>ta σ H fun vs H1=>∃(b:Bool) (a:Addr) (xs:List V),vs=[.ref a]/\Sq b K H1 a xs/\R (Ite K b a) H1
theorem JbC{X:Cx}{K:Frag}{elts:List Expr}{kk:Nat}{tpos:Pos}{a:Expr}{ta:TA}{p pos:Pos}(hK:X.K=K)(hg:Gl X "enumerate")(hm:X.mg "enumerate"=none)(ha:PA X [a] ta)(hs:starEach [a] X.env=[(false,eval a X.env)]:=by rfl)
:PI X (.Tuple elts kk tpos) (.Call (.Name "enumerate" p) [a] [] pos) (iEn K ta):=by
 subst hK;intro pins s σ H R I h;refine Call_ (UJ I hg hm ZY (PyProof.Rows.callWith_type1 (thn (ha pos pins s σ H _ I h) fun us s1 ⟨vs,H1,I1,r1,q1⟩=>?_) (by rw[hs];rfl) (by rfl)));obtain⟨b,a,xs,e,c1,q⟩:=q1;subst e
 cases r1 with
 | cons r rr =>
 cases rr;cases r;obtain⟨its,w1,p1⟩:=c1.heap I1;refine JfX p1 fun h' t1 t2 kp=>wpAny_pyIter_enum t1 ?_
 refine⟨_,[s1.heap.objs.size+1,s1.heap.objs.size],_,_,H1,rfl,I1.kept (t':=s1.toks) kp,JjL b a _ _ (by simp),⟨⟨_,t1⟩,t2⟩,fun c hc=>?_,q⟩
 have hle:s1.heap.objs.size<=c:=by simp only[List.mem_cons,List.mem_nil_iff,or_false] at hc;rcases hc with rfl|rfl <;> first|exact Nat.le_refl _|exact Nat.le_add_right _ _
 exact I1.fpOk hle (I1.hok.fresh hle)
end L2
namespace LE
open PySem L2 LR
noncomputable def Ja2(ds:List D):List D:=ds.mapIdx fun i d=>.tup [.int i,d]
noncomputable def JdB(m:Bool)(as:En->Option (List Sl)):En->Option (List D):=fun E=>(as E).bind fun ss=>match ss with
 | [s]=>(s.it m).map Ja2
 | _=>none
section
variable{K:Frag}{C:Addr}{m:Bool}
theorem Jd6{t:TA}{ev:En->Option (List Sl)}(ha:SA K C t ev):SI K C m (iEn K t) (JdB m ev):=by
 intro B H0 H σ E ds R I e q;obtain⟨ss,e1,e⟩:=bind_some e;split at e
 ·next s =>
  obtain⟨ds1,e2,e⟩:=Option.map_eq_some_iff.mp e;subst e;refine ha B H0 H σ E _ _ I e1 fun vs H1 H1' s1 r1=>?_
  obtain⟨v,rfl,ra⟩:=r1.one;have f:=JP (Hs:=H) s1.i;obtain⟨b1,a1,xs,rfl,k1,w1⟩:=Jcy ra s1.i e2;have hA:m=true->(if m=true then H1' else B)=H1':=fun h=>if_pos h
  have sA:Same (if m=true then H1' else B) H1':=by
   split
   ·exact Same.refl _
   ·exact I.b.trans s1.h
  have st0:SStep (if m=true then H1' else B) (Yi H H1 H1') (Yi H H1 H1') H1':=⟨sA,Same.refl _,fun _ _ e=>.inl e,f.i⟩
  refine⟨b1,a1,xs,rfl,k1 _ hA _ _ st0,q _ _ _ (s1.comp f fun _ z=>z) ?_⟩;intro H0' H' st;have q1:=k1 _ hA _ _ st;refine⟨fun i d e=>?_,⟨xs,q1,by unfold Ja2;rw[List.length_mapIdx,w1.1]⟩⟩;unfold Ja2 at e;rw[List.getElem?_mapIdx] at e;obtain⟨d1,g1,e⟩:=Option.map_eq_some_iff.mp e;subst e;obtain⟨x,x1,x2⟩:=w1.get g1;refine⟨⟨xs,x,q1,x1⟩,?_⟩;rintro z H2 ⟨p,v',rfl,hp,rfl,hv⟩;have h1:=hv xs q1;rw[x1] at h1;cases h1;have h0:H0' p=none:=Same.free st.i hp
  refine⟨upd H0' p (.tup [.int i,x]),⟨.new hp,.new h0,fun a o e=>?_,fun a o e=>?_⟩,?_⟩
  ·by_cases h:a=p
   ·subst h;exact .inr (.inl hp)
   ·rw[Jh h] at e;exact .inl e
  ·by_cases h:a=p
   ·subst h;rw[Jo] at e ⊢;exact e
   ·rw[Jh h] at e ⊢;exact st.i a o e
  ·exact .mkT (.of Jo) (.cons (.int _) (.cons (x2.mono (st.z.trans (.new h0))) .nil))
 ·cases e
theorem Ja3{α:Type}(f:α->D)(xs:List α):Ja2 (xs.map f)=xs.mapIdx fun i x=>.tup [.int i,f x]:=by
 unfold Ja2;refine List.ext_getElem? fun i=>?_
 rw[List.getElem?_mapIdx,List.getElem?_mapIdx,List.getElem?_map,Option.map_map];rfl
end
end LE

namespace L2
open PySem PySem.Spec PyProof.Rows
noncomputable def Yc(ns:List Int):List Int:=ns.mergeSort (fun a b=>decide (a<=b))
theorem J1(ns:List Int):(Yc ns).Perm ns:=List.mergeSort_perm _ _
theorem VD(ns:List Int):(Yc ns).Pairwise (·<=·):=by have h:=List.pairwise_mergeSort (le:=fun a b:Int=>decide (a<=b)) (by intro a b c h1 h2;simp only[decide_eq_true_eq] at *;omega) (by intro a b;simp only[Bool.or_eq_true,decide_eq_true_eq];omega) ns;exact h.imp fun {a b} h=>by simpa using h
theorem V3:∀{xs ys:List Int},xs.Perm ys->xs.Pairwise (·<=·)->ys.Pairwise (·<=·)->xs=ys
 | [],ys,p,_,_=>by rw[List.Perm.nil_eq p]
 | x::xs,ys,p,h1,h2=>by
  cases ys with
  | nil=>exact absurd p.symm (by simp)
  | cons y ys =>
   obtain⟨a1,a2⟩:=List.pairwise_cons.mp h1;obtain⟨b1,b2⟩:=List.pairwise_cons.mp h2
   have e:x=y:=by
    have hx:x∈y::ys:=p.mem_iff.mp List.mem_cons_self
    have hy:y∈x::xs:=p.mem_iff.mpr List.mem_cons_self;rcases List.mem_cons.mp hx with z|z
    ·exact z
    ·rcases List.mem_cons.mp hy with w|w
     ·exact w.symm
     ·have:=a1 y w
      have:=b1 x z;omega
   subst e;rw[V3 (List.Perm.cons_inv p) a2 b2]
noncomputable def Jav(K:Frag):List V->Hp->VK->Prop:=fun xs H Q=>∃(a:Addr) (ns:List Int),xs=[.ref a]/\SqL K H a (ns.map V.int)/\ns.length<64/\∀l,H l=none->Q (.ref l) (upd H l (.lst ((Yc ns).map V.int)))
theorem VM:∀{ns:List Int} {us:List Value},IntsAre us ns->Vals (ns.map V.int) us:=by
 intro ns us h
 induction h with
 | nil=>exact .nil
 | cons _ _ _ ih=>exact .cons ⟨_,rfl⟩ ih
section
variable{X:Cx}
theorem Jac:CallR X (.builtin "sorted") (Jav X.K):=by
 intro pins s σ H xs us Q I r h;obtain⟨p,ns,rfl,hq,hl,q⟩:=h;obtain⟨u,rfl,rx⟩:=U5 r;cases rx;obtain⟨its,r',pl,hz⟩:=I.list hq;have hlen:=r'.length;rw[List.length_map] at hlen hz;refine sorted_ints pl.isList (Y4 r') (by omega) fun out ns' a1 a2 a3=>?_
 have es:ns'=Yc ns:=V3 (a2.trans (J1 ns).symm) a3 (VD ns);subst es;obtain⟨e,he⟩:=sortedAll_at s.heap its out
 have hn:((Yc ns).map V.int).length<=sizeLine:=by rw[List.length_map,(J1 ns).length_eq];exact hz
 have hne:H (s.heap.objs.size+1)=none:=I.hok.fresh (Nat.le_succ _);refine⟨.ref (s.heap.objs.size+1),_,I.laid (t':=s.toks) (fun b o x=>sortedAll_old x) (Nat.le_succ _) (show ObjOk X.prog X.w _ _ _ (.lst ((Yc ns).map V.int)) from⟨hn,out.toList,e,VM a1,?_⟩),rfl,q _ hne⟩;rw[he]
end
theorem Jab{X:Cx}{K:Frag}(hK:X.K=K)(hc:X.calm=true):CallR X (.builtin "sorted") (Jav K):=hK▸Jac
end L2
namespace LE
open PySem L2 LR
noncomputable def Wn:List Sl->Option Sl
 | [s]=>s.r.bind fun ds=>(ints? ds).bind fun ns=>if ns.length<64 then some (.own ((Yc ns).map .int)) else none
 | _=>none
section
variable{K:Frag}{C:Addr}
theorem JbH{H:Hp}(ns:List Int):RDL K C H (ns.map V.int) (ns.map D.int):=by refine⟨by simp,fun i x d h1 h2=>?_⟩;rw[List.getElem?_map] at h1 h2;obtain⟨n,e,rfl⟩:=Option.map_eq_some_iff.mp h1;rw[e] at h2;cases h2;exact .int n
theorem JfW:Vi K C (Jav K) Wn:=by
 intro Hs H0 H xs as c Q i hs r e q;unfold Wn at e;split at e
 ·obtain⟨v,rfl,r0⟩:=r.one;obtain⟨ds,e1,e⟩:=bind_some e;obtain⟨ns,e2,e⟩:=bind_some e;split at e
  ·next hn=>cases e;obtain⟨l,ys,rfl,h,r1⟩:=r0.r i e1;rw[YW e2] at r1;have:=r1.ints;subst this;exact⟨l,ns,rfl,h,hn,fun p hp=>UY i hs hp (JbH _) q⟩
  ·cases e
 ·cases e
end
end LE

namespace PySem
namespace F
end F
section
variable{prog:Program}{w:World}{A:Around}{E:Value->Shared->Prop}{s:Shared}{l:Addr}{lo hi:Int}{t u v:Tok}
end
end PySem
namespace L2
open PySem PySem.Spec PyProof.Rows
end L2
namespace LE
open PySem L2 LR
section
variable{K:Frag}{C:Addr}{m:Bool}
end
end LE

namespace PySem
namespace F
theorem z3_type(a b c:Value):checkTypeCall "zip" ⟨[a,b,c],[]⟩=pure ():=by kernel_rfl
theorem z3_new(a b c:Value):checkBuiltinCall "zip.__new__" ⟨[.type "zip",a,b,c],[]⟩=pure ():=by kernel_rfl
theorem z3_init(a b c d:Value):argsOk "object.__init__" ⟨[a,b,c,d],[]⟩:=by unfold argsOk;rw[signature?_of (id:="object.__init__") (n:=['_','_','t','i','n','i','_','_']) (o:=['t','c','e','j','b','o']) (by kernel_rfl) owner_object];kernel_rfl
end F
abbrev Yn(h:Heap)(T:Addr)(a b c:Value):Prop:=h.get? T=some { cls:=.type "tuple",data:=.seq #[a,b,c] }
structure ZB (z TI TO i1 i2 i3:Addr) (p1 p2 p3:List Addr):Prop where
 a1:TI≠z
 a2:TO≠z
 a3:TI≠TO
 m1:i1∈p1
 m2:i2∈p2
 m3:i3∈p3
 z1:z∉p1
 z2:z∉p2
 z3:z∉p3
 t1:TI∉p1
 t2:TI∉p2
 t3:TI∉p3
 o1:TO∉p1
 o2:TO∉p2
 o3:TO∉p3
 x12:i1∉p2
 x13:i1∉p3
 x21:i2∉p1
 x23:i2∉p3
 x31:i3∉p1
 x32:i3∉p2
section
variable{prog:Program}{w:World}{A:Around}{E:Value->Shared->Prop}{s:Shared}{z TI TO i1 i2 i3:Addr}{p1 p2 p3:List Addr}{n1 n2 n3 k:Nat}{P1 P2 P3:Nat->Value->Prop}{S1 S2 S3:Nat->Heap->Prop}
theorem VH{T:Addr}{a b c x:Value}{k:Nat}{Q:Unit->Shared->Prop}(hT:Yn s.heap T a b c)
 (h:∀h',h'.get? T=some { cls:=.type "tuple",data:=.seq ((#[a,b,c]:Array Value).setIfInBounds k x) }->Heap.SameBut T s.heap h'->Q () { s with heap:=h' }) :
 wpAny (model prog w) A (updateSeq T (·.setIfInBounds k x)) Q E s:=by
 refine wpAny_updateSeq hT rfl (h _ ?_ (Heap.SameBut.update ..));rw[Heap.get?_update_self _ hT rfl];simp[Obj.mapSeq]
theorem JfC{a b c:Value}{Q:Value->Shared->Prop}(D:ZB z TI TO i1 i2 i3 p1 p2 p3)(D1:Draws prog w A i1 p1 n1 P1 S1)(D2:Draws prog w A i2 p2 n2 P2 S2)(D3:Draws prog w A i3 p3 n3 P3 S3)(gz:IsZip s.heap z TI TO .none)(gI:Yn s.heap TI (.ref i1) (.ref i2) (.ref i3))(gO:Yn s.heap TO a b c)
 (st1:S1 k s.heap) (st2:S2 k s.heap) (st3:S3 k s.heap) (l1:k<n1) (l2:k<n2) (l3:k<n3)
 (hQ:∀x y u h' tk,P1 k x->P2 k y->P3 k u->IsZip h' z TI TO (rawInt s.heap.objs.size)->Yn h' TI (.ref i1) (.ref i2) (.ref i3)->Yn h' TO x y u->S1 (k+1) h'->S2 (k+1) h'->S3 (k+1) h'->Yn h' s.heap.objs.size x y u->h'.objs.size=s.heap.objs.size+1 ->
  (∀c o,c≠z->c≠TO->c≠i1->c≠i2->c≠i3->s.heap.get? c=some o->h'.get? c=some o)->Q (.ref s.heap.objs.size) { s with heap:=h',toks:=tk }) :
 wpAny (model prog w) A (Builtin.«zip.__next__» ⟨[.ref z],[]⟩) (fun fin s'=>∃v,fin=.done (.ret v)/\Q v s') E s:=by
 obtain⟨hp,g,d,t0,os⟩:=s;have zi1:i1≠z:=fun q=>D.z1 (q▸D.m1)
 have zi2:i2≠z:=fun q=>D.z2 (q▸D.m2)
 have zi3:i3≠z:=fun q=>D.z3 (q▸D.m3)
 have oi1:i1≠TO:=fun q=>D.o1 (q▸D.m1)
 have oi2:i2≠TO:=fun q=>D.o2 (q▸D.m2)
 have oi3:i3≠TO:=fun q=>D.o3 (q▸D.m3)
 have ii1:i1≠TI:=fun q=>D.t1 (q▸D.m1)
 have ii2:i2≠TI:=fun q=>D.t2 (q▸D.m2)
 have ii3:i3≠TI:=fun q=>D.t3 (q▸D.m3)
 show wpAny _ _ (field (.ref z) 2 >>= _) _ _ _;refine wpAny_bind (wpAny_field gz rfl (x:=.bool false) rfl (show wpAny _ _ (field (.ref z) 3 >>= _) _ _ _ from wpAny_bind (wpAny_field gz rfl (x:=.ref TI) rfl (wpAny_bind (wpAny_seqItems gI rfl ?_)))))
 show wpAny _ _ (Builtin.SmallTypes.ownedTupleIsFree (.ref z) >>= _) _ _ _;refine wpAny_bind ?_;unfold Builtin.SmallTypes.ownedTupleIsFree;refine wpAny_bind (wpAny_field gz rfl (x:=.none) rfl (wpAny_pure ?_));simp only[if_true];refine wpAny_bind (wpAny_rule (wpAny_bind (wpAny_field gz rfl (x:=.ref TO) rfl (wpAny_bind (wpAny_setField_rec gz (by simp) fun k1 y1 e1=>?_)))))
 replace y1:IsZip k1 z TI TO .ellipsis:=y1
 replace e1:Heap.SameBut z hp k1:=e1;refine wpAny_bind ?_;simp only[List.zipIdx_cons,List.zipIdx_nil,List.forIn_cons,List.forIn_nil];refine wpAny_bind (wpAny_bind (wpAny_onRaise (show wpAny _ _ (Builtin.SmallTypes.nextOf (.ref i1) >>= _) _ _ _ from wpAny_bind (D1.item k _ _ _ l1 (D1.frame _ _ _ st1 fun b hb o q=>e1.extBut b o (fun r=>D.z1 (r▸hb)) q) fun x k2 t2 px s2 e2=>wpAny_pure ?_))))
 replace e2:Heap.SameBut i1 k1 k2:=e2;have O2:Yn k2 TO a b c:=e2.extBut _ _ (Ne.symm oi1) (e1.extBut _ _ D.a2 gO);refine wpAny_bind (wpAny_seqItems (s:=⟨k2,g,d,t2,os⟩) O2 rfl (wpAny_bind (VH (s:=⟨k2,g,d,t2,os⟩) O2 fun k3 O3 e3=>?_)))
 replace O3:Yn k3 TO x b c:=O3
 replace e3:Heap.SameBut TO k2 k3:=e3;refine wpAny_bind (wpAny_letGo (wpAny_pure ?_));have st2':S2 k k3:=D2.frame _ _ _ st2 fun b hb o q=>e3.extBut b o (fun r=>D.o2 (r▸hb)) (e2.extBut b o (fun r=>D.x12 (r▸hb)) (e1.extBut b o (fun r=>D.z2 (r▸hb)) q))
 refine wpAny_bind (wpAny_bind (wpAny_onRaise (show wpAny _ _ (Builtin.SmallTypes.nextOf (.ref i2) >>= _) _ _ _ from wpAny_bind (D2.item k _ _ _ l2 st2' fun y k4 t4 py s4 e4=>wpAny_pure ?_))))
 replace e4:Heap.SameBut i2 k3 k4:=e4;have O4:Yn k4 TO x b c:=e4.extBut _ _ (Ne.symm oi2) O3;refine wpAny_bind (wpAny_seqItems (s:=⟨k4,g,d,t4,os⟩) O4 rfl (wpAny_bind (VH (s:=⟨k4,g,d,t4,os⟩) O4 fun k5 O5 e5=>?_)))
 replace O5:Yn k5 TO x y c:=O5
 replace e5:Heap.SameBut TO k4 k5:=e5;refine wpAny_bind (wpAny_letGo (wpAny_pure ?_));have st3':S3 k k5:=D3.frame _ _ _ st3 fun b hb o q=>e5.extBut b o (fun r=>D.o3 (r▸hb)) (e4.extBut b o (fun r=>D.x23 (r▸hb)) (e3.extBut b o (fun r=>D.o3 (r▸hb)) (e2.extBut b o (fun r=>D.x13 (r▸hb)) (e1.extBut b o (fun r=>D.z3 (r▸hb)) q))))
 refine wpAny_bind (wpAny_bind (wpAny_onRaise (show wpAny _ _ (Builtin.SmallTypes.nextOf (.ref i3) >>= _) _ _ _ from wpAny_bind (D3.item k _ _ _ l3 st3' fun u k6 t6 pu s6 e6=>wpAny_pure ?_))))
 replace e6:Heap.SameBut i3 k5 k6:=e6;have O6:Yn k6 TO x y c:=e6.extBut _ _ (Ne.symm oi3) O5;refine wpAny_bind (wpAny_seqItems (s:=⟨k6,g,d,t6,os⟩) O6 rfl (wpAny_bind (VH (s:=⟨k6,g,d,t6,os⟩) O6 fun k7 O7 e7=>?_)))
 replace O7:Yn k7 TO x y u:=O7
 replace e7:Heap.SameBut TO k6 k7:=e7;refine wpAny_bind (wpAny_letGo (wpAny_pure (wpAny_pure (wpAny_bind (wpAny_seqItems (s:=⟨k7,g,d,t6,os⟩) O7 rfl (wpAny_bind (wpAny_newTuple ?_)))))));have hsz:k7.objs.size=hp.objs.size:=by rw[e7.1,e6.1,e5.1,e4.1,e3.1,e2.1,e1.1]
 have Z7:IsZip k7 z TI TO .ellipsis:=e7.extBut _ _ (Ne.symm D.a2) (e6.extBut _ _ (Ne.symm zi3) (e5.extBut _ _ (Ne.symm D.a2) (e4.extBut _ _ (Ne.symm zi2) (e3.extBut _ _ (Ne.symm D.a2) (e2.extBut _ _ (Ne.symm zi1) y1)))))
 have keep7:∀c o,c≠z->c≠TO->c≠i1->c≠i2->c≠i3->hp.get? c=some o->k7.get? c=some o:=fun c o c1 c2 c3 c4 c5 q=>e7.extBut _ _ c2 (e6.extBut _ _ c5 (e5.extBut _ _ c2 (e4.extBut _ _ c4 (e3.extBut _ _ c2 (e2.extBut _ _ c3 (e1.extBut _ _ c1 q))))))
 have T1:S1 (k+1) k7:=D1.frame _ _ _ s2 fun b hb o q=>e7.extBut b o (fun r=>D.o1 (r▸hb)) (e6.extBut b o (fun r=>D.x31 (r▸hb)) (e5.extBut b o (fun r=>D.o1 (r▸hb)) (e4.extBut b o (fun r=>D.x21 (r▸hb)) (e3.extBut b o (fun r=>D.o1 (r▸hb)) q))))
 have T2:S2 (k+1) k7:=D2.frame _ _ _ s4 fun b hb o q=>e7.extBut b o (fun r=>D.o2 (r▸hb)) (e6.extBut b o (fun r=>D.x32 (r▸hb)) (e5.extBut b o (fun r=>D.o2 (r▸hb)) q))
 have T3:S3 (k+1) k7:=D3.frame _ _ _ s6 fun b hb o q=>e7.extBut b o (fun r=>D.o3 (r▸hb)) q
 have zlt:z<k7.objs.size:=Heap.lt_size Z7
 show wpAny _ _ (Builtin.SmallTypes.ownedTupleHandOut (.ref z) (.ref k7.objs.size) >>= _) _ _ _;refine wpAny_bind ?_;unfold Builtin.SmallTypes.ownedTupleHandOut
 have Z8:IsZip (k7.push { cls:=.type "tuple",data:=.seq #[x,y,u] }) z TI TO .ellipsis:=Heap.get?_push_of_some _ Z7;refine wpAny_bind (wpAny_setField_rec Z8 (by simp) fun k9 Z9 e9=>?_)
 replace Z9:IsZip k9 z TI TO (rawInt k7.objs.size):=Z9
 replace e9:Heap.SameBut z (k7.push { cls:=.type "tuple",data:=.seq #[x,y,u] }) k9:=e9;refine wpAny_setField_rec Z9 (by simp) fun k10 Z10 e10=>?_
 replace Z10:IsZip k10 z TI TO (rawInt k7.objs.size):=Z10
 replace e10:Heap.SameBut z k9 k10:=e10;have up:∀c o,c≠z->k7.get? c=some o->k10.get? c=some o:=fun c o c1 q=>e10.extBut _ _ c1 (e9.extBut _ _ c1 (Heap.get?_push_of_some _ q))
 have N10:Yn k10 k7.objs.size x y u:=e10.extBut _ _ (Nat.ne_of_gt zlt) (e9.extBut _ _ (Nat.ne_of_gt zlt) (Heap.get?_push_size _ rfl))
 have z10:k10.objs.size=k7.objs.size+1:=by rw[e10.1,e9.1,Heap.size_push]
 rw[hsz] at Z10 N10 z10;refine wpAny_pure ⟨_,rfl,?_⟩;show Q (.ref k7.objs.size) _;rw[hsz];refine hQ x y u k10 t6 px py pu Z10 (up _ _ D.a1 (keep7 _ _ D.a1 D.a3 (Ne.symm ii1) (Ne.symm ii2) (Ne.symm ii3) gI)) (up _ _ D.a2 O7) ?_ ?_ ?_ N10 z10 fun c o c1 c2 c3 c4 c5 q=>up c o c1 (keep7 c o c1 c2 c3 c4 c5 q)
 ·exact D1.frame _ _ _ T1 fun b hb o q=>up b o (fun r=>D.z1 (r▸hb)) q
 ·exact D2.frame _ _ _ T2 fun b hb o q=>up b o (fun r=>D.z2 (r▸hb)) q
 ·exact D3.frame _ _ _ T3 fun b hb o q=>up b o (fun r=>D.z3 (r▸hb)) q
theorem JhQ{a b c:Value}{Q:Fin->Shared->Prop}(D:ZB z TI TO i1 i2 i3 p1 p2 p3)(D1:Draws prog w A i1 p1 n1 P1 S1)(D2:Draws prog w A i2 p2 n2 P2 S2)(D3:Draws prog w A i3 p3 n3 P3 S3)(gz:IsZip s.heap z TI TO .none)(gI:Yn s.heap TI (.ref i1) (.ref i2) (.ref i3))(gO:Yn s.heap TO a b c)
 (st1:S1 k s.heap) (st2:S2 k s.heap) (st3:S3 k s.heap) (hend:k=n1\/(k<n1/\k=n2)\/(k<n1/\k<n2/\k=n3))
 (hE:∀h' e tk,(∀c o,c≠z->c≠TO->c≠i1->c≠i2->c≠i3->s.heap.get? c=some o->h'.get? c=some o)->(∃o,h'.get? e=some o/\o.cls=.type "StopIteration")->E (.ref e) { s with heap:=h',toks:=tk }) :
 wpAny (model prog w) A (Builtin.«zip.__next__» ⟨[.ref z],[]⟩) Q E s:=by
 obtain⟨hp,g,d,t0,os⟩:=s;have zi1:i1≠z:=fun q=>D.z1 (q▸D.m1)
 have zi2:i2≠z:=fun q=>D.z2 (q▸D.m2)
 have zi3:i3≠z:=fun q=>D.z3 (q▸D.m3)
 have oi1:i1≠TO:=fun q=>D.o1 (q▸D.m1)
 have oi2:i2≠TO:=fun q=>D.o2 (q▸D.m2)
 show wpAny _ _ (field (.ref z) 2 >>= _) _ _ _;refine wpAny_bind (wpAny_field gz rfl (x:=.bool false) rfl (show wpAny _ _ (field (.ref z) 3 >>= _) _ _ _ from wpAny_bind (wpAny_field gz rfl (x:=.ref TI) rfl (wpAny_bind (wpAny_seqItems gI rfl ?_)))))
 show wpAny _ _ (Builtin.SmallTypes.ownedTupleIsFree (.ref z) >>= _) _ _ _;refine wpAny_bind ?_;unfold Builtin.SmallTypes.ownedTupleIsFree;refine wpAny_bind (wpAny_field gz rfl (x:=.none) rfl (wpAny_pure ?_));simp only[if_true];refine wpAny_bind (wpAny_rule (wpAny_bind (wpAny_field gz rfl (x:=.ref TO) rfl (wpAny_bind (wpAny_setField_rec gz (by simp) fun k1 y1 e1=>?_)))))
 replace y1:IsZip k1 z TI TO .ellipsis:=y1
 replace e1:Heap.SameBut z hp k1:=e1;refine wpAny_bind ?_;simp only[List.zipIdx_cons,List.zipIdx_nil,List.forIn_cons,List.forIn_nil];refine wpAny_bind (wpAny_bind (wpAny_onRaise (show wpAny _ _ (Builtin.SmallTypes.nextOf (.ref i1) >>= _) _ _ _ from wpAny_bind ?_)));have q1:S1 k k1:=D1.frame _ _ _ st1 fun b hb o q=>e1.extBut b o (fun r=>D.z1 (r▸hb)) q
 rcases hend with rfl|hend
 ·refine D1.done _ _ _ q1 fun k2 e e2 he=>?_
  replace e2:Heap.ExtBut i1 k1 k2:=e2;obtain⟨oe,hoe,hce⟩:=he;have Z2:IsZip k2 z TI TO .ellipsis:=e2 _ _ (Ne.symm zi1) y1;have ez:e≠z:=fun q=>by subst q;rw[Z2] at hoe;cases hoe;simp at hce
  exact wpAny_setField_rec Z2 (by simp) fun k3 _ e3=>hE k3 e t0 (fun c o c1 _ c3 _ _ q=>e3.extBut _ _ c1 (e2 _ _ c3 (e1.extBut _ _ c1 q))) ⟨oe,e3.extBut _ _ ez hoe,hce⟩
 have l1:k<n1:=by rcases hend with h|h <;> exact h.1
 refine D1.item k _ _ _ l1 q1 fun x k2 t2 px s2 e2=>wpAny_pure ?_
 replace e2:Heap.SameBut i1 k1 k2:=e2;have O2:Yn k2 TO a b c:=e2.extBut _ _ (Ne.symm oi1) (e1.extBut _ _ D.a2 gO);refine wpAny_bind (wpAny_seqItems (s:=⟨k2,g,d,t2,os⟩) O2 rfl (wpAny_bind (VH (s:=⟨k2,g,d,t2,os⟩) O2 fun k3 O3 e3=>?_)))
 replace O3:Yn k3 TO x b c:=O3
 replace e3:Heap.SameBut TO k2 k3:=e3;refine wpAny_bind (wpAny_letGo (wpAny_pure ?_));have st2':S2 k k3:=D2.frame _ _ _ st2 fun b hb o q=>e3.extBut b o (fun r=>D.o2 (r▸hb)) (e2.extBut b o (fun r=>D.x12 (r▸hb)) (e1.extBut b o (fun r=>D.z2 (r▸hb)) q))
 have Z3:IsZip k3 z TI TO .ellipsis:=e3.extBut _ _ (Ne.symm D.a2) (e2.extBut _ _ (Ne.symm zi1) y1);rcases hend with ⟨_,rfl⟩|⟨_,l2,rfl⟩
 ·refine wpAny_bind (wpAny_bind (wpAny_onRaise (show wpAny _ _ (Builtin.SmallTypes.nextOf (.ref i2) >>= _) _ _ _ from wpAny_bind (D2.done _ _ _ st2' fun k4 e e4 he=>?_))))
  replace e4:Heap.ExtBut i2 k3 k4:=e4;obtain⟨oe,hoe,hce⟩:=he;have Z4:IsZip k4 z TI TO .ellipsis:=e4 _ _ (Ne.symm zi2) Z3;have ez:e≠z:=fun q=>by subst q;rw[Z4] at hoe;cases hoe;simp at hce
  exact wpAny_setField_rec Z4 (by simp) fun k5 _ e5=>hE k5 e t2 (fun c o c1 c2 c3 c4 _ q=>e5.extBut _ _ c1 (e4 _ _ c4 (e3.extBut _ _ c2 (e2.extBut _ _ c3 (e1.extBut _ _ c1 q))))) ⟨oe,e5.extBut _ _ ez hoe,hce⟩
 ·refine wpAny_bind (wpAny_bind (wpAny_onRaise (show wpAny _ _ (Builtin.SmallTypes.nextOf (.ref i2) >>= _) _ _ _ from wpAny_bind (D2.item _ _ _ _ l2 st2' fun y k4 t4 py s4 e4=>wpAny_pure ?_))))
  replace e4:Heap.SameBut i2 k3 k4:=e4;have O4:Yn k4 TO x b c:=e4.extBut _ _ (Ne.symm oi2) O3;refine wpAny_bind (wpAny_seqItems (s:=⟨k4,g,d,t4,os⟩) O4 rfl (wpAny_bind (VH (s:=⟨k4,g,d,t4,os⟩) O4 fun k5 O5 e5=>?_)))
  replace e5:Heap.SameBut TO k4 k5:=e5;refine wpAny_bind (wpAny_letGo (wpAny_pure ?_));have st3':S3 _ k5:=D3.frame _ _ _ st3 fun b hb o q=>e5.extBut b o (fun r=>D.o3 (r▸hb)) (e4.extBut b o (fun r=>D.x23 (r▸hb)) (e3.extBut b o (fun r=>D.o3 (r▸hb)) (e2.extBut b o (fun r=>D.x13 (r▸hb)) (e1.extBut b o (fun r=>D.z3 (r▸hb)) q))))
  refine wpAny_bind (wpAny_bind (wpAny_onRaise (show wpAny _ _ (Builtin.SmallTypes.nextOf (.ref i3) >>= _) _ _ _ from wpAny_bind (D3.done _ _ _ st3' fun k6 e e6 he=>?_))))
  replace e6:Heap.ExtBut i3 k5 k6:=e6;obtain⟨oe,hoe,hce⟩:=he;have Z6:IsZip k6 z TI TO .ellipsis:=e6 _ _ (Ne.symm zi3) (e5.extBut _ _ (Ne.symm D.a2) (e4.extBut _ _ (Ne.symm zi2) Z3));have ez:e≠z:=fun q=>by subst q;rw[Z6] at hoe;cases hoe;simp at hce
  exact wpAny_setField_rec Z6 (by simp) fun k7 _ e7=>hE k7 e t4 (fun c o c1 c2 c3 c4 c5 q=>e7.extBut _ _ c1 (e6 _ _ c5 (e5.extBut _ _ c2 (e4.extBut _ _ c4 (e3.extBut _ _ c2 (e2.extBut _ _ c3 (e1.extBut _ _ c1 q))))))) ⟨oe,e7.extBut _ _ ez hoe,hce⟩
end
end PySem

namespace PySem
section
variable{prog:Program}{w:World}{A:Around}{E:Value->Shared->Prop}{s:Shared}{b1 b2 b3:Bool}{a1 a2 a3:Addr}{xs ys zs:Array Value}
abbrev yP3(h:Heap)(b1 b2 b3:Bool)(a1 a2 a3:Addr):Heap:=(zP2 h b1 b2 a1 a2).push (itO b3 a3)
abbrev yP4(h:Heap)(b1 b2 b3:Bool)(a1 a2 a3:Addr):Heap:=(yP3 h b1 b2 b3 a1 a2 a3).push { cls:=.type "tuple",data:=.seq #[.ref h.objs.size,.ref (zP1 h b1 a1).objs.size,.ref (zP2 h b1 b2 a1 a2).objs.size] }
abbrev yP5(h:Heap)(b1 b2 b3:Bool)(a1 a2 a3:Addr):Heap:=(yP4 h b1 b2 b3 a1 a2 a3).push { cls:=.type "tuple",data:=.seq #[.none,.none,.none] }
abbrev yP6(h:Heap)(b1 b2 b3:Bool)(a1 a2 a3:Addr):Heap:=(yP5 h b1 b2 b3 a1 a2 a3).push { cls:=.type "zip",data:=.fields #[.none,.bool false,.bool false,.ref (yP3 h b1 b2 b3 a1 a2 a3).objs.size,.ref (yP4 h b1 b2 b3 a1 a2 a3).objs.size] }
theorem JcG(b1 b2 b3:Bool)(a1 a2 a3:Addr)(xs ys zs:Array Value):Meets (Builtin.«zip.__new__» ⟨[.type "zip",.ref a1,.ref a2,.ref a3],[]⟩) (fun _ R s=>IsSq b1 s.heap a1 xs/\IsSq b2 s.heap a2 ys/\IsSq b3 s.heap a3 zs ∧
 R (.ok (.ret (.ref (yP5 s.heap b1 b2 b3 a1 a2 a3).objs.size))) { s with heap:=yP6 s.heap b1 b2 b3 a1 a2 a3 }) :=
 .of_wp fun prog w A R s h=>by obtain⟨hp,g,d,tk,os⟩:=s;obtain⟨q1,q2,q3,h⟩:=h;have hsub:=sub_zip;have r1:IsSq b1 (Shared.heap ⟨hp,g,d,tk,os⟩) a1 xs:=q1;have r2:IsSq b2 (Shared.heap ⟨hp.push (itO b1 a1),g,d,tk,os⟩) a2 ys:=IsSq.push q2 _;have r3:IsSq b3 (Shared.heap ⟨(hp.push (itO b1 a1)).push (itO b2 a2),g,d,tk,os⟩) a3 zs:=IsSq.push (IsSq.push q3 _) _;wp_walk using Yy r1,Yy r2,Yy r3;exact⟨_,rfl,h⟩
theorem JeO{Q:Value->Shared->Prop}(q1:IsSq b1 s.heap a1 xs)(q2:IsSq b2 s.heap a2 ys)(q3:IsSq b3 s.heap a3 zs)
 (h:∀h',IsZip h' (s.heap.objs.size+5) (s.heap.objs.size+3) (s.heap.objs.size+4) .none->Yn h' (s.heap.objs.size+3) (.ref s.heap.objs.size) (.ref (s.heap.objs.size+1)) (.ref (s.heap.objs.size+2))->Yn h' (s.heap.objs.size+4) .none .none .none ->
  IsItr b1 h' s.heap.objs.size a1 0->IsItr b2 h' (s.heap.objs.size+1) a2 0->IsItr b3 h' (s.heap.objs.size+2) a3 0->(∀c o,s.heap.get? c=some o->h'.get? c=some o)->Q (.ref (s.heap.objs.size+5)) { s with heap:=h' }) :
 wpAny (model prog w) A (call (.type "zip") [.ref a1,.ref a2,.ref a3]) Q E s:=by
 refine callType_new F.called_zip (by decide) (F.z3_type _ _ _) (F.z3_new _ _ _) (fun obj=>F.z3_init obj _ _ _) F.entry_zip_new (JcG b1 b2 b3 a1 a2 a3 xs ys zs) ⟨q1,q2,q3,?_⟩;have z1:(zP1 s.heap b1 a1).objs.size=s.heap.objs.size+1:=Heap.size_push ..;have z2:(zP2 s.heap b1 b2 a1 a2).objs.size=s.heap.objs.size+2:=by rw[Heap.size_push,z1]
 have z3:(yP3 s.heap b1 b2 b3 a1 a2 a3).objs.size=s.heap.objs.size+3:=by rw[Heap.size_push,z2]
 have z4:(yP4 s.heap b1 b2 b3 a1 a2 a3).objs.size=s.heap.objs.size+4:=by rw[Heap.size_push,z3]
 have z5:(yP5 s.heap b1 b2 b3 a1 a2 a3).objs.size=s.heap.objs.size+5:=by rw[Heap.size_push,z4]
 have up:∀{k:Heap} {c:Addr} {o u:Obj},k.get? c=some o->(k.push u).get? c=some o:=fun q=>Heap.get?_push_of_some _ q
 have fi1:(itO b1 a1).isFreed=false:=by cases b1 <;> rfl
 have fi2:(itO b2 a2).isFreed=false:=by cases b2 <;> rfl
 have fi3:(itO b3 a3).isFreed=false:=by cases b3 <;> rfl
 have g6:(yP6 s.heap b1 b2 b3 a1 a2 a3).get? (yP5 s.heap b1 b2 b3 a1 a2 a3).objs.size=some _:=Heap.get?_push_size _ rfl
 have g5:(yP6 s.heap b1 b2 b3 a1 a2 a3).get? (yP4 s.heap b1 b2 b3 a1 a2 a3).objs.size=some _:=up (Heap.get?_push_size _ rfl)
 have g4:(yP6 s.heap b1 b2 b3 a1 a2 a3).get? (yP3 s.heap b1 b2 b3 a1 a2 a3).objs.size=some _:=up (up (Heap.get?_push_size _ rfl))
 have g3:(yP6 s.heap b1 b2 b3 a1 a2 a3).get? (zP2 s.heap b1 b2 a1 a2).objs.size=some _:=up (up (up (Heap.get?_push_size _ fi3)))
 have g2:(yP6 s.heap b1 b2 b3 a1 a2 a3).get? (zP1 s.heap b1 a1).objs.size=some _:=up (up (up (up (Heap.get?_push_size _ fi2))))
 have g1:(yP6 s.heap b1 b2 b3 a1 a2 a3).get? s.heap.objs.size=some _:=up (up (up (up (up (Heap.get?_push_size _ fi1)))))
 show _/\_;rw[z3,z4,z5] at g6;rw[z1,z2,z3] at g4;rw[z4] at g5;rw[z2] at g3;rw[z1] at g2;rw[z5];exact⟨⟨_,g6,rfl⟩,h _ g6 g4 g5 (.new g1) (.new g2) (.new g3) fun c o q=>up (up (up (up (up (up q)))))⟩
end
end PySem
namespace L2
open PySem PySem.Spec PyProof.Rows
noncomputable def JmB(K:Frag)(b1 b2 b3:Bool)(a1 a2 a3:Addr):It :=
 ⟨fun i H=>∃xs ys zs x y z,Sq b1 K H a1 xs/\Sq b2 K H a2 ys/\Sq b3 K H a3 zs/\xs[i]?=some x/\ys[i]?=some y/\zs[i]?=some z,
  fun i H x H'=>∃p u v w,x=.ref p/\H p=none/\H'=upd H p (.tup [u,v,w])/\∀xs ys zs,Sq b1 K H a1 xs->Sq b2 K H a2 ys->Sq b3 K H a3 zs->xs[i]?=some u/\ys[i]?=some v/\zs[i]?=some w,
  fun i H=>∃xs ys zs,Sq b1 K H a1 xs/\Sq b2 K H a2 ys/\Sq b3 K H a3 zs/\i=min xs.length (min ys.length zs.length)⟩
noncomputable def YSt(b1 b2 b3:Bool)(a1 a2 a3 z TI TO i1 i2 i3:Addr)(i:Nat)(h:Heap):Prop:=IsZip h z TI TO .none/\Yn h TI (.ref i1) (.ref i2) (.ref i3)/\(∃a b c,Yn h TO a b c)/\IsItr b1 h i1 a1 i/\IsItr b2 h i2 a2 i/\IsItr b3 h i3 a3 i
theorem Jkc{X:Cx}{pins:List (Addr×Obj)}{σ:St}{H:Hp}{s:Shared}{b1 b2 b3:Bool}{a1 a2 a3 z TI TO i1 i2 i3:Addr}{xs ys zs:List V}(I:Inv X pins σ H s)(q1:Sq b1 X.K H a1 xs)(q2:Sq b2 X.K H a2 ys)(q3:Sq b3 X.K H a3 zs)(hf:∀b∈[z,TI,TO,i1,i2,i3],FpOk X pins H b)
 (nd:[z,TI,TO,i1,i2,i3].Nodup):ZB z TI TO i1 i2 i3 [i1,a1] [i2,a2] [i3,a3]:=by
 have o1:∀c∈[z,TI,TO,i1,i2,i3],a1≠c:=fun c hc=>FpOk.off I q1 (hf c hc)
 have o2:∀c∈[z,TI,TO,i1,i2,i3],a2≠c:=fun c hc=>FpOk.off I q2 (hf c hc)
 have o3:∀c∈[z,TI,TO,i1,i2,i3],a3≠c:=fun c hc=>FpOk.off I q3 (hf c hc)
 simp only[List.nodup_cons,List.mem_cons,List.mem_nil_iff,or_false,not_or] at nd;obtain⟨⟨n1,n2,n3,n4,n5⟩,⟨n6,n7,n8,n9⟩,⟨n10,n11,n12⟩,⟨n13,n14⟩,n15,_⟩:=nd;have c1:=o1 z (by simp);have c2:=o1 TI (by simp);have c3:=o1 TO (by simp);have c4:=o1 i2 (by simp);have c5:=o1 i3 (by simp);have d1:=o2 z (by simp);have d2:=o2 TI (by simp);have d3:=o2 TO (by simp);have d4:=o2 i1 (by simp);have d5:=o2 i3 (by simp);have f1:=o3 z (by simp);have f2:=o3 TI (by simp)
 have f3:=o3 TO (by simp)
 have f4:=o3 i1 (by simp)
 have f5:=o3 i2 (by simp);refine⟨Ne.symm n1,Ne.symm n2,n6,by simp,by simp,by simp,?_,?_,?_,?_,?_,?_,?_,?_,?_,?_,?_,?_,?_,?_,?_⟩ <;> simp only[List.mem_cons,List.mem_nil_iff,or_false,not_or]
 ·exact⟨n3,Ne.symm c1⟩
 ·exact⟨n4,Ne.symm d1⟩
 ·exact⟨n5,Ne.symm f1⟩
 ·exact⟨n7,Ne.symm c2⟩
 ·exact⟨n8,Ne.symm d2⟩
 ·exact⟨n9,Ne.symm f2⟩
 ·exact⟨n10,Ne.symm c3⟩
 ·exact⟨n11,Ne.symm d3⟩
 ·exact⟨n12,Ne.symm f3⟩
 ·exact⟨n13,Ne.symm d4⟩
 ·exact⟨n14,Ne.symm f4⟩
 ·exact⟨Ne.symm n13,Ne.symm c4⟩
 ·exact⟨n15,Ne.symm f5⟩
 ·exact⟨Ne.symm n14,Ne.symm c5⟩
 ·exact⟨Ne.symm n15,Ne.symm d5⟩
theorem Jfz{P:Program}{w:World}{K:Frag}{elts:List Expr}{kk:Nat}{pos:Pos}(b1 b2 b3:Bool)(a1 a2 a3 z TI TO i1 i2 i3:Addr)(nd:[z,TI,TO,i1,i2,i3].Nodup) :
 Turn P w K (.Tuple elts kk pos) (JmB K b1 b2 b3 a1 a2 a3) [z,TI,TO,i1,i2,i3] z (YSt b1 b2 b3 a1 a2 a3 z TI TO i1 i2 i3) where
 mem:=by simp
 obj:=fun i h st b hb=>by
  obtain⟨s1,s2,⟨u,v,u',s3⟩,s4,s5,s6⟩:=st;simp only[List.mem_cons,List.mem_nil_iff,or_false] at hb;rcases hb with rfl|rfl|rfl|rfl|rfl|rfl
  ·exact⟨_,s1,fun v z=>nomatch (show Data.fields _=Data.cell v from z)⟩
  ·exact⟨_,s2,fun v z=>nomatch (show Data.seq _ _=Data.cell v from z)⟩
  ·exact⟨_,s3,fun v z=>nomatch (show Data.seq _ _=Data.cell v from z)⟩
  ·exact IsItr.obj (b:=b1) s4
  ·exact IsItr.obj (b:=b2) s5
  ·exact IsItr.obj (b:=b3) s6
 keep:=fun i h h' st k=>by obtain⟨s1,s2,⟨u,v,u',s3⟩,s4,s5,s6⟩:=st;exact⟨k z (by simp) _ s1,k TI (by simp) _ s2,⟨u,v,u',k TO (by simp) _ s3⟩,IsItr.keep (b:=b1) s4 fun o e=>k i1 (by simp) o e,IsItr.keep (b:=b2) s5 fun o e=>k i2 (by simp) o e,IsItr.keep (b:=b3) s6 fun o e=>k i3 (by simp) o e⟩
 item:=by
  intro X hP hw hK hc i pins s σ H E I hf st hg;subst hP hw hK;obtain⟨xs,ys,zs,x,y,x3,q1,q2,q3,e1,e2,e3⟩:=hg;obtain⟨its,r1,p1⟩:=q1.heap I;obtain⟨jts,r2,p2⟩:=q2.heap I;obtain⟨kts,r3,p3⟩:=q3.heap I;obtain⟨s1,s2,⟨u0,v0,w0,s3⟩,s4,s5,s6⟩:=st;have Z:=Jkc I q1 q2 q3 hf nd;have hh:X.A.in1.handled=none:=I.ok.hd hc;have D1:=Draws.sq (prog:=X.prog) (w:=X.w) (b:=b1) (xs:=its.toArray) hh i1 (FpOk.off I q1 (hf i1 (by simp)));have D2:=Draws.sq (prog:=X.prog) (w:=X.w) (b:=b2) (xs:=jts.toArray) hh i2 (FpOk.off I q2 (hf i2 (by simp)))
  have D3:=Draws.sq (prog:=X.prog) (w:=X.w) (b:=b3) (xs:=kts.toArray) hh i3 (FpOk.off I q3 (hf i3 (by simp)))
  have hT:s.TypeIs (.ref z) "zip":=⟨_,s1,rfl⟩
  have l1:i<its.toArray.size:=by have:=(List.getElem?_eq_some_iff.mp e1).1;rw[List.size_toArray,<- r1.length];exact this
  have l2:i<jts.toArray.size:=by have:=(List.getElem?_eq_some_iff.mp e2).1;rw[List.size_toArray,<- r2.length];exact this
  have l3:i<kts.toArray.size:=by have:=(List.getElem?_eq_some_iff.mp e3).1;rw[List.size_toArray,<- r3.length];exact this
  unfold pyNext;refine wpAny_bind (wpAny_attempt (wpAny_callSpecial?_slot (name:=Str.ofString "__next__") hT F.slot_zip_next (wpAny_call_entry F.slot_zip_next hT F.entry_zip_next (JfC Z D1 D2 D3 s1 s2 s3 ⟨s4,p1⟩ ⟨s5,p2⟩ ⟨s6,p3⟩ l1 l2 l3 fun u v u3 k tk pu pv pw t1 t2 t3 t4 t5 t5' t6 t7 t8=>wpAny_pure ?_) (F.args_zip_next_1 _))));refine⟨_,rfl,wpAny_letOwnedTupleGo_zip (s:={ s with heap:=k,toks:=tk }) t1 fun k2 t9 e9=>?_⟩
  replace e9:Heap.SameBut z k k2:=e9;obtain⟨ux,hx1,rx⟩:=r1.get e1;obtain⟨uy,hy1,ry⟩:=r2.get e2;obtain⟨uz,hz1,rz⟩:=r3.get e3
  have eu:u=ux:=by
   have pu':its[i]?=some u:=by simpa using pu
   rw[hx1] at pu';exact(Option.some.inj pu').symm
  have ev:v=uy:=by
   have pv':jts[i]?=some v:=by simpa using pv
   rw[hy1] at pv';exact(Option.some.inj pv').symm
  have ew:u3=uz:=by
   have pw':kts[i]?=some u3:=by simpa using pw
   rw[hz1] at pw';exact(Option.some.inj pw').symm
  subst eu ev ew
  have zlt:∀b∈[z,TI,TO,i1,i2,i3],b<s.heap.objs.size:=fun b hb=>by
   simp only[List.mem_cons,List.mem_nil_iff,or_false] at hb;rcases hb with rfl|rfl|rfl|rfl|rfl|rfl
   ·exact Heap.lt_size s1
   ·exact Heap.lt_size s2
   ·exact Heap.lt_size s3
   ·obtain⟨_,e,_⟩:=IsItr.obj (b:=b1) s4;exact Heap.lt_size e
   ·obtain⟨_,e,_⟩:=IsItr.obj (b:=b2) s5;exact Heap.lt_size e
   ·obtain⟨_,e,_⟩:=IsItr.obj (b:=b3) s6;exact Heap.lt_size e
  have I1:Inv X pins σ (upd H s.heap.objs.size (.tup [x,y,x3])) { s with heap:=s.heap.push { cls:=.type "tuple",data:=.seq #[u,v,u3] },toks:=s.toks } :=
   I.laid (o:=.tup [x,y,x3]) (fun b ob q=>Heap.get?_push_of_some _ q) (Nat.le_refl _) ⟨by show 3<=sizeLine;decide,[u,v,u3],.cons rx (.cons ry (.cons rz .nil)),⟨_,Heap.get?_push_size _ rfl,rfl,_,rfl⟩⟩
  have hf1:∀b∈[z,TI,TO,i1,i2,i3],FpOk X pins (upd H s.heap.objs.size (.tup [x,y,x3])) b:=fun b hb=>⟨by rw[Jh (Nat.ne_of_lt (zlt b hb))];exact(hf b hb).1,(hf b hb).2⟩
  have I2:Inv X pins σ (upd H s.heap.objs.size (.tup [x,y,x3])) { s with heap:=k2,toks:=tk }:=Inv.turnedL (s:={ s with heap:=s.heap.push { cls:=.type "tuple",data:=.seq #[u,v,u3] },toks:=s.toks }) I1 (fun b o hb q=>by
   simp only[List.mem_cons,List.mem_nil_iff,or_false,not_or] at hb;refine e9.extBut b o hb.1 ?_
   by_cases hbs:b=s.heap.objs.size
   ·subst hbs;have q':(s.heap.push { cls:=.type "tuple",data:=.seq #[u,v,u3] }).get? s.heap.objs.size=some o:=q;rw[Heap.get?_push_size _ rfl] at q';cases q';exact t6
   ·have q':s.heap.get? b=some o:=by have q2:(s.heap.push { cls:=.type "tuple",data:=.seq #[u,v,u3] }).get? b=some o:=q;exact(Heap.get?_push_ne s.heap b _ hbs).symm.trans q2
    exact t8 b o hb.1 hb.2.2.1 hb.2.2.2.1 hb.2.2.2.2.1 hb.2.2.2.2.2 q') hf1
  refine⟨.ref s.heap.objs.size,_,I2,rfl,⟨_,x,y,x3,rfl,I.hok.fresh (Nat.le_refl _),rfl,fun xs' ys' zs' h1 h2 h3=>?_⟩,⟨t9,e9.extBut _ _ Z.a1 t2,⟨_,_,_,e9.extBut _ _ Z.a2 t3⟩,?_,?_,?_⟩,fun b hb=>(hf1 b hb).1⟩
  ·rw[Sq.inj I h1 q1,Sq.inj I h2 q2,Sq.inj I h3 q3];exact⟨e1,e2,e3⟩
  ·exact IsItr.keep (b:=b1) t4.1 fun o e=>e9.extBut _ _ (fun q=>Z.z1 (q▸Z.m1)) e
  ·exact IsItr.keep (b:=b2) t5.1 fun o e=>e9.extBut _ _ (fun q=>Z.z2 (q▸Z.m2)) e
  ·exact IsItr.keep (b:=b3) t5'.1 fun o e=>e9.extBut _ _ (fun q=>Z.z3 (q▸Z.m3)) e
 done:=by
  intro X hP hw hK hc i pins s σ H E I hf st hg;subst hP hw hK;obtain⟨xs,ys,zs,q1,q2,q3,ei⟩:=hg;obtain⟨its,r1,p1⟩:=q1.heap I;obtain⟨jts,r2,p2⟩:=q2.heap I;obtain⟨kts,r3,p3⟩:=q3.heap I;obtain⟨s1,s2,⟨u0,v0,w0,s3⟩,s4,s5,s6⟩:=st;have Z:=Jkc I q1 q2 q3 hf nd;have hh:X.A.in1.handled=none:=I.ok.hd hc;have D1:=Draws.sq (prog:=X.prog) (w:=X.w) (b:=b1) (xs:=its.toArray) hh i1 (FpOk.off I q1 (hf i1 (by simp)));have D2:=Draws.sq (prog:=X.prog) (w:=X.w) (b:=b2) (xs:=jts.toArray) hh i2 (FpOk.off I q2 (hf i2 (by simp)))
  have D3:=Draws.sq (prog:=X.prog) (w:=X.w) (b:=b3) (xs:=kts.toArray) hh i3 (FpOk.off I q3 (hf i3 (by simp)))
  have hT:s.TypeIs (.ref z) "zip":=⟨_,s1,rfl⟩
  have n1:its.toArray.size=xs.length:=by rw[List.size_toArray,r1.length]
  have n2:jts.toArray.size=ys.length:=by rw[List.size_toArray,r2.length]
  have n3:kts.toArray.size=zs.length:=by rw[List.size_toArray,r3.length]
  unfold pyNext;refine wpAny_bind (wpAny_attempt (wpAny_callSpecial?_slot (name:=Str.ofString "__next__") hT F.slot_zip_next (wpAny_call_entry F.slot_zip_next hT F.entry_zip_next (JhQ Z D1 D2 D3 s1 s2 s3 ⟨s4,p1⟩ ⟨s5,p2⟩ ⟨s6,p3⟩ (by omega) fun k e tk kk he=>?_) (F.args_zip_next_1 _))));obtain⟨o,ho,hoc⟩:=he;refine wpAny_bind (wpAny_isInstance (T:="StopIteration") (b:=true) ⟨o,ho,hoc⟩ isSubtype_stop (wpAny_pure ⟨rfl,?_⟩));exact I.turnedL (fun b o hb q=>by simp only[List.mem_cons,List.mem_nil_iff,or_false,not_or] at hb;exact kk b o hb.1 hb.2.2.1 hb.2.2.2.1 hb.2.2.2.2.1 hb.2.2.2.2.2 q) hf
 self:=fun _ _ _ _ _ st h=>wpAny_pyIter_zip st.1 h
noncomputable def JmY(K:Frag)(ta:TA):TI:=fun σ H R=>ta σ H fun vs H1=>∃(b1 b2 b3:Bool) (a1 a2 a3:Addr) (xs ys zs:List V),vs=[.ref a1,.ref a2,.ref a3]/\Sq b1 K H1 a1 xs/\Sq b2 K H1 a2 ys/\Sq b3 K H1 a3 zs/\R (JmB K b1 b2 b3 a1 a2 a3) H1
theorem JgQ{X:Cx}{K:Frag}{elts:List Expr}{kk:Nat}{tpos:Pos}{a b c:Expr}{ta:TA}{p pos:Pos}(hK:X.K=K)(hg:Gl X "zip")(hm:X.mg "zip"=none)(ha:PA X [a,b,c] ta)(hs:starEach [a,b,c] X.env=[(false,eval a X.env),(false,eval b X.env),(false,eval c X.env)]:=by rfl)
 (hs2:starEach [b,c] X.env=[(false,eval b X.env),(false,eval c X.env)]:=by rfl):PI X (.Tuple elts kk tpos) (.Call (.Name "zip" p) [a,b,c] [] pos) (JmY K ta):=by
 subst hK;intro pins s σ H R I h;refine Call_ (UJ I hg hm JfT (PyProof.Rows.callWith_type1 (thn (ha pos pins s σ H _ I h) fun us s1 ⟨vs,H1,I1,r1,q1⟩=>?_) (by rw[hs,hs2]) (by rw[hs2];rfl)));obtain⟨b1,b2,b3,a1,a2,a3,xs,ys,zs,e,c1,c2,c3,q⟩:=q1;subst e
 cases r1 with
 | cons r rr =>
 cases rr with
 | cons r' rr =>
 cases rr with
 | cons r'' rr =>
 cases rr;cases r;cases r';cases r'';obtain⟨its,w1,p1⟩:=c1.heap I1;obtain⟨jts,w2,p2⟩:=c2.heap I1;obtain⟨kts,w3,p3⟩:=c3.heap I1;refine JeO p1 p2 p3 fun h' t1 t2 t3 t4 t5 t6 kp=>wpAny_pyIter_zip t1 ?_
 refine⟨_,[s1.heap.objs.size+5,s1.heap.objs.size+3,s1.heap.objs.size+4,s1.heap.objs.size,s1.heap.objs.size+1,s1.heap.objs.size+2],_,_,H1,rfl,I1.kept (t':=s1.toks) kp,Jfz b1 b2 b3 a1 a2 a3 _ _ _ _ _ _ (by simp),⟨t1,t2,⟨_,_,_,t3⟩,t4,t5,t6⟩,fun b hb=>?_,q⟩
 have hle:s1.heap.objs.size<=b:=by simp only[List.mem_cons,List.mem_nil_iff,or_false] at hb;rcases hb with rfl|rfl|rfl|rfl|rfl|rfl <;> first|exact Nat.le_refl _|exact Nat.le_add_right _ _
 exact I1.fpOk hle (I1.hok.fresh hle)
end L2
namespace LE
open PySem L2 LR
noncomputable def Ue:List D->List D->List D->List D
 | a::as,b::bs,c::cs=>.tup [a,b,c]::Ue as bs cs
 | _,_,_=>[]
theorem ZT:∀as bs cs:List D,(Ue as bs cs).length=min as.length (min bs.length cs.length)
 | a::as,b::bs,c::cs=>by rw[Ue,List.length_cons,ZT as bs cs];simp only[List.length_cons];omega
 | [],_,_=>by simp[Ue]
 | _::_,[],_=>by simp[Ue]
 | _::_,_::_,[]=>by simp[Ue]
theorem ZS:∀{as bs cs:List D} {i:Nat} {d:D},(Ue as bs cs)[i]?=some d->∃a b c,as[i]?=some a/\bs[i]?=some b/\cs[i]?=some c/\d=.tup [a,b,c]
 | a::as,b::bs,c::cs,0,d,h=>by cases h;exact⟨a,b,c,rfl,rfl,rfl,rfl⟩
 | a::as,b::bs,c::cs,i+1,d,h=>by obtain⟨x,y,z,h1,h2,h3,h4⟩:=ZS (as:=as) (bs:=bs) (cs:=cs) (i:=i) (d:=d) (by simpa [Ue] using h);exact⟨x,y,z,by simpa using h1,by simpa using h2,by simpa using h3,h4⟩
 | [],_,_,_,_,h=>by simp[Ue] at h
 | _::_,[],_,_,_,h=>by simp[Ue] at h
 | _::_,_::_,[],_,_,h=>by simp[Ue] at h
noncomputable def Jgm(m:Bool)(as:En->Option (List Sl)):En->Option (List D):=fun E=>(as E).bind fun ss=>match ss with
 | [s,t,u]=>(s.it m).bind fun ds=>(t.it m).bind fun es=>(u.it m).bind fun fs=>some (Ue ds es fs)
 | _=>none
section
variable{K:Frag}{C:Addr}{m:Bool}
theorem Jjq{t:TA}{ev:En->Option (List Sl)}(ha:SA K C t ev):SI K C m (JmY K t) (Jgm m ev):=by
 intro B H0 H σ E ds R I e q;obtain⟨ss,e1,e⟩:=bind_some e;split at e
 ·next s u u3 =>
  obtain⟨ds1,e2,e⟩:=bind_some e;obtain⟨ds2,e3,e⟩:=bind_some e;obtain⟨ds3,e4,e⟩:=bind_some e;cases e;refine ha B H0 H σ E _ _ I e1 fun vs H1 H1' s1 r1=>?_
  obtain⟨v,w,v3,rfl,ra,rb,rc⟩:=r1.three;have f:=JP (Hs:=H) s1.i;obtain⟨b1,a1,xs,rfl,k1,w1⟩:=Jcy ra s1.i e2;obtain⟨b2,a2,ys,rfl,k2,w2⟩:=Jcy rb s1.i e3;obtain⟨b3,a3,zs,rfl,k3,w3⟩:=Jcy rc s1.i e4;have hA:m=true->(if m=true then H1' else B)=H1':=fun h=>if_pos h
  have sA:Same (if m=true then H1' else B) H1':=by
   split
   ·exact Same.refl _
   ·exact I.b.trans s1.h
  have st0:SStep (if m=true then H1' else B) (Yi H H1 H1') (Yi H H1 H1') H1':=⟨sA,Same.refl _,fun _ _ e=>.inl e,f.i⟩
  refine⟨b1,b2,b3,a1,a2,a3,xs,ys,zs,rfl,k1 _ hA _ _ st0,k2 _ hA _ _ st0,k3 _ hA _ _ st0,q _ _ _ (s1.comp f fun _ z=>z) ?_⟩;intro H0' H' st;have q1:=k1 _ hA _ _ st;have q2:=k2 _ hA _ _ st;have q3:=k3 _ hA _ _ st;refine⟨fun i d e=>?_,⟨xs,ys,zs,q1,q2,q3,by rw[ZT,w1.1,w2.1,w3.1]⟩⟩;obtain⟨d1,d2,d3,g1,g2,g3,rfl⟩:=ZS e;obtain⟨x,x1,x2⟩:=w1.get g1;obtain⟨y,y1,y2⟩:=w2.get g2;obtain⟨z3,z1,z2⟩:=w3.get g3;refine⟨⟨xs,ys,zs,x,y,z3,q1,q2,q3,x1,y1,z1⟩,?_⟩
  rintro z H2 ⟨p,u',v',w',rfl,hp,rfl,hv⟩;obtain⟨h1,h2,h3⟩:=hv xs ys zs q1 q2 q3;rw[x1] at h1;cases h1;rw[y1] at h2;cases h2;rw[z1] at h3;cases h3;have h0:H0' p=none:=Same.free st.i hp;refine⟨upd H0' p (.tup [x,y,z3]),⟨.new hp,.new h0,fun a o e=>?_,fun a o e=>?_⟩,?_⟩
  ·by_cases h:a=p
   ·subst h;exact .inr (.inl hp)
   ·rw[Jh h] at e;exact .inl e
  ·by_cases h:a=p
   ·subst h;rw[Jo] at e ⊢;exact e
   ·rw[Jh h] at e ⊢;exact st.i a o e
  ·exact .mkT (.of Jo) (.cons (x2.mono (st.z.trans (.new h0))) (.cons (y2.mono (st.z.trans (.new h0))) (.cons (z2.mono (st.z.trans (.new h0))) .nil)))
 ·cases e
end
end LE

namespace L2
open PySem PySem.Spec PyProof.Rows
noncomputable def ZU(X:Cx)(f:Value)(nm:Str)(z:V)(r:List V->Hp->VK->Prop):Prop :=
 ∀(pins:List (Addr×Obj)) (s:Shared) (σ:St) (H:Hp) (xs:List V) (us:List Value) (w:Value) (Q:VK),Inv X pins σ H s->Vals xs us->RelV z w->r xs H Q->wpAny (model X.prog X.w) X.A (call f us [(nm,w)]) (EP X pins σ Q) X.xe s
theorem Jfj{X:Cx}{id:String}{nm x:Str}{z:V}{r:List V->Hp->VK->Prop}{e ek:Expr}{es:List Expr}{t:TA}{p pos kpos:Pos}(hc:ZU X (.builtin id) nm z r)(hg:Gl X x)(hm:X.mg x=none)(hv:bootBuiltins x=some (.builtin id))(ha:PA X (e::es) t)(hk:PE X ek (tC z))
 (hn:x≠"__name__":=by decide) (hdb:(x == ("__debug__":Str))=false:=by decide)
 (he:backTo pos (starEach (e::es) X.env)=(false,eval e X.env)::backTo pos (starEach es X.env):=by rfl) (hpl:(backTo pos (starEach (e::es) X.env)).any (·.1)=false:=by rfl):PE X (.Call (.Name x p) (e::es) [⟨some nm,ek,kpos⟩] pos) (tCB r t):=by
 intro pins s σ H Q I h;refine wpAny_Call_Name_kw (UJ I hg hm hv ?_ hn hdb);refine callWith_kw (thn (ha pos pins s σ H _ I h) fun us s1 ⟨vs,H1,I1,r1,q1⟩=>?_) he hpl rfl rfl;refine kws_cons (thn (hk pins s1 σ H1 (fun v H2=>v=z/\r vs H2 Q) I1 ⟨rfl,q1⟩) fun w s2 ⟨v,H2,I2,rz,e2,q2⟩=>kws_nil ?_);subst e2;exact hc pins s2 σ H2 vs us w Q I2 r1 rz q2
section
variable{X:Cx}
end
end L2
namespace LE
open PySem L2 LR
section
variable{K:Frag}{C:Addr}
end
end LE

namespace PySem

theorem Jbk(a v:Value):argsOk "min" ⟨[a],[(Str.ofString "default",v)]⟩:=by unfold argsOk;kernel_rfl
section
variable{prog:Program}{w:World}{A:Around}{R:Result->Shared->Prop}{I:Addr}{fp wr:List Addr}{n:Nat}{P:Nat->Value->Prop}{St:Nat->Heap->Prop}
theorem Jfd(W:Walks prog w A.in1 I fp wr n P St)(bt:Nat->Nat->Bool)(cm:CmpOf prog w A.in1 .Lt P bt)(S:Addr)(nS:S∉fp)(d:Value) :
 ∀(k j:Nat) (s:Shared) (c:Nat) (arr:Array Value),n-j=k->j<=n->St j s.heap->((j=0/\arr=#[])\/∃vb,0<j/\arr=#[vb,vb]/\P (argBest bt (j-1)) vb) ->
 s.heap.get? S=some { cls:=.type "list",dict:=none,data:=.seq arr c,slots:=#[] } ->
 (n=0->∀h' tk,(∀b o,b∉wr->b≠S->s.heap.get? b=some o->h'.get? b=some o)->R (.ok (.ret d)) { s with heap:=h',toks:=tk }) ->
 (0<n->∀v h' tk,P (argBest bt (n-1)) v->(∀b o,b∉wr->b≠S->s.heap.get? b=some o->h'.get? b=some o)->R (.ok (.ret v)) { s with heap:=h',toks:=tk }) ->
 codeAny (model prog w) A (.builtin "min.loop" ⟨[.ref I,.none,.ref S],[(Str.ofString "default",d)]⟩) R s:=by
 have nW:S∉wr:=fun h=>nS (W.sub _ h)
 have nm:(toString "min"++toString ".loop":String)="min.loop":=by decide
 intro k
 induction k with
 | zero =>
  intro j s c arr hk hj st best hS h0 h1;have ej:j=n:=by omega
  subst ej;refine codeAny_builtin F.entry_min_loop ?_;rw[Around.under_plainId F.plain_min_loop _];rcases best with ⟨e0,rfl⟩|⟨vb,jp,rfl,pb⟩
  ·show wpAny _ A.in1 (seqItems? (.ref S) >>= _) _ _ s;refine wpAny_bind (wpAny_seqItems hS rfl (show wpAny _ A.in1 (tryCatch (pyNext (.ref I)) _ >>= _) _ _ s from wpAny_bind (wpAny_tryCatch (W.done s _ _ st fun h' tk hk'=>?_))));exact wpAny_bind (wpAny_rule (wpAny_pure (h0 e0 h' tk fun b o b1 _ e=>hk' b o b1 e)))
  ·show wpAny _ A.in1 (seqItems? (.ref S) >>= _) _ _ s;refine wpAny_bind (wpAny_seqItems hS rfl (show wpAny _ A.in1 (tryCatch (pyNext (.ref I)) _ >>= _) _ _ s from wpAny_bind (wpAny_tryCatch (W.done s _ _ st fun h' tk hk'=>?_))))
   have hS':=hk' S _ nW hS
   show wpAny _ A.in1 (updateSeq S (fun _=>#[]) >>= _) _ _ _;refine wpAny_bind (wpAny_updateSeq hS' rfl (wpAny_bind (wpAny_letGo (wpAny_pure ?_))));exact h1 jp vb _ tk pb fun b o b1 b2 e=>(Heap.get?_update_other _ _ (Ne.symm b2)).trans (hk' b o b1 e)
 | succ k ih =>
  intro j s c arr hk hj st best hS h0 h1;have lt:j<n:=by omega
  refine codeAny_builtin F.entry_min_loop ?_;rw[Around.under_plainId F.plain_min_loop _];have nz:n=0->∀{s':Shared} h' tk,(∀b o,b∉wr->b≠S->s'.heap.get? b=some o->h'.get? b=some o)->R (.ok (.ret d)) { s' with heap:=h',toks:=tk }:=fun z=>absurd z (by omega)
  rcases best with ⟨e0,rfl⟩|⟨vb,jp,rfl,pb⟩
  ·subst e0;show wpAny _ A.in1 (seqItems? (.ref S) >>= _) _ _ s;refine wpAny_bind (wpAny_seqItems hS rfl (show wpAny _ A.in1 (tryCatch (pyNext (.ref I)) _ >>= _) _ _ s from wpAny_bind (wpAny_tryCatch (W.item 0 s _ _ lt st fun v h' tk pv st' hk'=>?_))));have hS':=hk' S _ nW hS;show wpAny _ A.in1 (updateSeq S (fun _=>#[v,v]) >>= _) _ _ _;refine wpAny_bind (wpAny_updateSeq hS' rfl ?_);rw[nm];refine wpAny_pure ⟨plainId_quiet F.plain_min_loop _,ih 1 _ _ _ (by omega) (by omega) (W.frame _ _ _ st' fun b bf o e=>?_) (.inr ⟨v,by omega,rfl,pv⟩) (Heap.get?_update_self _ hS' rfl) (fun z=>nz z) fun np v' h2 t2 pv' k2=>?_⟩
   ·exact(Heap.get?_update_other _ _ (fun h:S=b=>nS (by rw[h];exact bf))).trans e
   ·exact h1 np v' h2 t2 pv' fun b o b1 b2 e=>k2 b o b1 b2 ((Heap.get?_update_other _ _ (Ne.symm b2)).trans (hk' b o b1 e))
  ·show wpAny _ A.in1 (seqItems? (.ref S) >>= _) _ _ s;refine wpAny_bind (wpAny_seqItems hS rfl (show wpAny _ A.in1 (tryCatch (pyNext (.ref I)) _ >>= _) _ _ s from wpAny_bind (wpAny_tryCatch (W.item j s _ _ lt st fun v h' tk pv st' hk'=>?_))))
   have hS':=hk' S _ nW hS
   have ea:argBest bt j=if bt j (argBest bt (j-1))=true then j else argBest bt (j-1):=by
    obtain⟨i,rfl⟩:∃i,j=i+1:=⟨j-1,by omega⟩
    rfl
   show wpAny _ A.in1 (tryCatch (holding [v,v] (richCompare .Lt v vb >>= _)) _ >>= _) _ _ _;refine wpAny_bind (wpAny_tryCatch (wpAny_holding (wpAny_bind (cm j (argBest bt (j-1)) v vb _ _ _ pv pb (wpAny_bind (wpAny_holding (wpAny_truthy_bool (wpAny_bind (wpAny_letGo (wpAny_pure ?_))))))))))
   cases hb:bt j (argBest bt (j-1)) with
   | true =>
    simp only[if_true];refine wpAny_bind (wpAny_updateSeq hS' rfl (wpAny_bind (wpAny_letGo ?_)));rw[nm];refine wpAny_pure ⟨plainId_quiet F.plain_min_loop _,ih (j+1) _ _ _ (by omega) (by omega) (W.frame _ _ _ st' fun b bf o e=>?_) (.inr ⟨v,by omega,rfl,?_⟩) (Heap.get?_update_self _ hS' rfl) (fun z=>nz z) fun np v' h2 t2 pv' k2=>?_⟩
    ·exact(Heap.get?_update_other _ _ (fun h:S=b=>nS (by rw[h];exact bf))).trans e
    ·rw[Nat.add_sub_cancel,ea,hb,if_pos rfl];exact pv
    ·exact h1 np v' h2 t2 pv' fun b o b1 b2 e=>k2 b o b1 b2 ((Heap.get?_update_other _ _ (Ne.symm b2)).trans (hk' b o b1 e))
   | false =>
    simp only[Bool.false_eq_true,if_false];refine wpAny_bind (wpAny_letGo ?_);rw[nm];refine wpAny_pure ⟨plainId_quiet F.plain_min_loop _,ih (j+1) _ c _ (by omega) (by omega) st' (.inr ⟨vb,by omega,rfl,?_⟩) hS' (fun z=>nz z) fun np v' h2 t2 pv' k2=>?_⟩
    ·rw[Nat.add_sub_cancel,ea,hb,if_neg Bool.false_ne_true];exact pb
    ·exact h1 np v' h2 t2 pv' fun b o b1 b2 e=>k2 b o b1 b2 (hk' b o b1 e)
end
section
variable{prog:Program}{w:World}{A:Around}{E:Value->Shared->Prop}{s:Shared}{l:Addr}{xs:Array (Int×Tok)}
theorem Jbl{d:Value}{Q:Value->Shared->Prop}(hh:A.handled=none)(hl:s.heap.IsList l (intItems xs))(h0:xs.size=0->∀h' tk,(∀b o,s.heap.get? b=some o->h'.get? b=some o)->Q d { s with heap:=h',toks:=tk })
 (h1:0<xs.size->∀v h' tk,(intItems xs)[argBest (fun i j=>decide (numAt xs i<numAt xs j)) (xs.size-1)]?=some v->(∀b o,s.heap.get? b=some o->h'.get? b=some o)->Q v { s with heap:=h',toks:=tk }) :
 wpAny (model prog w) A (call (.builtin "min") [.ref l] [(Str.ofString "default",d)]) Q E s:=by
 have nm:(toString "min"++toString ".loop":String)="min.loop":=by decide
 have sz:(intItems xs).size=xs.size:=by simp[intItems]
 refine PyProof.Rows.kmk_tree F.kind_min F.plain_min F.entry_min (Jbk _ _) ?_;show wpAny _ A.in1 (Builtin.Builtins.bindParams "min" ["key","default"] 0 ⟨[],[(Str.ofString "default",d)]⟩ >>= _) _ _ s;refine wpAny_bind (wpAny_of_eq (show Builtin.Builtins.bindParams "min" ["key","default"] 0 ⟨[],[(Str.ofString "default",d)]⟩=pure [none,some d] from rfl) ?_);refine wpAny_bind (wpAny_pure ?_);refine wpAny_bind (iter_intList hl fun s₂ e st hfp hlI=>?_);subst e;refine wpAny_bind (wpAny_newObj_type ?_)
 rw[nm];have W:=Walks.list (prog:=prog) (w:=w) (A:=A.in1) hh _ l hlI (intItems xs);have fpS:(s.heap.push { cls:=.type "list_iterator",data:=.fields #[.ref l,.int 0 0] }).objs.size∉[s.heap.objs.size,l]:=fun hm=>Nat.lt_irrefl _ (hfp _ hm)
 refine wpAny_pure ⟨plainId_quiet F.plain_min_loop _,Jfd W (fun i j=>decide (numAt xs i<numAt xs j)) (CmpOf.ints_lt (numAt xs) (fun _ _=>intItems_at)) _ fpS d _ 0 _ _ #[] rfl (Nat.zero_le _) (W.frame _ _ _ st fun b _ o e=>Heap.get?_push_of_some _ e) (.inl ⟨rfl,rfl⟩) (Heap.get?_push_size _ rfl) (fun z h' tk k=>?_) fun z v h' tk pv k=>?_⟩
 ·exact h0 (by rw[<- sz];exact z) h' tk (old_kept fun b o b1 e=>k b o b1 (Nat.ne_of_lt (Heap.lt_size e)) (Heap.get?_push_of_some _ e))
 ·exact h1 (by rw[<- sz];exact z) v h' tk (by rw[sz] at pv;exact pv) (old_kept fun b o b1 e=>k b o b1 (Nat.ne_of_lt (Heap.lt_size e)) (Heap.get?_push_of_some _ e))
end

section
variable{prog:Program}{w:World}{A:Around}{R:Result->Shared->Prop}{I:Addr}{fp wr:List Addr}{n:Nat}{P:Nat->Value->Prop}{St:Nat->Heap->Prop}
end
section
variable{prog:Program}{w:World}{A:Around}{E:Value->Shared->Prop}{s:Shared}{l:Addr}{xs:Array (Int×Tok)}
end

end PySem

namespace L2
open PySem PySem.Spec PyProof.Rows

section
variable{X:Cx}
noncomputable def Jg2(K:Frag):List V->Hp->VK->Prop:=fun xs H Q=>∃(a:Addr) (ns:List Int),xs=[.ref a]/\SqL K H a (ns.map V.int)/\(ns=[]->Q .non H)/\∀M,M∈ns->(∀b,b∈ns->M<=b)->Q (.int M) H
theorem JeK(hc:X.calm=true):ZU X (.builtin "min") "default" .non (Jg2 X.K):=by
 intro pins s σ H xs us w Q I r rz h;obtain⟨a,ns,rfl,hq,q0,q⟩:=h;obtain⟨u,rfl,rx⟩:=U5 r;cases rx;cases rz;obtain⟨its,rv,p,hz⟩:=I.list hq;have hi:=Y4 rv;have hl:=p.isList;obtain⟨xs,e⟩:=hi.allInts.items;have hns:ns=xs.toList.map (·.1):=by rw[<- hi.numsOf,<- nums_intItems,<- e]
 rw[e] at hl;refine Jbl (I.ok.hd hc) hl (fun z h' tk hk=>?_) fun z v h' tk hv hk=>?_
 ·refine⟨.non,H,I.kept hk,rfl,q0 ?_⟩;rw[hns];exact List.eq_nil_of_length_eq_zero (by rw[List.length_map,Array.length_toList];exact z)
 ·obtain⟨t,rfl⟩:=intItems_at hv;obtain⟨h1,h2⟩:=argBest_lt (numAt xs) (xs.size-1);refine⟨.int _,H,I.kept hk,⟨t,rfl⟩,q _ ?_ fun a ha=>?_⟩
  ·rw[hns,numAt_eq];exact getD_mem (by rw[List.length_map,Array.length_toList];omega)
  ·rw[hns] at ha;obtain⟨j,hj,rfl⟩:=mem_getD ha;rw[List.length_map,Array.length_toList] at hj;rw[<- numAt_eq];exact h2 j (by omega)
end
theorem Jci{X:Cx}{K:Frag}(hK:X.K=K)(hc:X.calm=true):ZU X (.builtin "min") "default" .non (Jg2 K):=hK▸JeK hc

section
variable{X:Cx}
end
end L2
namespace LE
open PySem L2 LR

noncomputable def Jdt:List Sl->Option Sl
 | [s]=>s.r.bind fun ds=>(ints? ds).map fun ns=>match ns.min? with
  | some m=>.sh (.int m)
  | none=>.sh .non
 | _=>none
theorem Jkl{K:Frag}{C:Addr}:Vi K C (Jg2 K) Jdt:=by
 intro Hs H0 H xs as c Q i hs r e q;unfold Jdt at e;split at e
 ·obtain⟨v,rfl,r0⟩:=r.one;obtain⟨ds,e1,e⟩:=bind_some e;obtain⟨ns,e2,rfl⟩:=map_some e;obtain⟨l,ys,rfl,h,r1⟩:=r0.r i e1;rw[YW e2] at r1;have:=r1.ints;subst this;refine⟨l,ns,rfl,h,fun z=>?_,fun M hM hb=>?_⟩
  ·subst z;exact q _ _ _ (.refl i) RD.non
  ·have hm:ns.min?=some M:=List.min?_eq_some_iff.mpr ⟨hM,hb⟩;rw[hm] at q;exact q _ _ _ (.refl i) (RD.int _)
 ·cases e

end LE

namespace LE
open PySem L2 LR

noncomputable def look{α:Type}:List Int->List α->Int->Option α
 | k::ks,d::ds,n=>if k=n then some d else look ks ds n
 | _,_,_=>none
noncomputable def Vq(ks:List Int)(n:Int):Bool:=ks.any fun k=>decide (k=n)
noncomputable def YT(ks:List Int)(n:Int):List Int:=if Vq ks n=true then ks else ks++[n]
noncomputable def setK{α:Type}:List Int->List α->Int->α->List α
 | k::ks,d::ds,n,v=>(if k=n then v else d)::setK ks ds n v
 | _,ds,_,_=>ds
noncomputable def putDs{α:Type}(ks:List Int)(ds:List α)(n:Int)(v:α):List α:=if Vq ks n=true then setK ks ds n v else ds++[v]
theorem JbN{α:Type}(n:Int)(v:α):∀(ks:List Int) (ds:List α),(setK ks ds n v).length=ds.length
 | [],_=>rfl
 | _::_,[]=>rfl
 | _::ks,_::ds=>by simp[setK,JbN n v ks ds]
theorem Jfl{α:Type}(ks:List Int)(ds:List α)(n:Int)(v:α)(h:ks.length=ds.length):(YT ks n).length=(putDs ks ds n v).length:=by unfold YT putDs;split <;> simp[JbN,h]
theorem ZP:∀(ks:List Int) (xs:List V) (n:Int),VI ((ks.map Sum.inl:List Key).zip xs) (Sum.inl n)=look ks xs n
 | [],_,_=>rfl
 | _::_,[],_=>rfl
 | k::ks,x::xs,n=>by
  show VI (((Sum.inl k:Key),x)::(ks.map Sum.inl:List Key).zip xs) (Sum.inl n)=_
  by_cases h:k=n
  ·rw[VL (by rw[h]),look,if_pos h]
  ·rw[VJ (fun e=>h (Sum.inl.inj e)),look,if_neg h];exact ZP ks xs n
theorem JaQ:∀(ks:List Int) (xs:List V) (n:Int),ks.length=xs.length->(((ks.map Sum.inl:List Key).zip xs).any fun kv=>decide (kv.1=(Sum.inl n:Key)))=Vq ks n
 | [],_,_,_=>rfl
 | _::_,[],_,h=>by simp at h
 | k::ks,x::xs,n,h=>by
  show(decide ((Sum.inl k:Key)=Sum.inl n) || ((ks.map Sum.inl:List Key).zip xs).any _)=(decide (k=n) || ks.any _)
  rw[JaQ ks xs n (by simpa using h)];congr 1
  by_cases e:k=n
  ·subst e;simp
  ·rw[decide_eq_false e,decide_eq_false fun z=>e (Sum.inl.inj z)]
theorem Jbj:∀(ks:List Int) (xs:List V) (n:Int) (v:V),ks.length=xs.length->(((ks.map Sum.inl:List Key).zip xs).map fun kv=>if kv.1=(Sum.inl n:Key) then(kv.1,v) else kv)=(ks.map Sum.inl:List Key).zip (setK ks xs n v)
 | [],_,_,_,_=>rfl
 | _::_,[],_,_,h=>by simp at h
 | k::ks,x::xs,n,v,h=>by
  show(if (Sum.inl k:Key)=Sum.inl n then((Sum.inl k:Key),v) else(Sum.inl k,x))::((ks.map Sum.inl:List Key).zip xs).map _=(Sum.inl k,if k=n then v else x)::(ks.map Sum.inl:List Key).zip (setK ks xs n v);rw[Jbj ks xs n v (by simpa using h)];congr 1
  by_cases e:k=n
  ·subst e;simp
  ·rw[if_neg e,if_neg fun z=>e (Sum.inl.inj z)]
theorem JgX(ks:List Int)(xs:List V)(n:Int)(v:V)(h:ks.length=xs.length):(HO.dK (Vw ((ks.map Sum.inl:List Key).zip xs) (Sum.inl n) v))=dkO (YT ks n) (putDs ks xs n v):=by
 unfold dkO Vw YT putDs;rw[JaQ ks xs n h];split
 ·rw[Jbj ks xs n v h]
 ·rw[List.map_append,List.zip_append (by simpa using h)];rfl
section
variable{K:Frag}{C:Addr}{Hs H0 H:Hp}
theorem RDL.look:∀{ks:List Int} {xs:List V} {ds:List D} {n:Int},RDL K C H xs ds->(LE.look ks xs n=none/\LE.look ks ds n=none)\/∃x d,LE.look ks xs n=some x/\LE.look ks ds n=some d/\RD K C H x d
 | [],_,_,_,_=>.inl ⟨rfl,rfl⟩
 | _::_,[],[],_,_=>.inl ⟨rfl,rfl⟩
 | _::_,[],_::_,_,h=>by have:=h.1;simp at this
 | _::_,_::_,[],_,h=>by have:=h.1;simp at this
 | k::ks,x::xs,d::ds,n,h=>by
  simp only[LE.look]
  by_cases e:k=n
  ·rw[if_pos e,if_pos e];exact .inr ⟨x,d,rfl,rfl,h.head⟩
  ·rw[if_neg e,if_neg e];exact RDL.look h.tail
theorem RDL.setK{n:Int}{v:V}{e:D}(r:RD K C H v e):∀{ks:List Int} {xs:List V} {ds:List D},RDL K C H xs ds->RDL K C H (LE.setK ks xs n v) (LE.setK ks ds n e)
 | [],_,_,h=>h
 | _::_,[],[],_=>.nil
 | _::_,[],_::_,h=>by have:=h.1;simp at this
 | _::_,_::_,[],h=>by have:=h.1;simp at this
 | k::ks,x::xs,d::ds,h=>by
  simp only[LE.setK];refine .cons ?_ (RDL.setK r h.tail);split
  ·exact r
  ·exact h.head
theorem RDL.putDs{n:Int}{v:V}{e:D}{ks:List Int}{xs:List V}{ds:List D}(h:RDL K C H xs ds)(r:RD K C H v e):RDL K C H (LE.putDs ks xs n v) (LE.putDs ks ds n e):=by
 unfold LE.putDs;split
 ·exact RDL.setK r h
 ·exact h.snoc r
theorem Jle{p:Addr}{ks:List Int}{xs:List V}{ds:List D}{Q:VK}(i:Same H0 H)(hs:Same Hs H)(hp:H p=none)(hk:ks.length=ds.length)(r:RDL K C H0 xs ds)(q:∀v H0' H',Step Hs H0 H H0' H'->RR K C Hs H0' H' v (.od ks ds)->Q v H'):Q (.ref p) (upd H p (dkO ks xs)) :=
 q _ H0 _ ⟨.new hp,Same.refl _,fun _ _ e=>.inl e,i.trans (.new hp)⟩ ⟨p,xs,rfl,Jo,Same.free i hp,Same.free hs hp,hk,r⟩
end
noncomputable def Sl.dk:Sl->Option (List Int×List D)
 | .sh (.dct ks ds)=>some (ks,ds)
 | .sh (.dfz ks ds)=>some (ks,ds)
 | .bd ks ds=>some (ks,ds)
 | .od ks ds=>some (ks,ds)
 | _=>none
noncomputable def int?:Sl->Option Int
 | .sh (.int i)=>some i
 | _=>none
noncomputable def Jdo:Ev:=fun _=>some (.od [] [])
noncomputable def Jaf(a k x:Ev):Ev:=fun E=>(a E).bind fun s=>s.dk.bind fun p=>((k E).bind int?).bind fun n=>((x E).bind sh?).bind fun d=>some (.sh ((look p.1 p.2 n).getD d))
noncomputable def Jb8(i:Nat)(k a:Ev):Es:=fun E=>match E[i]? with
 | some (.od ks ds)=>(a E).bind fun s=>s.frz.bind fun d=>((k E).bind int?).bind fun n=>if ks.length<sizeLine then some (.nx (E.set i (.od (YT ks n) (putDs ks ds n d)))) else none
 | _=>none
section
variable{K:Frag}{C:Addr}{Hs H0 H:Hp}{td ty tx te:TE}{ed ek ex ea:Ev}
theorem WK{s:Sl}{n:Int}(e:int? s=some n):s=.sh (.int n):=by
 cases s with
 | sh d=>cases d with
  | int i=>cases e;rfl
  | _=>cases e
 | _=>cases e
theorem RR.dk{v:V}{s:Sl}{p:List Int×List D}(r:RR K C Hs H0 H v s)(i:Same H0 H)(e:s.dk=some p):∃l xs,v=.ref l/\Rd H l (dkO p.1 xs)/\p.1.length=p.2.length/\RDL K C H0 xs p.2:=by
 cases s with
 | bd ks ds=>cases e;obtain⟨l,xs,h1,h2,h3⟩:=r;exact⟨l,xs,h1,.inl h2,h3⟩
 | od ks ds=>cases e;obtain⟨l,xs,h1,h2,_,_,h3⟩:=r;exact⟨l,xs,h1,.inl h2,h3⟩
 | bt _ _=>cases e
 | ot _ _=>cases e
 | sh d=>cases d with
  | dct ks ds=>cases e;obtain⟨l,xs,h1,h2,h3⟩:=RD.dctI r;exact⟨l,xs,h1,.inl (i _ _ h2),h3⟩
  | dfz ks ds=>cases e;obtain⟨l,xs,o,h1,h2,h3⟩:=RD.dfzI r;exact⟨l,xs,h1,.inr ⟨o,i _ _ h2⟩,h3⟩
  | _=>cases e
 | _=>cases e
theorem JnH{l:Addr}{ks:List Int}{xs:List V}{n:Int}(h:Rd H l (dkO ks xs)):DGet H l (.int n) (look ks xs n):=.inl ⟨_,Sum.inl n,h,rfl,(ZP ks xs n).symm⟩
theorem Jhd:SE K C Jhr Jdo:=by intro B H0 H σ E r Q I e q;cases e;intro p hp;exact Jle (ks:=[]) (xs:=[]) (Hs:=H) I.h (Same.refl _) hp rfl .nil q
theorem Jd5(ha:SE K C td ed)(hk:SE K C ty ek)(hx:SE K C tx ex):SE K C (Jhq td ty tx) (Jaf ed ek ex):=by
 intro B H0 H σ E r Q I e q;obtain⟨s,e1,e⟩:=bind_some e;obtain⟨p,e2,e⟩:=bind_some e;obtain⟨n,e3,e⟩:=bind_some e;obtain⟨t,e3,e4⟩:=bind_some e3;obtain rfl:=WK e4;obtain⟨d,e5,e⟩:=bind_some e;obtain⟨t',e5,e6⟩:=bind_some e5;obtain rfl:=Ws e6;cases e;refine ha B H0 H σ E s _ I e1 fun x H1 H1' s1 r1=>?_
 obtain⟨l0,xs0,rfl,h0,_,_⟩:=r1.dk s1.i e2;refine⟨l0,rfl,.inl ⟨_,h0⟩,hk B H1 H1' σ E _ _ (I.step s1) e3 fun y H2 H2' s2 r2=>hx B H2 H2' σ E _ _ ((I.step s1).step s2) e5 fun z H3 H3' s3 r3=>?_⟩;obtain⟨l,xs,hl,h,_,rl⟩:=((r1.step s2).step s3).dk s3.i e2;cases hl;rw[RD.intI r2];refine⟨_,JnH h,q _ _ _ ((s1.trans s2).trans s3) ?_⟩;rcases RDL.look (ks:=p.1) (n:=n) rl with ⟨z1,z2⟩|⟨v,d',z1,z2,z3⟩
 ·rw[z1,z2];exact r3
 ·rw[z1,z2];exact z3
theorem JhO{i:Nat}(ha:SE K C te ea)(hk:SE K C ty ek):SS K C (Jj2 (Zh i) ty te) (Jb8 i ek ea):=by
 intro B H0 H σ E o D I e f;unfold Jb8 at e;split at e
 ·next ks ds h =>
  obtain⟨s,e1,e⟩:=bind_some e;obtain⟨d,e2,e⟩:=bind_some e;obtain⟨n,e3,e⟩:=bind_some e;obtain⟨t,e3,e4⟩:=bind_some e3;obtain rfl:=WK e4;split at e
  ·next hz =>
   cases e;obtain⟨l,xs,g1,g2,g3,g4,gk,g5⟩:=I.slotD h;refine ha B H0 H σ E _ _ I e1 fun v H1 H1' s1 r1=>?_
   have s2:Step H H0 H (Yi H H1 H1') H1':=s1.comp (JP s1.i) fun _ z=>z
   have rv:=RR.frz s1.i r1 e2;refine⟨_,g1,?_⟩;refine hk B _ H1' σ E _ _ (I.step s2) e3 fun w H3 H3' s3 r3=>?_
   have s4:=s2.trans s3
   have hx:ks.length=xs.length:=gk.trans g5.1.symm;obtain⟨_,n0,nB⟩:=(I.step s4).ownG h rfl g1
   have rr:=(g5.mono s4.z).putDs (ks:=ks) (n:=n) (rv.mono s3.z)
   have m:=(I.step s4).mutG (t':=.od (YT ks n) (putDs ks ds n d)) (o':=dkO (YT ks n) (putDs ks xs n v)) h rfl rfl g1 ⟨l,_,rfl,Jo,n0,nB,Jfl _ _ _ _ gk,rr⟩;rw[RD.intI r3];refine⟨l,_,rfl,.inl ⟨_,Sum.inl n,s4.h _ _ g2,rfl,?_,rfl⟩,?_⟩
   ·rw[List.length_zip,List.length_map,<- hx,Nat.min_self];exact hz
   ·rw[JgX ks xs n v hx];exact f _ _ _ ⟨m.b,s4.z,(s4.ss I.b).n,m.h⟩ m
  ·cases e
 ·cases e
end

section
variable{K:Frag}{C:Addr}{H:Hp}
theorem RDL.rep{xs:List V}{ds:List D}(r:RDL K C H xs ds):∀k:Nat,RDL K C H (List.replicate k xs).flatten (List.replicate k ds).flatten
 | 0=>.nil
 | k+1=>by rw[List.replicate_succ,List.replicate_succ,List.flatten_cons,List.flatten_cons];exact r.append (RDL.rep r k)
end
end LE

namespace L2
open PySem PySem.Spec PyProof.Rows
noncomputable def Jj7(i:Nat)(t:TS):TS:=fun D σ H=>∃a kvs,σ[i]?=some (some (.ref a))/\H a=some (.dK kvs)/\∀o,t D σ (upd H a (.frz o (.dK kvs)))
theorem Inv.freeze{X:Cx}{pins:List (Addr×Obj)}{σ:St}{H:Hp}{s:Shared}{a:Addr}{kvs:List (Key×V)}(I:Inv X pins σ H s)(e:H a=some (.dK kvs)):∃o,Inv X pins σ (upd H a (.frz o (.dK kvs))) s:=by
 obtain⟨z,y,vs,r,ob,es,ep,e1,c⟩:=(show ObjOk X.prog X.w H s.heap a (.dK kvs) from I.hok a _ e)
 have:=I.write (x:=a) (e:=a) (o:=.frz ob (.dK kvs)) (h':=s.heap) (t':=s.toks) (by rw[e];trivial) (.inl rfl) (fun b u _ q=>q) ⟨ob,e1⟩ ⟨e1,z,y,vs,r,ob,es,ep,e1,c⟩;exact⟨ob,this⟩
theorem Ji7{X:Cx}{st:Stmt}{t:TS}(i:Nat)(h:PS X st t):PS X st (Jj7 i t):=by intro pins s σ H D I ⟨a,kvs,e1,e2,q⟩;obtain⟨o,I'⟩:=I.freeze e2;exact h pins s σ _ D I' (q o)
noncomputable def Itd(a:Addr)(o:Obj)(kvs:List (Key×V)):It :=
 ⟨fun i H=>H a=some (.frz o (.dK kvs))/\∃p,kvs[i]?=some p,
  fun i H x H'=>∃t k v,x=.ref t/\H t=none/\kvs[i]?=some (k,v)/\H'=upd H t (.tup [kV k,v]),
  fun i H=>H a=some (.frz o (.dK kvs))/\i=kvs.length⟩
theorem Jgt{P:Program}{w:World}{k:Key}{u:Value}(h:(JA P w).is k u=true):RelV (kV k) u:=by
 rcases JR (show WO k u=true from h) with ⟨i,t,rfl,rfl⟩|⟨x,t,rfl,rfl⟩
 ·exact⟨t,rfl⟩
 ·exact⟨t,rfl⟩
theorem KV.get{κ:Type}:∀{kvs:List (κ×V)} {vs:List (κ×Value)} {i:Nat} {p:κ×V},KV kvs vs->kvs[i]?=some p->∃u,vs[i]?=some (p.1,u)/\RelV p.2 u
 | _,_,0,p,.cons h _,e=>by simp at e;subst e;obtain⟨h1,h2⟩:=h;rename_i q _ _;exact⟨_,by simp;exact Prod.ext h1.symm rfl,h2⟩
 | _,_,i+1,p,.cons _ t,e=>by obtain⟨u,h1,h2⟩:=KV.get (i:=i) t (by simpa using e);exact⟨u,by simpa using h1,h2⟩
 | _,_,_,_,.nil,e=>by simp at e
theorem WA{X:Cx}{pins:List (Addr×Obj)}{σ:St}{H:Hp}{s:Shared}{a:Addr}{o:Obj}{kvs:List (Key×V)}{es:Array DictEntry}{ep:Nat}(I:Inv X pins σ H s)(h:H a=some (.frz o (.dK kvs)))(hd:o.data=.dict es ep) :
 ∃vs,KV kvs vs/\s.heap.DictAt (JA X.prog X.w) a vs ep/\(a == sysModules)=false:=by
 obtain⟨e0,z,y,vs,r,ob,es',ep',e1,c1,c2,c3⟩:=(show ObjOk X.prog X.w H s.heap a (.frz o (.dK kvs)) from I.hok a _ h)
 rw[e0] at e1;cases e1;rw[hd] at c2;cases c2;exact⟨vs,r,⟨o,es,e0,c1,hd,c3⟩,y⟩
theorem Jc3{P:Program}{w:World}{K:Frag}{elts:List Expr}{kk:Nat}{pos:Pos}(a it:Addr)(o:Obj)(kvs:List (Key×V))(es:Array DictEntry)(ep:Nat)(hd:o.data=.dict es ep) :
 Turn P w K (.Tuple elts kk pos) (Itd a o kvs) [it] it (fun i h=>∃ok ov,IsItemIter h it a i kvs.length ep ok ov) where
 mem:=by simp
 obj:=fun i h st c hc=>by
  obtain⟨ok,ov,s1⟩:=st;have hc':c=it:=by simpa using hc
  subst hc';exact⟨_,s1,fun v z=>nomatch (show Data.fields _=Data.cell v from z)⟩
 keep:=fun i h h' st k=>by obtain⟨ok,ov,s1⟩:=st;exact⟨ok,ov,k it (by simp) _ s1⟩
 item:=by
  intro X hP hw hK hc i pins s σ H E I hf st hg;subst hP hw hK;obtain⟨hH,⟨k,v⟩,e1⟩:=hg;obtain⟨vs,r,dd,_⟩:=WA I hH hd;obtain⟨ok,ov,s1⟩:=st;obtain⟨u,hu,ru⟩:=r.get e1;have hl:kvs.length=vs.length:=KV.length r;rw[hl] at s1;refine wpAny_pyNext_items_item s1 dd hu fun key h' hk hit' ht hz hkeep=>?_
  refine⟨_,rfl,wpAny_letOwnedTupleGo_items (s:={ s with heap:=h' }) hit' fun k2 t9 e9=>?_⟩
  replace e9:Heap.SameBut it h' k2:=e9;have elt:it<s.heap.objs.size:=Heap.lt_size s1
  have I1:Inv X pins σ (upd H s.heap.objs.size (.tup [kV k,v])) { s with heap:=s.heap.push { cls:=.type "tuple",data:=.seq #[key,u] },toks:=s.toks } :=
   I.laid (o:=.tup [kV k,v]) (fun c ob q=>Heap.get?_push_of_some _ q) (Nat.le_refl _) ⟨by show 2<=sizeLine;decide,[key,u],.cons (Jgt hk) (.cons ru .nil),⟨_,Heap.get?_push_size _ rfl,rfl,_,rfl⟩⟩
  have hf1:∀c∈[it],FpOk X pins (upd H s.heap.objs.size (.tup [kV k,v])) c:=fun c hc=>by
   have hc':c=it:=by simpa using hc
   subst hc';exact⟨by rw[Jh (Nat.ne_of_lt elt)];exact(hf c hc).1,(hf c hc).2⟩
  have I2:Inv X pins σ (upd H s.heap.objs.size (.tup [kV k,v])) { s with heap:=k2,toks:=s.toks }:=Inv.turnedL (s:={ s with heap:=s.heap.push { cls:=.type "tuple",data:=.seq #[key,u] },toks:=s.toks }) I1 (fun c ob hc q=>by
   have hc':c≠it:=fun z=>hc (by simp[z])
   refine e9.extBut c ob hc' ?_
   by_cases hcs:c=s.heap.objs.size
   ·subst hcs;have q':(s.heap.push { cls:=.type "tuple",data:=.seq #[key,u] }).get? s.heap.objs.size=some ob:=q;rw[Heap.get?_push_size _ rfl] at q';cases q';exact ht
   ·have q':s.heap.get? c=some ob:=by have q2:(s.heap.push { cls:=.type "tuple",data:=.seq #[key,u] }).get? c=some ob:=q;exact(Heap.get?_push_ne s.heap c _ hcs).symm.trans q2
    exact hkeep c ob hc' q') hf1
  refine⟨.ref s.heap.objs.size,_,I2,rfl,⟨_,k,v,rfl,I.hok.fresh (Nat.le_refl _),e1,rfl⟩,⟨key,u,?_⟩,fun c hc=>(hf1 c hc).1⟩
  ·rw[hl];exact t9
 done:=by
  intro X hP hw hK hc i pins s σ H E I hf st hg;subst hP hw hK;obtain⟨hH,ei⟩:=hg;obtain⟨vs,r,dd,_⟩:=WA I hH hd;obtain⟨ok,ov,s1⟩:=st;have hl:kvs.length=vs.length:=KV.length r;have hh:X.A.handled=none:=I.ok.hd hc;rw[hl] at s1;refine wpAny_pyNext_items_end hh s1 dd (List.getElem?_eq_none (by omega)) fun h' he=>⟨rfl,?_⟩
  exact I.turnedL (fun c ob hc q=>he c ob (fun z=>hc (by simp[z])) q) hf
 self:=fun _ _ _ _ _ st h=>by obtain⟨ok,ov,s1⟩:=st;exact PySem.W.kcp_self s1 h
noncomputable def JmW(td:TE):TI:=fun σ H R=>td σ H fun x H1=>∃a o kvs,x=.ref a/\H1 a=some (.frz o (.dK kvs))/\R (Itd a o kvs) H1
theorem JgP{X:Cx}{elts:List Expr}{kk:Nat}{tpos:Pos}{d:Expr}{td:TE}{apos pos:Pos}(hd:PE X d td)(hbase:attributeBase d "items" X.env (eval d X.env)=eval d X.env:=by rfl)(hline:(apos.endLine == pos.line)=true:=by rfl)
:PI X (.Tuple elts kk tpos) (.Call (.Attribute d "items" apos) [] [] pos) (JmW td):=by
 intro pins s σ H R I h;refine wpAny_Call_method0_late hbase hline (thn (hd pins s σ H _ I h) fun v s1 ⟨x,H1,I1,r1,a,o,kvs,ex,hH,q⟩=>?_);subst ex;cases r1;obtain⟨t1,t2,_⟩:=JcA I1 (.inl ⟨kvs,.inr ⟨o,hH⟩⟩);have hO:=(show ObjOk X.prog X.w H1 s1.heap a (.frz o (.dK kvs)) from I1.hok a _ hH)
 obtain⟨e0,z,y,vs,r,ob,es,ep,e1,c1,c2,c3⟩:=hO;rw[e0] at e1;cases e1;have dd:s1.heap.DictAt (JA X.prog X.w) a vs ep:=⟨o,es,e0,c1,c2,c3⟩
 have hl:kvs.length=vs.length:=KV.length r;refine⟨"dict","dict.items",PySem.F.plainAttrs_dict,PySem.F.slot_dict_items,PySem.F.type_dict_items,t1,t2,Calls.callWith_builtin rfl (PySem.evalArgs_none ?_)⟩;refine call_meetsIn PySem.F.slot_dict_items t1 PySem.F.entry_dict_items (PySem.F.args_dict_items_1 _) (meets_dict_items (JA X.prog X.w) a y) ⟨⟨vs,dd.dictOf⟩,?_⟩
 have I2:Inv X pins σ H1 { s1 with heap:=s1.heap.push { cls:=.type "dict_items",data:=.fields #[.ref a] },toks:=s1.toks }:=I1.kept fun b ob q=>Heap.get?_push_of_some _ q
 refine wpAny_pyIter_items (s:={ s1 with heap:=s1.heap.push { cls:=.type "dict_items",data:=.fields #[.ref a] } }) (d:=a) (kvs:=vs) (ep:=ep) (knd:=JA X.prog X.w) ⟨_,Heap.get?_push_size _ rfl,rfl,rfl⟩ (dd.push _) ?_;refine⟨_,[(s1.heap.push { cls:=.type "dict_items",data:=.fields #[.ref a] }).objs.size],_,_,H1,rfl,I2.kept (t':=s1.toks) fun b ob q=>Heap.get?_push_of_some _ q,Jc3 a _ o kvs es ep c2,⟨.none,.none,?_⟩,fun c hc=>?_,q⟩
 ·rw[hl];exact Heap.get?_push_size _ rfl
 ·have hc':c=(s1.heap.push { cls:=.type "dict_items",data:=.fields #[.ref a] }).objs.size:=by simpa using hc
  subst hc';exact I2.fpOk (Nat.le_refl _) (I2.hok.fresh (Nat.le_refl _))
end L2
namespace LE
open PySem L2 LR
noncomputable def Jew(i:Nat)(b:Es):Es:=fun E=>match E[i]? with
 | some (.od ks ds)=>b (E.set i (.sh (.dfz ks ds)))
 | _=>none
noncomputable def Jbc:List Int->List D->List D:=List.zipWith fun k d=>.tup [.int k,d]
noncomputable def Jcz(a:Ev):En->Option (List D):=fun E=>(a E).bind fun s=>match s with
 | .sh (.dfz ks ds)=>some (Jbc ks ds)
 | _=>none
section
variable{K:Frag}{C:Addr}{m:Bool}{t:TS}{et:Es}{td:TE}{ed:Ev}
theorem Jmx(i:Nat)(ht:SS K C t et):SS K C (Jj7 i t) (Jew i et):=by
 intro B H0 H σ E o D I e f;unfold Jew at e;split at e
 ·next ks ds h =>
  obtain⟨l,xs,g1,g2,g3,g4,gk,g5⟩:=I.slotD h;refine⟨l,_,g1,g2,fun ob=>?_⟩;have hi:i<E.length:=(List.getElem?_eq_some_iff.mp h).1;have s0:Same H0 (upd H0 l (.frz ob (dkO ks xs))):=.new g3;have nb:∀{A:Hp},A l=none->Same A H->Same A (upd H l (.frz ob (dkO ks xs))):=fun {A} n s a o e=>by rw[Jh (Js e n)];exact s a o e
  have s1:Same (upd H0 l (.frz ob (dkO ks xs))) (upd H l (.frz ob (dkO ks xs))):=fun a o e=>by
   by_cases ha:a=l
   ·subst ha;rw[Jo] at e ⊢;exact e
   ·rw[Jh ha] at e ⊢;exact I.h a o e
  have st:SStep B H0 (upd H0 l (.frz ob (dkO ks xs))) (upd H l (.frz ob (dkO ks xs))):=⟨nb g4 I.b,s0,fun a o e=>by
   by_cases ha:a=l
   ·subst ha;exact .inr (.inl g4)
   ·rw[Jh ha] at e;exact .inl e,s1⟩
  refine ht B _ _ σ _ o D ⟨nb g4 I.b,s1,by simp[I.len],fun j s e=>?_,fun j k u1 u2 v hjk a1 a2 w1 w2 a3=>?_⟩ e (f.step st)
  ·rw[List.getElem?_set] at e
   by_cases hj:i=j
   ·subst hj;rw[if_pos rfl,if_pos hi] at e;cases e;exact .inr ⟨_,g1,.mkZ Jo gk (g5.mono s0)⟩
   ·rw[if_neg hj] at e;rcases I.at' j s e with z|⟨v,q1,q2⟩
    ·exact .inl z
    ·refine .inr ⟨v,q1,?_⟩
     cases s with
     | no=>trivial
     | sh d=>exact RD.mono s0 q2
     | bo es=>obtain⟨l',ys,p1,p2,p3⟩:=q2;exact⟨l',ys,p1,p2,p3.mono s0⟩
     | bd ks es=>obtain⟨l',ys,p1,p2,hk,p3⟩:=q2;exact⟨l',ys,p1,p2,hk,p3.mono s0⟩
     | bt ks es=>obtain⟨l',ys,p1,p2,hk,p3⟩:=q2;exact⟨l',ys,p1,p2,hk,p3.mono s0⟩
     | own es =>
      obtain⟨l',ys,p1,p2,p3,p4,p5⟩:=q2;subst p1;have:l'≠l:=fun z=>by subst z;exact I.sep i j _ _ (.ref l') hj h e rfl rfl g1 q1
      exact⟨l',ys,rfl,by rw[Jh this];exact p2,by rw[Jh this];exact p3,p4,p5.mono s0⟩
     | od ks es =>
      obtain⟨l',ys,p1,p2,p3,p4,hk,p5⟩:=q2;subst p1;have:l'≠l:=fun z=>by subst z;exact I.sep i j _ _ (.ref l') hj h e rfl rfl g1 q1
      exact⟨l',ys,rfl,by rw[Jh this];exact p2,by rw[Jh this];exact p3,p4,hk,p5.mono s0⟩
     | ot ks es =>
      obtain⟨l',ys,p1,p2,p3,p4,hk,p5⟩:=q2;subst p1;have:l'≠l:=fun z=>by subst z;exact I.sep i j _ _ (.ref l') hj h e rfl rfl g1 q1
      exact⟨l',ys,rfl,by rw[Jh this];exact p2,by rw[Jh this];exact p3,p4,hk,p5.mono s0⟩
  ·have own:∀{j:Nat} {u:Sl},(E.set i (.sh (.dfz ks ds)))[j]?=some u->JV u=true->E[j]?=some u:=fun {j u} a w=>by
    rw[List.getElem?_set] at a
    by_cases hj:i=j
    ·subst hj;rw[if_pos rfl,if_pos hi] at a;cases a;cases w
    ·rw[if_neg hj] at a;exact a
   exact I.sep j k u1 u2 v hjk (own a1 w1) (own a2 w2) w1 w2 a3
 ·cases e
theorem W6:∀(ks:List Int) (xs:List V) (i:Nat),((ks.map Sum.inl:List Key).zip xs)[i]?=(match ks[i]?,xs[i]? with|some k,some x=>some ((Sum.inl k:Key),x)|_,_=>none)
 | [],xs,i=>by simp
 | k::ks,[],i=>by cases h:(k::ks)[i]? <;> simp_all
 | k::ks,x::xs,0=>by simp
 | k::ks,x::xs,i+1=>by simpa using W6 ks xs i
theorem Jhe(ha:SE K C td ed):SI K C m (JmW td) (Jcz ed):=by
 intro B H0 H σ E ds R I e q;obtain⟨s,e1,e⟩:=bind_some e;split at e
 ·next ks es =>
  cases e;refine ha B H0 H σ E _ _ I e1 fun x H1 H1' s1 r1=>?_
  obtain⟨l,xs,o,rfl,h,hk,rl⟩:=RD.dfzI r1;refine⟨l,o,_,rfl,s1.i _ _ h,q _ _ _ s1 ?_⟩
  have sA:Same (if m=true then H1' else B) H1':=by
   split
   ·exact Same.refl _
   ·exact I.b.trans s1.h
  intro H0' H' st;have hl:H' l=some (.frz o (dkO ks xs)):=st.i _ _ (st.z _ _ h);refine⟨fun i d e=>?_,⟨hl,?_⟩⟩
  ·unfold Jbc at e;rw[List.getElem?_zipWith] at e
   cases hki:ks[i]? with
   | none=>rw[hki] at e;cases e
   | some k =>
    cases hdi:es[i]? with
    | none=>rw[hki,hdi] at e;cases e
    | some d' =>
     rw[hki,hdi] at e;cases e;obtain⟨x,hx,rx⟩:=rl.get hdi;have hz:((ks.map Sum.inl:List Key).zip xs)[i]?=some (Sum.inl k,x):=by rw[W6,hki,hx]
     refine⟨⟨hl,_,hz⟩,?_⟩;rintro z H2 ⟨p,k',v',rfl,hp,hv,rfl⟩;rw[hz] at hv;cases hv;have h0:H0' p=none:=Same.free st.i hp;refine⟨upd H0' p (.tup [.int k,x]),⟨.new hp,.new h0,fun a o e=>?_,fun a o e=>?_⟩,?_⟩
     ·by_cases h:a=p
      ·subst h;exact .inr (.inl hp)
      ·rw[Jh h] at e;exact .inl e
     ·by_cases h:a=p
      ·subst h;rw[Jo] at e ⊢;exact e
      ·rw[Jh h] at e ⊢;exact st.i a o e
     ·exact .mkT (.of Jo) (.cons (.int _) (.cons (rx.mono (st.z.trans (.new h0))) .nil))
  ·unfold Jbc;rw[List.length_zipWith,List.length_zip,List.length_map,rl.1]
 ·cases e
end
end LE

namespace L2
open PySem PySem.Spec PyProof.Rows
theorem Jdn{X:Cx}{pins:List (Addr×Obj)}{σ:St}{H:Hp}{s:Shared}{a:Addr}{kvs:List (Key×V)}(I:Inv X pins σ H s)(h:Rd H a (.dK kvs)) :
 ∃vs ep,KV kvs vs/\s.heap.DictAt (JA X.prog X.w) a vs ep/\(a == sysModules)=false/\kvs.length<=sizeLine:=by
 obtain⟨z,y,vs,r,ob,es,ep,e1,c⟩:=(show ObjOk X.prog X.w H s.heap a (.dK kvs) from h.ok I.hok)
 exact⟨vs,ep,r,⟨ob,es,e1,c⟩,y,z⟩
section
variable{prog:Program}{w:World}{A:Around}{E:Value->Shared->Prop}{s:Shared}{T:String}{r d:Addr}{n:Nat}{P:Nat->Value->Prop}{OK:Heap->Prop}
end
end L2
namespace LE
open PySem L2 LR
section
variable{K:Frag}{C:Addr}{td:TE}{ed:Ev}
theorem Rd.put{H:Hp}{l p:Addr}{o u:HO}(h:Rd H l o)(hp:H p=none):Rd (upd H p u) l o:=by
 rcases h with h|⟨ob,h⟩
 ·exact .inl (by rw[Jh (Js h hp)];exact h)
 ·exact .inr ⟨ob,by rw[Jh (Js h hp)];exact h⟩
end
end LE

namespace L2
open PySem PySem.Spec PyProof.Rows
theorem Inv.more{X:Cx}{pins:List (Addr×Obj)}{σ:St}{H H':Hp}{s:Shared}{h':Heap}{t':Nat}(I:Inv X pins σ H s)(k:∀b u,s.heap.get? b=some u->h'.get? b=some u)(hx:∀b,b<s.heap.objs.size->H' b=H b)
 (new:∀b o,s.heap.objs.size<=b->H' b=some o->ObjOk X.prog X.w H' h' b o):Inv X pins σ H' { s with heap:=h',toks:=t' }:=by
 have old:∀b o,H b=some o->H' b=some o:=fun b o e=>by rw[hx b (I.hok.lt e)];exact e
 refine I.un ⟨fun b u q _ _ _=>k b u q,fun b u q _ _ _=>⟨u.slots,k b u q⟩,fun b u q n _=>by rw[hx b (Heap.lt_size q)];exact n,fun b u q _=>⟨u,k b u q⟩,fun b xs q=>old b _ q,fun b u xs q=>old b _ q,fun b ps q=>⟨#[],by rw[old b _ q];simp⟩⟩ fun b o e=>?_
 rcases Nat.lt_or_ge b s.heap.objs.size with z|z
 ·rw[hx b z] at e;exact(I.hok b o e).stay (fun c u _ q=>k c u q) (fun c q=>old c _ q) fun c xs q=>old c _ q
 ·exact new b o z e
noncomputable def VN(p a:Addr):HO:=.ext fun h=>h.IsItemsView p a
noncomputable def Jhs(td:TE):TE:=fun σ H Q=>td σ H fun x H1=>∃a kvs,x=.ref a/\Rd H1 a (.dK kvs)/\∀p,H1 p=none->Q (.ref p) (upd H1 p (VN p a))
theorem JgN{X:Cx}{d:Expr}{td:TE}{apos pos:Pos}(hd:PE X d td)(hbase:attributeBase d "items" X.env (eval d X.env)=eval d X.env:=by rfl)(hline:(apos.endLine == pos.line)=true:=by rfl)
:PE X (.Call (.Attribute d "items" apos) [] [] pos) (Jhs td):=by
 intro pins s σ H Q I h;refine wpAny_Call_method0_late hbase hline (thn (hd pins s σ H _ I h) fun v s1 ⟨x,H1,I1,r1,a,kvs,ex,hH,q⟩=>?_);subst ex;cases r1;obtain⟨t1,t2,_⟩:=JcA I1 (.inl ⟨kvs,hH⟩);obtain⟨vs,ep,r,dd,y,_⟩:=Jdn I1 hH;refine⟨"dict","dict.items",PySem.F.plainAttrs_dict,PySem.F.slot_dict_items,PySem.F.type_dict_items,t1,t2,Calls.callWith_builtin rfl (PySem.evalArgs_none ?_)⟩;refine call_meetsIn PySem.F.slot_dict_items t1 PySem.F.entry_dict_items (PySem.F.args_dict_items_1 _) (meets_dict_items (JA X.prog X.w) a y) ⟨⟨vs,dd.dictOf⟩,?_⟩
 have hn:H1 s1.heap.objs.size=none:=I1.hok.fresh (Nat.le_refl _)
 have vw:(s1.heap.push { cls:=.type "dict_items",data:=.fields #[.ref a] }).IsItemsView s1.heap.objs.size a:=⟨_,Heap.get?_push_size _ rfl,rfl,rfl⟩
 refine⟨.ref s1.heap.objs.size,_,I1.laid (t':=s1.toks) (o:=VN s1.heap.objs.size a) (fun b ob q=>Heap.get?_push_of_some _ q) (Nat.le_refl _) ⟨vw,⟨_,Heap.get?_push_size _ rfl⟩,fun h1 h2 p k=>?_⟩,rfl,q _ hn⟩;obtain⟨o,ho,hc⟩:=p;exact⟨o,k o ho,hc⟩
noncomputable def U2(H:Hp):List Addr->List (Key×V)->Hp
 | a::as,kv::kvs=>upd (U2 H as kvs) a (.tup [kV kv.1,kv.2])
 | _,_=>H
theorem Y5{H:Hp}{b:Addr}:∀{as:List Addr} {kvs:List (Key×V)},b∉as->U2 H as kvs b=H b
 | [],_,_=>rfl
 | _::_,[],_=>rfl
 | a::as,kv::kvs,h=>by rw[U2,Jh fun z=>h (by rw[z];exact List.mem_cons_self)];exact Y5 fun m=>h (List.mem_cons_of_mem _ m)
theorem Wp{H:Hp}:∀{as:List Addr} {kvs:List (Key×V)} {j:Nat} {a:Addr} {kv:Key×V},as.Nodup->as[j]?=some a->kvs[j]?=some kv->U2 H as kvs a=some (.tup [kV kv.1,kv.2])
 | [],_,_,_,_,_,e,_=>by simp at e
 | _::_,[],_,_,_,_,_,e=>by simp at e
 | b::as,kv'::kvs,0,a,kv,_,e1,e2=>by simp at e1 e2;subst e1 e2;rw[U2,Jo]
 | b::as,kv'::kvs,j+1,a,kv,hn,e1,e2=>by
  rw[List.nodup_cons] at hn;simp at e1 e2;have hne:a≠b:=fun z=>hn.1 (by rw[<- z];exact List.mem_of_getElem? e1)
  rw[U2,Jh hne];exact Wp hn.2 e1 e2
noncomputable def Jg1:List V->Hp->VK->Prop:=fun xs H Q=>∃(r a:Addr) (kvs:List (Key×V)),xs=[.ref r]/\H r=some (VN r a)/\Rd H a (.dK kvs) ∧
 ∀(L:Addr) (as:List Addr),H L=none->as.length=kvs.length->as.Nodup->L∉as->(∀b∈as,H b=none)->Q (.ref L) (upd (U2 H as kvs) L (.lst (as.map V.ref)))
theorem Jch{X:Cx}(hc:X.calm=true):CallR X (.type "list") Jg1:=by
 intro pins s σ H xs us Q I r h;obtain⟨p,a,kvs,rfl,hv,hq,q⟩:=h;obtain⟨u,rfl,rx⟩:=U5 r;cases rx;obtain⟨vs,ep,rl,dd,_,hz⟩:=Jdn I hq;have hl:kvs.length=vs.length:=KV.length rl;have vw:s.heap.IsItemsView p a:=(show ObjOk X.prog X.w H s.heap p (VN p a) from I.hok p _ hv).1;have hh:X.A.handled=none:=I.ok.hd hc;refine PySem.W.kdx_call hh vw dd (by rw[<- hl];exact hz) fun h' tk acc c as hk hS hal hG hacc=>?_
 have hnd:as.Nodup:=hG.rise.imp fun {x y} h=>Nat.ne_of_lt h
 have hLa:s.heap.objs.size∉as:=fun m=>absurd (hG.above _ m) (Nat.lt_irrefl _)
 have fr:∀b∈as,H b=none:=fun b hb=>I.hok.fresh (Nat.le_of_lt (hG.above b hb))
 have hne:H s.heap.objs.size=none:=I.hok.fresh (Nat.le_refl _)
 have hsize:as.length<=sizeLine:=by rw[hal,<- hl];exact hz
 refine⟨.ref s.heap.objs.size,_,I.more (t':=tk) hk (fun b hb=>?_) (fun b o hb e=>?_),rfl,q s.heap.objs.size as hne (by rw[hal,hl]) hnd hLa fr⟩
 ·rw[Jh (Nat.ne_of_lt hb)];exact Y5 fun m=>absurd (hG.above b m) (Nat.not_lt.mpr (Nat.le_of_lt hb))
 ·by_cases hL:b=s.heap.objs.size
  ·subst hL;rw[Jo] at e;cases e;refine⟨by rw[List.length_map];exact hsize,acc.toList,c,?_,?_⟩
   ·rw[hacc]
    have:∀l:List Addr,Vals (l.map V.ref) (l.map Value.ref):=fun l=>by
     induction l with
     | nil=>exact .nil
     | cons x l ih=>exact .cons rfl ih
    exact this as
   ·rw[hS]
  ·rw[Jh hL] at e
   by_cases hm:b∈as
   ·obtain⟨j,hj⟩:=List.mem_iff_getElem?.mp hm;obtain⟨key,k,x,e1,e2,e3⟩:=hG.pairs j b hj;have hjl:j<kvs.length:=by have:=(List.getElem?_eq_some_iff.mp e1).1;omega
    have hkv:kvs[j]?=some kvs[j]:=List.getElem?_eq_getElem hjl;obtain⟨u,hu,ru⟩:=rl.get hkv;rw[e1] at hu;cases hu;rw[Wp hnd hj hkv] at e;cases e;exact⟨by show 2<=sizeLine;decide,[key,x],.cons (Jgt e2) (.cons ru .nil),⟨_,e3,rfl,_,rfl⟩⟩
   ·rw[Y5 hm,I.hok.fresh hb] at e;cases e
end L2
namespace LE
open PySem L2 LR
noncomputable def Jag(a:Ev):Ev:=fun E=>(a E).bind fun s=>s.dk.bind fun p=>some (.own (Jbc p.1 p.2))
section
variable{K:Frag}{C:Addr}{td:TE}{ed:Ev}
theorem Zy{H:Hp}{kvs:List (Key×V)}{as:List Addr}(h:∀b∈as,H b=none):Same H (U2 H as kvs):=fun b o e=>by rw[Y5 fun m=>by rw[h b m] at e;cases e];exact e
theorem JdG{H:Hp}:∀{as:List Addr} {kvs:List (Key×V)} {b:Addr} {o:HO},U2 H as kvs b=some o->H b=some o\/b∈as
 | [],_,_,_,e=>.inl e
 | _::_,[],_,_,e=>.inl e
 | a::as,kv::kvs,b,o,e=>by
  by_cases c:b=a
  ·exact .inr (by rw[c];exact List.mem_cons_self)
  ·rw[U2,Jh c] at e;exact(JdG e).imp id fun m=>List.mem_cons_of_mem _ m
theorem RDL.items:∀{ks:List Int} {xs:List V} {ds:List D} {as:List Addr} {H:Hp},ks.length=ds.length->as.length=ks.length->(∀(j:Nat) (a:Addr) (k:Int) (x:V),as[j]?=some a->ks[j]?=some k->xs[j]?=some x->H a=some (.tup [.int k,x]))->RDL K C H xs ds->RDL K C H (as.map V.ref) (Jbc ks ds)
 | [],[],[],[],_,_,_,_,_=>.nil
 | [],_,_,a::as,_,_,h,_,_=>by simp at h
 | [],_,d::ds,_,_,h,_,_,_=>by simp at h
 | k::ks,_,[],_,_,h,_,_,_=>by simp at h
 | k::ks,_,_,[],_,_,h,_,_=>by simp at h
 | [],x::xs,[],[],_,_,_,_,h=>by have:=h.1;simp at this
 | k::ks,[],d::ds,a::as,_,_,_,_,h=>by have:=h.1;simp at this
 | k::ks,x::xs,d::ds,a::as,H,h1,h2,h3,h4=>by show RDL K C H (V.ref a::as.map V.ref) (.tup [.int k,d]::Jbc ks ds);refine .cons (.mkT (.of (h3 0 a k x rfl rfl rfl)) (.cons (.int k) (.cons h4.head .nil))) (RDL.items (by simpa using h1) (by simpa using h2) (fun j a k x e1 e2 e3=>h3 (j+1) a k x (by simpa using e1) (by simpa using e2) (by simpa using e3)) h4.tail)
theorem Jjr(ha:SE K C td ed):SE K C (tCB Jg1 (VE (Jhs td) JaG)) (Jag ed):=by
 intro B H0 H σ E r Q I e q;obtain⟨s,e1,e⟩:=bind_some e;obtain⟨p,e2,e⟩:=bind_some e;cases e;refine ha B H0 H σ E s _ I e1 fun x H1 H1' s1 r1=>?_
 obtain⟨l,xs,rfl,h,hk,rl⟩:=r1.dk s1.i e2;refine⟨l,_,rfl,h,fun w hw=>?_⟩;have st:Step H1' H1 H1' H1 (upd H1' w (VN w l)):=⟨.new hw,Same.refl _,fun _ _ e=>.inl e,s1.i.trans (.new hw)⟩
 have s2:=s1.trans st;refine⟨w,l,_,rfl,Jo,Rd.put h hw,fun L as hL hal hnd hLa hfr=>?_⟩;rw[List.length_zip,List.length_map,rl.1,hk,Nat.min_self] at hal
 have fr0:∀b∈as,H1 b=none:=fun b hb=>Same.free s2.i (hfr b hb)
 have frH:∀b∈as,H b=none:=fun b hb=>Same.free s2.h (hfr b hb)
 have hL0:H1 L=none:=Same.free s2.i hL
 have z0:Same H1 (U2 H1 as ((p.1.map Sum.inl:List Key).zip xs)):=Zy fr0
 have zz:Same (upd H1' w (VN w l)) (U2 (upd H1' w (VN w l)) as ((p.1.map Sum.inl:List Key).zip xs)):=Zy hfr
 have hLl:U2 (upd H1' w (VN w l)) as ((p.1.map Sum.inl:List Key).zip xs) L=none:=by rw[Y5 hLa];exact hL
 have ii:Same (U2 H1 as ((p.1.map Sum.inl:List Key).zip xs)) (U2 (upd H1' w (VN w l)) as ((p.1.map Sum.inl:List Key).zip xs)):=fun b o e=>by
  by_cases hb:b∈as
  ·obtain⟨j,hj⟩:=List.mem_iff_getElem?.mp hb
   have hjl:j<((p.1.map Sum.inl:List Key).zip xs).length:=by rw[List.length_zip,List.length_map,rl.1,hk,Nat.min_self];have:=(List.getElem?_eq_some_iff.mp hj).1;omega
   have hkv:=List.getElem?_eq_getElem hjl;rw[Wp hnd hj hkv] at e ⊢;exact e
  ·rw[Y5 hb] at e ⊢;exact s2.i b o e
 refine q _ (U2 H1 as ((p.1.map Sum.inl:List Key).zip xs)) _ ⟨(s2.h.trans zz).trans (.new hLl),s2.z.trans z0,fun b o e=>?_,ii.trans (.new hLl)⟩ ⟨L,as.map V.ref,rfl,Jo,by rw[Y5 hLa];exact hL0,Same.free s2.h hL,?_⟩
 ·rcases JdG e with z|z
  ·exact s2.n b o z
  ·exact .inr (.inl (frH b z))
 ·refine RDL.items (xs:=xs) hk (by rw[hal,hk]) (fun j a k x j1 j2 j3=>?_) (rl.mono z0);exact Wp hnd j1 (by rw[W6,j2,j3])
end
end LE

namespace L2
open PySem PySem.Spec PyProof.Rows
noncomputable def wo:List Addr->Heap->Heap
 | [],h=>h
 | a::l,h=>(wo l h).update a fun _=>{ cls:=.none,data:=.freed }
theorem JfB(h:Heap)(a:Addr):(h.update a fun _=>{ cls:=.none,data:=.freed }).get? a=none:=by
 cases q:(h.update a fun _=>({ cls:=.none,data:=.freed }:Obj)).get? a with
 | none=>rfl
 | some o =>
  obtain⟨e,f⟩:=Heap.get?_some_iff.mp q;obtain⟨os,l⟩:=h;simp only[Heap.update,Array.getElem?_modify,if_true] at e
  cases z:os[a]? with
  | none=>rw[z] at e;cases e
  | some u=>rw[z] at e;cases e;cases f
theorem Jev{h:Heap}{b:Addr}:∀{l:List Addr},b∈l->(wo l h).get? b=none
 | [],hb=>nomatch hb
 | a::l,hb=>by
  unfold wo
  by_cases e:a=b
  ·subst e;exact JfB _ _
  ·rw[Heap.get?_update_other _ _ e];exact Jev ((List.mem_cons.mp hb).resolve_left (Ne.symm e))
theorem JaL{h:Heap}{b:Addr}:∀{l:List Addr},b∉l->(wo l h).get? b=h.get? b
 | [],_=>rfl
 | a::l,hb=>by unfold wo;rw[Heap.get?_update_other _ _ (fun e=>hb (by rw[e];exact List.mem_cons_self))];exact JaL fun z=>hb (List.mem_cons_of_mem _ z)
theorem Jdu{h base base':Heap}:∀{l:List Env},h.FunFrames base l->(∀b∈frs l,base'.get? b=none)->h.FunFrames base' l
 | [],_,_=>trivial
 | env::l,⟨hk,⟨L,o,hf,hn,ho,hd⟩,hr⟩,n=>by
  have e:frs (env::l)=L::frs l:=by unfold frs;rw[List.filterMap_cons,hf]
  rw[e] at n;exact⟨hk,⟨L,o,hf,n L List.mem_cons_self,ho,hd⟩,Jdu hr fun b hb=>n b (List.mem_cons_of_mem _ hb)⟩
theorem JiA{h base:Heap}{l:List Env}(x:h.FunFrames base l){b:Addr}(hb:b∈frs l):base.get? b=none/\∃o,h.get? b=some o/\∀vs,o.data≠.fields vs:=x.mem hb
theorem ObjOk.there{P:Program}{w:World}{H:Hp}{h:Heap}{a:Addr}{o:HO}(x:ObjOk P w H h a o):∃u,h.get? a=some u:=by
 cases o with
 | lst xs=>obtain⟨_,_,_,_,e⟩:=x;exact⟨_,e⟩
 | tup xs=>obtain⟨_,_,_,p⟩:=x;obtain⟨o,e,_⟩:=p;exact⟨_,e⟩
 | dK kvs=>obtain⟨_,_,_,_,o,_,_,e,_⟩:=x;exact⟨_,e⟩
 | dT kvs=>obtain⟨_,_,_,_,o,_,_,e,_⟩:=x;exact⟨_,e⟩
 | set S n=>obtain⟨o,_,_,_,e,_⟩:=x;exact⟨_,e⟩
 | ins C dx fs=>obtain⟨_,_,_,e,_⟩:=x;exact⟨_,e⟩
 | own y=>obtain⟨_,e⟩:=x;exact⟨_,e⟩
 | xd fs=>obtain⟨_,⟨_,_,_,e,_⟩,_⟩:=x;exact⟨_,e⟩
 | rng lo hi=>obtain⟨_,_,_,e⟩:=x;exact⟨_,e⟩
 | frz ob u=>obtain⟨e,_⟩:=x;exact⟨_,e⟩
 | tbl ps=>exact⟨_,(show h.get? a=some _ from x)⟩
 | met f y=>exact⟨_,(show h.get? a=some _ from x)⟩
 | ext φ=>obtain⟨_,⟨_,e⟩,_⟩:=x;exact⟨_,e⟩

noncomputable def TrD(h base:Heap)(e:Addr)(cls:Value)(dct:Option Addr)(fl:Value):Prop :=
 ∃oe vs T oT ts,h.get? e=some oe/\(oe.cls=cls/\oe.dict=dct)/\oe.data=.fields vs/\vs[1]?=some (.ref T)/\base.get? T=none/\T≠e/\h.get? T=some oT/\oT.data=.fields ts/\ts[3]?=some fl
noncomputable def Fl(base:Heap)(l:List Env)(e:Addr)(cls:Value)(h:Heap):Prop :=
 base.StaysIn h/\base.get? e=none/\h.FunFrames base l/\(TrD h base e cls none .none\/∃oe vs,h.get? e=some oe/\(oe.cls=cls/\oe.dict=none)/\oe.data=.fields vs/\vs[1]?=some .none)
noncomputable def Cov(fs:List Addr)(H':Hp)(h h' base:Heap):Prop:=∀b o,(H' b≠none\/∃u,h.get? b=some u)->b∉fs->h'.get? b=some o->base.get? b=some o
structure XF (P:Program) (w:World) (l:List Env) (H:Hp) (h:Heap) (a:Addr) (cls:Value) (H':Hp) (base h':Heap):Prop where
 un:Un (frs l) [] H H' h h'
 hok:HOk P w H' h'
 fl:Fl base l a cls h'
 cov:Cov (frs l) H' h h' base
 free:H' a=none
 new:h.get? a=none
noncomputable def CX1(P:Program)(w:World):CXT:=fun l H s E e s'=>∃(a:Addr) (cls:Value) (H':Hp) (base:Heap),e=.ref a/\s'.os=s.os/\AllBare s'.gens/\XF P w l H s.heap a cls H' base s'.heap/\E cls (some a) H'
section
variable{P:Program}{w:World}{l:List Env}{H H':Hp}{h h1 h2 base base0:Heap}{a:Addr}{cls:Value}
end
section
variable{M:Model}{A:Around}{E:Value->Shared->Prop}{s:Shared}{base:Heap}{env:Env}{outer l:List Env}{L e:Addr}{cls fl:Value}{dct:Option Addr}{Q:Unit->Shared->Prop}
end

noncomputable def XP(X:Cx)(pins:List (Addr×Obj))(σ:St)(E:XK)(e:Value)(s':Shared):Prop:=∃H s,Inv X pins σ H s/\CX1 X.prog X.w X.stack H s E e s'
section
variable{X:Cx}{pins:List (Addr×Obj)}{σ:St}{H H':Hp}{s s':Shared}{base:Heap}{a:Addr}{cls:Value}{E:XK}{e:Value}
theorem XP.made{args:List Value}{h':Heap}{ea:Addr}(I:Inv X pins σ H s)(m:Heap.MadeExcOf s.heap h' ea cls args)(q:E cls (some ea) H):XP X pins σ E (.ref ea) { s with heap:=h' }:=by
 have nf:∀b∈frs X.stack,∃o,s.heap.get? b=some o:=fun b hb=>by obtain⟨_,o,ho,_⟩:=JiA I.stack hb;exact⟨o,ho⟩
 obtain⟨t,ht,_,_⟩:=m.there;refine⟨H,s,I,ea,cls,H,wo (frs X.stack) s.heap,rfl,rfl,I.bare,⟨⟨fun b o q _ _ _=>m.keeps b o q,fun b o q _ _ _=>⟨o.slots,m.keeps b o q⟩,fun _ _ _ n _=>n,fun b o q _=>⟨o,m.keeps b o q⟩,fun _ _ z=>z,fun _ _ _ z=>z,fun b ps z=>⟨#[],by rw[z];simp⟩⟩,I.hok.kept m.keeps,⟨fun b o q=>?_,?_,?_,.inr ⟨_,_,ht,⟨rfl,rfl⟩,rfl,rfl⟩⟩,fun b o hb hfr q=>?_,?_,m.new⟩,q⟩
 ·by_cases hb:b∈frs X.stack
  ·rw[Jev hb] at q;cases q
  ·rw[JaL hb] at q;exact m.keeps b o q
 ·by_cases hb:ea∈frs X.stack
  ·exact Jev hb
  ·rw[JaL hb];exact m.new
 ·exact(Jdu I.stack fun b hb=>Jev hb).of_keeps fun b o q _=>⟨o,m.keeps b o q,rfl⟩
 ·rw[JaL hfr]
  have ex:∃u,s.heap.get? b=some u:=by
   rcases hb with hb|hb
   ·cases e:H b with
    | none=>exact absurd e hb
    | some u=>exact(I.hok b u e).there
   ·exact hb
  obtain⟨u,hu⟩:=ex;have:=m.keeps b u hu;have q':h'.get? b=some o:=q;rw[q'] at this;cases this;exact hu
 ·cases e:H ea with
  | none=>rfl
  | some u=>obtain⟨o,ho⟩:=(I.hok ea u e).there;rw[m.new] at ho;cases ho
end
end L2

namespace L2
open PySem PySem.Spec PyProof.Rows PySem.Calls
abbrev VEm:List Value:=[.type "ValueError",.type "Exception",.type "BaseException",.type "object"]
section
variable{P:Program}{w:World}{K:Frag}{mg:Str->Option Value}{base:Heap}{N:List Str}{qual:Str}{scope:Scope}{f:Addr}{cd:Value}{A:Around}{outer:List Env}{s:Shared}{H:Hp}{E:XK}
end
section
variable{X:Cx}{x:Str}{np cpos pos:Pos}{C:Addr}{E:XK}{e:Expr}{es:List Expr}{t:TA}
end
end L2

namespace L2
open PySem PySem.Spec PyProof.Rows PySem.Calls
structure CalX (P:Program) (w:World) (K:Frag) (mg:Str->Option Value) (base:Heap) (x:Str) (k:Nat) (ps:List Str) (sp:Sp):Prop where
 ex:∃(f:Addr) (fd:FuncData),FnOk P w K mg base (CX1 P w) k f fd ps sp/\mg x=some (.ref f)/\keepIn K (.ref f)=true/\Binds K fd ps []
section
variable{X:Cx}{k:Nat}{C:Addr}{ps:List Str}{sp:Sp}{x:Str}{p pos:Pos}{e:Expr}{es:List Expr}{t:TA}{st:Stmt}{rest:List Stmt}{T:XK->TE}{TS1:(St->XK)->TS}{u:TS}
end
end L2
namespace L2
open PySem PySem.Spec PyProof.Rows PySem.Calls LE
section
variable{X:Cx}{pins:List (Addr×Obj)}{σ:St}{H:Hp}{s:Shared}{a:Addr}
theorem Inv.track{o:HO}(I:Inv X pins σ H s)(hx:X.ex=[])(ha:H a=none)(h0:X.s₀.heap.get? a=none)(hL:a≠X.env.locals)(hC:∀x c,X.env.cells.lookup x=some c->c≠a)(hP:∀p∈X.pn++pins,p.1≠a)(new:ObjOk X.prog X.w (upd H a o) s.heap a o):Inv X pins σ (upd H a o) s:=by
 have nt:∀b u,H b=some u->b≠a:=fun b u e z=>by rw[z,ha] at e;cases e
 refine⟨I.ok,I.os,I.bare,⟨I.base.keep,I.base.slot,fun b u e n hb=>?_,I.base.there,fun b xs e=>?_,fun b u xs e=>?_,fun b ps e=>?_⟩,I.loc,I.cell,?_,fun x c e=>?_,fun p hp=>?_,fun b u e=>?_,I.len⟩
 ·rw[Jh (fun z=>by rw[z,h0] at e;cases e)];exact I.base.free b u e n hb
 ·have:=I.base.tups b xs e;rw[Jh (nt _ _ this)];exact this
 ·have:=I.base.frzs b u xs e;rw[Jh (nt _ _ this)];exact this
 ·obtain⟨m,this⟩:=I.base.tbls b ps e;exact⟨m,by rw[Jh (nt _ _ this)];exact this⟩
 ·rw[Jh (Ne.symm hL)];exact I.free
 ·rw[Jh (hC x c e)];exact I.freeC x c e
 ·obtain⟨h1,h2,h3⟩:=I.pin p hp;exact⟨h1,by rw[Jh (hP p hp)];exact h2,h3⟩
 ·by_cases hb:b=a
  ·subst hb;rw[Jo] at e;cases e;exact new
  ·rw[Jh hb] at e;exact(I.hok b u e).stay (fun _ _ _ q=>q) (fun c q=>by rw[Jh (nt _ _ q)];exact q) fun c xs q=>by rw[Jh (nt _ _ q)];exact q
end
section
variable{X:Cx}{body suite:List Stmt}{b₀:Stmt}{i:Nat}{n cn:Str}{np hpos pos:Pos}{CL:Addr}{T:(St->XK)->TS}{th:TS}
end
end L2

namespace L2
open PySem PySem.Spec PyProof.Rows PySem.Calls LE
structure ExcN (K:Frag) (n:Str):Prop where
 ex:∃c,nsIn K mainGlobals n=some (some (.ref c))/\PySem.W.excIn K c VEm "ValueError.__new__"=true
 pl:∀c,nsIn K mainGlobals n=some (some (.ref c))->findIn K (.ref c) "__getattribute__"=some (some (.builtin "BaseException.__getattribute__"))/\findIn K (.ref c) "__getattr__"=some none/\mroIn K c (.type "BaseException")=some true/\hasDictIn K c=true/\findIn K (.ref c) "__class__"=some (some (.builtin "object.__class__"))/\mroIn K c (.type "object")=some true
structure ExcG (K:Frag):Prop where
 hn:specialIn K (.builtin "object.__class__") "__get__"=some (some (.builtin "getset_descriptor.__get__"))
 htk:takesIn K (.builtin "object.__class__")=some true
section
variable{prog:Program}{w:World}{A:Around}{E:Value->Shared->Prop}{s:Shared}{K:Frag}{x C D:Addr}{ox:Obj}
end
section
variable{K:Frag}{x D:Addr}{ox:Obj}
end
section
variable{X:Cx}
inductive TyX (K:Frag) (H:Hp):V->Value->Prop where
 | of {x:V} {t:Value} (h:TyS K H x t):TyX K H x t
 | exc {a c:Addr} {n:Str} (h:H a=some (XO a (.ref c))) (e:nsIn K mainGlobals n=some (some (.ref c))) (N:ExcN K n) (G:ExcG K):TyX K H (.ref a) (.ref c)
end
end L2

namespace LE
open PySem L2 LR
noncomputable abbrev Xv:=En->Option Str
section
variable(K:Frag)(C:Addr)
end
section
variable{K:Frag}{C:Addr}{W:XK}{t:TA}{ev:En->Option (List Sl)}{te:TE}{ts us:TS}{et eu:Es}{xt xu:Xv}{ex:Xv}
end
section
variable{K:Frag}{C:Addr}{B H0 H:Hp}{σ:St}{E:En}
end
section
variable{K:Frag}{C:Addr}
end
noncomputable def exB(n m:Str):Bool:=n == m || m == "LumpError"
section
variable{K:Frag}{C:Addr}{te:TE}{ea:Ev}
structure IsiN (K:Frag) (R:List Str) (m:Str) (c:Addr):Prop where
 own:∀n∈R,ExcN K n
 g:ExcG K
 k:∀n∈R,∀c',nsIn K mainGlobals n=some (some (.ref c'))->kitOne K (.ref c') (.ref c)=some (exB n m)
 o:kitOne K (.type "NoneType") (.ref c)=some false
end
end LE
namespace L2
open PySem PySem.Spec PyProof.Rows PySem.Calls LE
section
variable{X:Cx}
end
end L2
namespace LE
open PySem L2 LR
noncomputable def IsiL(K:Frag)(R:List Str):List Str->List Addr->Prop
 | [],[]=>True
 | m::ms,c::cs=>IsiN K R m c/\IsiL K R ms cs
 | _,_=>False
theorem IsiL.exc{K:Frag}{R:List Str}{n:Str}{c':Addr}(hn:n∈R)(hc:nsIn K mainGlobals n=some (some (.ref c'))):∀{ms:List Str} {cs:List Addr},IsiL K R ms cs->kitAny K (.ref c') (cs.map Value.ref)=some (ms.any (exB n))
 | [],[],_=>rfl
 | m::ms,c::cs,⟨h,t⟩=>by show(match kitOne K (.ref c') (.ref c) with|some true=>some true|some false=>kitAny K (.ref c') (cs.map Value.ref)|none=>none)=_;rw[h.k n hn c' hc,t.exc hn hc,List.any_cons];cases exB n m <;> rfl
theorem IsiL.non{K:Frag}{R:List Str}:∀{ms:List Str} {cs:List Addr},IsiL K R ms cs->kitAny K (.type "NoneType") (cs.map Value.ref)=some false
 | [],[],_=>rfl
 | m::ms,c::cs,⟨h,t⟩=>by show(match kitOne K (.type "NoneType") (.ref c) with | some true=>some true | some false=>kitAny K (.type "NoneType") (cs.map Value.ref) | none=>none)=_;rw[h.o,t.non]
section
variable{K:Frag}{C:Addr}{te:TE}{ea:Ev}
structure IsiV (K:Frag) (R:List Str):Prop where
 own:∀n∈R,ExcN K n
 g:ExcG K
 k:∀n∈R,∀c',nsIn K mainGlobals n=some (some (.ref c'))->kitOne K (.ref c') (.type "ValueError")=some true
end
end LE

namespace L2
open PySem PySem.Spec PyProof.Rows PySem.Calls LE
section
variable{X:Cx}{K:Frag}
end
end L2
namespace LE
open PySem L2 LR
section
variable{K:Frag}{C:Addr}{ts:TS}
structure AtX (K:Frag) (n:Str) (c:Addr):Prop where
 ns:nsIn K mainGlobals n=some (some (.ref c))
 ok:PySem.W.excIn K c VEm "ValueError.__new__"=true
 ga:findIn K (.ref c) "__getattribute__"=some (some (.builtin "BaseException.__getattribute__"))
 gn:findIn K (.ref c) "__getattr__"=some none
 mb:mroIn K c (.type "BaseException")=some true
 hd:hasDictIn K c=true
 fi:findIn K (.ref c) "__class__"=some (some (.builtin "object.__class__"))
 mr:mroIn K c (.type "object")=some true
theorem AtX.n{n:Str}{c:Addr}(h:AtX K n c):ExcN K n:=⟨⟨c,h.ns,h.ok⟩,fun c' e=>by have:=h.ns.symm.trans e;cases this;exact⟨h.ga,h.gn,h.mb,h.hd,h.fi,h.mr⟩⟩
noncomputable def OwnL(K:Frag):List Str->List Addr->Prop
 | [],[]=>True
 | n::ns,c::cs=>AtX K n c/\OwnL K ns cs
 | _,_=>False
theorem OwnL.all:∀{ns:List Str} {cs:List Addr},OwnL K ns cs->∀n∈ns,ExcN K n
 | [],[],_,n,h=>nomatch h
 | m::ns,c::cs,⟨h,t⟩,n,hn=>by
  rcases List.mem_cons.mp hn with e|e
  ·rw[e];exact h.n
  ·exact t.all n e
noncomputable def ExmL(K:Frag)(CL:Addr):List Addr->Prop
 | []=>True
 | c::cs=>PySem.W.exmOne K (.ref c) (.ref CL)=some true/\ExmL K CL cs
theorem ExmL.all{CL:Addr}:∀{ns:List Str} {cs:List Addr},OwnL K ns cs->ExmL K CL cs->∀m∈ns,∀c,nsIn K mainGlobals m=some (some (.ref c))->PySem.W.exmOne K (.ref c) (.ref CL)=some true
 | [],[],_,_,n,h=>nomatch h
 | m::ns,c::cs,⟨h,t⟩,⟨h',t'⟩,n,hn=>fun c' e=>by
  rcases List.mem_cons.mp hn with z|z
  ·rw[z,h.ns] at e;cases e;exact h'
  ·exact t'.all t n z c' e
noncomputable def KitL(K:Frag)(m:Str)(c:Addr):List Str->List Addr->Prop
 | [],[]=>True
 | n::ns,d::ds=>kitOne K (.ref d) (.ref c)=some (exB n m)/\KitL K m c ns ds
 | _,_=>False
theorem KitL.all{m:Str}{c:Addr}:∀{ns:List Str} {cs:List Addr},OwnL K ns cs->KitL K m c ns cs->∀n∈ns,∀c',nsIn K mainGlobals n=some (some (.ref c'))->kitOne K (.ref c') (.ref c)=some (exB n m)
 | [],[],_,_,n,h=>nomatch h
 | m::ns,c::cs,⟨h,t⟩,⟨h',t'⟩,n,hn=>fun c' e=>by
  rcases List.mem_cons.mp hn with z|z
  ·rw[z] at e ⊢;rw[h.ns] at e;cases e;exact h'
  ·exact t'.all t n z c' e
noncomputable def KivL(K:Frag):List Addr->Prop
 | []=>True
 | c::cs=>kitOne K (.ref c) (.type "ValueError")=some true/\KivL K cs
theorem KivL.all:∀{ns:List Str} {cs:List Addr},OwnL K ns cs->KivL K cs->∀n∈ns,∀c',nsIn K mainGlobals n=some (some (.ref c'))->kitOne K (.ref c') (.type "ValueError")=some true
 | [],[],_,_,n,h=>nomatch h
 | m::ns,c::cs,⟨h,t⟩,⟨h',t'⟩,n,hn=>fun c' e=>by
  rcases List.mem_cons.mp hn with z|z
  ·rw[z,h.ns] at e;cases e;exact h'
  ·exact t'.all t n z c' e
end
section
variable(K:Frag)(C:Addr)
end
section
variable{K:Frag}{C:Addr}{W:XK}{ta te:TE}{t tr:TA}{ea:Ev}{xa xr ex:Xv}{wi:TI}
end
end LE

namespace LE
open PySem L2 LR
section
variable{K:Frag}{C:Addr}{W:XK}{t:TS}{et:Es}{xt:Xv}
end
end LE
namespace L2
open PySem PySem.Spec PyProof.Rows PySem.Calls LE
structure RoomH (k:Nat) (A:Around):Prop where
 dp:A.depth+3*k+5<recursionLimit
 un:A.units+16*k+200<cLine
theorem Room.h{k:Nat}{A:Around}(r:Room k A):RoomH k A:=⟨r.dp,r.un⟩
theorem RoomH.mono{j k:Nat}{A:Around}(r:RoomH k A)(h:j<=k):RoomH j A:=⟨by have:=r.dp;omega,by have:=r.un;omega⟩
theorem RoomH.deeper{k:Nat}{A:Around}(r:RoomH (k+1) A)(env:Env):RoomH k (A.deeper env) :=
 ⟨by have:=r.dp;show A.depth+1+3*k+5<_;omega,by have:=r.un;show A.units+3+16*k+200<_;omega⟩
theorem RoomH.units{k:Nat}{A:Around}(r:RoomH k A):A.units+64<cLine:=by have:=r.un;omega
structure FnH (P:Program) (w:World) (K:Frag) (mg:Str->Option Value) (base:Heap) (k:Nat) (f:Addr) (fd:FuncData) (ps:List Str) (sp:Sp):Prop where
 len:∀vs H Q E,sp vs H Q E->vs.length=ps.length
 run:∀(A:Around) (outer:List Env) (s:Shared) (H:Hp) (args:Args) (us:List Value) (vs:List V) (Q:VK) (E:XK),RoomH k A->Env0 P w K mg base A outer s H->BindsTo s fd args (ps.zip us)->Vals vs us->sp vs H Q E ->
  codeAny (model P w) A (.call (.ref f) args) (CR CX0 outer P w H s Q E) s
theorem FnH.ok{P:Program}{w:World}{K:Frag}{mg:Str->Option Value}{base:Heap}{k:Nat}{f:Addr}{fd:FuncData}{ps:List Str}{sp:Sp}(F:FnH P w K mg base k f fd ps sp):FnOk P w K mg base CX0 k f fd ps sp :=
 ⟨F.len,fun A outer s H args us vs Q E hr=>F.run A outer s H args us vs Q E hr.h⟩
structure CalH (P:Program) (w:World) (K:Frag) (mg:Str->Option Value) (base:Heap) (x:Str) (k:Nat) (ps:List Str) (sp:Sp):Prop where
 ex:∃(f:Addr) (fd:FuncData),FnH P w K mg base k f fd ps sp/\mg x=some (.ref f)/\keepIn K (.ref f)=true/\Binds K fd ps []
section
variable{X:Cx}{k:Nat}{ps:List Str}{sp:Sp}{x:Str}{p pos:Pos}{e:Expr}{es:List Expr}{t:TA}
end
end L2

namespace L2
open PySem PySem.Spec PyProof.Rows PySem.Calls LE
structure CalMX (P:Program) (w:World) (K:Frag) (mg:Str->Option Value) (base:Heap) (x:Str) (C:Addr) (k:Nat) (ps:List Str) (sp:Sp):Prop where
 ex:∃(f:Addr) (fd:FuncData),Mk K C f/\FnOk P w K mg base (CX1 P w) k f fd ps sp/\mg x=some (.ref C)/\Binds K fd ps []
section
variable{X:Cx}{k:Nat}{C:Addr}{ps:List Str}{sp:Sp}{x:Str}{p pos:Pos}{e:Expr}{es:List Expr}{t:TA}
end
end L2
namespace LE
open PySem L2 LR
section
variable(K:Frag)(C:Addr)
end
section
variable{K:Frag}{C:Addr}{W:XK}{t:TA}{ev:En->Option (List Sl)}{H0 H H2:Hp}
noncomputable def JfM(ss:List Sl):Bool:=ss.all fun s=>!JV s
theorem RRL.more{vs:List V}{ss:List Sl}(st:Same H H2):JfM ss=true->RRL K C H H0 H vs ss->RRL K C H2 H0 H2 vs ss:=fun ho r=>by
 revert ho
 induction r with
 | nil=>exact fun _=>.nil
 | @cons v s vs ss h _ ih =>
  intro ho
  have hs:JV s=false/\JfM ss=true:=by unfold JfM at ho ⊢;rw[List.all_cons,Bool.and_eq_true] at ho;exact⟨by simpa using ho.1,ho.2⟩
  refine .cons ?_ (ih hs.2)
  cases s with
  | no=>exact h
  | sh d=>exact h
  | bo ds=>obtain⟨l,xs,e,g,q⟩:=h;exact⟨l,xs,e,st _ _ g,q⟩
  | bd ks ds=>obtain⟨l,xs,e,g,q⟩:=h;exact⟨l,xs,e,st _ _ g,q⟩
  | bt ks ds=>obtain⟨l,xs,e,g,q⟩:=h;exact⟨l,xs,e,st _ _ g,q⟩
  | own ds=>exact absurd hs.1 (by simp[JV])
  | od ks ds=>exact absurd hs.1 (by simp[JV])
  | ot ks ds=>exact absurd hs.1 (by simp[JV])
end
end LE

namespace L2
open PySem PySem.Spec PyProof.Rows PySem.Calls
section
variable{X:Cx}
end
end L2
namespace LE
open PySem L2 LR
noncomputable def lst?:Sl->Option (List D)
 | .bo ds=>some ds
 | .own ds=>some ds
 | .sh (.lst ds)=>some ds
 | _=>none
section
variable{K:Frag}{C:Addr}{to te:TE}{eo ea:Ev}{Hs H0 H:Hp}{v:V}
theorem RR.lst{s:Sl}{ds:List D}(i:Same H0 H)(r:RR K C Hs H0 H v s)(e:lst? s=some ds):∃l xs,v=.ref l/\H l=some (.lst xs)/\RDL K C H0 xs ds:=by
 cases s with
 | bo es=>cases e;exact r
 | own es=>cases e;obtain⟨l,xs,e,h,_,_,q⟩:=r;exact⟨l,xs,e,h,q⟩
 | sh d =>
  cases d with
  | lst es=>cases e;obtain⟨l,xs,e,h,q⟩:=RD.lstI r;exact⟨l,xs,e,i _ _ h,q⟩
  | _=>cases e
 | _=>cases e
end
end LE

namespace LE
open PySem L2 LR
section
variable{K:Frag}{C:Addr}
end
end LE

namespace PySem
abbrev Jkf(h:Heap)(z TI TO a:Addr)(f:Bool):Prop :=
 h.get? z=some { cls:=.type "zip",dict:=none,data:=.fields #[rawInt a,.bool f,.bool false,.ref TI,.ref TO],slots:=#[] }
section
variable{prog:Program}{w:World}{A:Around}{E:Value->Shared->Prop}{s:Shared}{z TI TO i1 i2 a:Addr}{f:Bool}{oa:Obj}{p1 p2:List Addr}{n1 n2 k:Nat}{P1 P2:Nat->Value->Prop}{S1 S2:Nat->Heap->Prop}
end
end PySem

namespace PySem
section
variable{prog:Program}{w:World}{A:Around}{E:Value->Shared->Prop}{s:Shared}{b1 b2:Bool}{a1 a2 z TI TO i1 i2 S:Addr}{xs ys:Array Value}{i:Nat}
def LzSt(b1 b2:Bool)(a1 a2 z TI TO i1 i2 S:Addr)(xs ys:Array Value)(i:Nat)(h:Heap):Prop :=
 IsPair h TI (.ref i1) (.ref i2)/\(IsItr b1 h i1 a1 i/\IsSq b1 h a1 xs)/\(IsItr b2 h i2 a2 i/\IsSq b2 h a2 ys) ∧
 ((IsZip h z TI TO .none/\∃u v,IsPair h TO u v)\/∃a f oa,Jkf h z TI TO a f/\h.get? a=some oa/\a≠S/\a≠z/\a≠i1/\a≠i2)
theorem IsSq.keep{b:Bool}{h h':Heap}{a:Addr}{xs:Array Value}(q:IsSq b h a xs)(k:∀o,h.get? a=some o->h'.get? a=some o):IsSq b h' a xs:=by
 cases b with
 | true=>obtain⟨o,e,r⟩:=q;exact⟨o,k o e,r⟩
 | false=>obtain⟨o,e,r⟩:=q;exact⟨o,k o e,r⟩
theorem IsItr.keep'{b:Bool}{h h':Heap}{j a:Addr}{i:Nat}(q:IsItr b h j a i)(k:∀o,h.get? j=some o->h'.get? j=some o):IsItr b h' j a i:=by
 cases b with
 | true=>obtain⟨o,e,r⟩:=q;exact⟨o,k o e,r⟩
 | false=>obtain⟨o,e,r⟩:=q;exact⟨o,k o e,r⟩
theorem LzSt.keep{h h':Heap}(x:LzSt b1 b2 a1 a2 z TI TO i1 i2 S xs ys i h)(k:∀b o,b≠S->h.get? b=some o->h'.get? b=some o)(n:S∉[z,TI,TO,i1,i2,a1,a2]):LzSt b1 b2 a1 a2 z TI TO i1 i2 S xs ys i h':=by
 simp only[List.mem_cons,List.mem_nil_iff,or_false,not_or] at n;obtain⟨n1,n2,n3,n4,n5,n6,n7⟩:=n;obtain⟨x1,x2,x3,x4⟩:=x;refine⟨k _ _ (Ne.symm n2) x1,⟨IsItr.keep' x2.1 fun o e=>k _ o (Ne.symm n4) e,IsSq.keep x2.2 fun o e=>k _ o (Ne.symm n6) e⟩,⟨IsItr.keep' x3.1 fun o e=>k _ o (Ne.symm n5) e,IsSq.keep x3.2 fun o e=>k _ o (Ne.symm n7) e⟩,?_⟩;rcases x4 with ⟨y1,u,v,y2⟩|⟨a,f,oa,y1,y2,y3⟩
 ·exact .inl ⟨k _ _ (Ne.symm n1) y1,u,v,k _ _ (Ne.symm n3) y2⟩
 ·exact .inr ⟨a,f,oa,k _ _ (Ne.symm n1) y1,k _ _ y3.1 y2,y3⟩
end
structure LzG (xs ys:Array Value) (lo:Addr) (h:Heap) (as:List Addr):Prop where
 rise:as.Pairwise (·<·)
 above:∀a∈as,lo<a
 pairs:∀(j:Nat) (a:Addr),as[j]?=some a->∃u v,xs[j]?=some u/\ys[j]?=some v/\IsPair h a u v
theorem LzG.there{xs ys:Array Value}{lo:Addr}{h:Heap}{as:List Addr}(g:LzG xs ys lo h as){a:Addr}(ha:a∈as):a<h.objs.size:=by obtain⟨j,hj⟩:=List.mem_iff_getElem?.mp ha;obtain⟨_,_,_,_,e⟩:=g.pairs j a hj;exact Heap.lt_size e
section
variable{prog:Program}{w:World}{A:Around}{s:Shared}{R:Result->Shared->Prop}{b1 b2:Bool}{a1 a2 z TI TO i1 i2 S:Addr}{xs ys:Array Value}
end
end PySem

namespace PySem
open PySem.Calls PyProof.Rows PyProof.V PySem.Spec
section
variable{prog:Program}{w:World}{A:Around}{E:Value->Shared->Prop}{s:Shared}{b1 b2:Bool}{a1 a2 z TI TO i1 i2:Addr}{xs ys:Array Value}
end
end PySem

namespace L2
open PySem PySem.Spec PyProof.Rows
end L2

namespace LE
open PySem L2 LR
section
variable{K:Frag}{C:Addr}
end
end LE

namespace L2
open PySem PySem.Spec PyProof.Rows
section
variable{X:Cx}{pins:List (Addr×Obj)}{σ:St}{H:Hp}{s:Shared}{a:Addr}{kvs:List (Key×V)}{k:Key}{z:V}{u r:Value}{A:Around}{E:Value->Shared->Prop}
end
section
variable{X:Cx}{o e f:Expr}{apos cpos:Pos}{td ty tx:TE}
end
end L2
namespace LE
open PySem L2 LR
section
variable(K:Frag)(C:Addr)(j:Nat)
noncomputable def Left(σ:St)(E:En)(σ':St)(E':En):Prop:=σ'[j]?=σ[j]?/\∀(i:Nat) (s:Sl),E'[i]?=some s->JV s=true->E[i]?=some s/\σ'[i]?=σ[i]?
end
section
variable{K:Frag}{C:Addr}{j:Nat}
theorem Left.refl(σ:St)(E:En):Left j σ E σ E:=⟨rfl,fun _ _ e _=>⟨e,rfl⟩⟩
theorem Left.trans{σ σ1 σ2:St}{E E1 E2:En}(a:Left j σ E σ1 E1)(b:Left j σ1 E1 σ2 E2):Left j σ E σ2 E2 :=
 ⟨b.1.trans a.1,fun i s e o=>by obtain⟨h1,h2⟩:=b.2 i s e o;obtain⟨h3,h4⟩:=a.2 i s h1 o;exact⟨h3,h2.trans h4⟩⟩
end
end LE

namespace LE
open PySem L2 LR
section
variable(K:Frag)(C:Addr)
structure Grp (B H0 H:Hp) (σ:St) (E:En) (j c:Nat) (ks:List Int) (dss:List (List D)) (l:Addr) (ls:List Addr):Prop where
 at':σ[j]?=some (some (.ref l))
 dict:H l=some (dkO ks (ls.map V.ref))
 l0:H0 l=none
 lb:B l=none
 len:ks.length=ls.length
 len2:dss.length=ls.length
 cnt:ks.length<=c
 lists:∀(m:Nat) (a:Addr) (ds:List D),ls[m]?=some a->dss[m]?=some ds->ds.length<=c/\∃xs,H a=some (.lst xs)/\H0 a=none/\B a=none/\RDL K C H0 xs ds
 nd:(l::ls).Nodup
 own:∀(i:Nat) (s:Sl) (a:Addr),E[i]?=some s->JV s=true->σ[i]?=some (some (.ref a))->a∉l::ls
end
section
variable{K:Frag}{C:Addr}{B H0 H H0' H':Hp}{σ σ':St}{E E':En}{j c:Nat}{ks:List Int}{dss:List (List D)}{l:Addr}{ls:List Addr}
theorem Grp.there(g:Grp K C B H0 H σ E j c ks dss l ls){a:Addr}(ha:a∈l::ls):∃o,H a=some o/\isT o=false/\H0 a=none/\B a=none:=by
 rcases List.mem_cons.mp ha with z|z
 ·subst z;exact⟨_,g.dict,rfl,g.l0,g.lb⟩
 ·obtain⟨m,hm⟩:=List.mem_iff_getElem?.mp z;have hl:m<dss.length:=by rw[g.len2];exact(List.getElem?_eq_some_iff.mp hm).1
  obtain⟨_,xs,h1,h2,h3,_⟩:=g.lists m a dss[m] hm (List.getElem?_eq_getElem hl);exact⟨_,h1,rfl,h2,h3⟩
theorem Grp.off(g:Grp K C B H0 H σ E j c ks dss l ls)(st:Step H H0 H H0' H'){a:Addr}(ha:a∈l::ls):H0' a=none:=by
 obtain⟨o,h1,h2,h3,_⟩:=g.there ha
 cases z:H0' a with
 | none=>rfl
 | some u =>
  rcases st.n a u z with y|y|y
  ·rw[h3] at y;cases y
  ·rw[h1] at y;cases y
  ·have:=st.i a u z;rw[st.h a o h1] at this;cases this;rw[h2] at y;cases y
theorem Grp.step(g:Grp K C B H0 H σ E j c ks dss l ls)(st:Step H H0 H H0' H'):Grp K C B H0' H' σ E j c ks dss l ls :=
 ⟨g.at',st.h _ _ g.dict,g.off st List.mem_cons_self,g.lb,g.len,g.len2,g.cnt,fun m a ds e1 e2=>by obtain⟨h0,xs,h1,h2,h3,h4⟩:=g.lists m a ds e1 e2;exact⟨h0,xs,st.h _ _ h1,g.off st (List.mem_cons_of_mem _ (List.mem_of_getElem? e1)),h3,h4.mono st.z⟩,g.nd,g.own⟩
theorem Grp.left(g:Grp K C B H0 H σ E j c ks dss l ls)(f:Left j σ E σ' E'):Grp K C B H0 H σ' E' j c ks dss l ls :=
 ⟨f.1.trans g.at',g.dict,g.l0,g.lb,g.len,g.len2,g.cnt,g.lists,g.nd,fun i s a e o q=>by obtain⟨h1,h2⟩:=f.2 i s e o;exact g.own i s a h1 o (by rw[<- h2];exact q)⟩
theorem Grp.free(g:Grp K C B H0 H σ E j c ks dss l ls){a:Addr}(ha:a∈l::ls):∀(i:Nat) (s:Sl),E[i]?=some s->JV s=true->σ[i]?≠some (some (.ref a)):=fun i s e o q=>g.own i s a e o q ha
theorem EnvR.fresh(I:EnvR K C B H0 H σ E){p:Addr}(hp:H p=none):∀(i:Nat) (s:Sl),E[i]?=some s->JV s=true->σ[i]?≠some (some (.ref p)):=fun i s e o q=>by
 rcases I.at' i s e with z|⟨v,q1,q2⟩
 ·subst z;cases o
 ·rw[q1] at q;cases q
  cases s with
  | own es=>obtain⟨l',ys,p1,p2,_⟩:=q2;cases p1;rw[hp] at p2;cases p2
  | od ks es=>obtain⟨l',ys,p1,p2,_⟩:=q2;cases p1;rw[hp] at p2;cases p2
  | ot ks es=>obtain⟨l',ys,p1,p2,_⟩:=q2;cases p1;rw[hp] at p2;cases p2
  | _=>cases o
end
end LE

namespace LE
open PySem L2 LR
section
variable{K:Frag}{C:Addr}{B H0 H H0' H':Hp}{σ σ':St}{E E':En}{j c:Nat}{ks:List Int}{dss:List (List D)}{l:Addr}{ls:List Addr}
noncomputable def JeV(H0 H:Hp)(ls:List Addr):Hp:=fun a=>if a∈ls then H a else H0 a
theorem ZI{Hz:Hp}:∀{ls:List Addr} {dss:List (List D)},dss.length=ls.length->(∀(m:Nat) (a:Addr) (ds:List D),ls[m]?=some a->dss[m]?=some ds->∃xs,Hz a=some (.lst xs)/\RDL K C Hz xs ds)->RDL K C Hz (ls.map V.ref) (dss.map .lst)
 | [],[],_,_=>.nil
 | [],_::_,h,_=>by simp at h
 | _::_,[],h,_=>by simp at h
 | a::ls,ds::dss,h,f=>by obtain⟨xs,h1,h2⟩:=f 0 a ds rfl rfl;exact .cons (.mkL h1 h2) (ZI (by simpa using h) fun m a ds e1 e2=>f (m+1) a ds (by simpa using e1) (by simpa using e2))
theorem Grp.done(I:EnvR K C B H0 H σ E)(g:Grp K C B H0 H σ E j c ks dss l ls)(hj:j<E.length):SStep B H0 (JeV H0 H ls) H/\EnvR K C B (JeV H0 H ls) H σ (E.set j (.od ks (dss.map .lst))):=by
 have out:∀{a:Addr},a∉ls->JeV H0 H ls a=H0 a:=fun {a} h=>if_neg h
 have inn:∀{a:Addr},a∈ls->JeV H0 H ls a=H a:=fun {a} h=>if_pos h
 have z:Same H0 (JeV H0 H ls):=fun a o e=>by
  by_cases c:a∈ls
  ·rw[inn c];exact I.h a o e
  ·rw[out c];exact e
 have i:Same (JeV H0 H ls) H:=fun a o e=>by
  by_cases c:a∈ls
  ·rw[inn c] at e;exact e
  ·rw[out c] at e;exact I.h a o e
 have ln:l∉ls:=(List.nodup_cons.mp g.nd).1;refine⟨⟨I.b,z,fun a o e=>?_,i⟩,I.b,i,by simp[I.len],fun k s e=>?_,fun k m s t v hkm e1 e2 o1 o2 e3 e4=>?_⟩
 ·by_cases c:a∈ls
  ·exact .inr (.inl (g.there (List.mem_cons_of_mem _ c)).choose_spec.2.2.2)
  ·rw[out c] at e;exact .inl e
 ·rw[List.getElem?_set] at e
  by_cases c:j=k
  ·subst c;rw[if_pos rfl,if_pos hj] at e;have e':=Option.some.inj e;subst e';refine .inr ⟨_,g.at',l,ls.map V.ref,rfl,g.dict,by rw[out ln];exact g.l0,g.lb,by rw[List.length_map,g.len2];exact g.len,ZI g.len2 fun m a ds q1 q2=>?_⟩;obtain⟨_,xs,h1,_,_,h4⟩:=g.lists m a ds q1 q2;exact⟨xs,by rw[inn (List.mem_of_getElem? q1)];exact h1,h4.mono z⟩
  ·rw[if_neg c] at e;rcases I.at' k s e with y|⟨v,q1,q2⟩
   ·exact .inl y
   ·refine .inr ⟨v,q1,?_⟩
    cases s with
    | no=>trivial
    | sh d=>exact RD.mono z q2
    | bo es=>obtain⟨l',ys,p1,p2,p3⟩:=q2;exact⟨l',ys,p1,p2,p3.mono z⟩
    | bd ks es=>obtain⟨l',ys,p1,p2,p3,p4⟩:=q2;exact⟨l',ys,p1,p2,p3,p4.mono z⟩
    | bt ks es=>obtain⟨l',ys,p1,p2,p3,p4⟩:=q2;exact⟨l',ys,p1,p2,p3,p4.mono z⟩
    | own es=>obtain⟨l',ys,p1,p2,p3,p4,p5⟩:=q2;subst p1;have:=g.own k _ l' e rfl q1;exact⟨l',ys,rfl,p2,by rw[out fun m=>this (List.mem_cons_of_mem _ m)];exact p3,p4,p5.mono z⟩
    | od ks es=>obtain⟨l',ys,p1,p2,p3,p4,p5,p6⟩:=q2;subst p1;have:=g.own k _ l' e rfl q1;exact⟨l',ys,rfl,p2,by rw[out fun m=>this (List.mem_cons_of_mem _ m)];exact p3,p4,p5,p6.mono z⟩
    | ot ks es=>obtain⟨l',ys,p1,p2,p3,p4,p5,p6⟩:=q2;subst p1;have:=g.own k _ l' e rfl q1;exact⟨l',ys,rfl,p2,by rw[out fun m=>this (List.mem_cons_of_mem _ m)];exact p3,p4,p5,p6.mono z⟩
 ·have get:∀(i:Nat) (s:Sl),(E.set j (Sl.od ks (dss.map .lst)))[i]?=some s->i=j\/(i≠j/\E[i]?=some s):=fun i s e=>by
   rw[List.getElem?_set] at e
   by_cases c:j=i
   ·exact .inl c.symm
   ·rw[if_neg c] at e;exact .inr ⟨fun z=>c z.symm,e⟩
  rcases get k s e1 with y1|⟨n1,y1⟩
  ·subst y1;rcases get m t e2 with y2|⟨n2,y2⟩
   ·exact hkm y2.symm
   ·rw[g.at'] at e3;have e3':=Option.some.inj (Option.some.inj e3);subst e3';exact g.own m t l y2 o2 e4 List.mem_cons_self
  ·rcases get m t e2 with y2|⟨n2,y2⟩
   ·subst y2;rw[g.at'] at e4;have e4':=Option.some.inj (Option.some.inj e4);subst e4';exact g.own k s l y1 o1 e3 List.mem_cons_self
   ·exact I.sep k m s t v hkm y1 y2 o1 o2 e3 e4
end
end LE

namespace L2
open PySem PySem.Spec PyProof.Rows
section
open PySem.SeqAt
open PySem.AutoSeq1 (wpAny_loadPart')
open PySem.MeetsSeq PySem.MeetsSeq2 PySem.MeetsSeq3
end
section
variable{prog:Program}{w:World}{A:Around}{E:Value->Shared->Prop}{s:Shared}
end
end L2
namespace LE
open PySem L2 LR
section
variable{K:Frag}{C:Addr}
end
end LE

namespace L2
open PySem PySem.Spec PyProof.Rows
section
open PySem.SeqAt
open PySem.AutoSeq1 (wpAny_loadPart')
open PySem.MeetsSeq PySem.MeetsSeq2 PySem.MeetsSeq3
end
section
variable{prog:Program}{w:World}{A:Around}{E:Value->Shared->Prop}{s:Shared}
end
end L2
namespace LE
open PySem L2 LR
section
variable{K:Frag}{C:Addr}
end
end LE

namespace L2
open PySem PySem.Spec PyProof.Rows
end L2
namespace LE
open PySem L2 LR
section
variable{K:Frag}{C:Addr}
end
end LE

namespace LE
open PySem L2 LR
section
variable{K:Frag}{C:Addr}{W:XK}{t:TA}{ev:En->Option (List Sl)}{ts us:TS}{x:Xv}{H:Hp}
end
end LE

namespace PySem
open PySem.Calls PyProof.Rows PyProof.V PySem.Spec
section
variable{prog:Program}{w:World}{A:Around}{E:Value->Shared->Prop}{s:Shared}{r a:Addr}{xs:Array Value}{n:Nat}
end
end PySem
namespace L2
open PySem PySem.Spec PyProof.Rows
end L2
namespace LE
open PySem L2 LR
section
variable{K:Frag}{C:Addr}
end
end LE

namespace L2
open PySem PySem.Spec PyProof.Rows PySem.Calls
section
variable{X:Cx}
end
end L2
namespace L2
open PySem PySem.Spec PyProof.Rows PySem.Calls
section
variable{X:Cx}{es:List Expr}{t:TA}{x:Str}{j:Nat}{p:Pos}
structure PSi (X:Cx) (st:Stmt) (ts:TS):Prop where
 out:PS X st ts
structure PSsi (X:Cx) (ss:List Stmt) (ts:TS):Prop where
 out:PSs X ss ts
end
end L2

namespace LE
open PySem L2 LR
noncomputable def JmG(ys:List Str)(r:En->Option (List Sl)):En->Option (List Sl):=fun E=>(r E).map fun ss=>ys.map (fun y=>.sh (.str y))++ss
section
variable{K:Frag}{C:Addr}{te:TE}{ea:Ev}{tl th:TO}{el eh:Option Ev}{m:Bool}
end
end LE

namespace L2
open PySem PySem.Spec PyProof.Rows PySem.Calls
noncomputable def JdZ:V->List V->Hp->VK->Prop:=fun x vs H Q=>∃(l:Addr) (ns:List Int) (b:Int),x=.ref l/\vs=[.int b]/\H l=some (.lst (ns.map V.int))/\Q (.int (ns.count b:Nat)) H
theorem V5(b:Int):∀{vs:List Value} {ns:List Int},IntsAre vs ns->vs.countP (isInt b)=ns.count b
 | _,_,.nil=>rfl
 | _,_,.cons n t h=>by rw[List.countP_cons,V5 b h,List.count_cons];rfl
section
variable{X:Cx}
theorem Jff:MtR X "list.count" JdZ:=by
 intro pins s σ H x vs v us Q I rx rv h;obtain⟨l,ns,b,rfl,rfl,hH,q⟩:=h;cases rx;obtain⟨u,rfl,hu⟩:=rv.one;obtain⟨t,rfl⟩:=hu;obtain⟨z,its,n,r,hl,e⟩:=I.lstM hH;have ia:=Y4 r;refine call_meets F.slot_list_count ⟨_,e,rfl⟩ F.entry_list_count (F.args_list_count_2 _ _) (MeetsSeq.list_count l its.toArray n (.int b t) (isInt b) (fun y hy=>eq_isInt b t ia y (by simpa using hy))) ⟨e,?_⟩;refine⟨.int (ns.count b:Nat),H,I.tok _,⟨s.toks,?_⟩,q⟩;show Value.int ((its.countP (isInt b):Nat):Int) s.toks=_
 rw[V5 b ia]
end
end L2
namespace LE
open PySem L2 LR
noncomputable def eMI(f:List Int->Int->Option Int)(o a:Ev):Ev:=fun E=>(o E).bind fun s=>(lst? s).bind fun ds=>(ints? ds).bind fun ns=>(a E).bind fun y=>(int? y).bind fun b=>(f ns b).map fun i=>.sh (.int i)
noncomputable def Jdr(ns:List Int)(b:Int):Option Int:=some (ns.count b:Nat)
section
variable{K:Frag}{C:Addr}{to te:TE}{eo ea:Ev}{Hs H0 H:Hp}{v:V}
theorem JnT{rm:V->List V->Hp->VK->Prop}{f:List Int->Int->Option Int}(hm:∀(l:Addr) (ns:List Int) (b:Int) (i:Int) (H:Hp) (Q:VK),H l=some (.lst (ns.map V.int))->f ns b=some i->Q (.int i) H->rm (.ref l) [.int b] H Q)
 (ho:SE K C to eo) (ha:SE K C te ea):SE K C (tBM K "list" rm to (VE te JaG)) (eMI f eo ea):=by
 intro B H0 H σ E r Q I e q;obtain⟨s,e1,e⟩:=bind_some e;obtain⟨ds,e2,e⟩:=bind_some e;obtain⟨ns,e3,e⟩:=bind_some e;obtain⟨y,e4,e⟩:=bind_some e;obtain⟨b,e5,e⟩:=bind_some e;obtain⟨i,e6,rfl⟩:=map_some e;refine ho B H0 H σ E s _ I e1 fun x H1 H1' s1 r1=>?_
 obtain⟨l,xs,rfl,hl,rl⟩:=r1.lst s1.i e2;refine⟨.inl ⟨rfl,_,.of hl⟩,?_⟩;refine ha B H1 H1' σ E y _ (I.step s1) e4 fun u H2 H2' s2 r2=>?_
 rw[WK e5] at r2;cases RD.intI r2;rw[YW e3] at rl;have hx:=RDL.ints rl;subst hx;exact hm l ns b i H2' Q (s2.h _ _ hl) e6 (q _ _ _ (s1.trans s2) (RD.int i))
theorem Jhc(ho:SE K C to eo)(ha:SE K C te ea):SE K C (tBM K "list" JdZ to (VE te JaG)) (eMI Jdr eo ea) :=
 JnT (fun l ns b i H Q h e q=>by cases e;exact⟨l,ns,b,rfl,rfl,h,q⟩) ho ha
end
end LE

namespace L2
open PySem PySem.Spec PyProof.Rows PySem.Calls
section
variable{X:Cx}
end
end L2
namespace LE
open PySem L2 LR
section
variable{K:Frag}{C:Addr}
end
end LE

namespace PySem
open AutoSeq1 (wpAny_loadPart')
section
variable{prog:Program}{w:World}{A:Around}{E:Value->Shared->Prop}{s:Shared}
end
section
variable{prog:Program}{w:World}{A:Around}{E:Value->Shared->Prop}{s:Shared}
end
section
variable{prog:Program}{w:World}{A:Around}{E:Value->Shared->Prop}{s:Shared}{b:Bool}{a e it:Addr}{xs:Array Value}
end
end PySem
namespace L2
open PySem PySem.Spec PyProof.Rows
end L2
namespace LE
open PySem L2 LR
section
variable{K:Frag}{C:Addr}{m:Bool}
end
end LE

namespace L2
open PySem PySem.Spec PyProof.Rows PySem.Calls
section
variable{X:Cx}{K:Frag}{e:Expr}{te:TE}{p2 pos:Pos}
end
end L2
namespace LE
open PySem L2 LR
section
variable{K:Frag}{C:Addr}{te:TE}{ea:Ev}
end
end LE

namespace LE
open PySem L2 LR
section
variable{K:Frag}{C:Addr}
end
end LE

namespace L2
open PySem PySem.Spec PyProof.Rows
structure Blk1 (X:Cx) (sc:Scope) (cl:List (Str×Addr)) (y:Str) (N':List Str) (imp:List (Option Nat)):Prop where
 clos:closureFor sc X.env=pure cl
 kind:sc.kind=.function
 cf:∀n,cellsFrom n sc.names cl=(y,n)::cl
 cf0:∀n,cellsFrom n sc.names []=[(y,n)]
 names:∀y∈sc.names,y.2=.local->sc.names.lookup y.1=some .local
 sub:∀p∈cl,X.env.cells.lookup p.1=some p.2
 has:∀z∈(relabel sc X.env).names,(z.2=.cell\/z.2=.free)->z.1=y\/(cl.lookup z.1).isSome=true
 len:imp.length=N'.length
 im:∀p∈imp.zip N',∀k,p.1=some k->p.2≠y/\X.N[k]?=some p.2/\(X.env.scope.names.lookup p.2=some .cell\/X.env.scope.names.lookup p.2=some .free)/\((relabel sc X.env).names.lookup p.2=some .cell\/(relabel sc X.env).names.lookup p.2=some .free)
section
variable{X:Cx}{tg iter elt:Expr}{ifs:List Expr}{sc:Scope}{cl:List (Str×Addr)}{y:Str}{N':List Str}{imp:List (Option Nat)}{pos:Pos}{wi:TI}{g:TG}{tt:TT}{te:TE}
theorem Blk1.subL(B:Blk1 X sc cl y N' imp):∀x c,cl.lookup x=some c->X.env.cells.lookup x=some c:=fun x c e=>B.sub (x,c) (Uy e)
end
end L2

namespace L2
open PySem PySem.W PyProof.Rows
structure Pm (p:Array Nat) (N:Nat):Prop where
 size:p.size=N
 low:∀a,a<N->p.getD a 0<N
 inj:∀a b,a<N->b<N->p.getD a 0=p.getD b 0->a=b
theorem Jla{l:List Nat}(nd:l.Nodup){a b:Nat}(h1:a<l.length)(h2:b<l.length)(e:l[a]=l[b]):a=b:=by
 rcases Nat.lt_trichotomy a b with c|c|c
 ·exact absurd e (List.pairwise_iff_getElem.mp nd a b h1 h2 c)
 ·exact c
 ·exact absurd e.symm (List.pairwise_iff_getElem.mp nd b a h2 h1 c)
theorem Pm.of{p:Array Nat}{N:Nat}(h:p.toList.Perm (List.range N)):Pm p N:=by
 have hz:p.size=N:=by have:=h.length_eq;simpa using this
 have get:∀a,a<N->p.toList[a]?=some (p.getD a 0):=fun a ha=>by rw[Array.getElem?_toList,Array.getElem?_eq_getElem (by omega)];simp[Array.getD,show a<p.size by omega]
 refine⟨hz,fun a ha=>?_,fun a b ha hb e=>?_⟩
 ·have:=h.mem_iff.mp (List.mem_of_getElem? (get a ha))
  simpa using this
 ·have nd:p.toList.Nodup:=h.nodup_iff.mpr List.nodup_range
  have ga:=get a ha
  have gb:=get b hb;rw[e] at ga;obtain⟨h1,e1⟩:=List.getElem?_eq_some_iff.mp ga;obtain⟨h2,e2⟩:=List.getElem?_eq_some_iff.mp gb;exact Jla nd h1 h2 (e1.trans e2.symm)
section
variable{N:Nat}{lt:Nat->Nat->Bool}{cmp:Nat->Nat->(Bool->Shared->Prop)->Shared->Prop}{I:Shared->Prop}
end
end L2

namespace L2
open PySem PySem.W PyProof.Rows
section
variable{prog:Program}{w:World}{A:Around}{E:Value->Shared->Prop}{s:Shared}
end
end L2

namespace L2
open PySem PySem.W PyProof.Rows
noncomputable abbrev PrI:=Int×Int
noncomputable def TupP(h:Heap)(v:Value)(p:PrI):Prop:=∃a o n t u,v=.ref a/\h.get? a=some o/\o.cls=.type "tuple"/\o.data=.seq #[.int p.1 t,.int p.2 u] n
section
variable{prog:Program}{w:World}{A:Around}{E:Value->Shared->Prop}{s:Shared}
theorem TupP.off{h h1:Heap}{a:Addr}{vs:Array Value}{n:Nat}{v:Value}{p:PrI}(ho:h.get? a=some (seqObj "list" vs n))(keep:∀b ob,b≠a->h.get? b=some ob->h1.get? b=some ob)(t:TupP h v p):TupP h1 v p:=by obtain⟨b,o,m,t,u,rfl,hb,hc,hd⟩:=t;refine⟨b,o,m,t,u,rfl,keep b o (fun e=>?_) hb,hc,hd⟩;subst e;rw[ho] at hb;cases hb;have z:(Value.type "list":Value)=.type "tuple":=hc;exact absurd z (by decide)
end
end L2

namespace L2
open PySem PySem.Spec PySem.W PyProof.Rows
section
variable{prog:Program}{w:World}{A:Around}{E:Value->Shared->Prop}{s:Shared}
end
section
variable{X:Cx}
end
end L2

namespace L2
open PySem PySem.Spec PySem.W PyProof.Rows
noncomputable def RawD(h:Heap)(d:Addr)(es:Array DictEntry)(ep:Nat):Prop:=∃o,h.get? d=some o/\o.ExactDict/\o.data=.dict es ep
section
variable{prog:Program}{w:World}{A:Around}{E:Value->Shared->Prop}{s:Shared}{it d v:Addr}{i ep:Nat}{es:Array DictEntry}
theorem RawD.at{h h':Heap}(x:RawD h d es ep)(e:∀o,h.get? d=some o->h'.get? d=some o):RawD h' d es ep:=let ⟨o,ho,r⟩:=x;⟨o,e _ ho,r⟩
theorem RawD.lt{h:Heap}(x:RawD h d es ep):d<h.objs.size:=let ⟨_,ho,_⟩:=x;Heap.lt_size ho
end
end L2

namespace L2
open PySem PySem.Spec PySem.W PyProof.Rows
noncomputable abbrev pk(p:PrI):List Key:=LE.dtK p
theorem KT.get{H:Hp}:∀{kvs:List (List Key×V)} {xs:List (List Key×Addr×Value)},KT H kvs xs->kvs.length=xs.length/\∀(i:Nat) (k:List Key×V) (x:List Key×Addr×Value),kvs[i]?=some k->xs[i]?=some x->k.1=x.1/\H x.2.1=some (.tup (k.1.map kV))
 | _,_,.nil=>⟨rfl,fun i k x e=>by simp at e⟩
 | _,_,.cons h t=>by
  obtain⟨h1,h2⟩:=KT.get t;refine⟨by simp[h1],fun i k x e1 e2=>?_⟩
  cases i with
  | zero=>simp at e1 e2;subst e1 e2;exact⟨h.1,h.2.1⟩
  | succ i=>exact h2 i k x (by simpa using e1) (by simpa using e2)
end L2

namespace L2
open PySem PySem.Spec PySem.W PyProof.Rows
end L2
namespace LE
open PySem L2 LR
section
variable{K:Frag}{C:Addr}{Hs H0 H:Hp}
end
noncomputable def Sl.dt:Sl->Option (List (Int×Int)×List D)
 | .bt ks ds=>some (ks,ds)
 | .ot ks ds=>some (ks,ds)
 | _=>none
noncomputable def pr?:Sl->Option (Int×Int)
 | .sh (.tup [.int a,.int b])=>some (a,b)
 | _=>none
section
variable{K:Frag}{C:Addr}{Hs H0 H:Hp}{td ty te tk1 tk2:TE}{ed ek ea k1 k2:Ev}
theorem RR.dt{v:V}{s:Sl}{p:List (Int×Int)×List D}(r:RR K C Hs H0 H v s)(e:s.dt=some p):∃l xs,v=.ref l/\H l=some (dtO p.1 xs)/\p.1.length=p.2.length/\RDL K C H0 xs p.2:=by
 cases s with
 | bt ks ds=>cases e;exact r
 | ot ks ds=>cases e;obtain⟨l,xs,h1,h2,_,_,h3⟩:=r;exact⟨l,xs,h1,h2,h3⟩
 | _=>cases e
noncomputable def JmZ:List Sl->Option (Int×Int)
 | [.sh (.int a),.sh (.int b)]=>some (a,b)
 | _=>none
end
end LE

namespace LE
open PySem L2 LR
section
variable{K:Frag}{C:Addr}
theorem RDL.eraseIdx{H:Hp}:∀{xs:List V} {ds:List D} (k:Nat),RDL K C H xs ds->RDL K C H (xs.eraseIdx k) (ds.eraseIdx k)
 | [],[],_,h=>by simpa using h
 | [],_::_,_,h=>by have:=h.1;simp at this
 | _::_,[],_,h=>by have:=h.1;simp at this
 | x::xs,d::ds,0,h=>by simpa using h.tail
 | x::xs,d::ds,k+1,h=>by rw[List.eraseIdx_cons_succ,List.eraseIdx_cons_succ];exact .cons h.head (RDL.eraseIdx k h.tail)
end
end LE

namespace LE
open PySem L2 LR
section
variable{X:Cx}
end
section
variable{K:Frag}{C:Addr}
end
end LE

namespace L2
open PySem
noncomputable def Ris(xs:Array Nat):Prop:=xs.toList.Pairwise (·<·)
theorem Ris.lt{xs:Array Nat}(r:Ris xs){i j:Nat}(h:i<j)(hj:j<xs.size):xs[i]'(by omega)<xs[j]:=by
 have:=List.pairwise_iff_getElem.mp r i j (by simp;omega) (by simpa using hj) h
 simpa using this
theorem Jcg{xs:Array Nat}(r:Ris xs)(j:Nat):∀(fuel lo hi:Nat),hi-lo<=fuel->lo<=hi->hi<=xs.size->(∀i,(h:i<xs.size)->i<lo->xs[i]<j)->(∀i,(h:i<xs.size)->hi<=i->j<=xs[i]) ->
 ∃p,SetTable.below.go xs j fuel lo hi=p/\p<=xs.size/\(∀i,(h:i<xs.size)->i<p->xs[i]<j)/\∀i,(h:i<xs.size)->p<=i->j<=xs[i]
 | 0,lo,hi,hf,h1,h2,ha,hb=>⟨lo,rfl,by omega,ha,fun i hi' hp=>hb i hi' (by omega)⟩
 | fuel+1,lo,hi,hf,h1,h2,ha,hb=>by
  unfold SetTable.below.go
  by_cases c:lo<hi
  ·rw[if_pos c];have hm:(lo+hi) / 2<xs.size:=by omega
   have e:xs.getD ((lo+hi) / 2) j=xs[(lo+hi) / 2]:=by simp[Array.getD,hm]
   dsimp only;rw[e]
   by_cases d:xs[(lo+hi) / 2]<j
   ·rw[if_pos d];refine Jcg r j fuel _ _ (by omega) (by omega) h2 (fun i h hi'=>?_) hb;rcases Nat.lt_or_ge i ((lo+hi) / 2) with q|q
    ·exact Nat.lt_trans (r.lt q hm) d
    ·have:i=(lo+hi) / 2:=by omega
     subst this;exact d
   ·rw[if_neg d];refine Jcg r j fuel _ _ (by omega) (by omega) (by omega) ha (fun i h hi'=>?_);rcases Nat.lt_or_ge ((lo+hi) / 2) i with q|q
    ·exact Nat.le_trans (Nat.not_lt.mp d) (Nat.le_of_lt (r.lt q h))
    ·have:i=(lo+hi) / 2:=by omega
     subst this;exact Nat.not_lt.mp d
  ·rw[if_neg c];exact⟨lo,rfl,by omega,ha,fun i hi' hp=>hb i hi' (by omega)⟩
theorem bel{xs:Array Nat}(r:Ris xs)(j:Nat):SetTable.below xs j<=xs.size/\(∀i,(h:i<xs.size)->i<SetTable.below xs j->xs[i]<j)/\∀i,(h:i<xs.size)->SetTable.below xs j<=i->j<=xs[i]:=by obtain⟨p,e,h1,h2,h3⟩:=Jcg r j xs.size 0 xs.size (by omega) (by omega) (Nat.le_refl _) (fun i _ h=>by omega) (fun i h h'=>by omega);have e':SetTable.below xs j=p:=e;rw[e'];exact⟨h1,h2,h3⟩
theorem JfQ{xs:Array Nat}(r:Ris xs){i:Nat}(hi:i<xs.size):SetTable.below xs (xs[i]+1)=i+1:=by
 obtain⟨h1,h2,h3⟩:=bel r (xs[i]+1);rcases Nat.lt_trichotomy (SetTable.below xs (xs[i]+1)) (i+1) with c|c|c
 ·have:=h3 i hi (by omega);omega
 ·exact c
 ·have l:i+1<xs.size:=by omega
  have:=h2 (i+1) l c
  have:=r.lt (i:=i) (j:=i+1) (Nat.lt_succ_self i) l;omega
theorem JfR{xs:Array Nat}(r:Ris xs):SetTable.below xs 0=0:=by
 obtain⟨h1,h2,h3⟩:=bel r 0;rcases Nat.eq_zero_or_pos (SetTable.below xs 0) with c|c
 ·exact c
 ·have:=h2 0 (by omega) c;omega
theorem Jjn{xs:Array Nat}(r:Ris xs){j:Nat}(no:xs[SetTable.below xs j]?≠some j):Ris (SetTable.insertAt xs (SetTable.below xs j) j):=by
 obtain⟨h1,h2,h3⟩:=bel r j;unfold Ris;rw[SetTable.toList_insertAt];have r':=r;unfold Ris at r';rw[<- List.take_append_drop (SetTable.below xs j) xs.toList] at r';obtain⟨ra,rb,rc⟩:=List.pairwise_append.mp r'
 have low:∀x∈xs.toList.take (SetTable.below xs j),x<j:=fun x hx=>by obtain⟨i,hi,e⟩:=List.mem_iff_getElem.mp hx;rw[List.length_take,Array.length_toList] at hi;rw[List.getElem_take,Array.getElem_toList] at e;rw[<- e];exact h2 i (by omega) (by omega)
 have high:∀x∈xs.toList.drop (SetTable.below xs j),j<x:=fun x hx=>by
  obtain⟨i,hi,e⟩:=List.mem_iff_getElem.mp hx;rw[List.length_drop,Array.length_toList] at hi;rw[List.getElem_drop,Array.getElem_toList] at e;have g:=h3 (SetTable.below xs j+i) (by omega) (by omega);rw[e] at g;rcases Nat.lt_or_ge j x with q|q
  ·exact q
  ·exfalso
   have ex:x=j:=by omega
   apply no
   have b0:SetTable.below xs j<xs.size:=by omega
   rw[Array.getElem?_eq_getElem b0];have g0:=h3 (SetTable.below xs j) b0 (Nat.le_refl _);rcases Nat.eq_zero_or_pos i with z|z
   ·subst z;simp only[Nat.add_zero] at e;rw[e,ex]
   ·have:=r.lt (i:=SetTable.below xs j) (j:=SetTable.below xs j+i) (by omega) (by omega);rw[e] at this;omega
 refine List.pairwise_append.mpr ⟨ra,List.pairwise_cons.mpr ⟨high,rb⟩,fun a ha b hb=>?_⟩;rcases List.mem_cons.mp hb with e|e
 ·rw[e];exact low a ha
 ·exact rc a ha b e
noncomputable def Vac(t:SetTable)(j:Nat):Prop:=t.place[SetTable.below t.place j]?≠some j
theorem JbV{t:SetTable}{j:Nat}(h:∀i,t.slot j≠.live i):Vac t j:=by intro e;refine h (SetTable.below t.place j) ?_;unfold SetTable.slot;dsimp only;rw[e];simp
theorem Zj(t:SetTable)(p:SetTable.Probe):(t.advance p).dummy=p.dummy:=by unfold SetTable.advance;split <;> rfl
theorem VZ{t:SetTable}{hashAt:Nat->Int}{h:Int}:∀(fuel:Nat) (p:SetTable.Probe) {j:Nat} {d:Option Nat},(∀x,p.dummy=some x->Vac t x)->SetTable.probe.go t hashAt h fuel p=some (.empty j d)->Vac t j/\∀x,d=some x->Vac t x
 | 0,p,j,d,hp,e=>by simp[SetTable.probe.go] at e
 | fuel+1,p,j,d,hp,e=>by
  unfold SetTable.probe.go at e;split at e
  ·rename_i c
   injection e with e
   injection e with e1 e2
   subst e1 e2;exact⟨JbV fun i q=>(by rw[c] at q;cases q),hp⟩
  ·rename_i c;refine VZ fuel _ (fun x hx=>?_) e;rw[Zj] at hx
   injection hx with hx
   subst hx;exact JbV fun i q=>by rw[c] at q;cases q
  ·split at e
   ·injection e with e;cases e
   ·exact VZ fuel _ (fun x hx=>hp x (by rwa [Zj] at hx)) e
theorem Jgf{t:SetTable}{h:Int}{j:Nat}{b:Bool}(e:t.freeSlot h=some (j,b)):Vac t j:=by
 unfold SetTable.freeSlot at e;split at e
 ·rename_i j' d c
  injection e with e
  injection e with e1 _
  unfold SetTable.probe at c;obtain⟨a1,a2⟩:=VZ _ _ (fun x hx=>by simp[SetTable.probeStart] at hx) c
  cases d with
  | none=>simp at e1;subst e1;exact a1
  | some x=>simp at e1;subst e1;exact a2 _ rfl
 ·cases e
noncomputable def TOk(led:Bool)(t:SetTable):Prop:=(t.plain=true->Ris t.place)/\t.led=led
theorem U1(led:Bool)(t:SetTable)(n:Nat)(h:t.led=led):TOk led (t.standIn n):=⟨fun e=>by simp[SetTable.standIn] at e,h⟩
theorem JhC{led:Bool}{t:SetTable}(h:TOk led t):TOk led { t with plain:=false }:=⟨fun e=>by simp at e,h.2⟩
theorem JjK{led:Bool}{t:SetTable}(h:TOk led t)(es:Array (Int×Value))(k:Int)(x:Value):TOk led (layNew t es k x).2.1:=by
 unfold layNew;split
 ·rename_i j b c;dsimp only;unfold SetTable.orStandIn;split
  ·exact⟨fun e=>Jjn (h.1 (by simpa [SetTable.put] using e)) (Jgf c),by simpa [SetTable.put] using h.2⟩
  ·exact U1 _ _ _ (by simpa [SetTable.put] using h.2)
 ·exact U1 _ _ _ h.2
theorem WR(g:Nat->Option Nat):∀l:List Nat,((l.filterMap fun j=>(g j).map (j,·)).map (·.1)).Sublist l
 | []=>.slnil
 | j::l=>by
  rw[List.filterMap_cons]
  cases h:g j with
  | none=>exact(WR g l).cons _
  | some k=>exact(WR g l).cons₂ _
theorem JhD{t:SetTable}{mask f m:Nat}{led plain:Bool}{hs:Array Int}{o:Array Nat}(e:SetTable.laid mask f m led plain hs=some (t,o)):TOk led t:=by
 unfold SetTable.laid at e
 cases c:SetTable.layClean mask hs with
 | none=>rw[c] at e;cases e
 | some ow =>
  rw[c] at e;have e':some _=some (t,o):=e
  injection e' with e'
  injection e' with e1 e2
  subst e1;refine⟨fun _=>?_,rfl⟩;show List.Pairwise _ _;refine List.Pairwise.sublist (WR _ _) ?_;exact List.pairwise_lt_range
theorem Jfx{led:Bool}{t:SetTable}(h:TOk led t)(es:Array (Int×Value))(n:Nat):TOk led (relayAll t es n).2.1:=by
 unfold relayAll;split
 ·rename_i t' o c;dsimp only;split
  ·have:=JhD (show SetTable.laid _ _ _ _ _ _=some (t',o) from c);rw[h.2] at this;exact this
  ·exact U1 _ _ _ h.2
 ·exact U1 _ _ _ h.2
theorem Jfw(a b:Nat)(led:Bool):TOk led (.fresh a b led):=⟨fun _=>List.Pairwise.nil,rfl⟩
theorem WC{α:Type}:∀{l:List α} {i:Nat} (h:i<l.length),(l[i]::l.eraseIdx i).Perm l
 | x::l,0,_=>.refl _
 | x::l,i+1,h=>by have:=WC (l:=l) (i:=i) (by simpa using h);exact(List.Perm.swap x (l[i]'(by simpa using h)) _).trans (this.cons x)
theorem JdS{α:Type}(next:Nat->Nat):∀(fuel k:Nat) (left:List α) (out:Array α),left.length=fuel->(pickOrder.go next fuel k left out).toList.Perm (out.toList++left)
 | 0,k,left,out,h=>by have:left=[]:=List.eq_nil_of_length_eq_zero h;subst this;simp[pickOrder.go]
 | fuel+1,k,left,out,h=>by
  unfold pickOrder.go;have hl:next k % left.length<left.length:=Nat.mod_lt _ (by omega)
  rw[List.getElem?_eq_getElem hl];dsimp only;refine(JdS next fuel (k+1) _ _ (by rw[List.length_eraseIdx_of_lt hl];omega)).trans ?_;rw[Array.toList_push,List.append_assoc];refine List.Perm.append_left _ ?_;exact(WC hl)
theorem ZG{α:Type}(next:Nat->Nat)(xs:Array α):(pickOrder next xs).toList.Perm xs.toList:=by
 have:=JdS next xs.size 0 xs.toList #[] (by simp)
 simpa [pickOrder] using this
theorem Zr{prog:Program}{w:World}{A:Around}{E:Value->Shared->Prop}{α:Type}:∀(n:Nat) (xs:List α) (s:Shared) (Q:List α->Shared->Prop),xs.length=n->(∀ys d,ys.Perm xs->Q ys { s with drawn:=d })->wpAny (model prog w) A (drawOrder n xs) Q E s
 | 0,xs,s,Q,hl,h=>by have:xs=[]:=List.eq_nil_of_length_eq_zero hl;subst this;exact wpAny_pure (h [] s.drawn (.refl _))
 | n+1,xs,s,Q,hl,h=>by
  cases xs with
  | nil=>simp at hl
  | cons x xs =>
   show wpAny _ A ((choose .order (x::xs).length) >>= _) Q E s;refine wpAny_bind ?_;intro Γ p hΓ;unfold choose;rw[Sem.wp_choose];refine⟨by simp,?_⟩;rw[Sem.wp_pure]
   generalize hi:(model prog w).w.draws Source.order (s.drawn.get Source.order) % (x::xs).length=i
   have hlt:i<(x::xs).length:=by rw[<- hi];exact Nat.mod_lt _ (by simp)
   rw[List.getElem?_eq_getElem hlt];show wpAny _ A (drawOrder n ((x::xs).eraseIdx i) >>= _) Q E _;refine wpAny_bind (Zr n _ _ _ (by rw[List.length_eraseIdx_of_lt hlt];omega) fun ys d hp=>?_);refine wpAny_pure (h ((x::xs)[i]::ys) d ?_);exact(hp.cons _).trans (WC hlt)
end L2

namespace L2
open PySem PyProof.Rows
structure SetS (prog:Program) (w:World) (led:Bool) (h:Heap) (a:Addr) (S:Int->Bool) (n:Nat) (o:Obj) (es:Array (Int×Value)) (ep:Nat) (t:SetTable):Prop where
 got:h.get? a=some o
 ex:o.ExactSet
 data:o.data=.set es ep t
 els:ElemsOf (intKind prog w) es.toList
 mem:∀k,S k=true↔∃e∈es.toList,(intKind prog w).is k e.2=true
 few:es.size<scanBound
 fits:t.fits es.size=true
 size:es.size=n
 tok:TOk led t
noncomputable def SetL(prog:Program)(w:World)(led:Bool)(h:Heap)(a:Addr)(S:Int->Bool)(n:Nat):Prop:=∃o es ep t,SetS prog w led h a S n o es ep t
section
variable{prog:Program}{w:World}{A:Around}{E:Value->Shared->Prop}{s:Shared}{led:Bool}{a:Addr}{S:Int->Bool}{n:Nat}
theorem SetL.move{h h':Heap}(x:SetL prog w led h a S n)(e:∀o,h.get? a=some o->h'.get? a=some o):SetL prog w led h' a S n :=
 let ⟨o,es,ep,t,z⟩:=x;⟨o,es,ep,t,{ z with got:=e _ z.got }⟩
theorem SetL.as{h:Heap}{S':Int->Bool}{n':Nat}(x:SetL prog w led h a S n)(e:∀k,S k=S' k)(en:n=n'):SetL prog w led h a S' n':=by have:S=S':=funext e;subst this en;exact x
theorem JbP{h:Heap}{o:Obj}{es:Array (Int×Value)}{ep:Nat}{t:SetTable}(ho:h.get? a=some o)(hex:o.ExactSet)(hd:o.data=.set es ep t){es':Array (Int×Value)}{t':SetTable}{S':Int->Bool}
 (h1:ElemsOf (intKind prog w) es'.toList) (h2:∀k,S' k=true↔∃e∈es'.toList,(intKind prog w).is k e.2=true) (h3:es'.size<scanBound) (h4:t'.fits es'.size=true) (h5:TOk led t') :
 SetS prog w led (h.update a (Obj.putSet es' t')) a S' es'.size { o with data:=.set es' (ep+1) t' } es' (ep+1) t' :=
 ⟨(SetOf_store (knd:=intKind prog w) ho hex hd h1 h2 h3 h4).1,hex,rfl,h1,h2,h3,h4,rfl,h5⟩
theorem JbS{g:Bool->Sem Unit}(hg:∀(b:Bool) (s1:Shared) (Q:Unit->Shared->Prop),Q () s1->wpAny (model prog w) A (g b) Q E s1)
 {o:Obj} {es:Array (Int×Value)} {ep:Nat} {t:SetTable} (ho:s.heap.get? a=some o) (hex:o.ExactSet) (hd:o.data=.set es ep t) {es1:Array (Int×Value)} {t2:SetTable} {S':Int->Bool}
 (h1:ElemsOf (intKind prog w) es1.toList) (h2:∀k,S' k=true↔∃e∈es1.toList,(intKind prog w).is k e.2=true) (h3:es1.size<scanBound) (h4:t2.fits es1.size=true) (h5:TOk led t2) {dm:Bool} {R:Option Bool->Shared->Prop}
 (h:∀h',Heap.SameBut a s.heap h'->SetL prog w led h' a S' es1.size->R (some true) { s with heap:=h' }) :
 wpAny (model prog w) A (storeSet a es1 t2 >>= fun _=>if (!dm && t2.tooFull)=true then
  (g (relayAll t2 es1 (SetTable.grown es1.size)).2.2 >>= fun _=>storeSet a (relayAll t2 es1 (SetTable.grown es1.size)).1 (relayAll t2 es1 (SetTable.grown es1.size)).2.1 >>= fun _=>pure (some true))
  else pure (some true)) R E s:=by
 refine wpAny_bind (wpAny_storeSet_of ho hd ?_ (fits_of_scanBound h3));have z:=JbP (prog:=prog) (w:=w) ho hex hd h1 h2 h3 h4 h5;have sb:=Heap.SameBut.update s.heap a (Obj.putSet es1 t2);split
 ·have hp:=relayAll_perm t2 es1 (SetTable.grown es1.size)
  have hf:=relayAll_fits t2 es1 (SetTable.grown es1.size)
  have hk:=Jfx h5 es1 (SetTable.grown es1.size)
  generalize relayAll t2 es1 (SetTable.grown es1.size)=T at hp hf hk ⊢
  obtain⟨es2,t3,gv⟩:=T;dsimp only at hp hf hk ⊢;have sz:es2.size=es1.size:=by rw[<- Array.length_toList,hp.length_eq,Array.length_toList]
  refine wpAny_bind (hg _ _ _ ?_);refine wpAny_bind (wpAny_storeSet_of z.got rfl ?_ (fits_of_scanBound (by rw[sz];exact h3)));have z2:=JbP (prog:=prog) (w:=w) (led:=led) (S':=S') (es':=es2) (t':=t3) z.got hex rfl (h1.perm hp) (fun k=>(h2 k).trans ⟨fun⟨e,he,q⟩=>⟨e,hp.mem_iff.mpr he,q⟩,fun⟨e,he,q⟩=>⟨e,hp.mem_iff.mp he,q⟩⟩) (by rw[sz];exact h3) hf hk;rw[sz] at z2;exact wpAny_pure (h _ (sb.trans (Heap.SameBut.update _ a _)) ⟨_,_,_,_,z2⟩)
 ·exact wpAny_pure (h _ sb ⟨_,_,_,_,z⟩)
theorem JjA{k:Int}{tk:Tok}{Q:Bool->Shared->Prop}(hS:SetL prog w led s.heap a S n)(room:n+1<scanBound)
 (h:∀h',Heap.SameBut a s.heap h'->SetL prog w led h' a (fun k'=>S k' || decide (k'=k)) (if S k then n else n+1)->Q (!S k) { s with heap:=h' }) :
 wpAny (model prog w) A (setAddHashed a (.int k tk) ((intKind prog w).hash k)) Q E s:=by
 have key:(intKind prog w).is k (.int k tk)=true:=intKind_is _ _ _ _;obtain⟨o,es,ep,t,z⟩:=hS
 have few1:es.size+1<scanBound:=by rw[z.size];exact room
 unfold setAddHashed setAddHashedIn;refine wpAny_holding (wpAny_bind (wpAny_setState_of z.got z.data z.fits ?_));dsimp only;rw[byScan_of (x:=.int k tk) rfl z.few z.els];simp only[↓reduceIte];unfold setAddByScan;refine wpAny_bind (wpAny_bind (wpAny_rule (wpAny_bind (wpAny_setScan_of key z.got z.data z.fits z.els ?_))))
 cases hr:List.findIdx? (fun e=>(intKind prog w).is k e.2) es.toList with
 | some j =>
  dsimp only;obtain⟨hj,hpj,_⟩:=List.findIdx?_eq_some_iff_getElem.mp hr;have yes:S k=true:=(z.mem k).mpr ⟨es.toList[j],List.getElem_mem hj,hpj⟩;refine wpAny_pure (wpAny_pure ?_)
  have:=h s.heap (Heap.SameBut.refl a s.heap) (SetL.as ⟨o,es,ep,t,z⟩ (fun k'=>by
   cases hk:S k' with
   | true=>rfl
   | false =>
    have:k'≠k:=fun e=>by rw[e,yes] at hk;cases hk
    simp[this]) (by rw[yes];rfl))
  rw[yes] at this;exact this
 | none =>
  dsimp only
  have no:S k=false:=by
   cases hk:S k with
   | false=>rfl
   | true=>obtain⟨e,he,hp⟩:=(z.mem k).mp hk;have:=List.findIdx?_eq_none_iff.mp hr e he;rw[hp] at this;cases this
  have hp:=layNew_perm t es ((intKind prog w).hash k) (.int k tk)
  have hf:=layNew_fits t es ((intKind prog w).hash k) (.int k tk)
  have ht:=JjK z.tok es ((intKind prog w).hash k) (.int k tk)
  generalize layNew t es ((intKind prog w).hash k) (.int k tk)=L at hp hf ht ⊢
  obtain⟨es1,t1,dm,gv⟩:=L;dsimp only at hp hf ht ⊢;rw[Array.toList_push] at hp;have e1:ElemsOf (intKind prog w) es1.toList:=(z.els.push key rfl).perm hp;have m1:=mem_push_iff key z.mem hp;have sz1:es1.size=n+1:=by rw[<- Array.length_toList,hp.length_eq,List.length_append,Array.length_toList,z.size];rfl
  have f1:es1.size<scanBound:=by rw[sz1];exact room
  have gw:∀(b:Bool) {s1:Shared} {Q':Unit->Shared->Prop},Q' () s1->wpAny (model prog w) A (match b with | true=>rule "set.scan.the-table-gave-way" | false=>pure ()) Q' E s1:=fun b s1 Q' hq=>by
   cases b
   ·exact wpAny_pure hq
   ·exact wpAny_rule hq
  refine wpAny_bind (gw _ ?_)
  have fin:∀h',Heap.SameBut a s.heap h'->SetL prog w led h' a (fun k'=>S k' || decide (k'=k)) es1.size->Q true { s with heap:=h' }:=by intro h' sb hS';have:=h h' sb;rw[no] at this;rw[sz1] at hS';exact this hS'
  split
  ·refine wpAny_bind ?_;rw[hashByValue_scannable 8 (x:=.int k tk) rfl];refine wpAny_pure ?_;refine JbS (led:=led) ?_ z.got z.ex z.data e1 m1 f1 ?_ ?_ ?_
   ·intro b s1 Q' hq;cases b <;> first|exact wpAny_pure hq|exact wpAny_rule hq
   ·split
    ·exact hf
    ·exact SetTable.fits_plain_off hf
   ·split
    ·exact ht
    ·exact JhC ht
   ·intro h' sb hS';dsimp only;exact wpAny_pure (fin h' sb hS')
  ·refine wpAny_bind (wpAny_pure ?_);simp only[↓reduceIte];refine JbS (led:=led) ?_ z.got z.ex z.data e1 m1 f1 hf ht ?_
   ·intro b s1 Q' hq;cases b <;> first|exact wpAny_pure hq|exact wpAny_rule hq
   ·intro h' sb hS';dsimp only;exact wpAny_pure (fin h' sb hS')
end
section
variable{prog:Program}{w:World}{A:Around}{R:Result->Shared->Prop}{I:Addr}{fp wr:List Addr}{G:Array GenState->Array GenState->Prop}{n:Nat}{P:Nat->Value->Prop}{St:Nat->Shared->Prop}
theorem Jhj{led:Bool}(W:WalksS prog w A.in1 I fp wr G n P St)(a:Addr)(hf:a∉fp)(val:Nat->Int)(hv:∀i v,P i v->∃t,v=.int (val i) t)(hb:n+1<scanBound) :
 ∀(k i:Nat) (s:Shared),n-i=k->i<=n->St i s->SetL prog w led s.heap a (fun k'=>(firstMet val i).any (· == k')) (firstMet val i).length ->
  (∀s',Moved (a::wr) G s s'->SetL prog w led s'.heap a (fun k'=>(firstMet val n).any (· == k')) (firstMet val n).length->R (.ok (.ret .none)) s') ->
  codeAny (model prog w) A (.builtin "set.update.loop" ⟨[.ref a,.ref I],[]⟩) R s:=by
 have hw:a∉wr:=fun h=>hf (W.sub _ h)
 have up:∀b∈wr,b∈a::wr:=fun b hb=>List.mem_cons_of_mem _ hb
 intro k
 induction k with
 | zero =>
  intro i s hk hi st hS hR;obtain rfl:i=n:=by omega
  refine codeAny_builtin F.entry_set_update_loop ?_;rw[Around.under_plainId F.plain_set_update_loop _];show wpAny _ A.in1 (pyNext (.ref I) >>= _) _ _ s;exact wpAny_bind (W.done s _ _ st fun s' hm=>wpAny_pure (hR s' (hm.mono up) (hS.move fun o e=>hm.heap a _ hw e)))
 | succ k ih =>
  intro i s hk hi st hS hR;have lt:i<n:=by omega
  refine codeAny_builtin F.entry_set_update_loop ?_;rw[Around.under_plainId F.plain_set_update_loop _];show wpAny _ A.in1 (pyNext (.ref I) >>= _) _ _ s;refine wpAny_bind (W.item i s _ _ lt st fun v s' hP st' hm=>?_);obtain⟨t,rfl⟩:=hv i v hP;have hS':=hS.move (h':=s'.heap) fun o e=>hm.heap a _ hw e
  show wpAny _ A.in1 (holding [Value.int (val i) t] (setAdd a (.int (val i) t)) >>= _) _ _ s';refine wpAny_bind (wpAny_holding ?_);unfold setAdd;refine wpAny_holding (wpAny_bind ((intKind prog w).pyHash (k:=val i) (intKind_is _ _ _ _) ?_))
  have room:(firstMet val i).length+1<scanBound:=by have:=firstMet_length_le val i;omega
  refine JjA (s:={ s' with toks:=s'.toks+1 }) hS' room fun h' sb hS2=>?_
  have hS3:=hS2.as (S':=fun k'=>(firstMet val (i+1)).any (· == k')) (n':=(firstMet val (i+1)).length) (fun k'=>by rw[firstMet_succ,step_any]) (by rw[firstMet_succ,step_length]);refine wpAny_pure ⟨plainId_quiet F.plain_set_update_loop _,ih (i+1) _ (by omega) lt (W.frame _ s' _ _ st' (Nat.le_succ _) fun b hb o e=>?_) hS3 fun s'' hm'' hS''=>?_⟩
  ·rw[sb.2 b (fun h:b=a=>hf (by rw[<- h];exact hb))];exact e
  ·refine hR s'' (Moved.trans W.gtrans ((hm.mono up).then_heap (Nat.le_succ _) fun b o hb e=>?_) hm'') hS'';rw[sb.2 b (fun h:b=a=>hb (by rw[h];exact List.mem_cons_self))];exact e
end
end L2

namespace L2
open PySem PyProof.Rows
noncomputable def YH(w:World):Bool:=!(w.params.followText "set-order")
noncomputable def Uf(led:Bool):Obj:={ cls:=.type "set",dict:=none,data:=.set #[] 0 (.fresh 0 0 led) }
section
variable{prog:Program}{w:World}{A:Around}{E:Value->Shared->Prop}{s:Shared}
theorem Jhi(led:Bool){h:Heap}{a:Addr}(e:h.get? a=some (Uf led)):SetL prog w led h a (fun _=>false) 0 :=
 ⟨_,#[],0,_,e,⟨rfl,rfl,rfl⟩,rfl,fun e he=>by simp at he,fun k=>by simp,by decide,by rfl,rfl,Jfw 0 0 led⟩
theorem JbR(a:Value){Q:Value->Shared->Prop}(h:Q (.ref s.heap.objs.size) { s with heap:=s.heap.push (Uf (YH w)) }) :
 codeAny (model prog w) A (.call (.builtin "set.__new__") ⟨[.type "set",a],[]⟩) (wants Q E) s:=by
 refine codeAny_of_tree ?_;show wpAny _ A.in1 (checkBuiltinCall "set.__new__" ⟨[.type "set",a],[]⟩ >>= fun _=>again (.builtin "set.__new__" ⟨[.type "set",a],[]⟩)) _ _ s;refine wpAny_bind (wpAny_of_eq (F.newCall_set_1 a) (wpAny_pure ⟨plainId_quiet F.plain_set_new _,codeAny_builtin F.entry_set_new ?_⟩));rw[Around.under_plainId F.plain_set_new _];unfold Builtin.«set.__new__» Builtin.Frozenset.newClass;have hsub:=sub_set_self;obtain⟨hp,g,d,tk,os⟩:=s;dsimp only;wp_walk;refine wpAny_askSetting (wpAny_pure ?_)
 dsimp only;simp only[newObj];exact wpAny_bind (wpAny_alloc (wpAny_pure (wpAny_pure h)))
theorem JeL{l:Addr}{items:Array Value}{ns:List Int}{Q:Value->Shared->Prop}(hh:A.handled=none)(hl:s.heap.IsList l items)(hi:IntsAre items.toList ns)(hb:items.size+1<scanBound)
 (h:∀(h':Heap) (tk:Nat),SetL prog w (YH w) h' s.heap.objs.size (fun k'=>(firstMet (fun i=>ns.getD i 0) items.size).any (· == k')) (firstMet (fun i=>ns.getD i 0) items.size).length ->
  (∀b o,s.heap.get? b=some o->h'.get? b=some o)->Q (.ref s.heap.objs.size) { s with heap:=h',toks:=tk }) :
 wpAny (model prog w) A (call (.type "set") [.ref l]) Q E s:=by
 obtain⟨c,tl,hmro⟩:=F.called_set.mro;have hmade:=F.called_set.made;have hsub:=F.called_set.sub;refine wpAny_call (codeAny_of_tree ?_);show wpAny _ _ (callAny (.type "set") _) _ _ _;refine wpAny_pure ⟨Code.quiet_builtin _ (by decide +kernel),codeAny_builtin F.entry_type_call ?_⟩;rw[Around.under_plain (weight_type_call_type "set" [.ref l] []) rfl];have n1:=F.called_set.notType;have n2:=F.called_set.canCreate;have n3:=F.typeCall_set_1 (.ref l)
 repeat (any_goals (first|assumption|wp_step))
 refine codeAny_mono (JbR (.ref l) (E:=E) (Q:=fun obj s1=>obj=.ref s.heap.objs.size/\s1={ s with heap:=s.heap.push (Uf (YH w)) }) ⟨rfl,rfl⟩) fun r s1 hr=>?_
 cases r with
 | error e=>exact hr
 | ok fl =>
  cases fl with
  | ret obj =>
   obtain⟨rfl,rfl⟩:=hr;have hS:(s.heap.push (Uf (YH w))).get? s.heap.objs.size=some (Uf (YH w)):=Heap.get?_push_size _ rfl;have hT:Shared.TypeIs { s with heap:=s.heap.push (Uf (YH w)) } (.ref s.heap.objs.size) "set":=⟨_,hS,rfl⟩
   have i1:=F.called_set.init.lookup
   have i2:=F.called_set.init.bind (.ref s.heap.objs.size)
   repeat (any_goals (first|assumption|wp_step))
   refine codeAny_mono (codeAny_call_builtin (R:=wants (fun r s2=>r=.none/\∃h' tk,s2={ s with heap:=h',toks:=tk } ∧
    SetL prog w (YH w) h' s.heap.objs.size (fun k'=>(firstMet (fun i=>ns.getD i 0) items.size).any (· == k')) (firstMet (fun i=>ns.getD i 0) items.size).length ∧
    (∀b o,s.heap.get? b=some o->h'.get? b=some o)) E) F.called_set.init.plain F.entry_set_init (check_set_init_1 hT ?_)) fun r2 s2 hr2=>?_
   ·obtain⟨ol,hol,hcl,nl,hdl⟩:=hl;obtain⟨oc,od,oda,osl⟩:=ol;simp only at hcl hdl;subst hcl;subst hdl;have hol':(s.heap.push (Uf (YH w))).get? l=some { cls:=.type "list",dict:=od,data:=.seq items nl,slots:=osl }:=Heap.get?_push_of_some _ hol;have b1:=F.sub_list_set;have b2:=F.sub_list_frozenset;have b3:(Value.type "list" == Value.type "dict")=false:=by decide
    have hl1:(s.heap.push (Uf (YH w))).IsList l items:=⟨_,hol',rfl,nl,rfl⟩
    unfold Builtin.«set.__init__» noKeywords Builtin.Frozenset.updateFrom
    generalize hPI:pyIter=PI
    wp_walk
    subst hPI;refine wpAny_pyIter_list hl1 (wpAny_bind (wpAny_runValue ?_));have lS:l<s.heap.objs.size:=Heap.lt_size hol;have hh3:A.in1.in1.in1.handled=none:=by simp[hh]
    have neI:l≠(s.heap.push (Uf (YH w))).objs.size:=by rw[Heap.size_push];exact Nat.ne_of_lt (Nat.lt_succ_of_lt lS)
    have off:s.heap.objs.size∉[(s.heap.push (Uf (YH w))).objs.size,l]:=by rw[Heap.size_push];simp only[List.mem_cons,List.mem_singleton,List.not_mem_nil,or_false,not_or];exact⟨Nat.ne_of_lt (Nat.lt_succ_self _),Nat.ne_of_gt lS⟩
    refine Jhj (led:=YH w) ((Walks.list hh3 _ l neI items).toS) s.heap.objs.size off (fun i=>ns.getD i 0) (fun i v hv=>IntsAre.int_at hi i v (by rw[Array.getElem?_toList];exact hv)) hb (items.size-0) 0 _ (by omega) (Nat.zero_le _)
     ⟨⟨_,Heap.get?_push_size _ rfl,rfl,rfl⟩,(hl1.push _)⟩ (Jhi _ (Heap.get?_push_of_some _ hS)) fun s' hm hS'=>?_
    obtain⟨h',g',d',tk',os'⟩:=s';have eg:g'=s.gens:=hm.gens;have ed:d'=s.drawn:=hm.drawn;have eo:os'=s.os:=hm.os;subst eg;subst ed;subst eo;show wpAny _ _ _ _ _ _;refine wpAny_pure ?_;show wpAny _ _ (ret Value.none) _ _ _;refine wpAny_pure ⟨rfl,h',tk',rfl,hS',fun b o e=>?_⟩;have hb0:=Heap.lt_size e;refine hm.heap b o ?_ (Heap.get?_push_of_some _ (Heap.get?_push_of_some _ e));rw[Heap.size_push];simp only[List.mem_cons,List.mem_singleton,List.not_mem_nil,or_false,not_or]
    exact⟨Nat.ne_of_lt hb0,Nat.ne_of_lt (Nat.lt_succ_of_lt hb0)⟩
   ·cases r2 with
    | error e=>exact hr2
    | ok fl2 =>
     cases fl2 with
     | ret r =>
      obtain⟨rfl,h',tk,rfl,hS',hk'⟩:=hr2
      repeat (any_goals (first|assumption|wp_step))
      exact h _ _ hS' hk'
     | _=>exact hr2.elim
  | _=>exact hr.elim
end
end L2

namespace L2
open PySem PyProof.Rows PySem.W
theorem si_slot_next:Slot "set_iterator" "__next__" "set_iterator.__next__" :=
 .of (owner:="set_iterator") (n:="__next__") (by rw[typeLookup_type,builtinLookup_eq_fast];kernel_rfl) (by decide +kernel) (by decide +kernel) (by decide +kernel) (.inl (by decide +kernel)) (by rw[isSubtype_type];kernel_rfl)
theorem U4:entryFor table "set_iterator.__next__"=some Builtin.«set_iterator.__next__»:=entryFor_of_tree (by kernel_rfl)
theorem JbU:Manifest.owners.lookup (String.ofList ['r','o','t','a','r','e','t','i','_','t','e','s'].reverse)=some Manifest.sig_set_iterator:=by kernel_rfl
theorem VA(a:Value):argsOk "set_iterator.__next__" ⟨[a],[]⟩:=by
 unfold argsOk;rw[signature?_of (id:="set_iterator.__next__") (n:=['_','_','t','x','e','n','_','_']) (o:=['r','o','t','a','r','e','t','i','_','t','e','s']) (by kernel_rfl) JbU]
 kernel_rfl
theorem VB:Slot "set_iterator" "__iter__" "set_iterator.__iter__" :=
 .of (owner:="set_iterator") (n:="__iter__") (by rw[typeLookup_type,builtinLookup_eq_fast];kernel_rfl) (by decide +kernel) (by decide +kernel) (by decide +kernel) (.inl (by decide +kernel)) (by rw[isSubtype_type];kernel_rfl)
theorem Zf:entryFor table "set_iterator.__iter__"=some Builtin.«dict_keyiterator.__iter__»:=entryFor_alias (id':="dict_keyiterator.__iter__") (by kernel_rfl) rfl (by decide +kernel) (by kernel_rfl)
theorem JaB(a:Value):argsOk "set_iterator.__iter__" ⟨[a],[]⟩:=by
 unfold argsOk;rw[signature?_of (id:="set_iterator.__iter__") (n:=['_','_','r','e','t','i','_','_']) (o:=['r','o','t','a','r','e','t','i','_','t','e','s']) (by kernel_rfl) JbU]
 kernel_rfl
theorem W1:entryFor table "set.__iter__"=some Builtin.«frozenset.__iter__»:=entryFor_alias (id':="frozenset.__iter__") (by kernel_rfl) rfl (by decide +kernel) (by kernel_rfl)
end L2

namespace L2
open PySem PyProof.Rows PySem.W
noncomputable def SIt(h:Heap)(I d:Addr)(f:Value)(i n ep:Nat):Prop:=∃o,h.get? I=some o/\o.cls=.type "set_iterator"/\o.data=.fields #[f,.int i 0,.ref d,.int n 0,.int ep 0]
section
variable{prog:Program}{w:World}{A:Around}{E:Value->Shared->Prop}{s:Shared}{I d:Addr}{f:Value}{i n ep:Nat}{es:Array (Int×Value)}{t:SetTable}{o:Obj}
theorem SIt.type{s:Shared}(x:SIt s.heap I d f i n ep):s.TypeIs (.ref I) "set_iterator":=let ⟨o,ho,hc,_⟩:=x;⟨o,ho,hc⟩
theorem SIt.at{h h':Heap}(x:SIt h I d f i n ep)(e:∀o,h.get? I=some o->h'.get? I=some o):SIt h' I d f i n ep:=let ⟨o,ho,r⟩:=x;⟨o,e _ ho,r⟩
theorem Jd9{Q:Value->Shared->Prop}(hit:SIt s.heap I d f i n ep)(h:Q (.ref I) s):wpAny (model prog w) A (pyIter (.ref I)) Q E s:=by refine wpAny_pyIter_slot hit.type VB (wpAny_call_entry VB hit.type Zf ?_ (JaB _));show wpAny _ _ (ret (.ref I)) _ _ s;exact wpAny_pure ⟨_,rfl,"set_iterator",_,hit.type,si_slot_next.lookup,h⟩
theorem Jea{Q:Option Value->Shared->Prop}(hh:A.handled=none){h1:Heap}(hx:∀h',Heap.ExtBut I s.heap h'->Q none { s with heap:=h' })(he:Heap.ExtBut I s.heap h1) :
 wpAny (model prog w) A.in1 (newExc (.type "StopIteration") [] >>= fun e=>raiseNew e) (fun(fin:Fin) s'=>∃r,fin=.done (.ret r)/\wpAny (model prog w) A (pure (some r)) Q E s') (fun e s'=>wpAny (model prog w) A (isInstance e (.type "StopIteration") >>= fun b=>if b=true then pure none else throw e) Q E s') { s with heap:=h1 }:=by
 refine wpAny_bind ?_;simp only[newExc,newTuple];refine wpAny_bind (wpAny_newObj_type ?_ (by size_fits));refine wpAny_bind (m:=firstArgMember _ _) (wpAny_of_eq (a:=Value.none) (by first | rfl | (simp only[firstArgMember];rfl)) ?_);refine wpAny_newObj_type ?_ (by size_fits);simp only[raiseNew];refine wpAny_bind (wpAny_handled ?_);rw[show A.in1.handled=none from hh];refine wpAny_bind (wpAny_pure (wpAny_throw ?_));refine wpAny_bind (wpAny_isInstance (T:="StopIteration") (b:=true) ⟨_,Heap.get?_push_size _ rfl,rfl⟩ isSubtype_stop ?_)
 exact wpAny_pure (hx _ ((he.push _).push _))
theorem Jd8{Q:Option Value->Shared->Prop}{sl:Nat}{r:Option (Value×Nat)}(hh:A.handled=none)(hit:SIt s.heap I d (.int sl 0) i es.size ep)(ho:s.heap.get? d=some o)(hd:o.data=.set es ep t)(hf:t.fits es.size=true)
 (nx:∀(A:Around) (E:Value->Shared->Prop) (Q:Option (Value×Nat)->Shared->Prop),Q r s->wpAny (model prog w) A (setNext d sl i ep) Q E s)
 (item:∀x j h',r=some (x,j)->SIt h' I d (.int j 0) (i+1) es.size ep->Heap.SameBut I s.heap h'->Q (some x) { s with heap:=h' })
 (done:r=none->∀h',Heap.ExtBut I s.heap h'->Q none { s with heap:=h' }):wpAny (model prog w) A (pyNext (.ref I)) Q E s:=by
 obtain⟨oi,hoi,hci,hdi⟩:=id hit;unfold pyNext;refine wpAny_bind (wpAny_attempt (wpAny_callSpecial?_slot (name:=Str.ofString "__next__") hit.type si_slot_next (wpAny_call_entry si_slot_next hit.type U4 ?_ (VA _))));unfold Builtin.«set_iterator.__next__»;refine wpAny_bind (wpAny_pure (wpAny_bind (wpAny_fieldsOf hoi hdi ?_)));show wpAny _ _ (setEntries d >>= _) _ _ s;refine wpAny_bind (wpAny_setEntries_of ho hd hf ?_);rw[if_neg (by simp)];show wpAny _ _ (setNext d ((sl:Int).toNat) ((i:Int).toNat) ((ep:Int).toNat) >>= _) _ _ s
 rw[Int.toNat_natCast,Int.toNat_natCast,Int.toNat_natCast];refine wpAny_bind (nx _ _ _ ?_)
 cases hr:r with
 | some p =>
  obtain⟨x,j⟩:=p;dsimp only;refine wpAny_bind (wpAny_setField hoi hdi (by simp) ?_);have h1:=Heap.get?_update_self (Obj.mapFields (·.setIfInBounds 0 (rawInt j))) hoi (Obj.isFreed_of_fields (Obj.data_mapFields hdi _));have d1:=Obj.data_mapFields hdi (·.setIfInBounds 0 (rawInt j));refine wpAny_bind (wpAny_setField h1 d1 (by simp) ?_);refine wpAny_pure ⟨_,rfl,wpAny_pure (item x j _ hr ⟨_,Heap.get?_update_self _ h1 (Obj.isFreed_of_fields (Obj.data_mapFields d1 _)),?_,?_⟩ ((Heap.SameBut.update ..).trans (Heap.SameBut.update ..)))⟩
  ·rw[Obj.cls_mapFields,Obj.cls_mapFields];exact hci
  ·rw[Obj.data_mapFields d1];simp[rawInt]
 | none=>dsimp only;refine wpAny_bind (wpAny_setField hoi hdi (by simp) ?_);exact Jea hh (done hr) (Heap.SameBut.update ..).extBut
theorem JbT{Q:Option Value->Shared->Prop}{T:Addr}{ps:List Nat}{oT:Obj}{cT:Nat}(hh:A.handled=none)(hit:SIt s.heap I d (.ref T) i es.size ep)(ho:s.heap.get? d=some o)(hd:o.data=.set es ep t)(hf:t.fits es.size=true)
 (hT:s.heap.get? T=some oT) (hTd:oT.data=.seq (ps.map fun(i:Nat)=>rawInt i).toArray cT)
 (item:∀p e h',ps[i]?=some p->es[p]?=some e->SIt h' I d (.ref T) (i+1) es.size ep->Heap.SameBut I s.heap h'->Q (some e.2) { s with heap:=h' }) (inn:∀p∈ps,p<es.size)
 (done:ps[i]?=none->∀h',Heap.ExtBut I s.heap h'->Q none { s with heap:=h' }):wpAny (model prog w) A (pyNext (.ref I)) Q E s:=by
 obtain⟨oi,hoi,hci,hdi⟩:=id hit;unfold pyNext;refine wpAny_bind (wpAny_attempt (wpAny_callSpecial?_slot (name:=Str.ofString "__next__") hit.type si_slot_next (wpAny_call_entry si_slot_next hit.type U4 ?_ (VA _))));unfold Builtin.«set_iterator.__next__»;refine wpAny_bind (wpAny_pure (wpAny_bind (wpAny_fieldsOf hoi hdi ?_)));show wpAny _ _ (setEntries d >>= _) _ _ s;refine wpAny_bind (wpAny_setEntries_of ho hd hf ?_);rw[if_neg (by simp)];show wpAny _ _ (seqItems? (.ref T) >>= _) _ _ s
 unfold seqItems?;refine wpAny_bind (wpAny_bind (wpAny_load hT ?_));rw[hTd];refine wpAny_pure ?_;dsimp only;rw[Int.toNat_natCast];have ee:(ps.map fun(i:Nat)=>rawInt i).toArray[i]?=(ps[i]?).map fun(i:Nat)=>rawInt i:=by simp
 rw[ee]
 cases hp:ps[i]? with
 | some p =>
  have hlt:=inn p (List.mem_of_getElem? hp)
  show wpAny _ _ (setNextDrawn d ((p:Int).toNat) ((ep:Int).toNat) >>= _) _ _ s;rw[Int.toNat_natCast,Int.toNat_natCast];unfold setNextDrawn;refine wpAny_bind (wpAny_bind (wpAny_setState_of ho hd hf ?_));dsimp only;rw[if_neg (by simp)];refine wpAny_bind (wpAny_pure ?_);rw[Array.getElem?_eq_getElem hlt];dsimp only;refine wpAny_pure ?_;refine wpAny_bind (wpAny_setField hoi hdi (by simp) ?_);refine wpAny_pure ⟨_,rfl,wpAny_pure (item p es[p] _ hp (Array.getElem?_eq_getElem hlt) ⟨_,Heap.get?_update_self _ hoi (Obj.isFreed_of_fields (Obj.data_mapFields hdi _)),?_,?_⟩ (Heap.SameBut.update ..))⟩
  ·rw[Obj.cls_mapFields];exact hci
  ·rw[Obj.data_mapFields hdi];simp[rawInt]
 | none =>
  show wpAny _ _ (setField (.ref I) 0 (rawInt 0) >>= _) _ _ s;refine wpAny_bind (wpAny_setField hoi hdi (by simp) ?_)
  have h1:=Heap.get?_update_self (Obj.mapFields (·.setIfInBounds 0 (rawInt 0))) hoi (Obj.isFreed_of_fields (Obj.data_mapFields hdi _))
  have d1:=Obj.data_mapFields hdi (·.setIfInBounds 0 (rawInt 0))
  generalize hg:s.heap.update I (Obj.mapFields (·.setIfInBounds 0 (rawInt 0)))=g at h1
  have sb:Heap.SameBut I s.heap g:=by rw[<- hg];exact Heap.SameBut.update ..
  generalize Obj.mapFields (·.setIfInBounds 0 (rawInt 0)) oi=oj at h1 d1
  refine wpAny_bind (wpAny_setField (s:={ s with heap:=g }) h1 d1 (by simp) ?_);exact Jea (s:=s) hh (done hp) (sb.trans (Heap.SameBut.update ..)).extBut
noncomputable def SHas(h:Heap)(d:Addr)(es:Array (Int×Value))(ep:Nat)(t:SetTable):Prop:=∃o,h.get? d=some o/\o.ExactSet/\o.data=.set es ep t
theorem SHas.at{h h':Heap}(x:SHas h d es ep t)(e:∀o,h.get? d=some o->h'.get? d=some o):SHas h' d es ep t:=let ⟨o,ho,r⟩:=x;⟨o,e _ ho,r⟩
theorem JjD{Q:Option (Value×Nat)->Shared->Prop}(bt:w.params.followText "set-order"=true)(hs:SHas s.heap d es ep t)(hf:t.fits es.size=true){sl:Nat}
 (h:Q (((pickOrder (w.params.setOrder d ep) es)[i]?).map fun e=>(e.2,sl)) s):wpAny (model prog w) A (setNext d sl i ep) Q E s:=by
 obtain⟨o,ho,_,hd⟩:=hs;unfold setNext setsByText;refine wpAny_bind (wpAny_setState_of ho hd hf (wpAny_bind (wpAny_bind (wpAny_askSetting (wpAny_pure ?_)))));show wpAny _ _ (if w.params.followText "set-order"=true then _ else _) _ _ s;rw[if_pos bt,if_neg (by simp)];refine wpAny_bind ?_;unfold setWalk setsByText;refine wpAny_bind (wpAny_setState_of ho hd hf (wpAny_bind (wpAny_bind (wpAny_askSetting (wpAny_pure ?_)))));show wpAny _ _ (if w.params.followText "set-order"=true then _ else _) _ _ s
 rw[if_pos bt];exact wpAny_bind (wpAny_askSetting (wpAny_pure (wpAny_pure h)))
noncomputable def JcY(t:SetTable)(i:Nat):Nat:=if i=0 then 0 else t.place.getD (i-1) 0+1
theorem Jhl{t:SetTable}(r:Ris t.place){i:Nat}(h:i<=t.place.size):SetTable.below t.place (JcY t i)=i:=by
 unfold JcY
 by_cases c:i=0
 ·rw[if_pos c,c];exact JfR r
 ·rw[if_neg c];have hi:i-1<t.place.size:=by omega
  have e:t.place.getD (i-1) 0=t.place[i-1]:=by simp[Array.getD,hi]
  rw[e,JfQ r hi];omega
theorem Jho{Q:Option (Value×Nat)->Shared->Prop}(bt:w.params.followText "set-order"=false)(hs:SHas s.heap d es ep t)(hf:t.fits es.size=true)(tok:TOk (YH w) t)(nd:(!t.plain && decide (es.size>1))=false)(hi:i<=es.size)
 (h:Q ((es[i]?).map fun e=>(e.2,JcY t (i+1))) s):wpAny (model prog w) A (setNext d (JcY t i) i ep) Q E s:=by
 obtain⟨o,ho,_,hd⟩:=hs;have hp:t.place.size=es.size:=by simp only[SetTable.fits,Bool.and_eq_true,beq_iff_eq] at hf;exact hf.1
 have ris:Ris t.place:=by
  cases c:t.plain with
  | true=>exact tok.1 c
  | false =>
   rw[c] at nd;have z:es.size<=1:=by simpa using nd
   unfold Ris;have:t.place.toList.length<=1:=by rw[Array.length_toList];omega
   match t.place.toList,this with
   | [],_=>exact .nil
   | [x],_=>exact List.pairwise_singleton _ _
 have led:t.led=true:=by rw[tok.2];unfold YH;rw[bt];rfl
 unfold setNext setsByText;refine wpAny_bind (wpAny_setState_of ho hd hf (wpAny_bind (wpAny_bind (wpAny_askSetting (wpAny_pure ?_)))));show wpAny _ _ (if w.params.followText "set-order"=true then _ else _) _ _ s;rw[if_neg (by rw[bt];exact Bool.false_ne_true)];show wpAny _ _ (if (!t.plain && decide (es.size>1))=true then _ else _) _ _ s;rw[if_neg (by rw[nd];exact Bool.false_ne_true)];refine wpAny_bind (m:=if (!t.led && !es.isEmpty)=true then _ else _) ?_;rw[if_neg (by rw[led];simp)]
 refine wpAny_pure ?_;dsimp only;rw[Jhl ris (by omega)];refine wpAny_pure ?_
 cases c:es[i]? with
 | none=>rw[c] at h;exact h
 | some e =>
  have hlt:i<t.place.size:=by rw[hp];exact(Array.getElem?_eq_some_iff.mp c).1
  rw[Array.getElem?_eq_getElem hlt];rw[c] at h
  have:JcY t (i+1)=t.place[i]+1:=by unfold JcY;rw[if_neg (by omega)];simp[Array.getD,hlt]
  rw[Option.map_some,this] at h;exact h
theorem JjC{Q:Value->Shared->Prop}(hh:A.handled=none)(hs:SHas s.heap d es ep t)(hf:t.fits es.size=true)(tok:TOk (YH w) t)(hz:es.size<=sizeLine)
 (h:∀(I:Addr) (h':Heap) (dr:Drawn) (ys:List Value) (fp:List Addr) (St:Nat->Heap->Prop),ys.Perm (es.toList.map (·.2))->s.heap.objs.size<=I->(∀b o,s.heap.get? b=some o->h'.get? b=some o) ->
  Walks prog w A I fp [I] es.size (fun i v=>ys[i]?=some v) St->St 0 h'->(∀b∈fp,s.heap.objs.size<=b\/b=d)->(∀b∈fp,b<h'.objs.size)->Q (.ref I) { s with heap:=h',drawn:=dr }) :
 wpAny (model prog w) A (pyIter (.ref d)) Q E s:=by
 obtain⟨o,ho,hex,hd⟩:=id hs;have hT:s.TypeIs (.ref d) "set":=⟨o,ho,hex.1⟩
 have dlt:d<s.heap.objs.size:=Heap.lt_size ho;refine wpAny_pyIter_slot hT F.slot_set_iter (wpAny_call_entry F.slot_set_iter hT W1 ?_ (F.args_set_iter_1 _));unfold Builtin.«frozenset.__iter__» Builtin.Frozenset.slot0 Builtin.Frozenset.sizeOf Builtin.Frozenset.addrOf;refine wpAny_bind (wpAny_bind (wpAny_pure (wpAny_pure ?_)));refine wpAny_bind (wpAny_bind (wpAny_setEntries_of ho hd hf (wpAny_pure ?_)));refine wpAny_bind ?_;unfold setDrawn setsByText;refine wpAny_bind (wpAny_setState_of ho hd hf (wpAny_bind (wpAny_bind (wpAny_askSetting (wpAny_pure (wpAny_pure ?_))))))
 show wpAny _ _ (if (!w.params.followText "set-order" && (!t.plain && decide (es.size>1)))=true then _ else _) _ _ s
 have one:∀(sl:Nat->Nat) (ys:List Value),sl 0=0->ys.Perm (es.toList.map (·.2))->ys.length=es.size ->
  (∀(i:Nat) (s:Shared),i<=es.size->SHas s.heap d es ep t->∀(A:Around) (E:Value->Shared->Prop) (Q:Option (Value×Nat)->Shared->Prop),Q ((ys[i]?).map fun v=>(v,sl (i+1))) s->wpAny (model prog w) A (setNext d (sl i) i ep) Q E s) ->
  Walks prog w A s.heap.objs.size [s.heap.objs.size,d] [s.heap.objs.size] es.size (fun i v=>ys[i]?=some v) (fun i h=>SIt h s.heap.objs.size d (.int (sl i) 0) i es.size ep/\SHas h d es ep t/\i<=es.size):=fun sl ys s0 pm yl nx=>{
  sub:=fun b hb=>by simp at hb;simp[hb]
  frame:=fun i h h' st hk=>⟨st.1.at fun o e=>hk _ (by simp) o e,st.2.1.at fun o e=>hk d (by simp) o e,st.2.2⟩
  item:=fun i s1 Q E hi st hQ=>by
   obtain⟨o1,ho1,_,hd1⟩:=id st.2.1;refine Jd8 hh st.1 ho1 hd1 hf (fun A E Q hq=>nx i s1 st.2.2 st.2.1 A E Q hq) (fun x j h' e hit' hs'=>?_) (fun e=>?_)
   ·obtain⟨v,e1,e2⟩:=Option.map_eq_some_iff.mp e;cases e2;exact hQ _ h' s1.toks e1 ⟨hit',st.2.1.at fun o x=>hs'.extBut d o (Nat.ne_of_lt dlt) x,hi⟩ fun b o hb x=>hs'.extBut b o (fun h=>hb (by simp[h])) x
   ·rw[Option.map_eq_none_iff,List.getElem?_eq_none_iff] at e;omega
  done:=fun s1 Q E st hQ=>by obtain⟨o1,ho1,_,hd1⟩:=id st.2.1;refine Jd8 hh st.1 ho1 hd1 hf (fun A E Q hq=>nx _ s1 st.2.2 st.2.1 A E Q hq) (fun x j h' e _ _=>?_) (fun _ h' he=>hQ h' s1.toks fun b o hb e=>he b o (fun h=>hb (by simp[h])) e);obtain⟨v,e1,e2⟩:=Option.map_eq_some_iff.mp e;have:=(List.getElem?_eq_some_iff.mp e1).1;omega
  self:=fun _ _ _ _ st hQ=>Jd9 st.1 hQ }
 have enter:∀(sl:Nat->Nat) (ys:List Value),sl 0=0->ys.Perm (es.toList.map (·.2))->ys.length=es.size ->
  (∀(i:Nat) (s:Shared),i<=es.size->SHas s.heap d es ep t->∀(A:Around) (E:Value->Shared->Prop) (Q:Option (Value×Nat)->Shared->Prop),Q ((ys[i]?).map fun v=>(v,sl (i+1))) s->wpAny (model prog w) A (setNext d (sl i) i ep) Q E s) ->
  Q (.ref s.heap.objs.size) { s with heap:=s.heap.push { cls:=.type "set_iterator",data:=.fields #[.int 0 0,.int 0 0,.ref d,.int es.size 0,.int ep 0] } }:=fun sl ys s0 pm yl nx=>by
  refine h s.heap.objs.size _ s.drawn ys [s.heap.objs.size,d] _ pm (Nat.le_refl _) (fun b o e=>Heap.get?_push_of_some _ e) (one sl ys s0 pm yl nx) ⟨⟨_,Heap.get?_push_size _ rfl,rfl,?_⟩,hs.at fun o e=>Heap.get?_push_of_some _ e,Nat.zero_le _⟩ (fun b hb=>?_) (fun b hb=>?_)
  ·rw[s0];rfl
  ·rcases List.mem_cons.mp hb with e|e
   ·exact .inl (Nat.le_of_eq e.symm)
   ·exact .inr (by simpa using e)
  ·rw[Heap.size_push];rcases List.mem_cons.mp hb with e|e
   ·rw[e];exact Nat.lt_succ_self _
   ·rw[List.mem_singleton.mp e];exact Nat.lt_succ_of_lt dlt
 cases bt:w.params.followText "set-order" with
 | true =>
  rw[if_neg (by simp)];refine wpAny_bind (wpAny_pure ?_);unfold setEpoch;refine wpAny_bind (wpAny_bind (wpAny_setState_of ho hd hf (wpAny_pure ?_)));refine wpAny_bind (wpAny_newObj_type ?_);refine wpAny_pure ⟨_,rfl,"set_iterator",_,⟨_,Heap.get?_push_size _ rfl,rfl⟩,si_slot_next.lookup,?_⟩;refine enter (fun _=>0) ((pickOrder (w.params.setOrder d ep) es).toList.map (·.2)) rfl ((ZG _ es).map _) (by rw[List.length_map,(ZG _ es).length_eq,Array.length_toList]) fun i s1 hi hs1 A E Q hq=>JjD bt hs1 hf ?_
  rw[List.getElem?_map,Array.getElem?_toList,Option.map_map] at hq;exact hq
 | false =>
  cases dw:(!t.plain && decide (es.size>1)) with
  | false =>
   rw[if_neg (by simp)];refine wpAny_bind (wpAny_pure ?_);unfold setEpoch;refine wpAny_bind (wpAny_bind (wpAny_setState_of ho hd hf (wpAny_pure ?_)));refine wpAny_bind (wpAny_newObj_type ?_);refine wpAny_pure ⟨_,rfl,"set_iterator",_,⟨_,Heap.get?_push_size _ rfl,rfl⟩,si_slot_next.lookup,?_⟩;refine enter (JcY t) (es.toList.map (·.2)) rfl (.refl _) (by rw[List.length_map,Array.length_toList]) fun i s1 hi hs1 A E Q hq=>Jho bt hs1 hf tok dw hi ?_
   rw[List.getElem?_map,Array.getElem?_toList,Option.map_map] at hq;exact hq
  | true =>
   rw[if_pos (by simp)];refine wpAny_bind (Zr _ _ _ _ (by rw[List.length_range]) fun ps dr pm=>?_);refine wpAny_bind (wpAny_newTuple (items:=ps.map fun(i:Nat)=>rawInt i) ?_ (by rw[List.length_map,pm.length_eq,List.length_range];exact hz));have hT1:(s.heap.push { cls:=.type "tuple",data:=.seq (ps.map fun(i:Nat)=>rawInt i).toArray }).get? s.heap.objs.size=some { cls:=.type "tuple",data:=.seq (ps.map fun(i:Nat)=>rawInt i).toArray }:=Heap.get?_push_size _ rfl
   have ho1:(s.heap.push { cls:=.type "tuple",data:=.seq (ps.map fun(i:Nat)=>rawInt i).toArray }).get? d=some o:=Heap.get?_push_of_some _ ho
   generalize hg:s.heap.push { cls:=.type "tuple",data:=.seq (ps.map fun(i:Nat)=>rawInt i).toArray }=g at hT1 ho1 ⊢
   have gz:g.objs.size=s.heap.objs.size+1:=by rw[<- hg,Heap.size_push]
   have gk:∀b o,s.heap.get? b=some o->g.get? b=some o:=fun b o e=>by rw[<- hg];exact Heap.get?_push_of_some _ e
   unfold setEpoch;refine wpAny_bind (wpAny_bind (wpAny_setState_of (s:={ s with heap:=g,drawn:=dr }) ho1 hd hf (wpAny_pure ?_)));refine wpAny_bind (wpAny_newObj_type ?_);refine wpAny_pure ⟨_,rfl,"set_iterator",_,⟨_,Heap.get?_push_size _ rfl,rfl⟩,si_slot_next.lookup,?_⟩;have inn:∀p∈ps,p<es.size:=fun p hp=>by simpa using pm.mem_iff.mp hp
   have pl:ps.length=es.size:=by rw[pm.length_eq,List.length_range]
   have dne:d≠g.objs.size:=by rw[gz];exact Nat.ne_of_lt (Nat.lt_succ_of_lt dlt)
   have tne:s.heap.objs.size≠g.objs.size:=by rw[gz];exact Nat.ne_of_lt (Nat.lt_succ_self _)
   refine h g.objs.size _ dr (ps.map fun p=>(es[p]?.map (·.2)).getD Value.none) [g.objs.size,d,s.heap.objs.size] (fun i h=>SIt h g.objs.size d (.ref s.heap.objs.size) i es.size ep/\SHas h d es ep t/\h.get? s.heap.objs.size=some { cls:=.type "tuple",data:=.seq (ps.map fun(i:Nat)=>rawInt i).toArray }) ?_ (by rw[gz];exact Nat.le_succ _) (fun b o e=>Heap.get?_push_of_some _ (gk b o e)) ?_ ⟨⟨_,Heap.get?_push_size _ rfl,rfl,rfl⟩,⟨o,Heap.get?_push_of_some _ ho1,hex,hd⟩,Heap.get?_push_of_some _ hT1⟩ (fun b hb=>?_) (fun b hb=>?_)
   ·refine(pm.map _).trans (.of_eq ?_);refine List.ext_getElem (by simp) fun i h1 h2=>?_
    have hi:i<es.size:=by simpa using h1
    simp[hi]
   ·exact {
     sub:=fun b hb=>by simp at hb;simp[hb]
     frame:=fun i h h' st hk=>⟨st.1.at fun o e=>hk _ (by simp) o e,st.2.1.at fun o e=>hk d (by simp) o e,hk _ (by simp) _ st.2.2⟩
     item:=fun i s1 Q E hi st hQ=>by
      obtain⟨o1,ho1,_,hd1⟩:=id st.2.1;refine JbT hh st.1 ho1 hd1 hf st.2.2 rfl (fun p e h' e1 e2 hit' hs'=>?_) inn (fun e=>?_)
      ·exact hQ _ h' s1.toks (by rw[List.getElem?_map,e1];simp[e2]) ⟨hit',st.2.1.at fun o x=>hs'.extBut d o dne x,hs'.extBut _ _ tne st.2.2⟩ fun b o hb x=>hs'.extBut b o (fun h=>hb (by simp[h])) x
      ·rw[List.getElem?_eq_none_iff] at e;omega
     done:=fun s1 Q E st hQ=>by obtain⟨o1,ho1,_,hd1⟩:=id st.2.1;refine JbT hh st.1 ho1 hd1 hf st.2.2 rfl (fun p e h' e1 _ _ _=>?_) inn (fun _ h' he=>hQ h' s1.toks fun b o hb e=>he b o (fun h=>hb (by simp[h])) e);have:=(List.getElem?_eq_some_iff.mp e1).1;omega
     self:=fun _ _ _ _ st hQ=>Jd9 st.1 hQ }
   ·simp only[List.mem_cons,List.not_mem_nil,or_false] at hb;rcases hb with e|e|e
    ·exact .inl (by rw[e,gz];exact Nat.le_succ _)
    ·exact .inr e
    ·exact .inl (Nat.le_of_eq e.symm)
   ·rw[Heap.size_push,gz];simp only[List.mem_cons,List.not_mem_nil,or_false] at hb;rcases hb with e|e|e
    ·rw[e,gz];exact Nat.lt_succ_self _
    ·rw[e];exact Nat.lt_succ_of_lt (Nat.lt_succ_of_lt dlt)
    ·rw[e];exact Nat.lt_succ_of_lt (Nat.lt_succ_self _)
end
end L2

namespace L2
open PySem PyProof.Rows PySem.W PySem.Spec
section
variable{prog:Program}{w:World}{A:Around}{E:Value->Shared->Prop}{s:Shared}{d:Addr}{ep:Nat}{es:Array (Int×Value)}{t:SetTable}
theorem Jgl{Q:Bool->Shared->Prop}(hT:s.TypeIs (.ref d) "set")(h:Q false s):wpAny (model prog w) A (Builtin.List.listLengthHint (.ref d)) Q E s:=by
 unfold Builtin.List.listLengthHint;refine wpAny_bind (wpAny_specialOf hT PySem.F.slot_set_len.lookup ?_)
 generalize hid:("set.__len__":String)=id0
 wp_delta
 rw[show splitId id0=some ("set","__len__") from by subst hid;decide +kernel];subst hid;refine wpAny_bind (wpAny_isInstance (T:="set") (b:=true) hT (by rw[isSubtype_type];kernel_rfl) ?_);refine wpAny_ite_split (fun hab=>absurd hab (by decide)) (fun _=>?_);refine wpAny_ite_split (fun _=>?_) (fun hab=>absurd (by decide +kernel) hab);exact wpAny_bind (wpAny_typeOf hT (wpAny_pure h))
theorem JcW{R:Result->Shared->Prop}(hh:A.handled=none)(hs:SHas s.heap d es ep t)(hf:t.fits es.size=true)(tok:TOk (YH w) t)(hz:es.size<=sizeLine)(S:Addr)(ne:S≠d)(res:Value)(hS:s.heap.get? S=some { cls:=.type "list",data:=.seq #[] })
 (hR:∀h' tk dr acc c,(∀b o,b≠S->s.heap.get? b=some o->h'.get? b=some o)->h'.get? S=some { cls:=.type "list",dict:=none,data:=.seq acc c,slots:=#[] }->acc.toList.Perm (es.toList.map (·.2))->R (.ok (.ret res)) { s with heap:=h',toks:=tk,drawn:=dr }) :
 wpAny (model prog w) A.in1 (Builtin.List.listExtendWith (.ref S) (.ref d) res)
  (fun fin s'=>match fin with|.done f=>R (.ok f) s'|.again c'=>c'.quiet=true/\codeAny (model prog w) A c' R s') (fun e s'=>R (.error e) s') s:=by
 obtain⟨o,ho,hex,hd⟩:=id hs;have hT:s.TypeIs (.ref d) "set":=⟨o,ho,hex.1⟩
 have Slt:S<s.heap.objs.size:=Heap.lt_size hS;unfold Builtin.List.listExtendWith;refine wpAny_bind (wpAny_typeOf (T:="set") hT ?_)
 have h1:Builtin.List.listSameRef (.ref S) (.ref d)=false:=by simp[Builtin.List.listSameRef,ne]
 have h2:(Value.type "set" == Value.type "list")=false:=by decide
 have h3:(Value.type "set" == Value.type "tuple")=false:=by decide
 simp only[h1,h2,h3,Bool.or_false,Bool.false_eq_true,if_false];refine wpAny_bind (JjC (A:=A.in1) hh hs hf tok hz fun I h' dr ys fp St pm le old W st fpo fpl=>?_);have SI:S∉fp:=fun m=>(fpo S m).elim (fun x=>absurd Slt (Nat.not_lt.mpr x)) fun x=>ne x
 have hS1:=old S _ hS
 have key:∀(g:Heap) (c1 tk:Nat),St 0 g->(∀b o,b≠S->s.heap.get? b=some o->g.get? b=some o)->g.get? S=some { cls:=.type "list",data:=.seq #[] c1 } ->
  codeAny (model prog w) A (.builtin "list.extend.loop" ⟨[.ref S,.ref I,res],[]⟩) R { s with heap:=g,toks:=tk,drawn:=dr }:=by
  intro g c1 tk st1 hk hS2;refine codeAny_extend_loopS W.toS hz S SI res es.size 0 _ #[] c1 rfl (Nat.zero_le _) st1 hS2 (ItemsOf.nil _) fun s' acc c' hm hS' hacc=>?_
  rw[Moved.eq_with hm];refine hR s'.heap s'.toks dr acc c' (fun b o hb e=>hm.heap b o (fun m=>?_) (hk b o hb e)) hS' ?_
  ·rcases List.mem_cons.mp m with e'|m
   ·exact hb e'
   ·rw[List.mem_singleton] at m;exact absurd (Heap.lt_size e) (Nat.not_lt.mpr (m▸le))
  ·have yl:ys.length=es.size:=by rw[pm.length_eq,List.length_map,Array.length_toList]
   have:acc.toList=ys:=List.ext_getElem (by rw[Array.length_toList,hacc.1,yl]) fun i a1 a2=>by have:ys[i]?=some acc.toList[i]:=hacc.2 i acc.toList[i] (by rw[<- Array.getElem?_toList];exact List.getElem?_eq_getElem a1);rw[List.getElem?_eq_getElem a2] at this;exact(Option.some.inj this).symm
   rw[this];exact pm
 refine wpAny_bind (wpAny_holding (Jgl (s:={ s with heap:=h',drawn:=dr }) ⟨o,old _ _ ho,hex.1⟩ ?_));refine wpAny_ite_split (fun _=>?_) (fun _=>wpAny_pure ⟨plainId_quiet PySem.F.plain_extend_loop _,key _ _ _ st (fun b o _ e=>old b o e) hS1⟩);refine wpAny_bind (wpAny_rule (wpAny_bind ?_));show wpAny _ _ (updateSeq S (·.push .none) >>= fun _=>updateSeq S (·.pop)) _ _ _;refine wpAny_bind (wpAny_updateSeq hS1 rfl ?_);have hS2:=Heap.get?_update_self (Obj.mapSeq (·.push Value.none)) hS1 rfl
 refine wpAny_updateSeq (hz:=by seq_fits) hS2 rfl ?_;have hS3:=Heap.get?_update_self (Obj.mapSeq (·.pop)) hS2 rfl;refine wpAny_pure ⟨plainId_quiet PySem.F.plain_extend_loop _,key _ _ _ ?_ (fun b o hb e=>?_) hS3⟩
 ·refine W.frame 0 _ _ st fun b hb o e=>?_
  have bS:b≠S:=fun h=>SI (h▸hb)
  exact(Heap.get?_update_other _ _ (Ne.symm bS)).trans ((Heap.get?_update_other _ _ (Ne.symm bS)).trans e)
 ·exact(Heap.get?_update_other _ _ (Ne.symm hb)).trans ((Heap.get?_update_other _ _ (Ne.symm hb)).trans (old b o e))
theorem JbQ{R:List Value->Shared->Prop}(hh:A.handled=none)(hs:SHas s.heap d es ep t)(hf:t.fits es.size=true)(tok:TOk (YH w) t)(hz:es.size<=sizeLine)
 (h:∀(h':Heap) (tk:Nat) (dr:Drawn) (acc:Array Value),(∀b o,s.heap.get? b=some o->h'.get? b=some o)->s.heap.objs.size<h'.objs.size->acc.toList.Perm (es.toList.map (·.2))->R acc.toList { s with heap:=h',toks:=tk,drawn:=dr }):wpAny (model prog w) A (collect (.ref d)) R E s:=by
 obtain⟨o,ho,hex,hd⟩:=id hs;have dlt:d<s.heap.objs.size:=Heap.lt_size ho;have old:∀b o,s.heap.get? b=some o->(s.heap.push { cls:=.type "list",data:=.seq ([]:List Value).toArray }).get? b=some o:=fun b o e=>Heap.get?_push_of_some _ e
 unfold collect;refine wpAny_bind (wpAny_runValue (codeAny_builtin entry_proto_collect' ?_));rw[Around.under_plainId PySem.F.plain_proto_collect _];show wpAny _ A.in1 (newList [] >>= fun l=>again (.builtin "list.__iadd__" ⟨[l,.ref d],[]⟩)) _ _ s;refine wpAny_bind (wpAny_newObj_type (wpAny_pure ⟨plainId_quiet PySem.F.plain_list_iadd _,codeAny_builtin entry_list_iadd' ?_⟩));rw[Around.under_plainId PySem.F.plain_list_iadd _];have at0:(s.heap.push { cls:=.type "list",data:=.seq ([]:List Value).toArray }).get? s.heap.objs.size=some { cls:=.type "list",data:=.seq #[] }:=Heap.get?_push_size _ rfl
 have fin:∀(h':Heap) (tk:Nat) (dr:Drawn) (acc:Array Value) (c:Nat),(∀b o,s.heap.get? b=some o->h'.get? b=some o)->h'.get? s.heap.objs.size=some { cls:=.type "list",dict:=none,data:=.seq acc c,slots:=#[] }->acc.toList.Perm (es.toList.map (·.2)) ->
  wpAny (model prog w) A (load s.heap.objs.size >>= fun o=>match o.data with | .seq xs _=>pure xs.toList | _=>unsupported "internal:collect") R E { s with heap:=h',toks:=tk,drawn:=dr }:=fun h' tk dr acc c hk hS hi=>wpAny_bind (wpAny_load hS (wpAny_pure (h h' tk dr acc hk (Heap.lt_size hS) hi)))
 have got:=JcW (prog:=prog) (A:=A) (s:={ s with heap:=s.heap.push { cls:=.type "list",data:=.seq ([]:List Value).toArray } }) (R:=fun q s'=>∃h' tk dr acc c,q=.ok (.ret (.ref s.heap.objs.size))/\s'={ s with heap:=h',toks:=tk,drawn:=dr }/\(∀b o,s.heap.get? b=some o->h'.get? b=some o)/\h'.get? s.heap.objs.size=some { cls:=.type "list",dict:=none,data:=.seq acc c,slots:=#[] }/\acc.toList.Perm (es.toList.map (·.2)))
  hh (hs.at fun o e=>old _ o e) hf tok hz s.heap.objs.size (Nat.ne_of_gt dlt) (.ref s.heap.objs.size) at0 (fun h' tk dr acc c hk hS hi=>⟨h',tk,dr,acc,c,rfl,rfl,fun b o e=>hk b o (Nat.ne_of_lt (Heap.lt_size e)) (old b o e),hS,hi⟩)
 refine wpAny_mono got (fun f s' x=>?_) fun e s' ⟨_,_,_,_,_,z,_⟩=>nomatch z
 cases f with
 | done f=>obtain⟨h',tk,dr,acc,c,e,rfl,hk,hS,hi⟩:=x;cases e;exact fin h' tk dr acc c hk hS hi
 | again c1=>exact⟨x.1,codeAny_mono x.2 fun q s2 ⟨h',tk,dr,acc,c,e1,e2,hk,hS,hi⟩=>by subst e1;subst e2;exact fin h' tk dr acc c hk hS hi⟩
end
noncomputable def fM(ns:List Int):List Int:=firstMet (fun i=>ns.getD i 0) ns.length
theorem Jds(ns:List Int):fM ns=ns.foldl step_dedup []:=by
 unfold fM firstMet;congr 1;refine List.ext_getElem (by simp) fun i h1 h2=>?_
 simp[List.getD_eq_getElem?_getD,h2]
theorem Ja0:∀(ns acc:List Int),acc.Nodup->(ns.foldl step_dedup acc).Nodup
 | [],acc,h=>h
 | n::ns,acc,h=>by
  rw[List.foldl_cons];refine Ja0 ns _ ?_;unfold step_dedup;split
  ·exact h
  ·rename_i c;refine List.nodup_append.mpr ⟨h,by simp,fun a ha b hb=>?_⟩;rw[List.mem_singleton] at hb;subst hb;intro e;subst e;exact c (List.any_eq_true.mpr ⟨a,ha,by simp⟩)
theorem Jf2:∀(ns acc:List Int) (k:Int),k∈ns.foldl step_dedup acc↔k∈acc\/k∈ns
 | [],acc,k=>by simp
 | n::ns,acc,k=>by
  rw[List.foldl_cons,Jf2 ns];unfold step_dedup;split
  ·rename_i c;obtain⟨x,hx,e⟩:=List.any_eq_true.mp c;have:x=n:=by simpa using e
   subst this;simp only[List.mem_cons];constructor
   ·exact fun h=>h.elim .inl fun h=>.inr (.inr h)
   ·rintro(h|h|h)
    ·exact .inl h
    ·exact .inl (h▸hx)
    ·exact .inr h
  ·simp only[List.mem_append,List.mem_cons,List.not_mem_nil,or_false,or_assoc]
theorem WD(ns:List Int):(fM ns).Nodup:=by rw[Jds];exact Ja0 ns [] List.nodup_nil
theorem JkG(ns:List Int)(k:Int):k∈fM ns↔k∈ns:=by rw[Jds,Jf2];simp
theorem Jgd(ns:List Int):(fM ns).length<=ns.length:=firstMet_length_le _ _
theorem Wd:∀{a b:List Int},a.Nodup->(∀x∈a,x∈b)->b.length=a.length->b.Perm a
 | [],b,_,_,h=>by have:b=[]:=List.eq_nil_of_length_eq_zero (by simpa using h);rw[this]
 | x::a,b,nd,sub,h=>by
  have hx:=sub x List.mem_cons_self
  have pb:=List.perm_cons_erase hx;refine pb.trans (List.Perm.cons x ?_)
  have nd':=List.nodup_cons.mp nd;refine Wd nd'.2 (fun y hy=>?_) (by rw[List.length_erase_of_mem hx,h];simp);rcases List.mem_cons.mp (pb.mem_iff.mp (sub y (List.mem_cons_of_mem _ hy))) with e|e
  ·exact absurd (e▸hy) nd'.1
  ·exact e
theorem Ja9{prog:Program}{w:World}:∀{l:List (Int×Value)},ElemsOf (intKind prog w) l->∃ks:List Int,IntsAre (l.map (·.2)) ks
 | [],_=>⟨[],.nil⟩
 | e::l,h=>by obtain⟨ks,r⟩:=Ja9 h.tail;obtain⟨⟨k,hk,_⟩,_⟩:=h.head;obtain⟨tk,e2⟩:=Value.isInt_shape (show Value.isInt k e.2=true from hk);refine⟨k::ks,?_⟩;rw[List.map_cons,e2];exact .cons k tk r
theorem Jba{x:Int}:∀{vs:List Value} {ks:List Int},IntsAre vs ks->∀v∈vs,Value.isInt x v=true->x∈ks
 | _,_,.nil,v,h,_=>by simp at h
 | _,_,.cons n t r,v,h,e=>by
  rcases List.mem_cons.mp h with q|q
  ·subst q;obtain⟨tk,e2⟩:=Value.isInt_shape e
   injection e2 with e2
   subst e2;exact List.mem_cons_self
  ·exact List.mem_cons_of_mem _ (Jba r v q e)
theorem JeZ{a b:List Value}(p:a.Perm b):∀{ks:List Int},IntsAre a ks->∃ks',IntsAre b ks'/\ks'.Perm ks:=by
 induction p with
 | nil=>intro ks r;exact⟨ks,r,.refl _⟩
 | cons x p ih =>
  intro ks r
  cases r with
  | cons n t r=>obtain⟨ks',r',q⟩:=ih r;exact⟨n::ks',.cons n t r',q.cons n⟩
 | swap x y l =>
  intro ks r
  cases r with
  | cons n t r=>cases r with
   | cons m u r=>exact⟨m::n::_,.cons m u (.cons n t r),List.Perm.swap _ _ _⟩
 | trans p q ih1 ih2=>intro ks r;obtain⟨k1,r1,q1⟩:=ih1 r;obtain⟨k2,r2,q2⟩:=ih2 r1;exact⟨k2,r2,q2.trans q1⟩
theorem Jhk{prog:Program}{w:World}{led:Bool}{h:Heap}{a:Addr}{ns:List Int}(x:SetL prog w led h a (fun k=>(fM ns).any (· == k)) (fM ns).length) :
 ∃es ep t ks,SHas h a es ep t/\t.fits es.size=true/\TOk led t/\es.size=(fM ns).length/\IntsAre (es.toList.map (·.2)) ks/\ks.Perm (fM ns):=by
 obtain⟨o,es,ep,t,z⟩:=x;obtain⟨ks,r⟩:=Ja9 z.els;refine⟨es,ep,t,ks,⟨o,z.got,z.ex,z.data⟩,z.fits,z.tok,z.size,r,?_⟩;refine Wd (WD ns) (fun y hy=>?_) ?_
 ·obtain⟨e,he,hi⟩:=(z.mem y).mp (List.any_eq_true.mpr ⟨y,hy,by simp⟩);exact Jba r e.2 (List.mem_map.mpr ⟨e,he,rfl⟩) hi
 ·have:=IntsAre.length r;rw[List.length_map,Array.length_toList] at this;rw[<- this,z.size]
noncomputable def Jjz(X:Cx)(l:Addr)(ns:List Int):HO:=.ext fun h=>SetL X.prog X.w (YH X.w) h l (fun k=>(fM ns).any (· == k)) (fM ns).length
noncomputable def Jj0(X:Cx):List V->Hp->VK->Prop:=fun xs H Q=>∃a ns,xs=[.ref a]/\SqL X.K H a (ns.map V.int)/\ns.length+1<scanBound/\∀l,H l=none->Q (.ref l) (upd H l (Jjz X l ns))
noncomputable def JlJ(X:Cx):List V->Hp->VK->Prop:=fun xs H Q=>∃r ns,xs=[.ref r]/\H r=some (Jjz X r ns)/\ns.length<64/\∀l,H l=none->Q (.ref l) (upd H l (.lst ((Yc (fM ns)).map V.int)))
section
variable{X:Cx}
theorem Inv.drew{pins:List (Addr×Obj)}{σ:List (Option V)}{H:Hp}{s:Shared}{d:Drawn}(I:Inv X pins σ H s):Inv X pins σ H { s with drawn:=d } :=
 ⟨I.ok,I.os,I.bare,I.base,I.loc,I.cell,I.free,I.freeC,I.pin,I.hok,I.len⟩
theorem JeM(hc:X.calm=true):CallR X (.type "set") (Jj0 X):=by
 intro pins s σ H xs us Q I r h;obtain⟨a,ns,rfl,hq,hb,q⟩:=h;obtain⟨u,rfl,rx⟩:=U5 r;cases rx;obtain⟨its,r',pl,hz⟩:=I.list hq;have hh:X.A.handled=none:=I.ok.hd hc;have hi:=Y4 r';have il:its.length=ns.length:=IntsAre.length hi;have hne:H s.heap.objs.size=none:=I.hok.fresh (Nat.le_refl _);refine JeL (ns:=ns) hh pl.isList hi (by rw[List.size_toArray,il];exact hb) fun h' tk hS old=>?_
 have ez:its.toArray.size=ns.length:=by rw[List.size_toArray,il]
 rw[ez] at hS;refine⟨.ref s.heap.objs.size,_,I.laid (t':=tk) (o:=Jjz X s.heap.objs.size ns) old (Nat.le_refl _) ⟨hS,?_,fun h1 h2 p k=>p.move k⟩,rfl,q _ hne⟩;obtain⟨o,_,_,_,z⟩:=hS;exact⟨o,z.got⟩
theorem Jcj(hc:X.calm=true):CallR X (.builtin "sorted") (JlJ X):=by
 intro pins s σ H xs us Q I r h;obtain⟨p,ns,rfl,ds,h64,q⟩:=h;obtain⟨u,rfl,rx⟩:=U5 r;cases rx;have z:=(show ObjOk X.prog X.w H s.heap p (Jjz X p ns) from I.hok p _ ds).1;obtain⟨es,ep,t,ks,hs,hf,tok,sz,ri,pm⟩:=Jhk z;have hh:X.A.in1.handled=none:=I.ok.hd hc;have fl:=Jgd ns;have room:∀n:Nat,n<64->n<=sizeLine:=fun n h=>by show n<=16777216;omega
 refine Calls.call_function_entry kind_sorted plain_sorted entry_sorted (args_sorted1 _) ?_;unfold Builtin.«sorted»;refine wpAny_bind (m:=checkCount "sorted" 1 1 _) (wpAny_pure ?_);refine wpAny_bind (JbQ hh hs hf tok (room _ (by omega)) fun h' tk dr acc hk hsz pa=>?_);obtain⟨k2,hI,p2⟩:=JeZ pa.symm ri;have pk:=p2.trans pm;have hal:acc.toList.length=(fM ns).length:=by rw[IntsAre.length hI,pk.length_eq]
 refine wpAny_bind (wpAny_newList ?_ (room _ (by omega)));have hoL:(h'.push (seqObj "list" acc.toList.toArray 0)).get? h'.objs.size=some (seqObj "list" acc.toList.toArray 0):=Heap.get?_push_size _ rfl;refine wpAny_bind (wpAny_holding (wpAny_call_entry slot_list_sort ⟨_,hoL,rfl⟩ entry_list_sort (list_sort_tree hoL hI (by omega) fun out ns' a1 a2 a3=>⟨_,rfl,?_⟩) (args_list_sort _)));refine wpAny_pure ⟨_,rfl,?_⟩;have e0:ns'=Yc (fM ns):=V3 ((a2.trans pk).trans (J1 _).symm) a3 (VD _)
 subst e0;obtain⟨e,he⟩:=sortedHeap_at (out:=out) hoL;have hle:s.heap.objs.size<=h'.objs.size:=Nat.le_of_lt hsz;have hne:H h'.objs.size=none:=I.hok.fresh hle;have hn:((Yc (fM ns)).map V.int).length<=sizeLine:=by rw[List.length_map,(J1 _).length_eq];exact room _ (by omega)
 refine⟨.ref h'.objs.size,_,(I.drew (d:=dr)).laid (t':=tk) (fun b o x=>?_) hle (show ObjOk X.prog X.w _ _ _ (.lst ((Yc (fM ns)).map V.int)) from⟨hn,out.toList,e,VM a1,?_⟩),rfl,q _ hne⟩
 ·have hx:=hk b o x
  have hlt:b<h'.objs.size:=Heap.lt_size hx;rw[sortedHeap_old (Nat.ne_of_lt hlt) (by rw[size_push'];exact Nat.lt_succ_of_lt hlt)];exact Heap.get?_push_of_some _ hx
 ·rw[he]
noncomputable def tUp(te:TE):TE:=fun σ H Q=>∃A:VK,te σ H A/\∀x H1,A x H1->Q x H1
theorem Jm5{e:Expr}{te:TE}(h:PE X e te):PE X e (tUp te):=by intro pins s σ H Q I ⟨A,h1,h2⟩;exact thn (h pins s σ H A I h1) fun v s1 ⟨x,H1,I1,r1,a⟩=>⟨x,H1,I1,r1,h2 x H1 a⟩
theorem PE.imp{e:Expr}{t1 t2:TE}(h:PE X e t1)(i:∀σ H Q,t2 σ H Q->t1 σ H Q):PE X e t2:=fun pins s σ H Q I x=>h pins s σ H Q I (i σ H Q x)
end
noncomputable def Jhv(K:Frag)(te:TE):TE:=fun σ H Q=>te σ H fun x H1=>∃a ns,x=.ref a/\SqL K H1 a (ns.map V.int)/\ns.length<64/\∀l o l',H1 l=none->upd H1 l o l'=none->Q (.ref l') (upd (upd H1 l o) l' (.lst ((Yc (fM ns)).map V.int)))
section
variable{X:Cx}{e:Expr}{te:TE}{p1 p2 q1 q2:Pos}
theorem Jlv(hc:X.calm=true)(hg:Gl X "set")(hm:X.mg "set"=none)(he:PE X e te)(h1:starEach [e] X.env=(false,eval e X.env)::starEach [] X.env:=by rfl):PE X (.Call (.Name "set" p1) [e] [] q1) (tCB (Jj0 X) (VE (tUp te) JaG)) :=
 Um (JeM hc) hg hm (by rfl) (Ja (Jm5 he) Je h1) (he:=h1)
theorem JgO{K:Frag}(hK:X.K=K)(hc:X.calm=true)(hg:Gl X "sorted")(hm:X.mg "sorted"=none)(hg2:Gl X "set")(hm2:X.mg "set"=none)(he:PE X e te)(h1:starEach [e] X.env=(false,eval e X.env)::starEach [] X.env:=by rfl)
 (h2:starEach [Expr.Call (.Name "set" p1) [e] [] q1] X.env=(false,eval (.Call (.Name "set" p1) [e] [] q1) X.env)::starEach [] X.env:=by rfl):PE X (.Call (.Name "sorted" p2) [.Call (.Name "set" p1) [e] [] q1] [] q2) (Jhv K te):=by
 subst hK;refine PE.imp (J4 (Jcj hc) hg hm (by rfl) (Ja (Jlv hc hg2 hm2 he h1) Je h2) (he:=h2)) fun σ H Q h=>⟨_,h,?_⟩
 rintro x H1 ⟨a,ns,rfl,hq,h64,q⟩;exact⟨a,ns,rfl,hq,by show ns.length+1<4096;omega,fun l hl=>⟨l,ns,rfl,Jo,h64,fun l' hl'=>q l _ l' hl hl'⟩⟩
end
end L2

namespace LE
open PySem L2 LR
noncomputable def Jcn(a:Ev):Ev:=fun E=>(a E).bind fun s=>s.r.bind fun ds=>(ints? ds).bind fun ns=>if ns.length<64 then some (.own ((Yc (fM ns)).map .int)) else none
section
variable{K:Frag}{C:Addr}{td:TE}{ed:Ev}
theorem Jjs(ha:SE K C td ed):SE K C (Jhv K td) (Jcn ed):=by
 intro B H0 H σ E r Q I e q;obtain⟨s,e1,e⟩:=bind_some e;obtain⟨ds,e2,e⟩:=bind_some e;obtain⟨ns,e3,e⟩:=bind_some e;split at e
 ·next h64 =>
  cases e;refine ha B H0 H σ E s _ I e1 fun x H1 H1' s1 r1=>?_
  obtain⟨l,ys,rfl,h,r2⟩:=r1.r s1.i e2;rw[YW e3] at r2;have:=r2.ints;subst this;refine⟨l,ns,rfl,h,h64,fun w o l' hw hl'=>?_⟩;have st:Step H1' H1 H1' H1 (upd H1' w o):=⟨.new hw,Same.refl _,fun _ _ e=>.inl e,s1.i.trans (.new hw)⟩
  have s2:=s1.trans st;exact UY s2.i s2.h hl' (JbH _) fun v H2 H2' s3 r3=>q v H2 H2' (s2.comp s3 fun _ y=>y) r3
 ·cases e
end
end LE

namespace L2
open PySem PyProof.Rows PySem.W PySem.Spec
noncomputable def JjZ:R2:=fun x y H Q=>∃a b,x=.bl a/\y=.bl b/\Q (.bl (!decide (a=b))) H
section
variable{X:Cx}
theorem Wq:OpR X (compareOp .IsNot) JjZ:=by
 intro pins s σ H x y v u Q I rx ry h;obtain⟨a,b,rfl,rfl,q⟩:=h;cases rx;cases ry;have e:∀a b:Bool,wpAny (model X.prog X.w) X.A (compareOp .IsNot (.bool a) (.bool b)) (EP X pins σ Q) X.xe s=wpAny (model X.prog X.w) X.A (pure (Value.bool (!(Value.bool a == Value.bool b)))) (EP X pins σ Q) X.xe s:=fun a b=>rfl
 rw[e];exact wpAny_pure (Jz I q (by cases a <;> cases b <;> rfl))
end
end L2
namespace LE
open PySem L2 LR
noncomputable def Uw:Sl->Sl->Option Sl
 | .sh (.bl a),.sh (.bl b)=>some (.sh (.bl (!decide (a=b))))
 | _,_=>none
theorem Jcr(a b:Bool):Uw (.sh (.bl a)) (.sh (.bl b))=some (.sh (.bl (!decide (a=b)))):=rfl
section
variable{K:Frag}{C:Addr}
theorem Vt:OpS K C JjZ Uw:=by
 intro Hs H0 H x y a b c Q i hs ra rb e q;unfold Uw at e;split at e
 ·cases e;exact⟨_,_,RD.blI ra,RD.blI rb,q _ _ _ (.refl i) (RD.bl _)⟩
 ·cases e
end
end LE

end
open L2 LR
local macro_rules | `(tactic| walk_at "side")=>`(tactic| first | decide | exact⟨by decide,by decide,by decide⟩ | exact⟨by decide,by decide⟩ | (show(0:Int)<_;omega) | (show(0:Int)<_/\_<(1073741824:Int);omega) | exact Or.inl ⟨by omega,by omega⟩ | exact Or.inr ⟨by omega,by omega⟩ | assumption)
local macro_rules | `(tactic| walk_at "rd1")=>`(tactic| with_reducible first | refine Jl5 ?_ | refine JlM ?_ | refine JlR ?_ | refine Jl3 ?_ | refine Jjb ?_ | refine Jjh ?_ | refine Jnj ?_ | refine Jnm ?_ | refine Jjl ?_ | refine Jnl ?_ | refine Jjm ?_ | refine JlL ?_ | refine Jnk ?_ | refine Jl1 ?_ | refine Jjj ?_ | refine Ji9 ?_ | refine Jl2 ?_ | refine JlQ ?_ | refine Jja ?_ | refine Jl0 ?_ | refine Jng ?_ | refine Jd1 ?_ | refine LR.Jd3 ?_ | refine Jl6 ?_ | refine JlW ?_ | refine Jni ?_ | refine Jg8 ?_ | refine Jjd ?_ | refine Jg7 ?_ | refine Jjc ?_ | refine JlP ?_ | refine Jjk ?_ | refine Jg6 ?_ | refine Jl8 ?_ | refine JnP ?_ | refine Jnh ?_ | refine JnR ?_ | refine Ji8 ?_ | refine JlN ?_ | refine JlY ?_ | refine JlO ?_ | refine JlZ ?_ | refine JlS ?_ | refine Jji ?_ | refine JlX ?_ | refine Jg9 ?_ | refine Exists.intro _ (And.intro (LR.Jmt _ _ _) ?_))
local macro_rules | `(tactic| walk_at "rd2")=>`(tactic| first | ((with_reducible refine JnQ ?hc ?_);(case hc=>walk_at "side")) | ((with_reducible refine Jl7 (v:=?vv) ?hx ?_);(case hx=>exact rfl)) | (with_reducible refine Exists.intro _ (And.intro (Eq.refl (V.bl _)) ?_)))
local macro_rules | `(tactic| walk_at "rd")=>`(tactic| repeat (first | walk_at "rd1" | walk_at "rd2"))
noncomputable section
namespace LK
open PySem L2 LR LE
noncomputable def JZ:List Sl->Option Sl:=YS 1 (Y9 (Yu (JiE true (aC (e1 Uh (Jd 0)) (aC (eSl (e1 Uh (Jd 0)) (some (eC (.int 1))) none) a0))) (.tp (.cons (.nm 0) (.cons (.nm 1) .nil))) yes? (e2 Ux (e2 fIx (Jd 1) (eC (.int 0))) (eF Jcv (aC (Jd 0) a0))) [none,none]))
noncomputable def J8:List Sl->Option Sl:=YS 2 (JB (JN 1 (Yu (iE true (e1 Uh (Jd 0))) (.tp (.cons (.nm 0) (.cons (.nm 1) .nil))) yes? (Jd 1) [none,none]))
 (Y9 (eF Jiq (aC (Yu (Jgm true (aC (Jd 1) (aC (eSl (Jd 1) (some (eC (.int 1))) none) (aC (eU 1 JZ (aC (Jd 0) a0)) a0)))) (.tp (.cons (.nm 0) (.cons (.nm 1) (.cons (.nm 2) .nil)))) yes? (Jkq (e2 fLe (Jd 0) (Jd 1)) (e2 fLe (Jd 0) (Jd 2))) [none,none,none]) a0))))
noncomputable def JW:List Sl->Option Sl:=YS 1 (Y9 (eF Za (aC (Yu (JiD true (aC (e1 Uh (Jd 0)) a0)) (.tp (.cons (.nm 0) (.cons (.nm 1) .nil))) yes? (Uv (aC (e2 Ux (e2 Ux (eC (.int 1)) (Jd 0)) (Jd 1)) (aC (Jd 1) a0))) [none,none]) a0)))
noncomputable def Y3:List Sl->Option Sl:=YS 1 (Y9 (eU 1 J8 (aC (eU 1 JW (aC (Jd 0) a0)) a0)))
noncomputable def JY:List Sl->Option Sl:=YS 1 (Y9 (eF Jcv (aC (Yu (iE true (e1 Uh (Jd 0))) (.tp (.cons (.nm 0) (.cons (.nm 1) .nil))) yes? (Jd 1) [none,none]) a0)))
noncomputable def J3:List Sl->Option Sl:=YS 1 (xIf (tAnd? (tB? (e2 Jai (Jd 0) (eC .non))) (tB? (e2 fLt (Jd 0) (eC (.int 1))))) JhN VO)
noncomputable def Ug:List Sl->Option Sl:=YS 9 (JB (JhL (eU 1 J3 (aC (Jd 1) a0)))
 (JB (JN 2 (eIf (tB? (e2 fIs (Jd 1) (eC .non))) (eU 1 JY (aC (Jd 0) a0)) (Jd 1)))
 (JB (Jb9 3 (Jah a0))
 (JB (JN 4 (eC (.int 0)))
 (JB (Jc8 (JiE false (aC (e1 Uh (Jd 0)) (aC (e2 Ya (eU 1 JZ (aC (Jd 0) a0)) (Jah (aC (Jd 2) a0))) a0))) (.tp (.cons (.nm 5) (.cons (.nm 6) .nil))) (JB (JN 7 (eF Jcu (aC (e2 fIx (Jd 5) (eC (.int 1))) (aC (e2 Ux (Jd 2) (Jd 4)) a0))))
 (JB (JN 8 (eF Jcu (aC (e2 Ya (Jd 4) (Jd 7)) (aC (Jd 6) a0))))
 (JB (JN 4 (e2 Ux (e2 Ya (Jd 4) (Jd 7)) (Jd 8)))
 (Jc6 3 (e2 Ya (Jd 5) (Uv (aC (Jd 7) (aC (Jd 8) a0)))))))))
 (UD 3))))))
noncomputable def Uc:List Sl->Option Sl:=YS 2 (Y9 (eF Za (aC (Yu (iE true (eU 2 Ug (aC (Jd 0) (aC (Jd 1) a0)))) (.tp (.cons (.nm 0) (.cons (.nm 1) (.cons (.nm 2) (.cons (.nm 3) .nil))))) yes? (Uv (aC (e2 Ya (Jd 0) (Jd 2)) (aC (e2 Ya (e2 Ux (Jd 1) (Jd 2)) (Jd 3)) a0))) [none,none,none,none]) a0)))
noncomputable def UT:List Sl->Option Sl:=YS 2 (Y9 (eU 1 JW (aC (eU 2 Uc (aC (eU 1 JW (aC (Jd 0) a0)) (aC (Jd 1) a0))) a0)))
noncomputable def Yd:List Sl->Option Sl:=YS 1 (Y9 (Yu (JiD true (aC (Jd 0) a0)) (.tp (.cons (.nm 0) (.cons (.nm 1) .nil))) yes? (Uv (aC (e2 Ux (e2 Ux (eC (.int 1)) (Jd 0)) (Jd 1)) (aC (Jd 1) a0))) [none,none]))
noncomputable def J7:List Sl->Option Sl:=YS 5 (JB (Jb9 1 (Jah a0))
 (JB (Jc8 (iV 0) (.tp (.cons (.nm 2) (.cons (.nm 3) .nil))) (xIf (tAnd? (tTru? (Jd 1)) (tB? (e2 fEq (eF Jcv (aC (e2 fIx (Jd 1) (e1 JeT (eC (.int 1)))) a0)) (Jd 2)))) (JB (JjO 1 4 some)
 (Jc6 1 (Uv (aC (e2 fIx (Jd 4) (eC (.int 0))) (aC (e2 Ya (e2 fIx (Jd 4) (eC (.int 1))) (Jd 3)) a0))))) (xIf (tB? (e2 fGt (Jd 3) (eC (.int 0)))) (Jc6 1 (Uv (aC (Jd 2) (aC (Jd 3) a0)))) VO)))
 (UD 1)))
noncomputable def J6:List Sl->Option Sl:=YS 2 (Y9 (Yu (JdB true (aC (e1 Uh (Jd 0)) a0)) (.tp (.cons (.nm 0) (.cons (.nm 1) .nil))) yes? (Uv (aC (e2 Ya (e2 fIx (Jd 1) (eC (.int 0))) (e2 W9 (e2 W9 (eC (.int 2)) (Jd 2)) (Jd 0))) (aC (e2 Ya (e2 fIx (Jd 1) (eC (.int 1))) (Jd 2)) a0))) [none,none,some 1]))
noncomputable def JG:List Sl->Option Sl:=YS 1 (Y9 (eF Jdt (aC (e2 Ya (Yu (iE true (e1 Uh (Jd 0))) (.tp (.cons (.nm 0) (.cons (.nm 1) .nil))) yes? (Jd 1) [none,none]) (eU 1 JZ (aC (Jd 0) a0))) a0)))
noncomputable def JS:List Sl->Option Sl:=YS 5 (JB (JN 2 (eF Za (aC (e1 Uh (Jd 0)) a0)))
 (JB (JN 3 (Jd 1))
 (JB (Yp (tAnd? (tB? (e2 fGt (Jd 3) (eC (.int 0)))) (tTru? (e1 Uh (Jd 2)))) (JB (JN 4 (eF Jcu (aC (Jd 3) (aC (eU 1 JG (aC (Jd 2) a0)) a0))))
 (JB (JN 2 (eF Za (aC (eU 1 J7 (aC (eU 2 J6 (aC (Jd 2) (aC (e1 JeT (Jd 4)) a0))) a0)) a0)))
 (Jc7 (fun i j=>i-j) 3 (Jd 4)))) 1000000)
 (UD 2))))
noncomputable def Ys:List Sl->Option Sl:=YS 2 (Y9 (eF Jis (aC (Yu (iE true (e1 Uh (Jd 0))) (.tp (.cons (.nm 0) (.cons (.nm 1) .nil))) yes? (Jcm fLe fLt (Jd 0) (Jd 2) (e2 Ya (Jd 0) (Jd 1))) [none,none,some 1]) a0)))
noncomputable def YI:List Sl->Option Sl:=YS 2 (Y9 (eIf (tAnd? (tTru? (eU 2 Ys (aC (Jd 0) (aC (e2 Ux (Jd 1) (eC (.int 1))) a0)))) (tNot? (tTru? (eU 2 Ys (aC (Jd 0) (aC (Jd 1) a0)))))) (eC (.int 1)) (eC (.int 0))))
noncomputable def YJ:List Sl->Option Sl:=YS 6 (JB (JN 1 (eU 2 JS (aC (Jd 0) (aC (eC (.int 1)) a0))))
 (JB (Jb9 2 Jdo)
 (JB (Jc8 (JdB false (aC (e1 Uh (Jd 0)) a0)) (.tp (.cons (.nm 3) (.cons (.nm 4) .nil))) (JB (JN 5 (e2 Ux (e2 Ux (eF Jcv (aC (Jd 4) a0)) (eC (.int 1))) (e2 W9 (eC (.int 2)) (Jd 3))))
 (Jb8 2 (Jd 5) (e2 Ya (Jaf (Jd 2) (Jd 5) (eC (.int 0))) (eC (.int 1))))))
 (Jew 2 (Y9 (Yu (Jcz (Jd 2)) (.tp (.cons (.nm 0) (.cons (.nm 1) .nil))) yes? (Uv (aC (Jd 0) (aC (Jd 1) (aC (eU 2 YI (aC (Jd 2) (aC (Jd 0) a0))) a0)))) [none,none,some 1]))))))
noncomputable def Yx:List Sl->Option Sl:=YS 5 (JB (Jb9 1 (Jah a0))
 (JB (JN 2 (Jd 0))
 (JB (JN 3 (eC (.int 0)))
 (JB (Yp (tTru? (e1 Uh (Jd 2))) (JB (JN 4 (eU 1 JG (aC (Jd 2) a0)))
 (JB (Jc7 (fun i j=>i+j) 3 (Jd 4))
 (JB (JN 2 (eU 2 JS (aC (Jd 2) (aC (e2 Ux (Jd 4) (eC (.int 1))) a0))))
 (JB (JhM 1 (Yu (iE true (eU 1 YJ (aC (Jd 2) a0))) (.tp (.cons (.nm 0) (.cons (.nm 1) (.cons (.nm 2) .nil)))) (tB? (e2 fGt (Jd 1) (Jd 2))) (Uv (aC (Jd 3) (aC (Jd 0) (aC (e2 Ux (Jd 1) (Jd 2)) a0)))) [none,none,none,some 3]))
 (JN 2 (eU 2 JS (aC (Jd 2) (aC (eC (.int 1)) a0)))))))) 1000000)
 (UD 1)))))
noncomputable def Yw:List Sl->Option Sl:=YS 5 (JB (Jb9 1 Jdo)
 (JB (Jc8 (iE false (eU 1 Yx (aC (Jd 0) a0))) (.tp (.cons (.nm 2) (.cons (.nm 3) (.cons (.nm 4) .nil)))) (Jb8 1 (Jd 2) (e2 Ya (Jaf (Jd 1) (Jd 2) (eC (.int 0))) (Jd 4))))
 (Y9 (Jag (Jd 1)))))
noncomputable def JK:List Sl->Option Sl:=YS 2 (JB (xIf (tB? (e2 fLt (Jd 1) (eF Jaj (aC (Jd 0) a0)))) (Y9 (e2 fIx (Jd 0) (Jd 1))) VO)
 (Y9 (eC (.int 0))))
noncomputable def Yv:List Sl->Option Sl:=YS 7 (JB (Jb9 3 (Jah a0))
 (JB (JN 4 (e2 Ux (e2 Ja6 (eU 2 JK (aC (Jd 0) (aC (eC (.int 1)) a0))) (e2 Ya (e2 W9 (eC (.int 2)) (Jd 2)) (eC (.int 1)))) (Jd 2)))
 (JB (JN 5 (eF Wn (aC (Yu (iR1 (aC (Jd 1) a0)) (.nm 0) yes? (e2 Ya (eC (.int 1)) (e2 Ja6 (eU 2 JK (aC (Jd 2) (aC (e2 Ya (eC (.int 2)) (e2 W9 (eC (.int 2)) (Jd 0))) a0))) (Jd 1))) [none,some 2,some 0]) a0)))
 (JB (Jc8 (iR1 (aC (Jd 1) a0)) (.nm 6) (JB (Jc6 3 (Uv (aC (Jd 4) (aC (e2 fIx (Jd 5) (Jd 6)) a0))))
 (JN 4 (e2 Ya (e2 Ya (Jd 4) (e2 W9 (eC (.int 2)) (e2 fIx (Jd 5) (Jd 6)))) (e2 fIx (Jah (aC (eC (.int 0)) (aC (eC (.int 1)) (aC (e2 Ja6 (eU 2 JK (aC (Jd 0) (aC (e2 Ya (eC (.int 3)) (e2 W9 (eC (.int 2)) (Jd 6))) a0))) (Jd 2)) a0)))) (e2 Ja6 (e2 Jiu (eU 2 JK (aC (Jd 0) (aC (e2 Ya (eC (.int 3)) (e2 W9 (eC (.int 2)) (Jd 6))) a0))) (eC (.int 7))) (eC (.int 3))))))))
 (UD 3)))))
noncomputable def Jcq:List Sl->Option Sl:=YS 6 (JB (JN 1 (eU 2 JK (aC (Jd 0) (aC (eC (.int 0)) a0))))
 (JB (JN 2 (eU 3 Yv (aC (Jd 0) (aC (e2 Ya (eC (.int 1)) (e2 Ja6 (Jd 1) (eC (.int 30)))) (aC (e2 fIx (Jah (aC (eC (.int 7)) (aC (e2 JkH (eC (.int 10)) (eC (.int 30))) a0))) (e2 Ja6 (e2 Jiu (Jd 1) (eC (.int 30))) (eC (.int 2)))) a0)))))
 (JB (JN 3 (eF Za (aC (Jd 2) a0)))
 (JB (JN 4 (eU 2 Uc (aC (Jd 3) (aC (eC .non) a0))))
 (JB (xIf (tOr? (tB? (e2 Uw (eU 1 J8 (aC (Jd 3) a0)) (eC (.bl true)))) (tB? (e2 Uw (eU 1 J8 (aC (Jd 4) a0)) (eC (.bl true))))) (Y9 (eC (.bl false))) VO)
 (JB (xIf (tB? (e2 fNe (e1 Uh (Jd 4)) (eF WE (aC (Yu (iE true (Jd 2)) (.tp (.cons (.nm 0) (.cons (.nm 1) .nil))) yes? (Uv (aC (e2 Ya (Jd 0) (Jd 1)) (aC (Jd 1) a0))) [none,none]) a0)))) (Y9 (eC (.bl false))) VO)
 (JB (JN 5 (Yu (iE true (Jd 2)) (.tp (.cons (.nm 0) (.cons (.nm 1) .nil))) yes? (Jd 1) [none,none]))
 (JB (xIf (tB? (e2 fNe (eU 1 Yw (aC (Jd 3) a0)) (Yu (iE true (Jcn (Jd 5))) (.nm 0) yes? (Uv (aC (Jd 0) (aC (eMI Jdr (Jd 1) (Jd 0)) a0))) [none,some 5]))) (Y9 (eC (.bl false))) VO)
 (JB (JN 2 (eU 1 Yd (aC (Jd 2) a0)))
 (JB (JN 3 (eF Za (aC (Jd 2) a0)))
 (JB (JN 4 (eU 2 UT (aC (Jd 3) (aC (eC .non) a0))))
 (JB (xIf (tOr? (tB? (e2 Uw (eU 1 Y3 (aC (Jd 3) a0)) (eC (.bl true)))) (tB? (e2 Uw (eU 1 Y3 (aC (Jd 4) a0)) (eC (.bl true))))) (Y9 (eC (.bl false))) VO)
 (Y9 (e2 fEq (e1 Uh (Jd 4)) (eF WE (aC (Yu (iE true (Jd 2)) (.tp (.cons (.nm 0) (.cons (.nm 1) .nil))) yes? (Uv (aC (e2 Ux (Jd 0) (Jd 1)) (aC (Jd 1) a0))) [none,none]) a0))))))))))))))))
end LK
end
namespace LK
open PySem L2 LR LE
local macro_rules | `(tactic| omega)=>`(tactic| first | lia | omega (config:={}))
local macro_rules | `(tactic| walk_at "sd")=>`(tactic| first | omega (config:={}) | assumption | (simp only[List.length_append,List.length_map,List.length_reverse,List.length_cons,List.length_nil,List.length_singleton];omega (config:={})))
local macro_rules | `(tactic| walk_at "ev")=>`(tactic| simp -implicitDefEqProofs (disch:=walk_at "sd") only[YS,Jeb,Int.reduceToNat,List.length_cons,List.length_nil,Nat.reduceAdd,Nat.reduceSub,Nat.reduceLT,Nat.reduceLeDiff,Nat.lt_irrefl,Nat.zero_lt_succ,Nat.succ_lt_succ_iff,List.reduceReplicate,List.cons_append,List.nil_append,List.append_nil,List.set_cons_zero,List.set_cons_succ,List.getElem?_cons_succ,List.getElem?_cons_zero,List.length_map,List.length_reverse,List.length_set,Option.bind_some,Option.map_some,Option.bind_none,Option.map_none,if_true,if_false,ite_true,ite_false,decide_true,decide_false,Bool.not_true,Bool.not_false,Bool.and_true,Bool.true_and,reduceIte,reduceCtorEq,Bool.false_eq_true,List.map_cons,List.map_nil,if_pos,
 JB,xIf,Y9,UD,VO,Jb9,JN,JhL,Jc6,JhM,JjO,Jc7,Jdo,Sl.dt,pr?,JmZ,Jaf,Jb8,Jew,Jcz,Jag,Jcn,lst?,JmG,eMI,Sl.dk,int?,JkI,Jc8,tB?,tTru?,tAnd?,tOr?,tNot?,Jms,e2,e1,Jd,eF,eC,aC,a0,eU,Wr,Sl.pass,Uv,Jah,WF,Sl.frz,Jkq,eIf,Jcm,sh?,bool?,str?,keep?,tyN,D.isRow,Jlh,Jlg,Jjx,Jjy,Jjv,Jjw,Jh7,Jh8,
 JmO,Jix,Jiw,Jiv,Jiz,Jiy,Jih,Jio,Jil,Jik,Jif,Jie,Jim,Jin,Jii,Jig,Jij,JkE,JkC,JkB,JkF,JkA,JkD,JmR,JmQ,JmT,JmP,JmS,WE,Jcu,Uh,Sl.q,Sl.r,Sl.m,Sl.d,Sl.it,fEq,fNe,Jkw,Jky,Jkv,Jkx,Jkt,Jku,Jks,fIs,Jai,Jcr,Je3,Je1,Jgp,Je5,Je6,Je2,Jgq,Je4,iE,iV,iR1,Yu,Vr,JiE,Jgm,JiD,JdB,Wn,Jdt,WL,eSl,WB,fSl,JkM,JkL,Jhn,Jk1,JiH,Jk0,Jk4,Jk2,Jk3,JmD,JmE,JhU,JfJ,JnC,JnD,JnE,JnF,JnG,eq_self])
noncomputable section
theorem Jaq(ns:List Int)(k:Int)(hk:0<=k):JK [.sh (.fz (ns.map .int)),.sh (.int k)]=some (.sh (.int (cell ns k))):=by
 unfold JK;walk_at "ev"
 by_cases h:k<(ns.length:Int)
 ·simp only[h,ZW,JaR hk h];walk_at "ev"
 ·simp only[h,JfZ h];walk_at "ev"
theorem Good.cons'{p:Pr}{ps:List Pr}(g:Good (p::ps)):Good ps:=⟨fun i q e=>g.one (i+1) q (by simpa using e),fun i q r e1 e2=>g.gap (i+1) q r (by simpa using e1) (by simpa using e2)⟩
theorem Good.all{ps:List Pr}(g:Good ps):∀p∈ps,1<=p.2:=fun p hp=>by obtain⟨i,hi,e⟩:=List.mem_iff_getElem.mp hp;exact g.one i p (by simp[hi,e])
theorem Good.first{p:Pr}:∀{ps:List Pr},Good (p::ps)->∀q∈ps,p.1+p.2<q.1
 | [],_,q,hq=>nomatch hq
 | r::ps,g,q,hq=>by
  have h1:=g.gap 0 p r rfl rfl;rcases List.mem_cons.mp hq with z|z
  ·rw[z];exact h1
  ·have h2:=Good.first (Good.cons' g) q z
   have h3:=g.one 1 r rfl;omega
theorem Good.pw:∀{ps:List Pr},Good ps->ps.Pairwise fun p q=>p.1+p.2<q.1
 | [],_=>.nil
 | p::ps,g=>.cons (Good.first g) (Good.pw (Good.cons' g))
theorem JfO{α:Type}{xs:List α}{x:α}(h:xs[xs.length-1]?=some x):atI xs (-1)=some x:=by
 have hl:=(List.getElem?_eq_some_iff.mp h).1;unfold atI ixN;rw[if_neg (by omega),if_pos (by omega)]
 have:((-1:Int)+(xs.length:Int)).toNat=xs.length-1:=by omega
 rw[this];exact h
theorem Jcs(p:Pr):fIx (.sh (prE p)) (.sh (.int 0))=some (.sh (.int p.1)):=rfl
theorem Jct(p:Pr):fIx (.sh (prE p)) (.sh (.int 1))=some (.sh (.int p.2)):=rfl
theorem Jap(ps:List Pr)(h:ps.length<=1000):JY [.sh (.row (ps.map prE))]=some (.sh (.int (ps.map (·.2)).sum)):=by
 unfold JY;walk_at "ev";rw[JJ (g:=fun p=>D.int p.2)]
 ·walk_at "ev";rw[Wo (ns:=ps.map (·.2)) (by simp[Sl.q])];walk_at "ev"
 ·intro p hp;simp only[prE];walk_at "ev"
noncomputable def J2:List Pr->List Int
 | []=>[]
 | [_]=>[]
 | p::q::r=>(q.1-(p.1+p.2))::J2 (q::r)
theorem Zs:∀ps:List Pr,J2 ps=(List.zip ps (ps.drop 1)).map fun pq=>pq.2.1-(pq.1.1+pq.1.2)
 | []=>rfl
 | [_]=>rfl
 | p::q::r=>by rw[J2,Zs (q::r)];rfl
theorem Ui:∀ps:List Pr,(J2 ps).length=ps.length-1
 | []=>rfl
 | [_]=>rfl
 | p::q::r=>by rw[J2,List.length_cons,Ui (q::r)];simp
theorem JaZ{α:Type}(xs:List α):Jcl xs (some 1) none=xs.drop 1:=by
 unfold Jcl;have e:HT.sIx xs.length 0 (some 1)=min 1 xs.length:=rfl;rw[e,show HT.sIx xs.length xs.length none=xs.length from rfl]
 cases xs with
 | nil=>rfl
 | cons x xs=>simp
theorem JcD(ps:List Pr)(h:ps.length<=1000):JZ [.sh (.row (ps.map prE))]=some (.own ((J2 ps).map .int)):=by
 unfold JZ;walk_at "ev";rw[JaZ,<- List.map_drop,Jez];walk_at "ev";have hz:(List.zip ps (ps.drop 1)).length<=16777216:=by rw[List.length_zip];omega
 rw[if_pos hz,JJ (g:=fun pq=>D.int (pq.2.1-(pq.1.1+pq.1.2)))]
 ·walk_at "ev";rw[Zs,List.map_map];rfl
 ·intro pq _;walk_at "ev";rw[Jcs];walk_at "ev";rw[Wo (ns:=[pq.1.1,pq.1.2]) rfl];walk_at "ev";simp
noncomputable def U3:Option Int->D
 | none=>.non
 | some s=>.int s
noncomputable def Ud(ps:List Pr):Option Int->Int
 | none=>(ps.map (·.2)).sum
 | some s=>s
structure Stp where
 b:Int
 l:Int
 t:Int
 s:Int
noncomputable def Jmf(x:Stp):D:=.tup [.int x.b,.int x.l,.int x.t,.int x.s]
noncomputable def stF(most:Int):Int->List (Pr×Int)->List Stp
 | _,[]=>[]
 | load,(p,g)::r=>⟨p.1,p.2,min p.2 (most-load),min (load+min p.2 (most-load)) g⟩::stF most (load+min p.2 (most-load)-min (load+min p.2 (most-load)) g) r
noncomputable def V4(ps:List Pr)(seats:Option Int):List Stp:=stF (Ud ps seats) 0 (List.zip ps (J2 ps++[Ud ps seats]))
theorem Jee(most:Int):∀(l:List (Pr×Int)) (load:Int),(stF most load l).length=l.length
 | [],_=>rfl
 | (p,g)::r,load=>by rw[stF,List.length_cons,Jee most r];rfl
theorem ZL(ps:List Pr)(seats:Option Int):(V4 ps seats).length=ps.length:=by unfold V4;rw[Jee,List.length_zip,List.length_append,Ui];simp;omega
noncomputable def OkS(seats:Option Int):Prop:=∀s,seats=some s->1<=s
theorem JiK(seats:Option Int)(h:OkS seats):J3 [.sh (U3 seats)]=some (.sh .non):=by
 unfold J3
 cases seats with
 | none=>simp only[U3];walk_at "ev"
 | some s =>
  have:=h s rfl
  have h1:¬s<1:=by omega
  simp only[U3];walk_at "ev";simp only[h1];walk_at "ev"
theorem Jip(p:Pr)(x y:D):Ya (.sh (prE p)) (.sh (.tup [x,y]))=some (.sh (.tup [.int p.1,.int p.2,x,y])):=by simp[Ya,prE,Jeb]
theorem JiM(ps:List Pr)(seats:Option Int)(h:ps.length<=1000)(hs:OkS seats):Ug [.sh (.row (ps.map prE)),.sh (U3 seats)]=some (.own ((V4 ps seats).map Jmf)):=by
 unfold Ug;walk_at "ev";rw[JiK _ hs];walk_at "ev"
 have hm:(if (U3 seats).isNon=true then JY [.sh (.row (ps.map prE))] else some (.sh (U3 seats)))=some (.sh (.int (Ud ps seats))):=by
  cases seats with
  | none=>exact Jap ps h
  | some s=>rfl
 rw[hm];walk_at "ev";rw[JcD _ h];have hgl:=Ui ps;walk_at "ev";have e1:(J2 ps).map D.int++[D.int (Ud ps seats)]=(J2 ps++[Ud ps seats]).map D.int:=by simp
 rw[e1,Jez,Option.bind_assoc];have hzl:(List.zip ps (J2 ps++[Ud ps seats])).length<=1000:=by rw[List.length_zip];omega (config:={})
 refine Uj (f:=fun x:Pr×Int=>D.tup [prE x.1,.int x.2]) (fun(rest:List (Pr×Int)) (st:List Stp×Int) E=>∃j5 j6 j7 j8,E=[.sh (.row (ps.map prE)),.sh (U3 seats),.sh (.int (Ud ps seats)),.own (st.1.map Jmf),.sh (.int st.2),j5,j6,j7,j8]/\st.1++stF (Ud ps seats) st.2 rest=V4 ps seats/\st.1.length+rest.length<=1000)
  (fun st x=>(st.1++[⟨x.1.1,x.1.2,min x.1.2 (Ud ps seats-st.2),min (st.2+min x.1.2 (Ud ps seats-st.2)) x.2⟩],st.2+min x.1.2 (Ud ps seats-st.2)-min (st.2+min x.1.2 (Ud ps seats-st.2)) x.2)) ([],0) ⟨.no,.no,.no,.no,rfl,rfl,by simpa using hzl⟩ ?_ ?_
 ·rintro⟨p,g⟩ rest ⟨acc,load⟩ E ⟨j5,j6,j7,j8,rfl,e,hl⟩;have hl2:acc.length+(rest.length+1)<=1000:=hl;walk_at "ev";rw[Jct];walk_at "ev";rw[Jip];walk_at "ev";simp only[List.map_append,List.map_cons,List.map_nil];exact⟨_,_,_,_,rfl,by rw[<- e,stF,List.append_assoc];rfl,by rw[List.length_append,List.length_singleton];omega (config:={})⟩
 ·rintro E' ⟨j5,j6,j7,j8,rfl,e,_⟩;walk_at "ev";rw[stF,List.append_nil] at e;rw[e]
theorem JfN{α:Type}{xs:List α}{k:Nat}{x:α}(h:xs[k]?=some x):atI xs (k:Int)=some x:=by obtain⟨h1,h2⟩:=List.getElem?_eq_some_iff.mp h;rw[JaS h1,h2]
theorem Good.mk'{p:Pr}{ps:List Pr}(h1:1<=p.2)(h2:∀q,ps[0]?=some q->p.1+p.2<q.1)(g:Good ps):Good (p::ps):=by
 refine⟨fun i q e=>?_,fun i q r e1 e2=>?_⟩
 ·cases i with
  | zero=>simp at e;subst e;exact h1
  | succ i=>exact g.one i q (by simpa using e)
 ·cases i with
  | zero=>simp at e1;subst e1;exact h2 r (by simpa using e2)
  | succ i=>exact g.gap i q r (by simpa using e1) (by simpa using e2)
noncomputable def VG(x:Stp):Pr:=(x.b+x.t,x.l-x.t+x.s)
noncomputable def Vp(ps:List Pr)(seats:Option Int):List Pr:=(V4 ps seats).map VG
theorem Zu{most:Int}(hm:1<=most):∀(ps:List Pr) (load:Int),Good ps->0<=load->load<=most ->
 Good ((stF most load (List.zip ps (J2 ps++[most]))).map VG)/\∀q,((stF most load (List.zip ps (J2 ps++[most]))).map VG)[0]?=some q->∀p,ps[0]?=some p->q.1=p.1+min p.2 (most-load)
 | [],load,_,_,_=>⟨Good.nil,fun q e=>by simp[J2,stF] at e⟩
 | [p],load,g,h0,h1=>by
  have hp:=g.one 0 p rfl;refine⟨Good.mk' ?_ (fun q e=>by simp[stF] at e) Good.nil,fun q e r er=>?_⟩
  ·show 1<=p.2-min p.2 (most-load)+min (load+min p.2 (most-load)) most;omega
  ·simp[J2,stF,VG] at e er;subst er;rw[<- e]
 | p::q::r,load,g,h0,h1=>by
  have hp:=g.one 0 p rfl
  have hq:=g.one 1 q rfl
  have hg:=g.gap 0 p q rfl rfl
  have ih:=Zu hm (q::r) (load+min p.2 (most-load)-min (load+min p.2 (most-load)) (q.1-(p.1+p.2))) (Good.cons' g) (by omega) (by omega)
  have e0:(stF most load (List.zip (p::q::r) (J2 (p::q::r)++[most]))).map VG=VG ⟨p.1,p.2,min p.2 (most-load),min (load+min p.2 (most-load)) (q.1-(p.1+p.2))⟩::(stF most (load+min p.2 (most-load)-min (load+min p.2 (most-load)) (q.1-(p.1+p.2))) (List.zip (q::r) (J2 (q::r)++[most]))).map VG:=rfl;rw[e0];refine⟨Good.mk' ?_ (fun q' e=>?_) ih.1,fun q' e p' ep=>?_⟩
  ·show 1<=p.2-min p.2 (most-load)+min (load+min p.2 (most-load)) (q.1-(p.1+p.2));omega
  ·have:=ih.2 q' e q rfl
   show p.1+min p.2 (most-load)+(p.2-min p.2 (most-load)+min (load+min p.2 (most-load)) (q.1-(p.1+p.2)))<q'.1;omega
  ·simp at e ep;subst ep;rw[<- e];rfl
theorem Jbo{ps:List Pr}(g:Good ps)(seats:Option Int)(hs:OkS seats)(h:ps≠[]):1<=Ud ps seats:=by
 cases seats with
 | some s=>exact hs s rfl
 | none =>
  cases ps with
  | nil=>exact absurd rfl h
  | cons p ps =>
   have h1:=g.one 0 p rfl
   have h2:0<=(ps.map (·.2)).sum:=by
    have al:=Good.all (Good.cons' g)
    clear h1 h g
    induction ps with
    | nil=>exact Int.le_refl _
    | cons q ps ih =>
     have a1:=al q List.mem_cons_self
     have a2:=ih fun x hx=>al x (List.mem_cons_of_mem _ hx)
     rw[List.map_cons,List.sum_cons];omega
   show 1<=((p::ps).map (·.2)).sum;rw[List.map_cons,List.sum_cons];omega
theorem U7{ps:List Pr}(g:Good ps)(seats:Option Int)(hs:OkS seats):Good (Vp ps seats):=by
 by_cases h:ps=[]
 ·subst h;exact Good.nil
 ·have:=Jbo g seats hs h;exact(Zu this ps 0 g (Int.le_refl _) (by omega)).1
theorem Zt(ps:List Pr)(seats:Option Int):(Vp ps seats).length=ps.length:=by unfold Vp;rw[List.length_map,ZL]
theorem Jgy(ps:List Pr)(seats:Option Int)(g:Good ps)(h:ps.length<=30)(hs:OkS seats):Uc [.sh (.row (ps.map prE)),.sh (U3 seats)]=some (.sh (.row ((Vp ps seats).map prE))):=by
 have hl:=ZL ps seats
 have hl2:=Zt ps seats;unfold Uc;walk_at "ev";rw[JiM _ _ (by omega) hs];walk_at "ev";rw[JJ (g:=fun x=>prE (VG x))]
 ·walk_at "ev";have e:(V4 ps seats).map (fun x=>prE (VG x))=(Vp ps seats).map prE:=by unfold Vp;rw[List.map_map];rfl
  rw[e,UU rfl (U7 g seats hs) (by omega)];walk_at "ev"
 ·intro x _;simp only[Jmf];walk_at "ev";rfl
noncomputable def tkF(seats:Option Int)(l ins:Int):Int:=match seats with
 | none=>l
 | some s=>min l (s-ins)
noncomputable def goF(seats:Option Int):Int->List Pr->List Pr
 | _,[]=>[]
 | ins,[p]=>[(p.1+tkF seats p.2 ins,p.2-tkF seats p.2 ins+(ins+tkF seats p.2 ins))]
 | ins,p::q::r=>(p.1+tkF seats p.2 ins,p.2-tkF seats p.2 ins+min (ins+tkF seats p.2 ins) (q.1-p.1-p.2))::goF seats (ins+tkF seats p.2 ins-min (ins+tkF seats p.2 ins) (q.1-p.1-p.2)) (q::r)
noncomputable def JfG(seats:Option Int)(most load:Int)(ps:List Pr):Prop:=0<=load/\load<=most/\(seats=some most\/(seats=none/\load+(ps.map (·.2)).sum<=most))
theorem Jdv{seats:Option Int}{most load:Int}{p:Pr}{ps:List Pr}(f:JfG seats most load (p::ps))(h:∀q∈ps,1<=q.2):tkF seats p.2 load=min p.2 (most-load):=by
 obtain⟨_,_,e|⟨e,hs⟩⟩:=f
 ·rw[e];rfl
 ·rw[e];show p.2=_
  have h0:0<=(ps.map (·.2)).sum:=by
   clear hs e
   induction ps with
   | nil=>exact Int.le_refl _
   | cons q ps ih =>
    have a1:=h q List.mem_cons_self
    have a2:=ih fun x hx=>h x (List.mem_cons_of_mem _ hx)
    rw[List.map_cons,List.sum_cons];omega
  rw[List.map_cons,List.sum_cons] at hs;omega
theorem JeU{seats:Option Int}{most load s:Int}{p:Pr}{ps:List Pr}(f:JfG seats most load (p::ps))(hp:1<=p.2)(h0:0<=s)(h1:s<=load+min p.2 (most-load)):JfG seats most (load+min p.2 (most-load)-s) ps:=by obtain⟨f0,f1,e⟩:=f;refine⟨by omega,by omega,e.imp id fun⟨e,hs⟩=>⟨e,?_⟩⟩;rw[List.map_cons,List.sum_cons] at hs;omega
theorem Jgj{seats:Option Int}{most:Int}:∀(ps:List Pr) (load:Int),Good ps->JfG seats most load ps->(stF most load (List.zip ps (J2 ps++[most]))).map VG=goF seats load ps
 | [],_,_,_=>rfl
 | [p],load,g,f=>by
  have hp:=g.one 0 p rfl
  have ht:=Jdv f fun q hq=>nomatch hq
  obtain⟨f0,f1,_⟩:=f;show [VG ⟨p.1,p.2,min p.2 (most-load),min (load+min p.2 (most-load)) most⟩]=_;rw[goF,ht];have:min (load+min p.2 (most-load)) most=load+min p.2 (most-load):=by omega
  simp[VG,this]
 | p::q::r,load,g,f=>by
  have hp:=g.one 0 p rfl
  have hg:=g.gap 0 p q rfl rfl
  have ht:=Jdv f (Good.all (Good.cons' g))
  have e1:q.1-(p.1+p.2)=q.1-p.1-p.2:=by omega
  have f':=JeU (s:=min (load+min p.2 (most-load)) (q.1-p.1-p.2)) f hp (by obtain⟨f0,f1,_⟩:=f;omega) (by omega)
  have ih:=Jgj (q::r) _ (Good.cons' g) f'
  show VG ⟨p.1,p.2,min p.2 (most-load),min (load+min p.2 (most-load)) (q.1-(p.1+p.2))⟩::(stF most (load+min p.2 (most-load)-min (load+min p.2 (most-load)) (q.1-(p.1+p.2))) (List.zip (q::r) (J2 (q::r)++[most]))).map VG=_;rw[goF,ht,e1,ih];rfl
theorem JmU{ps:List Pr}(g:Good ps)(seats:Option Int)(hs:OkS seats):JfG seats (Ud ps seats) 0 ps:=by
 cases seats with
 | some s=>have:=hs s rfl;exact⟨Int.le_refl _,by show 0<=s;omega,.inl rfl⟩
 | none =>
  refine⟨Int.le_refl _,?_,.inr ⟨rfl,by show 0+_<=(ps.map (·.2)).sum;omega⟩⟩
  by_cases h:ps=[]
  ·subst h;exact Int.le_refl _
  ·have:=Jbo g none hs h;omega
theorem Jgi{ps:List Pr}(g:Good ps)(seats:Option Int)(hs:OkS seats):goF seats 0 ps=Vp ps seats:=(Jgj ps 0 g (JmU g seats hs)).symm
noncomputable def Wi(p:Pr):Pr:=(1-p.1-p.2,p.2)
noncomputable def Y6(ps:List Pr):List Pr:=ps.reverse.map Wi
theorem Jfe(p:Pr):Wi (Wi p)=p:=by unfold Wi;dsimp only;rw[show 1-(1-p.1-p.2)-p.2=p.1 by omega]
theorem Ul(ps:List Pr):(Y6 ps).length=ps.length:=by unfold Y6;rw[List.length_map,List.length_reverse]
theorem VW(ps:List Pr):Y6 (Y6 ps)=ps:=by
 unfold Y6;rw[<- List.map_reverse,List.reverse_reverse,List.map_map];have:Wi ∘ Wi=id:=by funext p;exact Jfe p
 rw[this,List.map_id]
theorem WT{ps:List Pr}{j:Nat}{q:Pr}(e:(Y6 ps)[j]?=some q):∃p,ps[ps.length-1-j]?=some p/\q=Wi p/\j<ps.length:=by
 unfold Y6 at e;rw[List.getElem?_map,Option.map_eq_some_iff] at e;obtain⟨p,e,rfl⟩:=e;have hj:j<ps.length:=by have:=(List.getElem?_eq_some_iff.mp e).1;rwa [List.length_reverse] at this
 rw[List.getElem?_reverse hj] at e;exact⟨p,e,rfl,hj⟩
theorem UK{ps:List Pr}(g:Good ps):Good (Y6 ps):=by
 refine⟨fun j q e=>?_,fun j q r e1 e2=>?_⟩
 ·obtain⟨p,h,rfl,_⟩:=WT e;exact g.one _ p h
 ·obtain⟨p,h,rfl,hj⟩:=WT e1;obtain⟨p',h',rfl,hj'⟩:=WT e2;have:ps.length-1-j=ps.length-1-(j+1)+1:=by omega
  rw[this] at h;have:=g.gap _ p' p h' h;unfold Wi;dsimp only;omega
structure GoIx (most:Int) (ps:List Pr) (a t s:Nat->Int):Prop where
 ht:∀i p,ps[i]?=some p->t i=min p.2 (most-a i)
 hs:∀i p q,ps[i]?=some p->ps[i+1]?=some q->s i=min (a i+t i) (q.1-(p.1+p.2))
 hz:∀i p,ps[i]?=some p->ps[i+1]?=none->s i=min (a i+t i) most
 ha:∀i,i<ps.length->a (i+1)=a i+t i-s i
noncomputable def JfP(ps:List Pr)(seats:Option Int):List Pr:=Y6 (Vp (Y6 ps) seats)
theorem Jd4{α β:Type}(f:α->β)(xs:List α):(xs.map f).reverse=xs.reverse.map f:=List.map_reverse.symm
theorem U9(ps:List Pr)(g:Good ps)(h:ps.length<=30):JW [.sh (.row (ps.map prE))]=some (.sh (.row ((Y6 ps).map prE))):=by
 have hl:=Ul ps;unfold JW;walk_at "ev";rw[Jd4,JJ (g:=fun p=>prE (Wi p))]
 ·walk_at "ev";have e:ps.reverse.map (fun p=>prE (Wi p))=(Y6 ps).map prE:=by unfold Y6;rw[List.map_map];rfl
  rw[e,UU rfl (UK g) (by omega)];walk_at "ev"
 ·intro p _;simp only[prE];walk_at "ev";rfl
theorem Jk6(ps:List Pr)(seats:Option Int)(g:Good ps)(h:ps.length<=30)(hs:OkS seats):UT [.sh (.row (ps.map prE)),.sh (U3 seats)]=some (.sh (.row ((JfP ps seats).map prE))):=by
 have h1:=Ul ps
 have h2:=Zt (Y6 ps) seats;unfold UT;walk_at "ev";rw[U9 _ g h];walk_at "ev";rw[Jgy _ _ (UK g) (by omega) hs];walk_at "ev";rw[U9 _ (U7 (UK g) seats hs) (by omega)];walk_at "ev";rfl
noncomputable def byF(k:Int)(ps:List Pr):List Pr:=ps.mapIdx fun i p=>(p.1+2*k*(i:Int),p.2+k)
theorem UH(k:Int)(ps:List Pr):(byF k ps).length=ps.length:=by unfold byF;rw[List.length_mapIdx]
theorem Z1{k:Int}{ps:List Pr}{i:Nat}{x:Pr}(e:(byF k ps)[i]?=some x):∃p,ps[i]?=some p/\x=(p.1+2*k*(i:Int),p.2+k):=by unfold byF at e;rw[List.getElem?_mapIdx,Option.map_eq_some_iff] at e;obtain⟨p,h,rfl⟩:=e;exact⟨p,h,rfl⟩
theorem JfU(a b:Int)(ps:List Pr):byF a (byF b ps)=byF (a+b) ps:=by
 refine List.ext_getElem? fun i=>?_
 unfold byF;rw[List.getElem?_mapIdx,List.getElem?_mapIdx,List.getElem?_mapIdx,Option.map_map]
 cases ps[i]? with
 | none=>rfl
 | some p=>show some (p.1+2*b*(i:Int)+2*a*(i:Int),p.2+b+a)=some (p.1+2*(a+b)*(i:Int),p.2+(a+b));rw[Int.mul_add,Int.add_mul];congr 2 <;> omega
theorem Jaa(ps:List Pr):byF 0 ps=ps:=by
 refine List.ext_getElem? fun i=>?_
 unfold byF;rw[List.getElem?_mapIdx]
 cases ps[i]? with
 | none=>rfl
 | some p=>simp
structure Wide (c:Int) (ps:List Pr):Prop where
 one:∀(i:Nat) (p:Pr),ps[i]?=some p->c<=p.2
 gap:∀(i:Nat) (p q:Pr),ps[i]?=some p->ps[i+1]?=some q->c<=q.1-(p.1+p.2)
theorem Wide.good{c:Int}{ps:List Pr}(h:1<=c)(w:Wide c ps):Good ps:=⟨fun i p e=>by have:=w.one i p e;omega,fun i p q e1 e2=>by have:=w.gap i p q e1 e2;omega⟩
theorem Wide.bys{c k:Int}{ps:List Pr}(w:Wide c ps):Wide (c+k) (byF k ps):=by
 refine⟨fun i x e=>?_,fun i x y e1 e2=>?_⟩
 ·obtain⟨p,h,rfl⟩:=Z1 e;have:=w.one i p h;dsimp only;omega
 ·obtain⟨p,h1,rfl⟩:=Z1 e1;obtain⟨q,h2,rfl⟩:=Z1 e2;have:=w.gap i p q h1 h2;have em:2*k*((i+1:Nat):Int)=2*k*(i:Int)+2*k:=by rw[Int.natCast_add,Int.mul_add];simp
  dsimp only;rw[em];omega
theorem Wide.mono{c c':Int}{ps:List Pr}(h:c'<=c)(w:Wide c ps):Wide c' ps:=⟨fun i p e=>by have:=w.one i p e;omega,fun i p q e1 e2=>by have:=w.gap i p q e1 e2;omega⟩
theorem Wide.cons{c:Int}{p:Pr}{ps:List Pr}(w:Wide c (p::ps)):Wide c ps:=⟨fun i q e=>w.one (i+1) q (by simpa using e),fun i q r e1 e2=>w.gap (i+1) q r (by simpa using e1) (by simpa using e2)⟩
noncomputable def clF:Pr->List Pr->List Pr
 | cur,[]=>[cur]
 | cur,p::r=>if cur.1+cur.2=p.1 then clF (cur.1,cur.2+p.2) r else if 0<p.2 then cur::clF p r else clF cur r
noncomputable def clN:List Pr->List Pr
 | []=>[]
 | p::r=>if 0<p.2 then clF p r else clN r
theorem Jf0:∀(cur:Pr) (r:List Pr),Good (cur::r)->clF cur r=cur::r
 | cur,[],_=>rfl
 | cur,p::r,g=>by
  have h1:=g.gap 0 cur p rfl rfl
  have h2:=g.one 1 p rfl;rw[clF,if_neg (by omega),if_pos (by omega),Jf0 p r (Good.cons' g)]
theorem Jad{ps:List Pr}(g:Good ps):clN ps=ps:=by
 cases ps with
 | nil=>rfl
 | cons p r=>rw[clN,if_pos (by have:=g.one 0 p rfl;omega),Jf0 p r g]
theorem Vj:∀(cur:Pr) (r:List Pr),1<=cur.2->Wide 0 r->(∀q,r[0]?=some q->cur.1+cur.2<=q.1)->Good (clF cur r)/\∃q,(clF cur r)[0]?=some q/\q.1=cur.1
 | cur,[],h,_,_=>⟨Good.mk' h (fun q e=>by simp at e) Good.nil,cur,rfl,rfl⟩
 | cur,p::r,h,w,hq=>by
  have h0:=w.one 0 p rfl
  have hb:=hq p rfl
  have nx:∀q,r[0]?=some q->p.1+p.2<=q.1:=fun q e=>by have:=w.gap 0 p q rfl (by simpa using e);omega
  rw[clF];split
  ·next e=>exact Vj (cur.1,cur.2+p.2) r (by dsimp only;omega) w.cons fun q e'=>by have:=nx q e';dsimp only;omega
  ·next e =>
   split
   ·next hp=>obtain⟨g,q,e1,e2⟩:=Vj p r (by omega) w.cons nx;exact⟨Good.mk' h (fun q' e'=>by rw[e1] at e';cases e';omega) g,cur,rfl,rfl⟩
   ·next hp=>exact Vj cur r h w.cons fun q e'=>by have:=nx q e';omega
theorem JaY:∀(ps:List Pr),Wide 0 ps->Good (clN ps)
 | [],_=>Good.nil
 | p::r,w=>by
  rw[clN];split
  ·next h=>exact(Vj p r (by omega) w.cons fun q e=>by have:=w.gap 0 p q rfl (by simpa using e);omega).1
  ·exact JaY r w.cons
theorem Wl:∀(cur:Pr) (r:List Pr),(clF cur r).length<=r.length+1/\((clF cur r).length=r.length+1->(∀p∈r,0<p.2)/\∀(i:Nat) (p q:Pr),(cur::r)[i]?=some p->(cur::r)[i+1]?=some q->p.1+p.2≠q.1)
 | cur,[]=>⟨Nat.le_refl _,fun _=>⟨fun p hp=>(by cases hp),fun i p q _ e=>(by simp at e)⟩⟩
 | cur,p::r=>by
  rw[clF,List.length_cons];split
  ·next e=>have ih:=(Wl (cur.1,cur.2+p.2) r).1;exact⟨by omega,fun h=>by omega⟩
  ·next e =>
   split
   ·next hp =>
    obtain⟨i1,i2⟩:=Wl p r;refine⟨by rw[List.length_cons];omega,fun h=>?_⟩;obtain⟨a1,a2⟩:=i2 (by rw[List.length_cons] at h;omega);refine⟨fun q hq=>?_,fun i x y e1 e2=>?_⟩
    ·rcases List.mem_cons.mp hq with z|z
     ·rw[z];exact hp
     ·exact a1 q z
    ·cases i with
     | zero=>simp at e1 e2;subst e1 e2;exact e
     | succ i=>exact a2 i x y (by simpa using e1) (by simpa using e2)
   ·have ih:=(Wl cur r).1;exact⟨by omega,fun h=>by omega⟩
theorem Ut:∀(ps:List Pr),(clN ps).length<=ps.length/\((clN ps).length=ps.length->(∀p∈ps,0<p.2)/\∀(i:Nat) (p q:Pr),ps[i]?=some p->ps[i+1]?=some q->p.1+p.2≠q.1)
 | []=>⟨Nat.le_refl _,fun _=>⟨fun p hp=>(by cases hp),fun i p q e=>(by simp at e)⟩⟩
 | p::r=>by
  rw[clN,List.length_cons];split
  ·next hp=>obtain⟨i1,i2⟩:=Wl p r;refine⟨i1,fun h=>?_⟩;obtain⟨a1,a2⟩:=i2 h;exact⟨fun q hq=>(List.mem_cons.mp hq).elim (fun z=>z▸hp) (a1 q),a2⟩
  ·have ih:=(Ut r).1;exact⟨by omega,fun h=>by omega⟩
noncomputable def thF(ps:List Pr):List Pr:=clN (byF (-1) ps)
noncomputable def thN:Nat->List Pr->List Pr
 | 0,ps=>ps
 | n+1,ps=>thN n (thF ps)
theorem JaI(a b:Nat):∀ps:List Pr,thN (a+b) ps=thN b (thN a ps):=by
 induction a with
 | zero=>intro ps;rw[Nat.zero_add];rfl
 | succ a ih=>intro ps;rw[Nat.succ_add];exact ih (thF ps)
theorem Jep:∀n,thN n []=[]
 | 0=>rfl
 | n+1=>Jep n
theorem Yh{ps:List Pr}(g:Good ps):Good (thF ps):=JaY _ (by
 have w:Wide 1 ps:=⟨fun i p e=>g.one i p e,fun i p q e1 e2=>by have:=g.gap i p q e1 e2;omega⟩
 exact w.bys (k:=-1))
theorem VF:∀(n:Nat) {ps:List Pr},Good ps->Good (thN n ps)
 | 0,_,g=>g
 | n+1,_,g=>VF n (Yh g)
theorem JaJ:∀(n:Nat) {c:Int} {ps:List Pr},Wide c ps->1<=c->((n:Int)<=c)->thN n ps=clN (byF (-(n:Int)) ps)
 | 0,c,ps,w,h1,_=>by show ps=clN (byF (-((0:Nat):Int)) ps);rw[show -((0:Nat):Int)=0 by simp,Jaa,Jad (w.good h1)]
 | n+1,c,ps,w,h1,hn=>by
  show thN n (thF ps)=_
  by_cases h:n=0
  ·subst h;rfl
  ·have w1:Wide (c+-1) (byF (-1) ps):=w.bys
   have e:thF ps=byF (-1) ps:=Jad (w1.good (by omega));rw[e,JaJ n w1 (by omega) (by omega),JfU];congr 2;omega
theorem Jb3{n:Nat}{c:Int}{ps:List Pr}(w:Wide c ps)(h1:1<=c)(h:(n:Int)<c):thN n ps=byF (-(n:Int)) ps:=by rw[JaJ n w h1 (by omega),Jad ((w.bys (k:=-(n:Int))).good (by omega))]
noncomputable def JfK(c:Int)(ps:List Pr):Prop:=(∃p∈ps,p.2=c)\/∃(i:Nat) (p q:Pr),ps[i]?=some p/\ps[i+1]?=some q/\q.1-(p.1+p.2)=c
theorem Jb4{c:Int}{ps:List Pr}(t:JfK c ps):(clN (byF (-c) ps)).length<ps.length:=by
 obtain⟨h1,h2⟩:=Ut (byF (-c) ps);rw[UH] at h1 h2;rcases Nat.lt_or_ge (clN (byF (-c) ps)).length ps.length with h|h
 ·exact h
 ·obtain⟨a1,a2⟩:=h2 (by omega)
  exfalso
  rcases t with ⟨p,hp,e⟩|⟨i,p,q,e1,e2,e⟩
  ·obtain⟨i,hi,rfl⟩:=List.mem_iff_getElem.mp hp
   have hx:(byF (-c) ps)[i]?=some (ps[i].1+2*-c*(i:Int),ps[i].2+-c):=by unfold byF;rw[List.getElem?_mapIdx,List.getElem?_eq_getElem hi];rfl
   have:=a1 _ (List.mem_of_getElem? hx);dsimp only at this;omega
  ·have hx:(byF (-c) ps)[i]?=some (p.1+2*-c*(i:Int),p.2+-c):=by unfold byF;rw[List.getElem?_mapIdx,e1];rfl
   have hy:(byF (-c) ps)[i+1]?=some (q.1+2*-c*((i+1:Nat):Int),q.2+-c):=by unfold byF;rw[List.getElem?_mapIdx,e2];rfl
   have:=a2 i _ _ hx hy
   have em:2*-c*((i+1:Nat):Int)=2*-c*(i:Int)+2*-c:=by rw[Int.natCast_add,Int.mul_add];simp
   dsimp only at this;rw[em] at this;omega
noncomputable def zs(n:Nat):List Int:=List.replicate n 0
noncomputable def os(n:Nat):List Int:=List.replicate n 1
noncomputable def blk:Int->List Pr->List Int
 | _,[]=>[]
 | pos,p::r=>zs (p.1-pos).toNat++(os p.2.toNat++blk (p.1+p.2) r)
noncomputable def byR:Int->List Pr->List Pr
 | _,[]=>[]
 | c,p::r=>(p.1-c,p.2-1)::byR (c+2) r
theorem Jda:∀(ps:List Pr) (c:Int),byR c ps=ps.mapIdx fun i p=>(p.1+2*(-1)*(i:Int)-c,p.2+-1)
 | [],c=>rfl
 | p::r,c=>by
  rw[byR,List.mapIdx_cons,Jda r (c+2)];congr 1
  ·congr 1;simp
  ·refine List.ext_getElem? fun i=>?_
   rw[List.getElem?_mapIdx,List.getElem?_mapIdx]
   cases r[i]? with
   | none=>rfl
   | some q=>simp only[Option.map_some,Int.natCast_add];congr 2;omega
theorem Jh2(ps:List Pr):byR 0 ps=byF (-1) ps:=by
 rw[Jda];unfold byF;congr 1
 funext i p
 congr 1;omega
theorem UV{ps:List Pr}(g:Good ps):Wide 1 ps:=⟨fun i p e=>g.one i p e,fun i p q e1 e2=>by have:=g.gap i p q e1 e2;omega⟩
theorem Wz:∀(r:List Pr) (cur:Pr),∃q,(clF cur r)[0]?=some q/\q.1=cur.1
 | [],cur=>⟨cur,rfl,rfl⟩
 | p::r,cur=>by
  rw[clF];split
  ·obtain⟨q,h1,h2⟩:=Wz r (cur.1,cur.2+p.2);exact⟨q,h1,h2⟩
  ·split
   ·exact⟨cur,rfl,rfl⟩
   ·exact Wz r cur
theorem ZN:∀(n:Nat) (ps:List Pr),thN (n+1) ps=thF (thN n ps)
 | 0,ps=>rfl
 | n+1,ps=>by show thN (n+1) (thF ps)=thF (thN n (thF ps));exact ZN n (thF ps)
noncomputable def tkS(x prev pos:Int)(acc:List Pr):List Pr :=
 if x=1/\prev=1 then acc.dropLast++[((acc.getLastD (0,0)).1,(acc.getLastD (0,0)).2+1)] else if x=1 then acc++[(pos,1)] else acc
noncomputable def tk:Int->Int->List Pr->List Int->List Pr
 | _,_,acc,[]=>acc
 | prev,pos,acc,x::r=>tk x (pos+1) (tkS x prev pos acc) r
noncomputable def below(ps:List Pr)(x:Int):Int:=(ps.map fun p=>max 0 (min p.2 (x-p.1))).sum
noncomputable def Jal(ps:List Pr)(y:Int):Bool:=ps.any fun p=>decide (p.1<=y) && decide (y<p.1+p.2)
theorem has_iff{ps:List Pr}{y:Int}:Jal ps y=true↔∃p∈ps,p.1<=y/\y<p.1+p.2:=by unfold Jal;rw[List.any_eq_true];simp
theorem JnL(a b:Int):a<b\/b<=a:=by omega
noncomputable def YG:List Pr->Int->List Pr
 | [],s=>[(s,1)]
 | p::r,s=>if p.1=s then(p.1,p.2+1)::r else p::YG r s
theorem UW(s:Int):∀a:List Pr,(YG a s).map (·.1)=YT (a.map (·.1)) s
 | []=>rfl
 | p::r=>by
  have ih:=UW s r;unfold YT Vq at ih ⊢;rw[YG,List.map_cons,List.any_cons]
  by_cases h:p.1=s
  ·rw[if_pos h,decide_eq_true h,Bool.true_or,if_pos rfl];rfl
  ·rw[if_neg h,decide_eq_false h,Bool.false_or,List.map_cons,ih];split <;> rfl
theorem W0:∀(ks:List Int) (vs:List Int) (s v:Int),s∉ks->setK ks vs s v=vs
 | [],_,_,_,_=>rfl
 | _::_,[],_,_,_=>rfl
 | k::ks,x::vs,s,v,h=>by rw[setK,if_neg fun e=>h (by rw[e];exact List.mem_cons_self),W0 ks vs s v fun m=>h (List.mem_cons_of_mem _ m)]
theorem hasK_mem{ks:List Int}{s:Int}:Vq ks s=true↔s∈ks:=by
 unfold Vq;rw[List.any_eq_true];constructor
 ·rintro⟨k,hk,e⟩;rw[decide_eq_true_eq] at e;subst e;exact hk
 ·intro h;exact⟨s,h,decide_eq_true rfl⟩
theorem Zv(s:Int):∀a:List Pr,(a.map (·.1)).Nodup->(YG a s).map (·.2)=putDs (a.map (·.1)) (a.map (·.2)) s ((look (a.map (·.1)) (a.map (·.2)) s).getD 0+1)
 | [],_=>rfl
 | p::r,hn=>by
  rw[List.map_cons,List.nodup_cons] at hn;have ih:=Zv s r hn.2;rw[YG,List.map_cons,List.map_cons]
  by_cases h:p.1=s
  ·rw[if_pos h];unfold putDs;rw[if_pos (hasK_mem.mpr (by rw[h];exact List.mem_cons_self)),look,if_pos h,setK,if_pos h,W0 _ _ _ _ (by rw[<- h];exact hn.1)];rfl
  ·rw[if_neg h,List.map_cons,ih,look,if_neg h];unfold putDs
   have e:Vq (p.1::r.map (·.1)) s=Vq (r.map (·.1)) s:=by unfold Vq;rw[List.any_cons,decide_eq_false h,Bool.false_or]
   rw[e];split
   ·rw[setK,if_neg h]
   ·rfl
theorem UN{ks:List Int}(s:Int)(h:ks.Nodup):(YT ks s).Nodup:=by
 unfold YT;split
 ·exact h
 ·next c =>
  rw[List.nodup_append];refine⟨h,by simp,fun a ha b hb=>?_⟩;have:b=s:=by simpa using hb
  subst this;intro e;subst e;exact c (hasK_mem.mpr ha)
noncomputable def lk(k:Int):List Pr->Int
 | []=>0
 | p::r=>if p.1=k then p.2 else lk k r
theorem JdH(k s:Int):∀a:List Pr,lk k (YG a s)=lk k a+(if s=k then 1 else 0)
 | []=>by simp[YG,lk]
 | p::r=>by
  rw[YG]
  by_cases h:p.1=s
  ·rw[if_pos h,lk,lk];dsimp only
   by_cases c:p.1=k
   ·rw[if_pos c,if_pos c,if_pos (by omega)]
   ·rw[if_neg c,if_neg c,if_neg (by omega),Int.add_zero]
  ·rw[if_neg h,lk,lk,JdH k s r]
   by_cases c:p.1=k
   ·rw[if_pos c,if_pos c,if_neg (by omega),Int.add_zero]
   ·rw[if_neg c,if_neg c]
theorem Jk5{a:List Pr}(hn:(a.map (·.1)).Nodup){p:Pr}(hp:p∈a):lk p.1 a=p.2:=by
 induction a with
 | nil=>cases hp
 | cons q r ih =>
  rw[List.map_cons,List.nodup_cons] at hn;rw[lk];rcases List.mem_cons.mp hp with z|z
  ·subst z;rw[if_pos rfl]
  ·rw[if_neg fun e=>hn.1 (by rw[e];exact List.mem_map.mpr ⟨p,z,rfl⟩)];exact ih hn.2 z
noncomputable def UE(L:List Int):List Pr:=L.foldl YG []
theorem Jdf:∀(L:List Int) (a:List Pr),(a.map (·.1)).Nodup->((L.foldl YG a).map (·.1)).Nodup/\(∀k,lk k (L.foldl YG a)=lk k a+(L.count k:Int))/\∀k,k∈(L.foldl YG a).map (·.1)↔k∈a.map (·.1)\/k∈L
 | [],a,h=>⟨h,fun k=>by simp,fun k=>by simp⟩
 | s::L,a,h=>by
  have hk:=UW s a
  have hn:((YG a s).map (·.1)).Nodup:=by rw[hk];exact UN s h
  obtain⟨i1,i2,i3⟩:=Jdf L (YG a s) hn;refine⟨i1,fun k=>?_,fun k=>?_⟩
  ·rw[List.foldl_cons,i2 k,JdH,List.count_cons]
   by_cases c:s=k
   ·rw[if_pos c,if_pos (by simpa using c)];omega
   ·rw[if_neg c,if_neg (by simpa using c)];omega
  ·rw[List.foldl_cons,i3 k,hk];unfold YT;split
   ·next c =>
    have c':=hasK_mem.mp c;constructor
    ·rintro(z|z)
     ·exact .inl z
     ·exact .inr (List.mem_cons_of_mem _ z)
    ·rintro(z|z)
     ·exact .inl z
     ·rcases List.mem_cons.mp z with w|w
      ·subst w;exact .inl c'
      ·exact .inr w
   ·rw[List.mem_append,List.mem_singleton,List.mem_cons,or_assoc]
theorem Jkm(L:List Int):((UE L).map (·.1)).Nodup/\(∀p∈UE L,p.2=(L.count p.1:Int)/\p.1∈L)/\∀k∈L,(k,(L.count k:Int))∈UE L:=by
 obtain⟨i1,i2,i3⟩:=Jdf L [] (by simp)
 have v:∀p∈UE L,p.2=(L.count p.1:Int):=fun p hp=>by rw[<- Jk5 i1 hp];have:=i2 p.1;rw[show lk p.1 []=0 from rfl,Int.zero_add] at this;exact this
 refine⟨i1,fun p hp=>⟨v p hp,?_⟩,fun k hk=>?_⟩
 ·have:=(i3 p.1).mp (List.mem_map.mpr ⟨p,hp,rfl⟩)
  simpa using this
 ·obtain⟨p,hp,e⟩:=List.mem_map.mp ((i3 k).mpr (.inr hk));subst e;rw[<- v p hp];exact hp
theorem Jdg:∀(L:List Int) (a:List Pr),(a.map (·.1)++L).Nodup->L.foldl YG a=a++L.map fun s=>(s,1)
 | [],a,_=>by simp
 | s::L,a,h=>by
  have e:YG a s=a++[(s,1)]:=by
   have hs:s∉a.map (·.1):=fun m=>by have:=(List.nodup_append.mp h).2.2 s m s List.mem_cons_self;exact this rfl
   clear h
   induction a with
   | nil=>rfl
   | cons p r ih=>rw[YG,if_neg fun z=>hs (by rw[<- z];exact List.mem_cons_self),ih fun m=>hs (List.mem_cons_of_mem _ m)];rfl
  rw[List.foldl_cons,e,Jdg L (a++[(s,1)]) (by simpa using h)];simp
theorem Jbg(ps:List Pr)(x:Int)(h:ps.length<=1000):Ys [.sh (.row (ps.map prE)),.sh (.int x)]=some (.sh (.bl (Jal ps x))):=by
 unfold Ys;walk_at "ev";rw[JJ (g:=fun p=>D.bl (decide (p.1<=x) && decide (x<p.1+p.2)))]
 ·walk_at "ev";rw[Jit (ns:=ps.map fun p=>decide (p.1<=x) && decide (x<p.1+p.2)) (by simp[Sl.q])];walk_at "ev";unfold Jal;rw[List.any_map];rfl
 ·intro p hp;simp only[prE];walk_at "ev"
  by_cases c:p.1<=x
  ·simp only[c];walk_at "ev"
  ·simp only[c];walk_at "ev";rfl
theorem Jan{α β:Type}(f:Nat->α->β)(xs:List α):xs.mapIdx f=xs.zipIdx.map fun x=>f x.2 x.1:=by
 refine List.ext_getElem? fun i=>?_
 rw[List.getElem?_mapIdx,List.getElem?_map,List.getElem?_zipIdx,Option.map_map];simp;rfl
theorem JnM(ps:List Pr)(k:Int)(h:ps.length<=1000):J6 [.sh (.row (ps.map prE)),.sh (.int k)]=some (.own ((byF k ps).map prE)):=by
 unfold J6;walk_at "ev";rw[Ja3,Jan,JJ (g:=fun x:Pr×Nat=>prE (x.1.1+2*k*(x.2:Int),x.1.2+k))]
 ·rw[if_pos (by rw[List.length_map,List.length_zipIdx];omega (config:={}))];walk_at "ev";rw[show ps.zipIdx.map (fun x=>prE (x.1.1+2*k*(x.2:Int),x.1.2+k))=(byF k ps).map prE by unfold byF;rw[Jan,List.map_map];rfl]
 ·intro x hx
  have hx2:x.2<ps.length:=by have:=List.snd_lt_of_mem_zipIdx hx;omega (config:={})
  walk_at "ev";rw[Jcs,Jct];walk_at "ev";rfl
theorem JmL{ps:List Pr}(g:Good ps)(hne:ps≠[]):∃c,(ps.map (·.2)++J2 ps).min?=some c/\1<=c/\Wide c ps/\JfK c ps:=by
 cases hm:(ps.map (·.2)++J2 ps).min? with
 | none =>
  rw[List.min?_eq_none_iff] at hm
  cases ps with
  | nil=>exact absurd rfl hne
  | cons p r=>simp at hm
 | some c =>
  obtain⟨h1,h2⟩:=List.min?_eq_some_iff.mp hm
  have gg:∀(ps:List Pr) (x:Int),x∈J2 ps->∃(i:Nat) (p q:Pr),ps[i]?=some p/\ps[i+1]?=some q/\q.1-(p.1+p.2)=x:=by
   intro ps
   induction ps with
   | nil=>intro x hx;cases hx
   | cons p r ih =>
    intro x hx
    cases r with
    | nil=>cases hx
    | cons q r =>
     rcases List.mem_cons.mp hx with z|z
     ·exact⟨0,p,q,rfl,rfl,z.symm⟩
     ·obtain⟨i,a,b,e1,e2,e3⟩:=ih x z;exact⟨i+1,a,b,by simpa using e1,by simpa using e2,e3⟩
  have gm:∀(ps:List Pr) (i:Nat) (p q:Pr),ps[i]?=some p->ps[i+1]?=some q->q.1-(p.1+p.2)∈J2 ps:=by
   intro ps
   induction ps with
   | nil=>intro i p q e;simp at e
   | cons a r ih =>
    intro i p q e1 e2
    cases r with
    | nil=>simp at e2
    | cons b r =>
     cases i with
     | zero=>simp at e1 e2;subst e1 e2;exact List.mem_cons_self
     | succ i=>exact List.mem_cons_of_mem _ (ih i p q (by simpa using e1) (by simpa using e2))
  have w:Wide c ps:=⟨fun i p e=>h2 _ (List.mem_append_left _ (List.mem_map.mpr ⟨p,List.mem_of_getElem? e,rfl⟩)),fun i p q e1 e2=>h2 _ (List.mem_append_right _ (gm ps i p q e1 e2))⟩
  have t:JfK c ps:=by
   rcases List.mem_append.mp h1 with z|z
   ·obtain⟨p,hp,e⟩:=List.mem_map.mp z;exact .inl ⟨p,hp,e⟩
   ·exact .inr (gg ps c z)
  refine⟨c,rfl,?_,w,t⟩;rcases t with ⟨p,hp,e⟩|⟨i,p,q,e1,e2,e⟩
  ·have:=Good.all g p hp;omega
  ·have:=g.gap i p q e1 e2;omega
theorem Jbh(ps:List Pr)(h:ps.length<=1000):JG [.sh (.row (ps.map prE))]=some (match (ps.map (·.2)++J2 ps).min? with|some c=>.sh (.int c)|none=>.sh .non):=by
 have hgl:=Ui ps;unfold JG;walk_at "ev";rw[JJ (g:=fun p=>D.int p.2)]
 ·walk_at "ev";rw[JcD _ h];walk_at "ev";rw[show ps.map (fun p=>D.int p.2)++(J2 ps).map .int=(ps.map (·.2)++J2 ps).map D.int by rw[List.map_append,List.map_map];rfl];walk_at "ev";cases (ps.map (·.2)++J2 ps).min? <;> rfl
 ·intro p hp;simp only[prE];walk_at "ev"
noncomputable def Uu(acc:List Pr)(p:Pr):List Pr:=match acc[acc.length-1]? with
 | some q=>if q.1+q.2=p.1 then acc.dropLast++[(q.1,q.2+p.2)] else if 0<p.2 then acc++[p] else acc
 | none=>if 0<p.2 then acc++[p] else acc
theorem Vk:∀(r acc:List Pr) (cur:Pr),r.foldl Uu (acc++[cur])=acc++clF cur r
 | [],acc,cur=>rfl
 | p::r,acc,cur=>by
  have e:(acc++[cur])[(acc++[cur]).length-1]?=some cur:=by simp
  have es:Uu (acc++[cur]) p=if cur.1+cur.2=p.1 then acc++[(cur.1,cur.2+p.2)] else if 0<p.2 then acc++[cur]++[p] else acc++[cur]:=by unfold Uu;rw[e];dsimp only;rw[List.dropLast_concat]
  rw[List.foldl_cons,clF,es];split
  ·exact Vk r acc _
  ·split
   ·rw[Vk r (acc++[cur]) p,List.append_assoc];rfl
   ·exact Vk r acc cur
theorem Zp:∀ps:List Pr,ps.foldl Uu []=clN ps
 | []=>rfl
 | p::r=>by
  rw[List.foldl_cons,clN];show r.foldl Uu (if 0<p.2 then []++[p] else [])=_;split
  ·exact Vk r [] p
  ·exact Zp r
theorem Jgx(ps:List Pr)(h:ps.length<=1000):J7 [.sh (.lst (ps.map prE))]=some (.own ((clN ps).map prE)):=by
 unfold J7;walk_at "ev";rw[Option.bind_assoc];refine Uj (fun(rest:List Pr) (acc:List Pr) E=>∃j2 j3 j4,E=[.sh (.lst (ps.map prE)),.own (acc.map prE),j2,j3,j4]/\acc.length+rest.length<=1000) Uu [] ⟨.no,.no,.no,rfl,by simpa using h⟩ ?_ ?_
 ·rintro p rest acc E ⟨j2,j3,j4,rfl,hz⟩;rw[List.length_cons] at hz;simp only[prE];walk_at "ev"
  cases he:acc[acc.length-1]? with
  | none =>
   have hn:acc=[]:=by
    cases acc with
    | nil=>rfl
    | cons a acc=>simp at he
   subst hn;rw[show(!(([]:List Pr).map prE).isEmpty)=false from rfl];walk_at "ev";have es:Uu [] p=if 0<p.2 then [p] else []:=rfl
   rw[es]
   by_cases c:0<p.2
   ·rw[decide_eq_true c,if_pos c];walk_at "ev";exact⟨.sh (.int p.1),.sh (.int p.2),j4,rfl,by simp at hz ⊢;omega⟩
   ·rw[decide_eq_false c,if_neg c];walk_at "ev";exact⟨.sh (.int p.1),.sh (.int p.2),j4,rfl,by simp at hz ⊢;omega⟩
  | some q =>
   have hl0:acc.length-1<acc.length:=(List.getElem?_eq_some_iff.mp he).1
   have hne:(!(acc.map prE).isEmpty)=true:=by cases acc with|nil=>simp at he|cons _ _=>rfl
   have hgq:(acc.map prE)[acc.length-1]?=some (prE q):=by rw[List.getElem?_map,he];rfl
   have es:Uu acc p=if q.1+q.2=p.1 then acc.dropLast++[(q.1,q.2+p.2)] else if 0<p.2 then acc++[p] else acc:=by unfold Uu;rw[he]
   have hdl:acc.dropLast.length=acc.length-1:=List.length_dropLast;rw[hne,ZW,JfO he,es];walk_at "ev";rw[Wo (s:=.sh (prE q)) (ns:=[q.1,q.2]) rfl];walk_at "ev";rw[show([q.1,q.2]:List Int).sum=q.1+q.2 by simp]
   by_cases c:q.1+q.2=p.1
   ·rw[decide_eq_true c,if_pos c,hgq];walk_at "ev";rw[<- List.map_dropLast];walk_at "ev";rw[Jcs,Jct];walk_at "ev";refine⟨.sh (.int p.1),.sh (.int p.2),.sh (prE q),?_,by rw[List.length_append,List.length_singleton];omega⟩;rw[List.map_append];rfl
   ·rw[decide_eq_false c,if_neg c];walk_at "ev"
    by_cases c2:0<p.2
    ·rw[decide_eq_true c2,if_pos c2];walk_at "ev";refine⟨.sh (.int p.1),.sh (.int p.2),j4,?_,by rw[List.length_append,List.length_singleton];omega⟩;rw[List.map_append];rfl
    ·rw[decide_eq_false c2,if_neg c2];walk_at "ev";exact⟨.sh (.int p.1),.sh (.int p.2),j4,rfl,by omega⟩
 ·rintro E' ⟨j2,j3,j4,rfl,_⟩;rw[Zp];walk_at "ev"
noncomputable abbrev wC:En->Option Bool:=(tAnd? (tB? (e2 fGt (Jd 3) (eC (.int 0)))) (tTru? (e1 Uh (Jd 2))))
noncomputable abbrev wB:Es:=(JB (JN 4 (eF Jcu (aC (Jd 3) (aC (eU 1 JG (aC (Jd 2) a0)) a0)))) (JB (JN 2 (eF Za (aC (eU 1 J7 (aC (eU 2 J6 (aC (Jd 2) (aC (e1 JeT (Jd 4)) a0))) a0)) a0))) (Jc7 (fun i j=>i-j) 3 (Jd 4))))
theorem Vf(x y:Sl)(left:List Pr)(n:Nat)(j4:Sl)(fuel:Nat)(h:n=0\/left=[]) :
 ((Yp wC wB (fuel+1) [x,y,.sh (.row (left.map prE)),.sh (.int (n:Int)),j4]).bind (JaA (UD 2))).bind Jco=some (.sh (.row ((thN n left).map prE))):=by
 have e:thN n left=left:=by
  rcases h with rfl|rfl
  ·rfl
  ·exact Jep n
 rw[e,Yp]
 have hc:wC [x,y,.sh (.row (left.map prE)),.sh (.int (n:Int)),j4]=some false:=by
  show tAnd? _ _ _=_;walk_at "ev";rcases h with rfl | rfl
  ·rw[show decide ((0:Int)<((0:Nat):Int))=false from rfl];walk_at "ev"
  ·by_cases c:(0:Int)<(n:Int)
   ·rw[decide_eq_true c];walk_at "ev";rfl
   ·rw[decide_eq_false c];walk_at "ev"
 rw[hc];walk_at "ev"
theorem JhI(x y:Sl):∀(m fuel:Nat) (left:List Pr) (n:Nat) (j4:Sl),Good left->left.length<=m->left.length<=30->m<fuel ->
 ((Yp wC wB fuel [x,y,.sh (.row (left.map prE)),.sh (.int (n:Int)),j4]).bind (JaA (UD 2))).bind Jco=some (.sh (.row ((thN n left).map prE))):=by
 intro m
 induction m with
 | zero =>
  intro fuel left n j4 g hm _ hf;obtain⟨f,rfl⟩:∃f,fuel=f+1:=⟨fuel-1,by omega⟩
  exact Vf x y left n j4 f (.inr (List.eq_nil_of_length_eq_zero (by omega)))
 | succ m ih =>
  intro fuel left n j4 g hm h30 hf;obtain⟨f,rfl⟩:∃f,fuel=f+1:=⟨fuel-1,by omega⟩
  by_cases h0:n=0\/left=[]
  ·exact Vf x y left n j4 f h0
  ·have hn:n≠0:=fun z=>h0 (.inl z)
   have hl:left≠[]:=fun z=>h0 (.inr z)
   obtain⟨c,hc,c1,w,t⟩:=JmL g hl;obtain⟨a,ha⟩:∃a:Nat,(a:Int)=min (n:Int) c:=⟨(min (n:Int) c).toNat,by omega⟩
   have hcl:=Jbh left (by omega);rw[hc] at hcl
   have et:thN a left=clN (byF (-(a:Int)) left):=JaJ a w c1 (by omega)
   have gt:Good (thN a left):=VF a g
   have lt:=(Ut (byF (-(a:Int)) left)).1;rw[UH,<- et] at lt
   have hcond:wC [x,y,.sh (.row (left.map prE)),.sh (.int (n:Int)),j4]=some true:=by
    show tAnd? _ _ _=_;walk_at "ev";rw[decide_eq_true (show(0:Int)<(n:Int) by omega)];walk_at "ev"
    cases left with
    | nil=>exact absurd rfl hl
    | cons _ _=>rfl
   have hbody:wB [x,y,.sh (.row (left.map prE)),.sh (.int (n:Int)),j4]=some (.nx [x,y,.sh (.row ((thN a left).map prE)),.sh (.int ((n-a:Nat):Int)),.sh (.int (a:Int))]):=by show JB _ _ _=_;walk_at "ev";rw[hcl];walk_at "ev";rw[<- ha,JnM _ _ (by omega)];walk_at "ev";rw[Jgx _ (by rw[UH];omega),<- et];walk_at "ev";rw[UU rfl gt (by omega)];walk_at "ev";rw[show(n:Int)-(a:Int)=((n-a:Nat):Int) by omega]
   have fin:thN n left=thN (n-a) (thN a left):=by rw[<- JaI];congr 1;omega
   rw[Yp,hcond,Option.bind_some,if_pos rfl,hbody,Option.bind_some,fin];dsimp only
   by_cases hac:(a:Int)=c
   ·have fw:=Jb4 t;rw[<- hac,<- et] at fw;exact ih f _ _ _ gt (by omega) (by omega) (by omega)
   ·obtain⟨f',rfl⟩:∃f',f=f'+1:=⟨f-1,by omega⟩
    exact Vf x y _ _ _ f' (.inl (by omega))
theorem VV(ps:List Pr)(n:Nat)(g:Good ps)(h30:ps.length<=30):JS [.sh (.row (ps.map prE)),.sh (.int (n:Int))]=some (.sh (.row ((thN n ps).map prE))):=by unfold JS;rw[show ∀(k:Nat) (s:Es) (ss:List Sl),YS k s ss=YS k s ss from fun _ _ _=>rfl];have hw:=JhI (.sh (.row (ps.map prE))) (.sh (.int (n:Int))) 30 1000000 ps n .no g h30 h30 (by decide);walk_at "ev";rw[UU rfl g h30];walk_at "ev";exact hw
noncomputable abbrev Tr:=Int×Int×Int
noncomputable def trE(t:Tr):D:=.tup [.int t.1,.int t.2.1,.int t.2.2]
noncomputable def owF(left:List Pr)(s:Int):Int:=if Jal left (s-1)=true/\Jal left s=false then 1 else 0
theorem Jk8(ps:List Pr)(s:Int)(h:ps.length<=1000):YI [.sh (.row (ps.map prE)),.sh (.int s)]=some (.sh (.int (owF ps s))):=by
 unfold YI owF;walk_at "ev";rw[Jbg _ _ h];walk_at "ev"
 cases h1:Jal ps (s-1) with
 | false=>walk_at "ev";rw[if_neg (by simp)]
 | true =>
  walk_at "ev";rw[Jbg _ _ h];walk_at "ev"
  cases h2:Jal ps s with
  | false=>walk_at "ev";rw[if_pos (by simp)]
  | true=>walk_at "ev";rw[if_neg (by simp)]
theorem Jbf{α β:Type}(f:α->β):∀(ks:List Int) (vs:List α) (n:Int),look ks (vs.map f) n=(look ks vs n).map f
 | [],_,_=>rfl
 | _::_,[],_=>rfl
 | k::ks,v::vs,n=>by
  rw[List.map_cons];simp only[look];split
  ·rfl
  ·exact Jbf f ks vs n
theorem JbO{α β:Type}(f:α->β):∀(ks:List Int) (vs:List α) (n:Int) (v:α),setK ks (vs.map f) n (f v)=(setK ks vs n v).map f
 | [],_,_,_=>rfl
 | _::_,[],_,_=>rfl
 | k::ks,x::vs,n,v=>by rw[List.map_cons];simp only[setK,List.map_cons];rw[JbO f ks vs n v];split <;> rfl
theorem ZH{α β:Type}(f:α->β)(ks:List Int)(vs:List α)(n:Int)(v:α):putDs ks (vs.map f) n (f v)=(putDs ks vs n v).map f:=by
 unfold putDs;split
 ·exact JbO f ks vs n v
 ·rw[List.map_append];rfl
theorem Jbe(ks:List Int)(vs:List Int)(n z:Int):(look ks (vs.map D.int) n).getD (.int z)=.int ((look ks vs n).getD z):=by rw[Jbf];cases look ks vs n <;> rfl
theorem Ja8(a:List Pr)(s:Int):(YG a s).length<=a.length+1:=by
 induction a with
 | nil=>simp[YG]
 | cons p r ih =>
  rw[YG];split
  ·simp
  ·simp only[List.length_cons];omega
theorem Jgr(a:List Pr):Jbc (a.map (·.1)) ((a.map (·.2)).map D.int)=a.map prE:=by
 unfold Jbc
 induction a with
 | nil=>rfl
 | cons p r ih=>simp only[List.map_cons,List.zipWith_cons_cons,ih];rfl
noncomputable def spF(qs:List Pr):List Int:=qs.zipIdx.map fun x=>x.1.1+x.1.2-1-2*(x.2:Int)
noncomputable def Yl(qs:List Pr):List Tr:=(UE (spF qs)).map fun p=>(p.1,p.2,owF (thF qs) p.1)
theorem Jae(L:List Int):∀a:List Pr,(L.foldl YG a).length<=a.length+L.length:=by
 induction L with
 | nil=>intro a;simp
 | cons s L ih=>intro a;have h1:=ih (YG a s);have h2:=Ja8 a s;rw[List.foldl_cons,List.length_cons];omega
theorem Jgz(qs:List Pr)(g:Good qs)(h30:qs.length<=30):YJ [.sh (.row (qs.map prE))]=some (.own ((Yl qs).map trE)):=by
 have h1:=VV qs 1 g h30;rw[show((1:Nat):Int)=1 from rfl,show thN 1 qs=thF qs from rfl] at h1
 have hl:=(Ut (byF (-1) qs)).1;rw[UH,show clN (byF (-1) qs)=thF qs from rfl] at hl;unfold YJ;walk_at "ev";rw[h1];walk_at "ev";rw[Ja3,Jan,Option.bind_assoc];refine Uj (f:=fun x:Pr×Nat=>D.tup [.int (x.2:Int),prE x.1]) (fun(rest:List (Pr×Nat)) (a:List Pr) E=>∃j3 j4 j5,E=[.sh (.row (qs.map prE)),.sh (.row ((thF qs).map prE)),.od (a.map (·.1)) ((a.map (·.2)).map .int),j3,j4,j5]/\(a.map (·.1)).Nodup/\a.length+rest.length<=30)
  (fun a x=>YG a (x.1.1+x.1.2-1-2*(x.2:Int))) [] ⟨.no,.no,.no,rfl,by simp,by simpa using h30⟩ ?_ ?_
 ·rintro x rest a E ⟨j3,j4,j5,rfl,hn,hz⟩;rw[List.length_cons] at hz;have hil:=Ja8 a (x.1.1+x.1.2-1-2*(x.2:Int));walk_at "ev";rw[Wo (s:=.sh (prE x.1)) (ns:=[x.1.1,x.1.2]) rfl];walk_at "ev";rw[show([x.1.1,x.1.2]:List Int).sum=x.1.1+x.1.2 by simp];rw[Jbe];walk_at "ev";rw[ZH,<- UW,<- Zv _ _ hn];refine⟨.sh (.int (x.2:Int)),.sh (prE x.1),_,rfl,?_,by omega⟩;rw[UW];exact UN _ hn
 ·rintro E' ⟨j3,j4,j5,rfl,hn,_⟩
  have ef:qs.zipIdx.foldl (fun a x=>YG a (x.1.1+x.1.2-1-2*(x.2:Int))) []=UE (spF qs):=by unfold UE spF;rw[List.foldl_map]
  have hcl:=Jae (spF qs) []
  have hsl:(spF qs).length=qs.length:=by unfold spF;simp
  rw[ef];walk_at "ev";rw[Jgr,JJ (g:=fun p=>trE (p.1,p.2,owF (thF qs) p.1))]
  ·rw[if_pos (by rw[List.length_map];show(UE (spF qs)).length<=_;unfold UE;simp at hcl;omega)];walk_at "ev";unfold Yl;rw[List.map_map];rfl
  ·intro p hp;simp only[prE];walk_at "ev";rw[Jk8 _ _ (by omega)];walk_at "ev";rfl
noncomputable def J5(ps:List Pr):List Int:=ps.map fun p=>p.1+p.2
theorem JcN{qs:List Pr}(g:Good qs)(s:Int):owF qs s=if s∈J5 qs then 1 else 0:=by
 unfold owF
 by_cases c:s∈J5 qs
 ·rw[if_pos c];obtain⟨p,hp,rfl⟩:=List.mem_map.mp c;have h1:=Good.all g p hp;rw[if_pos];refine⟨has_iff.mpr ⟨p,hp,by omega,by omega⟩,?_⟩
  cases h:Jal qs (p.1+p.2) with
  | false=>rfl
  | true =>
   obtain⟨q,hq,a1,a2⟩:=has_iff.mp h;have pw:=Good.pw g;obtain⟨i,hi,rfl⟩:=List.mem_iff_getElem.mp hp;obtain⟨j,hj,rfl⟩:=List.mem_iff_getElem.mp hq;rcases Nat.lt_trichotomy i j with z|z|z
   ·have:=List.pairwise_iff_getElem.mp pw i j hi hj z;omega
   ·subst z;omega
   ·have:=List.pairwise_iff_getElem.mp pw j i hj hi z;omega
 ·rw[if_neg c,if_neg];rintro⟨h1,h2⟩;obtain⟨p,hp,a1,a2⟩:=has_iff.mp h1;refine c (List.mem_map.mpr ⟨p,hp,?_⟩);rcases JnL s (p.1+p.2) with z|z
  ·rw[has_iff.mpr ⟨p,hp,by omega,z⟩] at h2;cases h2
  ·omega
theorem Jh9{ps:List Pr}(g:Good ps):(J5 ps).Pairwise (·<·):=by
 unfold J5;rw[List.pairwise_map];refine(Good.pw g).imp_of_mem fun {a b} _ hb h=>?_
 have:=Good.all g b hb;omega
theorem Jdq{ps:List Pr}(g:Good ps):(J5 ps).Nodup:=(Jh9 g).imp fun {a b} h=>by omega
theorem Jj6(k:Int)(ps:List Pr):spF (byF (k+1) ps)=J5 (byF k ps):=by
 unfold spF J5;refine List.ext_getElem? fun i=>?_
 rw[List.getElem?_map,List.getElem?_map,List.getElem?_zipIdx];unfold byF;rw[List.getElem?_mapIdx,List.getElem?_mapIdx]
 cases ps[i]? with
 | none=>rfl
 | some p =>
  simp only[Option.map_some];congr 1;have e:2*(k+1)*(i:Int)=2*k*(i:Int)+2*(i:Int):=by rw[Int.mul_add,Int.add_mul];simp
  simp only[Nat.zero_add];rw[e];omega
theorem Jfu{ps:List Pr}(g:Good ps)(n:Nat):Yl (byF ((n:Int)+1) ps)=(byF (n:Int) ps).map fun p=>(p.1+p.2,1,1):=by
 have gw:=UV g
 have gn:Good (byF (n:Int) ps):=(gw.bys (k:=(n:Int))).good (by omega)
 have et:thF (byF ((n:Int)+1) ps)=byF (n:Int) ps:=by have:=Jb3 (n:=1) (gw.bys (k:=(n:Int)+1)) (by omega) (by omega);rw[show thF (byF ((n:Int)+1) ps)=thN 1 (byF ((n:Int)+1) ps) from rfl,this,JfU];congr 1;omega
 unfold Yl UE;rw[et,Jj6,Jdg (J5 (byF (n:Int) ps)) [] (by simpa using Jdq gn),List.nil_append,List.map_map];unfold J5;rw[List.map_map];refine List.map_congr_left fun p hp=>?_
 simp only[Function.comp];rw[JcN gn,if_pos (show p.1+p.2∈J5 (byF (n:Int) ps) from List.mem_map.mpr ⟨p,hp,rfl⟩)]
noncomputable def Ua(k:Int)(qs:List Pr):List Tr:=((Yl qs).filter fun t=>decide (t.2.1>t.2.2)).map fun t=>(k,t.1,t.2.1-t.2.2)
noncomputable def tbN:Nat->Int->List Pr->List Tr
 | 0,_,_=>[]
 | n+1,k,qs=>Ua (k+1) qs++tbN n (k+1) (thF qs)
theorem Jc2:∀(n:Nat) (k:Int),tbN n k []=[]
 | 0,_=>rfl
 | n+1,k=>by rw[tbN,show thF []=[] from rfl,Jc2 n (k+1)];rfl
theorem JaH(qs:List Pr):(thF qs).length<=qs.length:=by have:=(Ut (byF (-1) qs)).1;rw[UH] at this;exact this
theorem JjN{qs:List Pr}(g:Good qs)(h:(thF qs).length=qs.length):Good (byF (-1) qs):=by obtain⟨_,h2⟩:=Ut (byF (-1) qs);obtain⟨a1,a2⟩:=h2 (by rw[UH];exact h);have w:=(UV g).bys (k:=-1);refine⟨fun i p e=>by have:=a1 p (List.mem_of_getElem? e);omega,fun i p q e1 e2=>?_⟩;have:=a2 i p q e1 e2;have:=w.gap i p q e1 e2;omega
theorem Jbd{qs:List Pr}(g:Good (byF (-1) qs))(k:Int):Ua k qs=[]:=by
 have e:qs=byF (((0:Nat):Int)+1) (byF (-1) qs):=by rw[JfU,show((0:Nat):Int)+1+-1=0 by omega,Jaa]
 unfold Ua;rw[e,Jfu g 0,List.filter_map,List.map_map,List.filter_eq_nil_iff.mpr]
 ·rfl
 ·intro p hp;simp
theorem Zz{qs:List Pr}(g:Good qs){k:Int}(h:Ua k qs≠[]):(thF qs).length<qs.length:=by
 rcases Nat.lt_or_ge (thF qs).length qs.length with z|z
 ·exact z
 ·exact absurd (Jbd (JjN g (Nat.le_antisymm (JaH qs) z)) k) h
theorem JcZ(qs:List Pr):(spF qs).length=qs.length:=by unfold spF;simp
theorem JdI(k:Int)(qs:List Pr):(Ua k qs).length<=qs.length:=by
 unfold Ua Yl;rw[List.length_map];refine Nat.le_trans (List.length_filter_le _ _) ?_;rw[List.length_map];have:=Jae (spF qs) [];rw[JcZ] at this;unfold UE
 simpa using this
theorem Jhy:∀(n:Nat) (k:Int) (qs:List Pr),Good qs->qs.length<=30->(tbN n k qs).length<=30*qs.length
 | 0,_,_,_,_=>by simp[tbN]
 | n+1,k,qs,g,h=>by
  have l1:=JdI (k+1) qs
  have l2:=JaH qs
  have ih:=Jhy n (k+1) (thF qs) (Yh g) (by omega);rw[tbN,List.length_append]
  by_cases c:Ua (k+1) qs=[]
  ·rw[c,List.length_nil];omega
  ·have:=Zz g c;omega
theorem JjI{c:Int}{qs:List Pr}(w:Wide c qs)(c1:1<=c):∀(j m:Nat) (k:Int),((j:Int)<c)->tbN (j+m) k qs=tbN m (k+(j:Int)) (thN j qs):=by
 intro j
 induction j generalizing c qs with
 | zero=>intro m k _;rw[Nat.zero_add];simp[thN]
 | succ j ih=>intro m k hj;have w1:Wide (c+-1) (byF (-1) qs):=w.bys;have g1:Good (byF (-1) qs):=w1.good (by omega);have e:thF qs=byF (-1) qs:=Jad g1;rw[show j+1+m=(j+m)+1 by omega,tbN,Jbd g1,List.nil_append,e,ih w1 (by omega) m (k+1) (by omega)];show _=tbN m (k+((j+1:Nat):Int)) (thN j (thF qs));rw[e];congr 1;omega
theorem Jmq{c:Int}{qs:List Pr}(w:Wide c qs)(c1:1<=c)(hne:qs≠[])(j:Nat)(hj:(j:Int)<c):thN j qs≠[]:=by rw[Jb3 w c1 hj];intro z;have:=UH (-(j:Int)) qs;rw[z] at this;exact hne (List.eq_nil_of_length_eq_zero this.symm)
theorem JhA{c:Int}{qs:List Pr}(w:Wide c qs)(c1:1<=c)(hne:qs≠[]){N:Nat}(hN:thN N qs=[])(k:Int):∃C:Nat,(C:Int)=c/\C<=N/\tbN N k qs=Ua (k+c) (thN (C-1) qs)++tbN (N-C) (k+c) (thN C qs)/\thN (N-C) (thN C qs)=[]:=by
 obtain⟨C,hC⟩:∃C:Nat,(C:Int)=c:=⟨c.toNat,by omega⟩
 have hCN:C<=N:=by
  rcases Nat.lt_or_ge N C with z|z
  ·exact absurd hN (Jmq w c1 hne N (by omega))
  ·exact z
 refine⟨C,hC,hCN,?_,by rw[<- JaI,show C+(N-C)=N by omega];exact hN⟩;have e:=JjI w c1 (C-1) (N-C+1) k (by omega);rw[show C-1+(N-C+1)=N by omega] at e;rw[e,tbN,<- ZN,show C-1+1=C by omega,show k+((C-1:Nat):Int)+1=k+c by omega]
noncomputable def YV:List Pr->Int->Int->List Pr
 | [],s,v=>[(s,v)]
 | p::r,s,v=>if p.1=s then(p.1,p.2+v)::r else p::YV r s v
theorem UR(s v:Int):∀a:List Pr,(YV a s v).map (·.1)=YT (a.map (·.1)) s
 | []=>rfl
 | p::r=>by
  have ih:=UR s v r;unfold YT Vq at ih ⊢;rw[YV,List.map_cons,List.any_cons]
  by_cases h:p.1=s
  ·rw[if_pos h,decide_eq_true h,Bool.true_or,if_pos rfl];rfl
  ·rw[if_neg h,decide_eq_false h,Bool.false_or,List.map_cons,ih];split <;> rfl
theorem Zi(s v:Int):∀a:List Pr,(a.map (·.1)).Nodup->(YV a s v).map (·.2)=putDs (a.map (·.1)) (a.map (·.2)) s ((look (a.map (·.1)) (a.map (·.2)) s).getD 0+v)
 | [],_=>by show [v]=[0+v];simp
 | p::r,hn=>by
  rw[List.map_cons,List.nodup_cons] at hn;have ih:=Zi s v r hn.2;rw[YV,List.map_cons,List.map_cons]
  by_cases h:p.1=s
  ·rw[if_pos h];unfold putDs;rw[if_pos (hasK_mem.mpr (by rw[h];exact List.mem_cons_self)),look,if_pos h,setK,if_pos h,W0 _ _ _ _ (by rw[<- h];exact hn.1)];rfl
  ·rw[if_neg h,List.map_cons,ih,look,if_neg h];unfold putDs
   have e:Vq (p.1::r.map (·.1)) s=Vq (r.map (·.1)) s:=by unfold Vq;rw[List.any_cons,decide_eq_false h,Bool.false_or]
   rw[e];split
   ·rw[setK,if_neg h]
   ·rfl
noncomputable def Ub(tb:List Tr)(a:List Pr):List Pr:=tb.foldl (fun a t=>YV a t.1 t.2.2) a
theorem WS{k:Int}{qs:List Pr}{t:Tr}(h:t∈Ua k qs):t.1=k:=by obtain⟨u,_,e⟩:=List.mem_map.mp h;rw[<- e]
theorem Jen:∀(n:Nat) (k:Int) (qs:List Pr) (t:Tr),t∈tbN n k qs->k<t.1
 | 0,_,_,_,h=>by cases h
 | n+1,k,qs,t,h=>by
  rw[tbN] at h;rcases List.mem_append.mp h with z|z
  ·have:=WS z;omega
  ·have:=Jen n (k+1) (thF qs) t z;omega
theorem Jeg(k:Int):∀(l:List Tr) (a:List Pr),(∀t∈l,t.1=k)->(Ub l a).map (·.1)=if l=[] then a.map (·.1) else YT (a.map (·.1)) k
 | [],a,_=>by rw[if_pos rfl];rfl
 | t::l,a,h=>by
  have ht:=h t List.mem_cons_self
  have ih:=Jeg k l (YV a t.1 t.2.2) fun u hu=>h u (List.mem_cons_of_mem _ hu)
  rw[if_neg (by simp)];show(Ub l (YV a t.1 t.2.2)).map (·.1)=_;rw[ih,UR,ht];split
  ·rfl
  ·unfold YT;split
   ·next c=>first|rfl|rw[if_pos c]
   ·next c=>rw[if_pos (hasK_mem.mpr (by simp))]
theorem Jc0:∀(n:Nat) (k:Int) (qs:List Pr) (a:List Pr),Good qs->(a.map (·.1)).Pairwise (·<·)->(∀x∈a.map (·.1),x<=k)->((Ub (tbN n k qs) a).map (·.1)).Pairwise (·<·)/\(Ub (tbN n k qs) a).length<=a.length+qs.length
 | 0,_,_,a,_,h,_=>⟨h,by simp[tbN,Ub]⟩
 | n+1,k,qs,a,g,h,hk=>by
  have e:Ub (tbN (n+1) k qs) a=Ub (tbN n (k+1) (thF qs)) (Ub (Ua (k+1) qs) a):=by unfold Ub;rw[tbN,List.foldl_append]
  have e1:=Jeg (k+1) (Ua (k+1) qs) a fun t ht=>WS ht
  have len:∀a b:List Pr,a.map (·.1)=b.map (·.1)->a.length=b.length:=fun a b z=>by
   have:=congrArg List.length z
   simpa using this
  have l2:=JaH qs;rw[e]
  by_cases c:Ua (k+1) qs=[]
  ·rw[if_pos c] at e1;obtain⟨i1,i2⟩:=Jc0 n (k+1) (thF qs) (Ub (Ua (k+1) qs) a) (Yh g) (by rw[e1];exact h) (fun x hx=>by rw[e1] at hx;have:=hk x hx;omega);have:=len _ _ e1;exact⟨i1,by omega⟩
  ·rw[if_neg c] at e1;have hnot:¬Vq (a.map (·.1)) (k+1)=true:=fun z=>by have:=hk _ (hasK_mem.mp z);omega
   unfold YT at e1;rw[if_neg hnot] at e1;have hl:=congrArg List.length e1;rw[List.length_append,List.length_map,List.length_map,List.length_singleton] at hl;have fw:=Zz g c
   obtain⟨i1,i2⟩:=Jc0 n (k+1) (thF qs) (Ub (Ua (k+1) qs) a) (Yh g) (by
    rw[e1,List.pairwise_append];refine⟨h,by simp,fun x hx y hy=>?_⟩;have:=hk x hx;have:y=k+1:=by simpa using hy
    omega) (fun x hx=>by
    rw[e1] at hx;rcases List.mem_append.mp hx with z|z
    ·have:=hk x z;omega
    ·have:x=k+1:=by simpa using z
     omega)
   exact⟨i1,by omega⟩
theorem JfL(a:List Pr)(s v:Int):(YV a s v).length<=a.length+1:=by
 induction a with
 | nil=>simp[YV]
 | cons p r ih =>
  rw[YV];split
  ·simp
  ·simp only[List.length_cons];omega
theorem JaK:∀(n:Nat) (ps:List Pr),(thN n ps).length<=ps.length
 | 0,ps=>Nat.le_refl _
 | n+1,ps=>by
  show(thN n (thF ps)).length<=_
  have h1:=JaK n (thF ps)
  have h2:=(Ut (byF (-1) ps)).1;rw[UH] at h2
  have h3:(thF ps).length=(clN (byF (-1) ps)).length:=rfl;omega
noncomputable abbrev tbC:En->Option Bool:=(tTru? (e1 Uh (Jd 2)))
noncomputable abbrev tbB:Es:=(JB (JN 4 (eU 1 JG (aC (Jd 2) a0))) (JB (Jc7 (fun i j=>i+j) 3 (Jd 4)) (JB (JN 2 (eU 2 JS (aC (Jd 2) (aC (e2 Ux (Jd 4) (eC (.int 1))) a0)))) (JB (JhM 1 (Yu (iE true (eU 1 YJ (aC (Jd 2) a0))) (.tp (.cons (.nm 0) (.cons (.nm 1) (.cons (.nm 2) .nil)))) (tB? (e2 fGt (Jd 1) (Jd 2))) (Uv (aC (Jd 3) (aC (Jd 0) (aC (e2 Ux (Jd 1) (Jd 2)) a0)))) [none,none,none,some 3])) (JN 2 (eU 2 JS (aC (Jd 2) (aC (eC (.int 1)) a0))))))))
theorem Jb0(j0 j4:Sl)(acc:List Tr)(k:Int)(fuel:Nat):((Yp tbC tbB (fuel+1) [j0,.own (acc.map trE),.sh (.row (([]:List Pr).map prE)),.sh (.int k),j4]).bind (JaA (UD 1))).bind Jco=some (.own (acc.map trE)):=by rw[Yp];have hc:tbC [j0,.own (acc.map trE),.sh (.row (([]:List Pr).map prE)),.sh (.int k),j4]=some false:=rfl;rw[hc];walk_at "ev"
theorem Jmp(j0:Sl):∀(m fuel:Nat) (left:List Pr) (acc:List Tr) (k:Int) (j4:Sl) (N:Nat),Good left->left.length<=m->left.length<=30->m<fuel->thN N left=[]->acc.length+30*left.length<=10000 ->
 ((Yp tbC tbB fuel [j0,.own (acc.map trE),.sh (.row (left.map prE)),.sh (.int k),j4]).bind (JaA (UD 1))).bind Jco=some (.own ((acc++tbN N k left).map trE)):=by
 intro m
 induction m with
 | zero =>
  intro fuel left acc k j4 N g hm _ hf _ _;obtain⟨f,rfl⟩:∃f,fuel=f+1:=⟨fuel-1,by omega⟩
  have:left=[]:=List.eq_nil_of_length_eq_zero (by omega);subst this;rw[Jb0,Jc2,List.append_nil]
 | succ m ih =>
  intro fuel left acc k j4 N g hm h30 hf hN hacc;obtain⟨f,rfl⟩:∃f,fuel=f+1:=⟨fuel-1,by omega⟩
  by_cases h0:left=[]
  ·subst h0;rw[Jb0,Jc2,List.append_nil]
  ·obtain⟨c,hc,c1,w,t⟩:=JmL g h0;obtain⟨C,hC,hCN,eT,eN⟩:=JhA w c1 h0 hN k;have hcl:=Jbh left (by omega);rw[hc] at hcl;have g1:=VF (C-1) g;have l1:=JaK (C-1) left;have l2:=JaK C left;have fw:=Jb4 t;rw[<- hC,<- JaJ C w c1 (by omega)] at fw;have ll:=JdI (k+c) (thN (C-1) left)
   have hcond:tbC [j0,.own (acc.map trE),.sh (.row (left.map prE)),.sh (.int k),j4]=some true:=by
    walk_at "ev"
    cases left with
    | nil=>exact absurd rfl h0
    | cons _ _=>rfl
   have hth:=VV (thN (C-1) left) 1 g1 (by omega);rw[show((1:Nat):Int)=1 from rfl,show thN 1 (thN (C-1) left)=thN C left by rw[<- JaI,show C-1+1=C by omega]] at hth
   have hbody:tbB [j0,.own (acc.map trE),.sh (.row (left.map prE)),.sh (.int k),j4]=some (.nx [j0,.own ((acc++Ua (k+c) (thN (C-1) left)).map trE),.sh (.row ((thN C left).map prE)),.sh (.int (k+c)),.sh (.int c)]):=by
    walk_at "ev";rw[hcl];walk_at "ev";rw[show c-1=((C-1:Nat):Int) by omega,VV _ _ g (by omega)];walk_at "ev";rw[Jgz _ g1 (by omega)];walk_at "ev";rw[Jdp (g:=fun t:Tr=>trE (k+c,t.1,t.2.1-t.2.2)) (k:=fun t:Tr=>decide (t.2.1>t.2.2))]
    ·have el:((Yl (thN (C-1) left)).filter fun t=>decide (t.2.1>t.2.2)).map (fun t:Tr=>trE (k+c,t.1,t.2.1-t.2.2))=(Ua (k+c) (thN (C-1) left)).map trE:=by unfold Ua;rw[List.map_map];rfl
     rw[el]
     have hsl:(Yl (thN (C-1) left)).length<=30:=by unfold Yl;rw[List.length_map];have:=Jae (spF (thN (C-1) left)) [];rw[JcZ] at this;unfold UE;simp at this;omega
     walk_at "ev";rw[hth];walk_at "ev";rw[<- List.map_append]
    ·intro t ht;simp only[trE];refine⟨?_,fun _=>?_⟩
     ·walk_at "ev"
      first|rfl|done
     ·walk_at "ev"
      first|rfl|done
   rw[Yp,hcond,Option.bind_some,if_pos rfl,hbody,Option.bind_some,eT,<- List.append_assoc];exact ih f _ _ _ _ _ (VF C g) (by omega) (by omega) (by omega) eN (by rw[List.length_append];omega)
theorem JiN(ps:List Pr)(N:Nat)(g:Good ps)(h:ps.length<=30)(hN:thN N ps=[]):Yx [.sh (.row (ps.map prE))]=some (.own ((tbN N 0 ps).map trE)):=by have go:=Jmp (.sh (.row (ps.map prE))) 30 1000000 ps [] 0 .no N g h h (by decide) hN (by simp;omega);unfold Yx;walk_at "ev";exact go
theorem JiL(ps:List Pr)(N:Nat)(g:Good ps)(h:ps.length<=30)(hN:thN N ps=[]):Yw [.sh (.row (ps.map prE))]=some (.own ((Ub (tbN N 0 ps) []).map prE)):=by
 have tl:=Jhy N 0 ps g h;unfold Yw;walk_at "ev";rw[JiN ps N g h hN];walk_at "ev";rw[Option.bind_assoc];refine Uj (fun(rest:List Tr) (a:List Pr) E=>∃j2 j3 j4,E=[.sh (.row (ps.map prE)),.od (a.map (·.1)) ((a.map (·.2)).map .int),j2,j3,j4]/\(a.map (·.1)).Nodup/\a.length+rest.length<=1000) (fun a t=>YV a t.1 t.2.2) [] ⟨.no,.no,.no,rfl,by simp,by simp;omega⟩ ?_ ?_
 ·rintro t rest a E ⟨j2,j3,j4,rfl,hn,hz⟩;rw[List.length_cons] at hz;have hal:=JfL a t.1 t.2.2;simp only[trE];walk_at "ev";rw[Jbe];walk_at "ev";rw[ZH,<- UR t.1 t.2.2,<- Zi _ _ _ hn];refine⟨.sh (.int t.1),.sh (.int t.2.1),.sh (.int t.2.2),rfl,?_,by omega⟩;rw[UR];exact UN _ hn
 ·rintro E' ⟨j2,j3,j4,rfl,hn,_⟩;walk_at "ev";rw[Jgr];rfl
theorem Wm:∀(cur:Pr) (r:List Pr),(∀p∈r,0<=p.2)->((clF cur r).map (·.2)).sum=cur.2+(r.map (·.2)).sum
 | cur,[],_=>by simp[clF]
 | cur,p::r,h=>by
  have h0:=h p List.mem_cons_self
  have hr:=fun q hq=>h q (List.mem_cons_of_mem p hq)
  rw[clF,List.map_cons,List.sum_cons];split
  ·rw[Wm _ r hr];dsimp only;omega
  ·split
   ·rw[List.map_cons,List.sum_cons,Wm p r hr]
   ·rw[Wm cur r hr];omega
theorem Jdd:∀(ps:List Pr),(∀p∈ps,0<=p.2)->((clN ps).map (·.2)).sum=(ps.map (·.2)).sum
 | [],_=>rfl
 | p::r,h=>by
  have h0:=h p List.mem_cons_self
  have hr:=fun q hq=>h q (List.mem_cons_of_mem p hq)
  rw[clN,List.map_cons,List.sum_cons];split
  ·exact Wm p r hr
  ·rw[Jdd r hr];omega
theorem Jkk(k:Int):∀(ps:List Pr),((byF k ps).map (·.2)).sum=(ps.map (·.2)).sum+k*(ps.length:Int):=by
 intro ps
 have e:(byF k ps).map (·.2)=ps.map fun p=>p.2+k:=by
  refine List.ext_getElem? fun i=>?_
  unfold byF;rw[List.getElem?_map,List.getElem?_mapIdx,List.getElem?_map,Option.map_map];rfl
 rw[e]
 induction ps with
 | nil=>simp
 | cons p r ih =>
  have ih':=ih (by
   refine List.ext_getElem? fun i=>?_
   unfold byF;rw[List.getElem?_map,List.getElem?_mapIdx,List.getElem?_map,Option.map_map];rfl)
  rw[List.map_cons,List.sum_cons,ih',List.map_cons,List.sum_cons,List.length_cons,Int.natCast_add,Int.mul_add];simp;omega
theorem Jeh:∀{ps:List Pr},(∀p∈ps,1<=p.2)->(ps.length:Int)<=(ps.map (·.2)).sum
 | [],_=>Int.le_refl _
 | p::ps,h=>by
  have h1:=h p List.mem_cons_self
  have h2:=Jeh fun q hq=>h q (List.mem_cons_of_mem _ hq)
  rw[List.map_cons,List.sum_cons,List.length_cons];omega
theorem JjJ{ps:List Pr}(g:Good ps):((thF ps).map (·.2)).sum=(ps.map (·.2)).sum-(ps.length:Int):=by
 unfold thF;rw[Jdd,Jkk]
 ·omega
 ·intro x hx;obtain⟨i,hi,rfl⟩:=List.mem_iff_getElem.mp hx;have e:(byF (-1) ps)[i]?=some (byF (-1) ps)[i]:=by simp
  obtain⟨p,hp,e2⟩:=Z1 e;rw[e2];have:=g.one i p hp;dsimp only;omega
theorem Jeo:∀(n:Nat) {ps:List Pr},Good ps->(ps.map (·.2)).sum<=(n:Int)->thN n ps=[]
 | 0,ps,g,h=>by
  have:=Jeh (Good.all g)
  show ps=[]
  exact List.eq_nil_of_length_eq_zero (by omega)
 | n+1,ps,g,h=>by
  show thN n (thF ps)=[]
  refine Jeo n (Yh g) ?_;rw[JjJ g]
  by_cases hl:ps.length=0
  ·have:ps=[]:=List.eq_nil_of_length_eq_zero hl;subst this;simp
  ·omega
theorem Jnt{c1 c2 p1 p2 ins s:Int}(e:c1+c2=p1)(hc:0<=c2)(hp:0<=p2)(h0:0<=ins)(h1:ins<=s):∃t u,min c2 (s-ins)=t/\max 0 (ins+t-(p1-c1-c2))=ins+t/\min (ins+t) (p1-c1-c2)=0 ∧
 min p2 (s-(ins+t))=u/\min (c2+p2) (s-ins)=t+u/\0<=t/\t<=c2/\0<=u/\u<=p2/\(t=c2\/u=0):=by
 have z:p1-c1-c2=0:=by omega
 rw[z];rcases Int.le_total c2 (s-ins) with h|h
 ·rw[Int.min_eq_left h];rcases Int.le_total p2 (s-(ins+c2)) with k|k
  ·exact⟨c2,p2,rfl,by omega,by omega,Int.min_eq_left k,by omega,hc,Int.le_refl _,hp,Int.le_refl _,.inl rfl⟩
  ·exact⟨c2,s-(ins+c2),rfl,by omega,by omega,Int.min_eq_right k,by omega,hc,Int.le_refl _,by omega,k,.inl rfl⟩
 ·rw[Int.min_eq_right h];exact⟨s-ins,0,rfl,by omega,by omega,by omega,by omega,by omega,h,Int.le_refl _,hp,.inr rfl⟩
theorem bare{c1 c2 p1 p2 ins s:Int}(hb:c1+c2<=p1)(hp:p2=0)(hc:0<=c2)(h0:0<=ins)(h1:ins<=s):∃t m w,min c2 (s-ins)=t/\max 0 (ins+t-(p1-c1-c2))=m/\min (ins+t) (p1-c1-c2)=w/\min p2 (s-m)=0/\0<=t/\t<=c2 ∧
 ((m=0/\w=ins+t/\ins+t<=p1-c1-c2)\/(m=ins+t-(p1-c1-c2)/\w=p1-c1-c2/\p1-c1-c2<=ins+t)):=by
 obtain⟨t,ht,t0,t1,t2⟩:∃t,min c2 (s-ins)=t/\0<=t/\t<=c2/\ins+t<=s:=⟨_,rfl,by omega (config:={}),by omega (config:={}),by omega (config:={})⟩
 rw[ht];rcases Int.le_total (ins+t) (p1-c1-c2) with h|h
 ·exact⟨t,0,ins+t,rfl,by omega (config:={}),Int.min_eq_left h,by omega (config:={}),t0,t1,.inl ⟨rfl,rfl,h⟩⟩
 ·exact⟨t,ins+t-(p1-c1-c2),p1-c1-c2,rfl,by omega (config:={}),Int.min_eq_right h,by omega (config:={}),t0,t1,.inr ⟨rfl,rfl,h⟩⟩
noncomputable def trS(s:Int):Int->List Pr->Int
 | _,[]=>0
 | ins,[p]=>min p.2 (s-ins)
 | ins,p::q::r=>min p.2 (s-ins)+trS s (max 0 (ins+min p.2 (s-ins)-(q.1-p.1-p.2))) (q::r)
theorem Ym(s ins:Int)(p q:Pr)(r:List Pr):trS s ins (p::q::r)=min p.2 (s-ins)+trS s (max 0 (ins+min p.2 (s-ins)-(q.1-p.1-p.2))) (q::r):=rfl
theorem Jb5:∀(ps:List Pr),(∀p∈ps,0<=p.2)->Wide 0 ps->trS 0 0 ps=0
 | [],_,_=>rfl
 | [p],h,_=>by
  have:=h p List.mem_cons_self
  show min p.2 (0-0)=0;omega
 | p::q::r,h,w=>by
  have hp:=h p List.mem_cons_self
  have hg:=w.gap 0 p q rfl rfl;rw[Ym,show max 0 (0+min p.2 (0-0)-(q.1-p.1-p.2))=0 by omega,Jb5 (q::r) (fun x hx=>h x (List.mem_cons_of_mem _ hx)) w.cons];omega
theorem JhE(s:Int):∀(ps:List Pr) (c ins:Int),Good ps->0<=ins->ins<=s-1->trS s ins ps=(ps.length:Int)+trS (s-1) ins (byR c ps)
 | [],_,_,_,_,_=>rfl
 | [p],c,ins,g,h0,h1=>by
  have:=g.one 0 p rfl
  show min p.2 (s-ins)=1+min (p.2-1) (s-1-ins);omega
 | p::q::r,c,ins,g,h0,h1=>by
  have hp:=g.one 0 p rfl
  have hg:=g.gap 0 p q rfl rfl
  have hm:min (p.2-1) (s-1-ins)=min p.2 (s-ins)-1:=by omega
  have ht:=Int.min_le_right p.2 (s-ins)
  revert hm ht
  generalize ht:min p.2 (s-ins)=t
  intro hm h3;have ih:=JhE s (q::r) (c+2) (max 0 (ins+t-(q.1-p.1-p.2))) (Good.cons' g) (Int.le_max_left _ _) (Int.max_le.mpr ⟨by omega,by omega⟩);show _=_+trS (s-1) ins ((p.1-c,p.2-1)::(q.1-(c+2),q.2-1)::byR (c+2+2) r);rw[Ym,Ym,ht,ih];dsimp only;rw[hm,show ins+(t-1)-(q.1-(c+2)-(p.1-c)-(p.2-1))=ins+t-(q.1-p.1-p.2) by omega,show((p::q::r).length:Int)=((q::r).length:Int)+1 by simp];show _=_+(_+trS (s-1) _ (byR (c+2) (q::r)))
  omega
theorem Wu(s:Int):∀(r:List Pr) (cur:Pr) (ins:Int),0<=cur.2->Wide 0 r->(∀q,r[0]?=some q->cur.1+cur.2<=q.1)->0<=ins->ins<=s->trS s ins (clF cur r)=trS s ins (cur::r)
 | [],_,_,_,_,_,_,_=>rfl
 | p::r,cur,ins,hc,w,hq,h0,h1=>by
  have hp:=w.one 0 p rfl
  have hb:=hq p rfl
  have nx:∀q,r[0]?=some q->p.1+p.2<=q.1:=fun q e=>by have:=w.gap 0 p q rfl (by simpa using e);omega (config:={})
  rw[clF];split
  ·next e =>
   rw[Wu s r (cur.1,cur.2+p.2) ins (by dsimp only;omega (config:={})) w.cons (fun q e'=>by have:=nx q e';dsimp only;omega (config:={})) h0 h1,Ym];obtain⟨t,u,ht,hl,_,hu,hm,_⟩:=Jnt e hc hp h0 h1
   cases r with
   | nil=>show min (cur.2+p.2) (s-ins)=min cur.2 (s-ins)+min p.2 (s-max 0 (ins+min cur.2 (s-ins)-(p.1-cur.1-cur.2)));rw[ht,hl,hu,hm]
   | cons q r=>rw[Ym,Ym];dsimp only;rw[ht,hl,hu,hm,show q.1-cur.1-(cur.2+p.2)=q.1-p.1-p.2 by omega (config:={}),<- Int.add_assoc ins,Int.add_assoc t]
  ·next e =>
   split
   ·next hpp =>
    obtain⟨q',e1,e2⟩:=Wz r p;have ih:=Wu s r p (max 0 (ins+min cur.2 (s-ins)-(p.1-cur.1-cur.2))) (by omega (config:={})) w.cons nx (by omega (config:={})) (by omega (config:={}));rw[Ym,<- ih]
    cases hcl:clF p r with
    | nil=>rw[hcl] at e1;cases e1
    | cons x l =>
     rw[hcl] at e1;have:x=q':=by simpa using e1
     subst this;rw[Ym,e2]
   ·next hpp =>
    rw[Wu s r cur ins hc w.cons (fun q e'=>by have:=nx q e';omega (config:={})) h0 h1,Ym];obtain⟨t,m,v,ht,hl,_,hu,_,_,hz⟩:=bare hb (show p.2=0 by omega (config:={})) hc h0 h1
    cases r with
    | nil=>show min cur.2 (s-ins)=min cur.2 (s-ins)+min p.2 (s-max 0 (ins+min cur.2 (s-ins)-(p.1-cur.1-cur.2)));rw[ht,hl,hu,Int.add_zero]
    | cons q r =>
     have:=nx q rfl
     have k3:max 0 (m+0-(q.1-p.1-p.2))=max 0 (ins+t-(q.1-cur.1-cur.2)):=by rcases hz with ⟨z1,z2,z3⟩|⟨z1,z2,z3⟩ <;> omega (config:={})
     rw[Ym,Ym,ht,hl,hu,k3,Int.zero_add]
theorem Jeq(s:Int)(hs:0<=s):∀(ps:List Pr),Wide 0 ps->trS s 0 (clN ps)=trS s 0 ps
 | [],_=>rfl
 | p::r,w=>by
  have hp:=w.one 0 p rfl;rw[clN];split
  ·next h=>exact Wu s r p 0 hp w.cons (fun q e=>by have:=w.gap 0 p q rfl (by simpa using e);omega) (Int.le_refl _) hs
  ·next h =>
   rw[Jeq s hs r w.cons]
   cases r with
   | nil=>show 0=min p.2 (s-0);omega
   | cons q r=>have:=w.gap 0 p q rfl rfl;rw[Ym,show max 0 (0+min p.2 (s-0)-(q.1-p.1-p.2))=0 by omega];omega
theorem Jmr{s:Int}(hs:1<=s){ps:List Pr}(g:Good ps):trS s 0 ps=(ps.length:Int)+trS (s-1) 0 (thF ps):=by have w:Wide (1+-1) (byF (-1) ps):=(UV g).bys (k:=-1);unfold thF;rw[Jeq (s-1) (by omega) _ w,<- Jh2];exact JhE s ps 0 0 g (Int.le_refl _) (by omega)
theorem Jdh:∀(L:List Int) (a:List Pr),((L.foldl YG a).map (·.2)).sum=(a.map (·.2)).sum+(L.length:Int)
 | [],a=>by simp
 | s::L,a=>by
  have e:∀a:List Pr,((YG a s).map (·.2)).sum=(a.map (·.2)).sum+1:=fun a=>by
   induction a with
   | nil=>simp[YG]
   | cons p r ih =>
    rw[YG];split
    ·simp only[List.map_cons,List.sum_cons];omega
    ·simp only[List.map_cons,List.sum_cons];omega
  rw[List.foldl_cons,Jdh L,e,List.length_cons];omega
theorem JaF{α:Type}:∀(l:List α),(l.map fun _=>(0:Int)).sum=0
 | []=>rfl
 | _::l=>by rw[List.map_cons,List.sum_cons,JaF l];rfl
theorem Jgo:∀(M K:List Int),M.Nodup->K.Nodup->(∀x∈M,x∈K)->(K.map fun s=>if s∈M then(1:Int) else 0).sum=(M.length:Int)
 | [],K,_,_,_=>by rw[show(fun s:Int=>if s∈([]:List Int) then(1:Int) else 0)=fun _=>0 from funext fun s=>if_neg (by simp)];exact JaF K
 | m::M,K,hm,hk,h=>by
  obtain⟨h1,h2⟩:=List.nodup_cons.mp hm;have ih:=Jgo M K h2 hk fun x hx=>h x (List.mem_cons_of_mem _ hx)
  have one:∀K:List Int,K.Nodup->(K.map fun s=>if s∈m::M then(1:Int) else 0).sum=(K.map fun s=>if s∈M then(1:Int) else 0).sum+(if m∈K then 1 else 0):=fun K hk=>by
   induction K with
   | nil=>rfl
   | cons k K ihK =>
    obtain⟨a1,a2⟩:=List.nodup_cons.mp hk;rw[List.map_cons,List.sum_cons,List.map_cons,List.sum_cons,ihK a2]
    by_cases c:k=m
    ·subst c;rw[if_pos List.mem_cons_self,if_neg h1,if_neg a1,if_pos List.mem_cons_self];omega
    ·have e1:(k∈m::M)=(k∈M):=by simp[c]
     have e2:(m∈k::K)=(m∈K):=by simp[Ne.symm c]
     simp only[e1,e2];omega
  rw[one K hk,ih,if_pos (h m List.mem_cons_self),List.length_cons];omega
theorem Vl:∀(r:List Pr) (cur:Pr) (e:Int),e∈J5 (clF cur r)->e∈J5 (cur::r)
 | [],_,_,h=>h
 | p::r,cur,e,h=>by
  unfold J5 at h ⊢;rw[clF] at h;split at h
  ·next c =>
   have:=Vl r _ e h;unfold J5 at this;simp only[List.map_cons,List.mem_cons] at this ⊢;rcases this with z|z
   ·exact .inr (.inl (by omega))
   ·exact .inr (.inr z)
  ·split at h
   ·rw[List.map_cons,List.mem_cons] at h;rcases h with z|z
    ·rw[z];simp
    ·have:=Vl r p e z;unfold J5 at this;rw[List.map_cons];exact List.mem_cons_of_mem _ this
   ·have:=Vl r cur e h;unfold J5 at this;simp only[List.map_cons,List.mem_cons] at this ⊢;rcases this with z|z
    ·exact .inl z
    ·exact .inr (.inr z)
theorem Ja1:∀(ps:List Pr) (e:Int),e∈J5 (clN ps)->e∈J5 ps
 | [],_,h=>h
 | p::r,e,h=>by
  rw[clN] at h;split at h
  ·exact Vl r p e h
  ·have:=Ja1 r e h;unfold J5 at this ⊢;rw[List.map_cons];exact List.mem_cons_of_mem _ this
theorem Jia{qs:List Pr}{e:Int}(h:e∈J5 (thF qs)):e∈spF qs:=by
 have:=Ja1 _ e h
 have z:=Jj6 (-1) qs;rw[show(-1:Int)+1=0 by omega,Jaa] at z;rw[z];exact this
noncomputable def JgE(l:List Tr):Int:=(l.map (·.2.2)).sum
theorem Jdw{α:Type}(f:α->Int)(k:α->Bool):∀(l:List α),(∀x∈l,k x=false->f x=0)->((l.filter k).map f).sum=(l.map f).sum
 | [],_=>rfl
 | x::l,h=>by
  have ih:=Jdw f k l fun y hy=>h y (List.mem_cons_of_mem _ hy)
  rw[List.map_cons,List.sum_cons]
  cases c:k x with
  | true=>rw[List.filter_cons_of_pos c,List.map_cons,List.sum_cons,ih]
  | false=>rw[List.filter_cons_of_neg (by rw[c];simp),ih,h x List.mem_cons_self c,Int.zero_add]
theorem Jei{α:Type}(f g:α->Int):∀(l:List α),(l.map fun x=>f x-g x).sum=(l.map f).sum-(l.map g).sum
 | []=>rfl
 | x::l=>by rw[List.map_cons,List.sum_cons,List.map_cons,List.sum_cons,List.map_cons,List.sum_cons,Jei f g l];omega
theorem Jef{α:Type}(f g:α->Int):∀(l:List α),(l.map fun x=>f x+g x).sum=(l.map f).sum+(l.map g).sum
 | []=>rfl
 | x::l=>by rw[List.map_cons,List.sum_cons,List.map_cons,List.sum_cons,List.map_cons,List.sum_cons,Jef f g l];omega
theorem JdJ{qs:List Pr}(g:Good qs)(k:Int):JgE (Ua k qs)=(qs.length:Int)-((thF qs).length:Int):=by
 obtain⟨c1,c2,c3⟩:=Jkm (spF qs);have nd:=Jdq (Yh g);unfold JgE Ua;rw[List.map_map];have e1:(((Yl qs).filter fun t=>decide (t.2.1>t.2.2)).map ((fun t:Tr=>t.2.2) ∘ fun t:Tr=>(k,t.1,t.2.1-t.2.2))).sum=(((Yl qs).filter fun t=>decide (t.2.1>t.2.2)).map fun t=>t.2.1-t.2.2).sum:=rfl;rw[e1,Jdw]
 ·unfold Yl;rw[List.map_map]
  have e2:((UE (spF qs)).map ((fun t:Tr=>t.2.1-t.2.2) ∘ fun p:Pr=>((p.1,p.2,owF (thF qs) p.1):Tr))).sum=((UE (spF qs)).map fun p=>p.2-(if p.1∈J5 (thF qs) then(1:Int) else 0)).sum:=by
   congr 1;refine List.map_congr_left fun p _=>?_
   show p.2-owF (thF qs) p.1=_;rw[JcN (Yh g)]
  rw[e2,Jei];have e3:=Jdh (spF qs) [];have e4:=Jgo (J5 (thF qs)) ((UE (spF qs)).map (·.1)) nd c1 fun x hx=>List.mem_map.mpr ⟨_,c3 x (Jia hx),rfl⟩
  rw[List.map_map] at e4;have e5:((UE (spF qs)).map fun p=>if p.1∈J5 (thF qs) then(1:Int) else 0).sum=((J5 (thF qs)).length:Int):=e4
  have e6:((UE (spF qs)).map (·.2)).sum=((spF qs).length:Int):=by unfold UE;rw[e3];simp
  rw[e5,e6,JcZ];unfold J5;rw[List.length_map]
 ·intro t ht c;unfold Yl at ht;obtain⟨p,hp,rfl⟩:=List.mem_map.mp ht;obtain⟨v1,v2⟩:=c2 p hp;have:0<(spF qs).count p.1:=List.count_pos_iff.mpr v2;have o:=JcN (Yh g) p.1;have c':=of_decide_eq_false c;dsimp only at c' ⊢;rw[o] at c' ⊢
  by_cases z:p.1∈J5 (thF qs)
  ·rw[if_pos z] at c' ⊢;omega
  ·rw[if_neg z] at c' ⊢;omega
theorem JhB:∀(n:Nat) (k:Int) {qs:List Pr},Good qs->thN n qs=[]->JgE (tbN n k qs)=(qs.length:Int)
 | 0,k,qs,g,h=>by have:qs=[]:=h;subst this;rfl
 | n+1,k,qs,g,h=>by
  have ih:=JhB n (k+1) (Yh g) h
  have l:=JdJ g (k+1);unfold JgE at *;rw[tbN,List.map_append,List.sum_append,ih,l];omega
noncomputable def shS(s k:Int)(l:List Tr):Int:=(l.map fun t=>t.2.2*min (t.1-k) s).sum
theorem Jb2:∀(n:Nat) (k s:Int) {qs:List Pr},Good qs->thN n qs=[]->0<=s->trS s 0 qs=shS s k (tbN n k qs)
 | 0,k,s,qs,g,h,hs=>by have:qs=[]:=h;subst this;rfl
 | n+1,k,s,qs,g,h,hs=>by
  by_cases h0:s=0
  ·subst h0;rw[Jb5 qs (fun p hp=>by have:=Good.all g p hp;omega) ((UV g).mono (by omega))];unfold shS
   have:∀t∈tbN (n+1) k qs,t.2.2*min (t.1-k) 0=0:=fun t ht=>by have:=Jen _ _ _ t ht;rw[show min (t.1-k) 0=0 by omega,Int.mul_zero]
   rw[List.map_congr_left this];exact(JaF _).symm
  ·have h1:1<=s:=by omega
   rw[Jmr h1 g,Jb2 n (k+1) (s-1) (Yh g) h (by omega),tbN];unfold shS;rw[List.map_append,List.sum_append]
   have e1:(Ua (k+1) qs).map (fun t=>t.2.2*min (t.1-k) s)=(Ua (k+1) qs).map (·.2.2):=List.map_congr_left fun t ht=>by rw[WS ht,show min (k+1-k) s=1 by omega,Int.mul_one]
   have e2:(tbN n (k+1) (thF qs)).map (fun t=>t.2.2*min (t.1-k) s)=(tbN n (k+1) (thF qs)).map fun t=>t.2.2+t.2.2*min (t.1-(k+1)) (s-1):=List.map_congr_left fun t ht=>by rw[show min (t.1-k) s=1+min (t.1-(k+1)) (s-1) by omega,Int.mul_add,Int.mul_one]
   have e3:=JdJ g (k+1)
   have e4:=JhB n (k+1) (Yh g) h;unfold JgE at e3 e4;rw[e1,e2,e3,Jef,e4];omega
theorem JaP(f:Int->Int)(s v:Int):∀(a:List Pr),((YV a s v).map fun p=>p.2*f p.1).sum=(a.map fun p=>p.2*f p.1).sum+v*f s
 | []=>by simp[YV]
 | p::r=>by
  rw[YV];split
  ·next c=>rw[List.map_cons,List.sum_cons,List.map_cons,List.sum_cons];dsimp only;rw[Int.add_mul,c];omega
  ·rw[List.map_cons,List.sum_cons,List.map_cons,List.sum_cons,JaP f s v r];omega
theorem JbY(f:Int->Int):∀(tb:List Tr) (a:List Pr),((Ub tb a).map fun p=>p.2*f p.1).sum=(a.map fun p=>p.2*f p.1).sum+(tb.map fun t=>t.2.2*f t.1).sum
 | [],a=>by simp[Ub]
 | t::tb,a=>by show((Ub tb (YV a t.1 t.2.2)).map fun p=>p.2*f p.1).sum=_;rw[JbY f tb,JaP,List.map_cons,List.sum_cons];omega
theorem JaN(s v:Int):∀(a:List Pr) (p:Pr),p∈YV a s v->p.1=s\/p.1∈a.map (·.1)
 | [],p,h=>by
  have:p=(s,v):=by simpa [YV] using h
  exact .inl (by rw[this])
 | q::r,p,h=>by
  rw[YV] at h;split at h
  ·rcases List.mem_cons.mp h with z|z
   ·exact .inr (by rw[z];simp)
   ·exact .inr (List.mem_map.mpr ⟨p,List.mem_cons_of_mem _ z,rfl⟩)
  ·rcases List.mem_cons.mp h with z|z
   ·exact .inr (by rw[z];simp)
   ·rcases JaN s v r p z with y|y
    ·exact .inl y
    ·exact .inr (by rw[List.map_cons];exact List.mem_cons_of_mem _ y)
theorem JbW:∀(tb:List Tr) (a:List Pr) (p:Pr),p∈Ub tb a->(∃t∈tb,t.1=p.1)\/p.1∈a.map (·.1)
 | [],a,p,h=>.inr (List.mem_map.mpr ⟨p,h,rfl⟩)
 | t::tb,a,p,h=>by
  rcases JbW tb (YV a t.1 t.2.2) p h with ⟨u,h1,h2⟩|z
  ·exact .inl ⟨u,List.mem_cons_of_mem _ h1,h2⟩
  ·obtain⟨q,hq,e⟩:=List.mem_map.mp z;rcases JaN t.1 t.2.2 a q hq with y|y
   ·exact .inl ⟨t,List.mem_cons_self,by rw[<- e,y]⟩
   ·exact .inr (by rw[<- e];exact y)
theorem Jb1{ps:List Pr}(g:Good ps){N:Nat}(hN:thN N ps=[]){s:Int}(hs:0<=s):((Ub (tbN N 0 ps) []).map fun p=>p.2*min p.1 s).sum=trS s 0 ps:=by
 rw[Jb2 N 0 s g hN hs,JbY (fun x=>min x s)];unfold shS;rw[List.map_nil,List.sum_nil,Int.zero_add];congr 1;refine List.map_congr_left fun t _=>?_
 rw[Int.sub_zero]
noncomputable def wS(s:Int)(xs:List Pr):Int:=(xs.map fun p=>p.2*min p.1 s).sum
noncomputable def wt(n:Int):List Pr->Int
 | []=>0
 | p::xs=>(if p.1=n then p.2 else 0)+wt n xs
theorem JaU(x n c:Int):2*(c*min x n)-c*min x (n-1)-c*min x (n+1)=if x=n then c else 0:=by
 by_cases h:x=n
 ·subst h;rw[if_pos rfl,Int.min_self,show min x (x-1)=x-1 by omega,show min x (x+1)=x by omega,Int.mul_sub];omega
 ·rw[if_neg h]
  by_cases h2:x<n
  ·rw[show min x n=x by omega,show min x (n-1)=x by omega,show min x (n+1)=x by omega];omega
  ·rw[show min x n=n by omega,show min x (n-1)=n-1 by omega,show min x (n+1)=n+1 by omega,Int.mul_sub,Int.mul_add];omega
theorem JmH(n:Int):∀xs:List Pr,2*wS n xs-wS (n-1) xs-wS (n+1) xs=wt n xs
 | []=>rfl
 | p::xs=>by
  have ih:=JmH n xs
  have h:=JaU p.1 n p.2;unfold wS at ih ⊢;rw[List.map_cons,List.map_cons,List.map_cons,List.sum_cons,List.sum_cons,List.sum_cons,wt,<- h,<- ih];omega
noncomputable def JaM:Int->List Pr->Prop
 | _,[]=>True
 | k,p::xs=>k<p.1/\1<=p.2/\JaM p.1 xs
theorem Vg:∀(xs:List Pr) (k n:Int),JaM k xs->n<=k->wt n xs=0
 | [],_,_,_,_=>rfl
 | p::xs,k,n,h,hn=>by obtain⟨h1,_,h3⟩:=h;rw[wt,if_neg (by omega),Vg xs p.1 n h3 (by omega)];rfl
theorem JhJ:∀(xs ys:List Pr) (k:Int),JaM k xs->JaM k ys->(∀n,k<n->wt n xs=wt n ys)->xs=ys
 | [],[],_,_,_,_=>rfl
 | [],q::ys,k,_,h,e=>by
  have:=e q.1 h.1;rw[wt,wt,if_pos rfl,Vg ys q.1 q.1 h.2.2 (by omega)] at this
  have:=h.2.1;omega
 | p::xs,[],k,h,_,e=>by
  have:=e p.1 h.1;rw[wt,wt,if_pos rfl,Vg xs p.1 p.1 h.2.2 (by omega)] at this
  have:=h.2.1;omega
 | p::xs,q::ys,k,hx,hy,e=>by
  have e1:=e p.1 hx.1
  have e2:=e q.1 hy.1
  have lx:=Vg xs p.1 p.1 hx.2.2 (by omega)
  have ly:=Vg ys q.1 q.1 hy.2.2 (by omega)
  have px:=hx.2.1
  have py:=hy.2.1;rw[wt,wt,if_pos rfl] at e1;rw[wt,wt,if_pos rfl] at e2
  have h1:p.1=q.1:=by
   by_cases a:p.1<q.1
   ·have:=Vg ys q.1 p.1 hy.2.2 (by omega);rw[if_neg (by omega)] at e1;omega
   ·by_cases b:q.1<p.1
    ·have:=Vg xs p.1 q.1 hx.2.2 (by omega);rw[if_neg (by omega)] at e2;omega
    ·omega
  rw[if_pos h1.symm] at e1;have l2:wt p.1 ys=0:=by rw[h1];exact ly
  have h2:p.2=q.2:=by omega
  have t:xs=ys:=JhJ xs ys p.1 hx.2.2 (by rw[h1];exact hy.2.2) fun n hn=>by have:=e n (by have:=hx.1;omega);rw[wt,wt,if_neg (by omega),if_neg (by omega)] at this;omega
  rw[t,show p=q from Prod.ext h1 h2]
noncomputable def mS(s:Int)(xs:List Int):Int:=(xs.map fun x=>min x s).sum
theorem JjQ(n:Int):∀xs:List Int,2*mS n xs-mS (n-1) xs-mS (n+1) xs=(xs.count n:Int)
 | []=>rfl
 | x::xs=>by
  have ih:=JjQ n xs
  have h:=JaU x n 1;unfold mS at ih ⊢;rw[List.map_cons,List.map_cons,List.map_cons,List.sum_cons,List.sum_cons,List.sum_cons,List.count_cons]
  by_cases e:x=n
  ·rw[if_pos (by simpa using e)];rw[if_pos e] at h;omega
  ·rw[if_neg (by simpa using e)];rw[if_neg e] at h;omega
noncomputable def JfF:List Pr->Prop
 | []=>True
 | [p]=>0<=p.2
 | p::q::r=>0<=p.2/\p.2<=q.1-p.1-p.2/\JfF (q::r)
theorem JiJ(s x:Int)(xs:List Int):mS s (x::xs)=min x s+mS s xs:=by unfold mS;rw[List.map_cons,List.sum_cons]
theorem Jer(s:Int)(hs:0<=s):∀ps:List Pr,JfF ps->trS s 0 ps=mS s (ps.map (·.2))
 | [],_=>rfl
 | [p],_=>by unfold mS;show min p.2 (s-0)=min p.2 s+0;omega
 | p::q::r,h=>by obtain⟨h0,h1,h2⟩:=h;have ih:=Jer s hs (q::r) h2;rw[Ym,show max 0 (0+min p.2 (s-0)-(q.1-p.1-p.2))=0 by omega,ih];rw[List.map_cons (l:=q::r),JiJ];omega
theorem Jcf:∀(xs:List Pr) (k:Int),(xs.map (·.1)).Pairwise (·<·)->(∀p∈xs,k<p.1)->(∀p∈xs,1<=p.2)->JaM k xs
 | [],_,_,_,_=>trivial
 | p::xs,k,h,h1,h2=>by rw[List.map_cons,List.pairwise_cons] at h;exact⟨h1 p List.mem_cons_self,h2 p List.mem_cons_self,Jcf xs p.1 h.2 (fun q hq=>h.1 q.1 (List.mem_map_of_mem hq)) fun q hq=>h2 q (List.mem_cons_of_mem _ hq)⟩
theorem JaO(s v:Int)(hv:1<=v):∀a:List Pr,(∀p∈a,1<=p.2)->∀p∈YV a s v,1<=p.2
 | [],_,p,hp=>by rw[YV,List.mem_singleton] at hp;rw[hp];exact hv
 | q::r,h,p,hp=>by
  have hq:=h q List.mem_cons_self;rw[YV] at hp;split at hp
  ·rcases List.mem_cons.mp hp with e|e
   ·rw[e];show 1<=q.2+v;omega
   ·exact h p (List.mem_cons_of_mem _ e)
  ·rcases List.mem_cons.mp hp with e|e
   ·rw[e];exact hq
   ·exact JaO s v hv r (fun x hx=>h x (List.mem_cons_of_mem _ hx)) p e
theorem JbX:∀(tb:List Tr) (a:List Pr),(∀t∈tb,1<=t.2.2)->(∀p∈a,1<=p.2)->∀p∈Ub tb a,1<=p.2
 | [],a,_,h,p,hp=>h p hp
 | t::tb,a,ht,h,p,hp=>JbX tb (YV a t.1 t.2.2) (fun u hu=>ht u (List.mem_cons_of_mem _ hu)) (JaO t.1 t.2.2 (ht t List.mem_cons_self) a h) p hp
theorem JeB{ps:List Pr}(g:Good ps)(N:Nat)(ht:∀t∈tbN N 0 ps,1<=t.1/\1<=t.2.2):JaM 0 (Ub (tbN N 0 ps) []):=by
 refine Jcf _ 0 (Jc0 N 0 ps [] g List.Pairwise.nil (fun x hx=>absurd hx List.not_mem_nil)).1 (fun p hp=>?_) (JbX _ [] (fun t h=>(ht t h).2) (fun p h=>absurd h List.not_mem_nil));rcases JbW _ [] p hp with ⟨t,h1,h2⟩|z
 ·have:=(ht t h1).1;omega
 ·exact absurd z List.not_mem_nil
theorem Jhz:∀(n:Nat) (k:Int) (qs:List Pr),0<=k->∀t∈tbN n k qs,1<=t.1/\1<=t.2.2
 | 0,_,_,_,t,h=>absurd h List.not_mem_nil
 | n+1,k,qs,hk,t,h=>by
  rw[tbN] at h;rcases List.mem_append.mp h with h|h
  ·unfold Ua at h;obtain⟨u,hu,rfl⟩:=List.mem_map.mp h;have:=of_decide_eq_true (List.mem_filter.mp hu).2;exact⟨by show 1<=k+1;omega,by show 1<=u.2.1-u.2.2;omega⟩
  ·exact Jhz n (k+1) (thF qs) (by omega) t h
theorem JhX{ps:List Pr}(g:Good ps)(N:Nat):JaM 0 (Ub (tbN N 0 ps) []):=JeB g N (Jhz N 0 ps (Int.le_refl _))
noncomputable def Ve:List Pr->Bool
 | p::q::r=>(decide (p.2<=q.2) && decide (p.2<=q.1-(p.1+p.2))) && Ve (q::r)
 | _=>true
noncomputable def tri:List Pr->List (Int×Int×Int)
 | p::q::r=>(p.2,q.2,q.1-(p.1+p.2))::tri (q::r)
 | _=>[]
noncomputable def Jnu(t:Int×Int×Int):D:=.tup [.int t.1,.int t.2.1,.int t.2.2]
theorem Jcc:∀ps:List Pr,Ue (ps.map fun p=>D.int p.2) ((ps.drop 1).map fun p=>D.int p.2) ((J2 ps).map .int)=(tri ps).map Jnu
 | []=>rfl
 | [_]=>rfl
 | p::q::r=>by
  have ih:=Jcc (q::r)
  show D.tup [.int p.2,.int q.2,.int (q.1-(p.1+p.2))]::Ue ((q::r).map fun p=>D.int p.2) (r.map fun p=>D.int p.2) ((J2 (q::r)).map .int)=_;rw[show r.map (fun p:Pr=>D.int p.2)=((q::r).drop 1).map fun p=>D.int p.2 from rfl,ih];rfl
theorem Jet:∀ps:List Pr,(tri ps).length<=ps.length
 | []=>Nat.le_refl _
 | [_]=>Nat.zero_le _
 | p::q::r=>by have:=Jet (q::r);rw[tri,List.length_cons,List.length_cons];omega
theorem Jes:∀ps:List Pr,((tri ps).map fun t=>decide (t.1<=t.2.1) && decide (t.1<=t.2.2)).all id=Ve ps
 | []=>rfl
 | [_]=>rfl
 | p::q::r=>by have ih:=Jes (q::r);rw[tri,List.map_cons,List.all_cons,ih];rfl
theorem VU(ps:List Pr)(h:ps.length<=1000):J8 [.sh (.row (ps.map prE))]=some (.sh (.bl (Ve ps))):=by
 have hgl:=Ui ps
 have htl:=Jet ps;unfold J8;walk_at "ev";rw[JJ (g:=fun p=>D.int p.2)]
 ·walk_at "ev";rw[JcD _ h];walk_at "ev";rw[JaZ,<- List.map_drop,Jcc];rw[JJ (g:=fun t:Int×Int×Int=>D.bl (decide (t.1<=t.2.1) && decide (t.1<=t.2.2)))]
  ·rw[if_pos (by rw[List.length_map];omega)];walk_at "ev";rw[Jir (ns:=(tri ps).map fun t=>decide (t.1<=t.2.1) && decide (t.1<=t.2.2)) (by simp[Sl.q]),Jes];walk_at "ev"
  ·intro t ht;simp only[Jnu];walk_at "ev"
   by_cases c:t.1<=t.2.1
   ·simp only[c];walk_at "ev"
   ·simp only[c];walk_at "ev";rfl
 ·intro p hp;simp only[prE];walk_at "ev"
theorem JdK(ps:List Pr)(g:Good ps)(h:ps.length<=30):Y3 [.sh (.row (ps.map prE))]=some (.sh (.bl (Ve (Y6 ps)))):=by unfold Y3;walk_at "ev";rw[U9 _ g h];walk_at "ev";rw[VU _ (by rw[Ul];omega)];walk_at "ev"
theorem JgA(ps:List Pr)(h:ps.length<=1000):Yd [.sh (.lst (ps.map prE))]=some (.own ((Y6 ps).map prE)):=by
 have hl:=Ul ps;unfold Yd;walk_at "ev";rw[Jd4,JJ (g:=fun p=>prE (Wi p))]
 ·walk_at "ev";have e:ps.reverse.map (fun p=>prE (Wi p))=(Y6 ps).map prE:=by unfold Y6;rw[List.map_map];rfl
  rw[e]
 ·intro p _;simp only[prE];walk_at "ev";rfl

noncomputable def stp(p:Pr):Pr:=(p.1+p.2,p.2)
theorem setF_two{p q:Pr}{r:List Pr}:Ve (p::q::r)=true↔p.2<=q.2/\p.2<=q.1-(p.1+p.2)/\Ve (q::r)=true:=by rw[Ve,Bool.and_eq_true,Bool.and_eq_true,decide_eq_true_eq,decide_eq_true_eq,and_assoc]
theorem Jcw:∀{ps:List Pr},Good ps->Ve ps=true->JfF ps
 | [],_,_=>trivial
 | [p],g,_=>by have:=Good.all g p (by simp);show 0<=p.2;omega
 | p::q::r,g,h=>by obtain⟨h1,h2,h3⟩:=setF_two.mp h;have:=Good.all g p (by simp);exact⟨by omega,by omega,Jcw (Good.cons' g) h3⟩
theorem Jdz:∀{ps:List Pr},JfF ps->goF none 0 ps=ps.map stp
 | [],_=>rfl
 | [p],h=>by have h0:0<=p.2:=h;simp only[goF,tkF,List.map_cons,List.map_nil,stp];congr 2;omega
 | p::q::r,h=>by obtain⟨h0,h1,h2⟩:=h;have ih:=Jdz h2;simp only[goF,tkF,List.map_cons,stp] at ih ⊢;rw[show min (0+p.2) (q.1-p.1-p.2)=p.2 by omega,show 0+p.2-p.2=0 by omega,ih];congr 2;omega
theorem WZ:∀{ps:List Pr},Ve ps=true->Ve (ps.map stp)=true
 | [],_=>rfl
 | [p],_=>rfl
 | p::q::r,h=>by obtain⟨h1,h2,h3⟩:=setF_two.mp h;have ih:=WZ h3;rw[List.map_cons] at ih;rw[List.map_cons,List.map_cons];refine setF_two.mpr ⟨h1,?_,ih⟩;show p.2<=q.1+q.2-(p.1+p.2+p.2);omega
theorem WG{ps:List Pr}(g:Good ps)(h:Ve ps=true):Vp ps none=ps.map stp:=by rw[<- Jgi g none (fun s e=>by cases e),Jdz (Jcw g h)]
noncomputable def Jck(xs:List Int):List Pr:=(Yc (fM xs)).map fun x=>(x,(xs.count x:Int))
theorem Jme(xs:List Int):(Yc (fM xs)).Pairwise (·<·):=by
 have a:=VD (fM xs)
 have b:(Yc (fM xs)).Pairwise (·≠·):=(J1 (fM xs)).nodup_iff.mpr (WD xs);exact(List.pairwise_and_iff.mpr ⟨a,b⟩).imp fun h=>by omega
theorem JaE(xs:List Int)(x:Int):x∈Yc (fM xs)↔x∈xs:=by rw[(J1 (fM xs)).mem_iff,JkG]
theorem Jh5{xs:List Int}(h:∀x∈xs,0<x):JaM 0 (Jck xs):=by
 unfold Jck;refine Jcf _ 0 ?_ (fun p hp=>?_) (fun p hp=>?_)
 ·rw[List.map_map];exact(List.map_id _).symm▸Jme xs
 ·obtain⟨x,hx,rfl⟩:=List.mem_map.mp hp;exact h x ((JaE xs x).mp hx)
 ·obtain⟨x,hx,rfl⟩:=List.mem_map.mp hp;have:=List.count_pos_iff.mpr ((JaE xs x).mp hx);show(1:Int)<=(xs.count x:Int);omega
theorem JhK(f:Int->Int)(n:Int):∀(l:List Int),l.Nodup->wt n (l.map fun x=>(x,f x))=if n∈l then f n else 0
 | [],_=>rfl
 | x::l,nd=>by
  obtain⟨h1,h2⟩:=List.nodup_cons.mp nd;have ih:=JhK f n l h2;rw[List.map_cons,wt,ih]
  by_cases c:x=n
  ·subst c;simp[h1]
  ·have c':¬n=x:=fun e=>c e.symm
   simp[c,c']
theorem Jkn(xs:List Int)(n:Int):wt n (Jck xs)=(xs.count n:Int):=by
 unfold Jck;rw[JhK (fun x=>(xs.count x:Int)) n _ ((J1 (fM xs)).nodup_iff.mpr (WD xs))];split
 ·rfl
 ·rename_i c;rw[JaE] at c;rw[List.count_eq_zero.mpr c];rfl
theorem Jfb{ps:List Pr}(g:Good ps)(h:JfF ps){N:Nat}(hN:thN N ps=[]):Ub (tbN N 0 ps) []=Jck (ps.map (·.2)):=by
 have pos:∀x∈ps.map (·.2),0<x:=fun x hx=>by obtain⟨p,hp,rfl⟩:=List.mem_map.mp hx;have:=Good.all g p hp;omega
 refine JhJ _ _ 0 (JhX g N) (Jh5 pos) fun n hn=>?_
 have e:∀s:Int,0<=s->wS s (Ub (tbN N 0 ps) [])=mS s (ps.map (·.2)):=fun s hs=>(Jb1 g hN hs).trans (Jer s hs ps h)
 rw[Jkn,<- JmH,<- JjQ,e n (by omega),e (n-1) (by omega),e (n+1) (by omega)]
noncomputable def Yb(L G:Nat->Int)(a:Int):Nat->Int×List Pr
 | 0=>(a,[])
 | n+1=>((Yb L G a n).1+L n+G n,(Yb L G a n).2++[((Yb L G a n).1,L n)])
theorem Uk(L G:Nat->Int)(a:Int):∀n,(Yb L G a n).2.length=n
 | 0=>rfl
 | n+1=>by rw[Yb,List.length_append,Uk L G a n];rfl
theorem ZC(L G:Nat->Int)(a:Int):∀n,(∀i,i<n->1<=L i/\1<=G i)->Good (Yb L G a n).2/\∀q,(Yb L G a n).2[n-1]?=some q->q.1+q.2<(Yb L G a n).1
 | 0,_=>⟨Good.nil,fun q e=>by simp[Yb] at e⟩
 | n+1,h=>by
  obtain⟨g,e⟩:=ZC L G a n fun i hi=>h i (by omega)
  obtain⟨l1,g1⟩:=h n (by omega);have hl:=Uk L G a n;refine⟨g.snoc l1 (by rw[hl];exact e),fun q hq=>?_⟩;have hq':((Yb L G a n).2++[((Yb L G a n).1,L n)])[n]?=some q:=hq;rw[List.getElem?_append_right (by omega),hl,Nat.sub_self] at hq';cases hq';show(Yb L G a n).1+L n<(Yb L G a n).1+L n+G n;omega
theorem ZK:∀(ps:List Pr) (q:Pr),Ve ps=true->(∀p,ps[ps.length-1]?=some p->p.2<=q.2/\p.2<=q.1-(p.1+p.2))->Ve (ps++[q])=true
 | [],q,_,_=>rfl
 | [p],q,_,h=>by obtain⟨h1,h2⟩:=h p rfl;exact setF_two.mpr ⟨h1,h2,rfl⟩
 | p::p'::r,q,hs,h=>by obtain⟨h1,h2,h3⟩:=setF_two.mp hs;exact setF_two.mpr ⟨h1,h2,ZK (p'::r) q h3 fun x hx=>h x (by simpa using hx)⟩
theorem Jbi(L G:Nat->Int)(a:Int):∀n,(∀i,i+1<n->L i<=L (i+1))->(∀i,i<n->L i<=G i)->Ve (Yb L G a n).2=true
 | 0,_,_=>rfl
 | n+1,h1,h2=>by
  have ih:=Jbi L G a n (fun i hi=>h1 i (by omega)) fun i hi=>h2 i (by omega)
  refine ZK _ _ ih fun p hp=>?_
  rw[Uk] at hp
  cases n with
  | zero=>simp[Yb] at hp
  | succ n =>
   have hl:=Uk L G a n
   have hp':((Yb L G a n).2++[((Yb L G a n).1,L n)])[n]?=some p:=hp;rw[List.getElem?_append_right (by omega),hl,Nat.sub_self] at hp';cases hp'
   have:=h1 n (by omega)
   have:=h2 n (by omega);refine⟨by assumption,?_⟩
   show L n<=(Yb L G a n).1+L n+G n-((Yb L G a n).1+L n);omega
theorem Jk7(ns:List Int)(many span:Int)(h0:0<=many)(h1:many<=30)(h2:0<span):∃ps,Good ps/\ps.length<=30/\Ve ps=true/\Yv [.sh (.fz (ns.map .int)),.sh (.int many),.sh (.int span)]=some (.own (ps.map prE)):=by
 obtain⟨n,rfl⟩:∃n:Nat,many=(n:Int):=⟨many.toNat,by omega⟩
 let L0:List Int:=(List.range n).map fun(k:Nat)=>1+cell ns (2+2*k) % span
 have L0p:∀x∈L0,1<=x:=fun x hx=>by obtain⟨k,_,rfl⟩:=List.mem_map.mp hx;have:=Int.emod_nonneg (cell ns (2+2*k)) (b:=span) (by omega);show 1<=1+cell ns (2+2*k) % span;omega
 have L0l:L0.length=n:=by simp[L0]
 have h64:L0.length<64:=by omega
 have L1l:(Yc L0).length=n:=by rw[(J1 L0).length_eq,L0l]
 let L:Nat->Int:=fun i=>(Yc L0).getD i 0
 have Lg:∀i,(h:i<n)->L i=(Yc L0)[i]'(by omega):=fun i hi=>by show(Yc L0).getD i 0=_;rw[List.getD_eq_getElem?_getD,List.getElem?_eq_getElem (by omega)];rfl
 have Lp:∀i,i<n->1<=L i:=fun i hi=>by rw[Lg i hi];exact L0p _ ((J1 L0).mem_iff.mp (List.getElem_mem _))
 have Lm:∀i,i+1<n->L i<=L (i+1):=fun i hi=>by rw[Lg i (by omega),Lg (i+1) hi];exact List.pairwise_iff_getElem.mp (VD L0) i (i+1) (by omega) (by omega) (by omega)
 have Lat:∀i:Nat,i<n->atI ((Yc L0).map D.int) (i:Int)=some (.int (L i)):=fun i hi=>JfN (by rw[List.getElem?_map,List.getElem?_eq_getElem (by omega),Lg i hi];rfl)
 let X:Nat->Int:=fun i=>JbD [0,1,cell ns (3+2*i) % span] (cell ns (3+2*i) / 7 % 3)
 have Xp:∀i,0<=X i:=fun i=>JbE (P:=fun x=>0<=x) (by omega) (by show _<(3:Int);omega) (by
  have:=Int.emod_nonneg (cell ns (3+2*i)) (b:=span) (by omega);intro x hx;simp only[List.mem_cons,List.not_mem_nil,or_false] at hx;omega)
 let G:Nat->Int:=fun i=>L i+X i
 have Gp:∀i,i<n->L i<=G i:=fun i hi=>by
  have:=Xp i
  show L i<=L i+X i;omega
 refine⟨(Yb L G (cell ns 1 % (2*span+1)-span) n).2,(ZC L G _ n fun i hi=>⟨Lp i hi,by have:=Lp i hi;have:=Gp i hi;omega⟩).1,by rw[Uk];omega,Jbi L G _ n Lm Gp,?_⟩;unfold Yv;walk_at "ev";rw[Jaq _ _ (by omega)];walk_at "ev";rw[Jnn,JJ (g:=fun(k:Nat)=>D.int (1+cell ns (2+2*k) % span))]
 ·rw[if_pos (by rw[List.length_map,List.length_range];omega)];rw[show(List.range ((n:Int)).toNat).map (fun(k:Nat)=>D.int (1+cell ns (2+2*k) % span))=L0.map D.int by simp[L0]];walk_at "ev";rw[Jnn,Option.bind_assoc];refine Jgw (fun i E=>∃j6,E=[.sh (.fz (ns.map .int)),.sh (.int n),.sh (.int span),.own ((Yb L G (cell ns 1 % (2*span+1)-span) i).2.map prE),.sh (.int (Yb L G (cell ns 1 % (2*span+1)-span) i).1),.sh (.lst ((Yc L0).map .int)),j6]) ⟨.no,rfl⟩ ?_ ?_
  ·rintro i E hi ⟨j6,rfl⟩;have hi':i<n:=by simpa using hi
   have hml:=Uk L G (cell ns 1 % (2*span+1)-span) i
   have ap:=JaT (l:=[0,1,cell ns (3+2*i) % span]) (k:=cell ns (3+2*i) / 7 % 3) (by omega) (by show _<(3:Int);omega);simp only[List.map_cons,List.map_nil] at ap;walk_at "ev";rw[Lat i hi'];walk_at "ev";rw[Jaq _ _ (by omega)];walk_at "ev";rw[ap,Lat i hi'];walk_at "ev";refine⟨.sh (.int i),?_⟩;rw[Yb,List.map_append];rw[show(Yb L G (cell ns 1 % (2*span+1)-span) i).1+2*L i+JbD [0,1,cell ns (3+2*i) % span] (cell ns (3+2*i) / 7 % 3)=(Yb L G (cell ns 1 % (2*span+1)-span) i).1+L i+G i by show _=_+L i+(L i+JbD [0,1,cell ns (3+2*i) % span] (cell ns (3+2*i) / 7 % 3));omega]
   rfl
  ·rintro E' ⟨j6,rfl⟩;walk_at "ev";rw[show((n:Int)).toNat=n by simp]
 ·intro k hk;walk_at "ev";rw[Jaq _ _ (by omega)];walk_at "ev"
theorem Jfs:(D.non:D)=U3 none:=rfl
theorem Jga(ps:List Pr):Y2 (.tp (.cons (.nm 0) (.cons (.nm 1) .nil))) yes? (Uv (aC (e2 Ya (Jd 0) (Jd 1)) (aC (Jd 1) a0))) [.no,.no] (ps.map prE)=some ((ps.map stp).map prE):=by
 rw[List.map_map];refine JJ fun p _=>?_
 simp only[prE];walk_at "ev";rfl
theorem Jf7(ps:List Pr):Y2 (.tp (.cons (.nm 0) (.cons (.nm 1) .nil))) yes? (Uv (aC (e2 Ux (Jd 0) (Jd 1)) (aC (Jd 1) a0))) [.no,.no] (ps.map prE)=some ((ps.map fun p=>((p.1-p.2,p.2):Pr)).map prE):=by
 rw[List.map_map];refine JJ fun p _=>?_
 simp only[prE];walk_at "ev";rfl
theorem Jf9(ps:List Pr):Y2 (.tp (.cons (.nm 0) (.cons (.nm 1) .nil))) yes? (Jd 1) [.no,.no] (ps.map prE)=some ((ps.map (·.2)).map D.int):=by
 rw[List.map_map];refine JJ fun p _=>?_
 simp only[prE];walk_at "ev";rfl
theorem Jf8(xs:List Int):Y2 (.nm 0) yes? (Uv (aC (Jd 0) (aC (eMI Jdr (Jd 1) (Jd 0)) a0))) [.no,.sh (.lst (xs.map D.int))] ((Yc (fM xs)).map D.int)=some ((Jck xs).map prE):=by
 unfold Jck;rw[List.map_map];refine JJ fun x _=>?_
 walk_at "ev";simp only[Jdr];walk_at "ev";rfl
theorem JjE(xs:List Int):(Yc (fM xs)).length<=xs.length:=by rw[(J1 _).length_eq];exact Jgd xs
theorem JiO(ps:List Pr):Y6 (ps.map stp)=(Y6 ps).map fun p=>((p.1-p.2,p.2):Pr):=by
 unfold Y6;rw[<- List.map_reverse,List.map_map,List.map_map];refine List.map_congr_left fun p _=>?_
 show((1-(p.1+p.2)-p.2,p.2):Pr)=(1-p.1-p.2-p.2,p.2)
 congr 1;omega
theorem law_true(ns:List Int)(hn:ns.length<=63):Jcq [.sh (.fz (ns.map .int))]=some (.sh (.bl true)):=by
 have sp:0<JbD [7,10 ^ 30] (cell ns 0 / 30 % 2):=JbE (by omega) (by show _<(2:Int);omega) (by decide)
 have a2:=JaT (l:=[7,10 ^ 30]) (k:=cell ns 0 / 30 % 2) (by omega) (by show _<(2:Int);omega);simp only[List.map_cons,List.map_nil] at a2;obtain⟨ps,g,h30,hset,hm⟩:=Jk7 ns (1+cell ns 0 % 30) (JbD [7,10 ^ 30] (cell ns 0 / 30 % 2)) (by omega) (by omega) sp
 have gm:=UK g
 have hml:=Ul ps
 have gs:Good (ps.map stp):=by rw[<- WG g hset];exact U7 g none (fun s e=>by cases e)
 have hsl:(ps.map stp).length=ps.length:=List.length_map _
 have okn:OkS none:=fun s e=>by cases e
 have hN:=Jeo (ps.map fun p:Pr=>p.2).sum.toNat g (by omega)
 have hlm:=JiL ps _ g h30 hN;rw[Jfb g (Jcw g hset) hN] at hlm;unfold Jcq;walk_at "ev";rw[Jaq _ _ (by omega)];walk_at "ev";rw[a2];walk_at "ev";rw[hm];walk_at "ev";rw[UU rfl g h30];walk_at "ev";rw[Jfs,Jgy _ none g h30 okn,WG g hset];walk_at "ev";rw[VU _ (by omega),hset];walk_at "ev";rw[VU _ (by omega),WZ hset];walk_at "ev";rw[Jga];walk_at "ev";rw[Jf9];walk_at "ev";rw[hlm];walk_at "ev";rw[if_pos (by have:=JjE (ps.map (·.2));rw[List.length_map] at this;omega),Jf8]
 walk_at "ev";rw[JgA _ (by omega)];walk_at "ev";rw[UU rfl gm (by omega)];walk_at "ev";rw[Jk6 _ none gm (by omega) okn,show JfP (Y6 ps) none=Y6 (ps.map stp) by unfold JfP;rw[VW,WG g hset]];walk_at "ev";rw[JdK _ gm (by omega),VW,hset];walk_at "ev";rw[JdK _ (UK gs) (by rw[Ul];omega),VW,WZ hset];walk_at "ev";rw[Jf7,JiO];walk_at "ev"
end
end LK
noncomputable section
namespace LK
open PySem L2 LR LE
noncomputable def top(i:Nat):Stmt:=PySem.Challenge.pw_lumprow_k49_far_rows_move_on.main.body.getD i (.Pass ⟨0,0,0,0⟩)
noncomputable abbrev YY:Stmt:=top 11
noncomputable abbrev Y0:Stmt:=top 24
noncomputable abbrev JO:Stmt:=top 8
noncomputable abbrev YK:Stmt:=JiF (top 7) 0
noncomputable abbrev YO:Stmt:=top 12
noncomputable abbrev UZ:Stmt:=top 25
noncomputable abbrev Yj:Stmt:=top 10
noncomputable abbrev Ye:Stmt:=top 27
noncomputable abbrev U0:Stmt:=top 28
noncomputable abbrev V2:Stmt:=top 29
noncomputable abbrev V1:Stmt:=top 30
noncomputable abbrev Yk:Stmt:=top 33
noncomputable abbrev YA:Stmt:=top 16
noncomputable abbrev Yz:Stmt:=top 15
noncomputable abbrev YB:Stmt:=top 14
noncomputable abbrev Y1:Stmt:=top 17
noncomputable abbrev YX:Stmt:=top 9
noncomputable abbrev YZ:Stmt:=top 19
noncomputable abbrev Up:Stmt:=top 18
noncomputable abbrev YQ:Stmt:=top 21
noncomputable abbrev YN:Stmt:=top 22
noncomputable abbrev YL:Stmt:=top 32
noncomputable abbrev YM:Stmt:=top 34
noncomputable abbrev Vz:Stmt:=top 35
section
variable{P:Program}{w:World}{K:Frag}{C:Addr}{mg:Str->Option Value}{base:Heap}
theorem JcU:FnScope ["row"] ["row"] (Jf YY):=⟨rfl,rfl,rfl,by decide +kernel,rfl,by decide +kernel,by decide +kernel⟩
theorem JcJ{f:Addr}{fd:FuncData}(F:Fun K "gaps_of" "gaps_of" YY f fd)(qt:mg "sum"=none)(qB:mg "zip"=none)(T:RowC K C):FnOk P w K mg base CX0 1 f fd ["row"] (spE K C 1 JZ):=by
 refine F.ok JcU (fun vs H Q E h=>JF h) (fun cdv A outer s H vs Q E hr h=>?_);have hu:=hr.units;refine⟨_,(Jm (JM (JX (N':=["left","right"]) (imp:=[none,none]) rfl (JdR (K:=K) rfl rfl qB (Ja (J9 (K:=K) rfl (pv 0) rfl) (Ja (JbB (Jec (K:=K) rfl) (J9 (K:=K) rfl (pv 0) rfl) (JdU Jn) JdT) Je))) (Wg rfl rfl) (fun _ _ _ _=>(JH (K:=K) (n:=2) rfl rfl (Ji (Jk (i:=0) (show(["left","right"]:List Str).Nodup from by decide +kernel) rfl (.inl rfl) (.inr rfl)) (Ji (Jk (i:=1) (show(["left","right"]:List Str).Nodup from by decide +kernel) rfl (.inl rfl) (.inr rfl)) JI)) rfl rfl)) (fun _ _ _ _=>JL) (fun _ _ _ _=>(Jq Yt (UB (Yr (K:=K) rfl) (pv 1) Jn (fun _ _=>rfl)) (J4 (US (K:=K) rfl rfl) rfl qt Z0 (Ja (pv 0) Je))))))),?_⟩
 exact JD (N:=["row"]) (Yq (Yg (Jhg (Jc (Y8 T (Jb 0)) (Jc (Jnp (Y8 T (Jb 0)) (JgK Jt) JgJ) Jj))) (YD (Jp (JU 0) (Jp (JU 1) YC)) rfl) YU (Jr Y7 (Jr Wj (Jb 1) Jt) (Vy Jdb (Jc (Jb 0) Jj))) rfl)) h
theorem sc_settled:FnScope ["row","lengths"] ["row"] (Jf Y0):=⟨rfl,rfl,rfl,by decide +kernel,rfl,by decide +kernel,by decide +kernel⟩
theorem JcL{f:Addr}{fd:FuncData}(F:Fun K "settled" "settled" Y0 f fd)(qP:mg "all"=none)(qB:mg "zip"=none)(qb:Cal P w K mg base "gaps_of" 1 ["row"] (spE K C 1 JZ))(T:RowC K C):FnOk P w K mg base CX0 2 f fd ["row"] (spE K C 1 J8):=by
 refine F.ok sc_settled (fun vs H Q E h=>JF h) (fun cdv A outer s H vs Q E hr h=>?_);have hu:=hr.units;refine⟨_,(Jg (JcP (i:=1) (N':=["begin","length"]) (imp:=[none,none]) sc_settled.nd rfl (.inl rfl) rfl (Yf (K:=K) rfl (J9 (K:=K) rfl (pv 0) rfl)) (Wg rfl rfl) (fun _ _ _ _=>(JH (K:=K) (n:=2) rfl rfl (Ji (Jk (i:=0) (show(["begin","length"]:List Str).Nodup from by decide +kernel) rfl (.inl rfl) (.inr rfl)) (Ji (Jk (i:=1) (show(["begin","length"]:List Str).Nodup from by decide +kernel) rfl (.inl rfl) (.inr rfl)) JI)) rfl rfl)) (fun _ _ _ _=>JL) (fun _ _ _ _=>(pv 1)) rfl (.inl rfl))
  (Jm (JM (J4 (JeE (K:=K) rfl rfl) rfl qP Jki (Ja (JX (N':=["left","right","gap"]) (imp:=[none,none,none]) rfl (JgQ (K:=K) rfl rfl qB (Ja (pv 1) (Ja (JbB (Jec (K:=K) rfl) (pv 1) (JdU Jn) JdT) (Ja (Jl qb (hr.mono (by decide)) rfl (Ja (pv 0) Je)) Je)))) (Wg rfl rfl) (fun _ _ _ _=>(JH (K:=K) (n:=3) rfl rfl (Ji (Jk (i:=0) (show(["left","right","gap"]:List Str).Nodup from by decide +kernel) rfl (.inl rfl) (.inr rfl)) (Ji (Jk (i:=1) (show(["left","right","gap"]:List Str).Nodup from by decide +kernel) rfl (.inl rfl) (.inr rfl)) (Ji (Jk (i:=2) (show(["left","right","gap"]:List Str).Nodup from by decide +kernel) rfl (.inl rfl) (.inr rfl)) JI))) rfl rfl)) (fun _ _ _ _=>JL) (fun _ _ _ _=>(Jlr (Jau JdO (pv 0) (pv 1) (J0 _)) (Jlu (Jau JdO (pv 0) (pv 2) (J0 _)))))) Je))))),?_⟩
 exact JD (N:=["row","lengths"]) (Jx (JC (Yg (Wk (Y8 T (Jb 0))) (YD (Jp (JU 0) (Jp (JU 1) YC)) rfl) YU (Jb 1) rfl))
  (Yq (Vy JmI (Jc (Yg (Jjq (Jc (Jb 1) (Jc (Jnp (Jb 1) (JgK Jt) JgJ) (Jc (Jv (Jc (Jb 0) Jj)) Jj)))) (YD (Jp (JU 0) (Jp (JU 1) (Jp (JU 2) YC))) rfl) YU (Jno (Jr Jlc (Jb 0) (Jb 1)) (Jr Jlc (Jb 0) (Jb 2))) rfl) Jj)))) h
theorem sc_check_stretches:FnScope ["stretches","behind","begin","length"] ["stretches"] (Jf JO):=⟨rfl,rfl,rfl,by decide +kernel,rfl,by decide +kernel,by decide +kernel⟩
theorem Vb{f:Addr}{fd:FuncData}(F:Fun K "check_stretches" "check_stretches" JO f fd) :FnOk P w K mg base CX0 1 f fd ["stretches"] (Wt K):=by
 refine F.ok sc_check_stretches (fun vs H Q E h=>?_) (fun cdv A outer s H vs Q E hr h=>?_)
 ·obtain⟨v,ps,rfl,_⟩:=h;rfl
 ·obtain⟨v,ps,rfl,⟨a,vs,rfl,hq,hp⟩,g,q⟩:=h;have hu:=hr.units;refine⟨_,(Jg (Jy (i:=1) sc_check_stretches.nd rfl (.inl rfl) Vd)
   (Jm (V0 PassesOwn.never rfl (Yf (K:=K) rfl (pv 0)) (JH (K:=K) (n:=2) rfl rfl (Ji (Jk (i:=2) sc_check_stretches.nd rfl (.inl rfl)) (Ji (Jk (i:=3) sc_check_stretches.nd rfl (.inl rfl)) JI)) rfl rfl) (Jg (UM (JT JdP (pv 3) Jn (J0 _)) (Jm Vu) YR)
   (Jg (UM (PW.pt (WW (JT Jbx (pv 1) Vd (J0 _)) (Vx (JT JdO (pv 2) (pv 1) (J0 _))))) (Jm Vu) YR)
   (Jm (Jy (i:=1) sc_check_stretches.nd rfl (.inl rfl) (Jq (JdL (K:=K) rfl) (pv 2) (pv 3))))))))),?_⟩
  walk_at "rd";refine Jfo (H1:=H) (a:=a) (xs:=vs) (fun R r=>⟨_,rfl,r⟩) hq
   (fun i σ' H'=>∃vb vl,σ'=[some (.ref a),some (Jc9 ps i),vb,vl]/\H'=H) ⟨none,none,rfl,rfl⟩ (fun i σ' H' ⟨_,_,_,e⟩=>e▸Same.refl _) ?_ ?_
  ·rintro i x σ' H' hi ⟨vb,vl,rfl,rfl⟩;obtain⟨p,b,e1,rfl,sp⟩:=hp.at hi;refine Jd2 sp rfl ?_;walk_at "rd";refine ifd (fun hlt=>absurd (g.one i p e1) (by omega)) (fun _=>?_);walk_at "rd"
   cases i with
   | zero=>refine ifF rfl ?_;refine ifF rfl ?_;walk_at "rd";exact⟨_,_,by rw[UG e1];rfl,rfl⟩
   | succ j =>
    obtain⟨q1,e2⟩:∃q1,ps[j]?=some q1:=⟨ps[j]'(by have:=(List.getElem?_eq_some_iff.mp e1).1;omega),by have:=(List.getElem?_eq_some_iff.mp e1).1;simp[show j<ps.length by omega]⟩
    rw[UG e2];refine ifT rfl ?_;walk_at "rd";refine ifd (fun hle=>absurd (g.gap j q1 p e2 e1) (by omega)) (fun _=>?_);walk_at "rd";exact⟨_,_,by rw[UG e1];rfl,rfl⟩
  ·rintro σ' H' ⟨vb,vl,rfl,rfl⟩;exact q _ (Same.refl _)
theorem JbK:FnScope ["self","stretches"] ["self","stretches"] (Jf YK):=⟨rfl,rfl,rfl,by decide +kernel,rfl,by decide +kernel,by decide +kernel⟩
theorem Jbr{f:Addr}{fd:FuncData}(F:Fun K "__init__" "Row.__init__" YK f fd)(qq:mg "tuple"=none)(qJ:mg "len"=none)(qh:GV mg "MOST_STRETCHES" (.int 30))(qg:Cal P w K mg base "check_stretches" 1 ["stretches"] (Wt K))(T:RowC K C):FnOk P w K mg base CX0 2 f fd ["self","stretches"] (UQ C K):=by
 refine F.ok JbK (fun vs H Q E h=>?_) (fun cdv A outer s H vs Q E hr h=>?_)
 ·obtain⟨x,dx,v,ps,rfl,_⟩:=h;rfl
 ·obtain⟨x,dx,v,ps,rfl,hx,⟨a,vs,rfl,hq,hp⟩,g,hl,q⟩:=h;have hu:=hr.units;refine⟨_,(Jg (UM (JT JdN (J4 (Zo (K:=K) rfl) rfl qJ JfS (Ja (pv 1) Je)) (JgM rfl qh) (J0 _)) (Jm Vu) YR)
   (Jg (Uz (Jl qg (hr.mono (by decide)) rfl (Ja (pv 1) Je)))
   (Jm (Ji6 (K:=K) rfl (pv 0) (Um (UI (K:=K) rfl) rfl qq Wy (Ja (JX (N':=["begin","length"]) (imp:=[none,none]) rfl (Yf (K:=K) rfl (pv 1)) (Wg rfl rfl) (fun _ _ _ _=>(JH (K:=K) (n:=2) rfl rfl (Ji (Jk (i:=0) (show(["begin","length"]:List Str).Nodup from by decide +kernel) rfl (.inl rfl) (.inr rfl)) (Ji (Jk (i:=1) (show(["begin","length"]:List Str).Nodup from by decide +kernel) rfl (.inl rfl) (.inr rfl)) JI)) rfl rfl)) (fun _ _ _ _=>JL) (fun _ _ _ _=>(YE (Ja (pv 0) (Ja (pv 1) Je))))) Je)) rfl)))),?_⟩
  have hn:=hp.len;walk_at "rd";refine JbG hq ?_;walk_at "rd";refine ifd (fun hgt=>absurd hl (by omega)) (fun _=>?_);walk_at "rd";refine Jf1 ⟨a,vs,rfl,hq,hp⟩ g fun H1 s1=>?_
  walk_at "rd";refine JcR (H1:=H1) (a:=a) (xs:=vs) (fun R r=>⟨_,rfl,r⟩) (hq.imp s1.seq s1.seqT) (Nat.le_of_lt (Jft (by omega)))
   (fun i ys σ' H'=>∃vb vl,σ'=[vb,vl]/\Same H1 H'/\Prs K H' ys (ps.take i)) ⟨none,none,rfl,Same.refl _,by rw[List.take_zero];exact RepL.nil⟩
   (fun i ys σ' H' ⟨_,_,_,_,r⟩=>by have:=r.len;rw[this,List.length_take];omega) (fun i ys σ' H' ⟨_,_,_,s',_⟩=>s') ?_ ?_
  ·rintro i ys y σ' H' hi ⟨vb,vl,rfl,s',r⟩;obtain⟨p,b,e1,rfl,sp⟩:=Prs.at (K:=K) (ps:=ps) (RepL.mono (s1.trans s') hp) hi;refine Jd2 sp rfl ?_;walk_at "rd";refine ifT rfl ?_;walk_at "rd";refine Jkg sz2 fun t H2 nt s2 ht=>?_
   refine⟨_,_,rfl,s'.trans s2,?_⟩;rw[List.take_add_one,e1];exact Prs.snoc (RepL.mono s2 r) (Ji5 ht)
  ·rintro ys σ' H' ⟨vb,vl,rfl,s',r⟩ l H2 nl s2 hl2;walk_at "rd";refine Jfp (.of hl2) fun t H3 nt s3 ht=>?_
   walk_at "rd";have sA:Same H H3:=((s1.trans s').trans s2).trans s3;refine⟨x,C,dx,[],rfl,sA _ _ hx,T.cl,T.ns,by decide,?_⟩;rw[hn,List.take_length] at r;have r3:Prs K H3 ys ps:=RepL.mono (s2.trans s3) r;have ntx:t≠x:=ZD ht (sA _ _ hx) (by intro z;cases z);refine q _ t ys (sA.ex_trans SameEx.upd) (by rw[JgW];exact Jo) (by rw[Jh ntx];exact ht) ?_;exact Prs.monoIns SameEx.upd (sA _ _ hx) r3
theorem JbM:FnScope ["row"] ["row"] (Jf YO):=⟨rfl,rfl,rfl,by decide +kernel,rfl,by decide +kernel,by decide +kernel⟩
theorem Jbv{f:Addr}{fd:FuncData}(F:Fun K "mirrored" "mirrored" YO f fd)(qi:mg "reversed"=none)(ql:CalM P w K mg base "Row" C 2 ["self","stretches"] (UQ C K))(T:RowC K C):FnOk P w K mg base CX0 4 f fd ["row"] (spE K C 1 JW):=by
 refine F.ok JbM (fun vs H Q E h=>JF h) (fun cdv A outer s H vs Q E hr h=>?_);have hu:=hr.units;refine⟨_,(Jm (JM (Uo ql (hr.mono (by decide)) rfl (Ja (JX (N':=["begin","length"]) (imp:=[none,none]) rfl (JdQ (K:=K) rfl rfl qi (Ja (J9 (K:=K) rfl (pv 0) rfl) Je)) (Wg rfl rfl) (fun _ _ _ _=>(JH (K:=K) (n:=2) rfl rfl (Ji (Jk (i:=0) (show(["begin","length"]:List Str).Nodup from by decide +kernel) rfl (.inl rfl) (.inr rfl)) (Ji (Jk (i:=1) (show(["begin","length"]:List Str).Nodup from by decide +kernel) rfl (.inl rfl) (.inr rfl)) JI)) rfl rfl)) (fun _ _ _ _=>JL) (fun _ _ _ _=>(YE (Ja (Jq Yt (Jq Yt Jn (pv 0)) (pv 1)) (Ja (pv 1) Je))))) Je)))),?_⟩
 exact JD (N:=["row"]) (Yq (ZJ (Jc (Yg (Jhf (Jc (Y8 T (Jb 0)) Jj)) (YD (Jp (JU 0) (Jp (JU 1) YC)) rfl) YU (Uq (Jc (Jr Y7 (Jr Y7 Jt (Jb 0)) (Jb 1)) (Jc (Jb 1) Jj))) rfl) Jj))) h
theorem Jhh:FnScope ["row"] ["row"] (Jf UZ):=⟨rfl,rfl,rfl,by decide +kernel,rfl,by decide +kernel,by decide +kernel⟩
theorem JgF{f:Addr}{fd:FuncData}(F:Fun K "early" "early" UZ f fd)(qj:Cal P w K mg base "settled" 2 ["row"] (spE K C 1 J8))(qd:Cal P w K mg base "mirrored" 4 ["row"] (spE K C 1 JW)):FnOk P w K mg base CX0 5 f fd ["row"] (spE K C 1 Y3):=by refine F.ok Jhh (fun vs H Q E h=>JF h) (fun cdv A outer s H vs Q E hr h=>?_);have hu:=hr.units;refine⟨_,(Jm (JM (Jl qj (hr.mono (by decide)) rfl (Ja (Jl qd (hr.mono (by decide)) rfl (Ja (pv 0) Je)) Je)))),?_⟩;exact JD (N:=["row"]) (Yq (Jv (Jc (Jv (Jc (Jb 0) Jj)) Jj))) h
theorem Zd:FnScope ["row"] ["row"] (Jf Yj):=⟨rfl,rfl,rfl,by decide +kernel,rfl,by decide +kernel,by decide +kernel⟩
theorem Zb{f:Addr}{fd:FuncData}(F:Fun K "ball_count" "ball_count" Yj f fd)(qt:mg "sum"=none)(T:RowC K C):FnOk P w K mg base CX0 1 f fd ["row"] (spE K C 1 JY):=by
 refine F.ok Zd (fun vs H Q E h=>JF h) (fun cdv A outer s H vs Q E hr h=>?_);have hu:=hr.units;refine⟨_,(Jm (JM (J4 (US (K:=K) rfl rfl) rfl qt Z0 (Ja (JX (N':=["begin","length"]) (imp:=[none,none]) rfl (Yf (K:=K) rfl (J9 (K:=K) rfl (pv 0) rfl)) (Wg rfl rfl) (fun _ _ _ _=>(JH (K:=K) (n:=2) rfl rfl (Ji (Jk (i:=0) (show(["begin","length"]:List Str).Nodup from by decide +kernel) rfl (.inl rfl) (.inr rfl)) (Ji (Jk (i:=1) (show(["begin","length"]:List Str).Nodup from by decide +kernel) rfl (.inl rfl) (.inr rfl)) JI)) rfl rfl)) (fun _ _ _ _=>JL) (fun _ _ _ _=>(pv 1))) Je)))),?_⟩
 exact JD (N:=["row"]) (Yq (Vy Jdb (Jc (Yg (Wk (Y8 T (Jb 0))) (YD (Jp (JU 0) (Jp (JU 1) YC)) rfl) YU (Jb 1) rfl) Jj))) h
theorem WY:FnScope ["seats"] ["seats"] (Jf Ye):=⟨rfl,rfl,rfl,by decide +kernel,rfl,by decide +kernel,by decide +kernel⟩
theorem WU{f:Addr}{fd:FuncData}(F:Fun K "check_seats" "check_seats" Ye f fd) :FnOk P w K mg base CX0 1 f fd ["seats"] (spE K C 1 J3):=by refine F.ok WY (fun vs H Q E h=>JF h) (fun cdv A outer s H vs Q E hr h=>?_);have hu:=hr.units;refine⟨_,(Jm (UM (PW.pt (WW (JT Jbx (pv 0) Vd (J0 _)) (Vx (JT JdP (pv 0) Jn (J0 _))))) (Jm Vu) YR)),?_⟩;exact JD (N:=["seats"]) (Jcb (Jax (YF (Jr JiR (Jb 0) Jd7)) (YF (Jr Jld (Jb 0) Jt))) JjP Vh) h
theorem sc_stops:FnScope ["row","seats","most","told","load","stretch","gap","takes","sets"] ["row","seats"] (Jf U0):=⟨rfl,rfl,rfl,by decide +kernel,rfl,by decide +kernel,by decide +kernel⟩
theorem JgG{f:Addr}{fd:FuncData}(F:Fun K "stops" "stops" U0 f fd)(qB:mg "zip"=none)(qy:mg "min"=none)(qb:Cal P w K mg base "gaps_of" 1 ["row"] (spE K C 1 JZ))(qr:Cal P w K mg base "ball_count" 1 ["row"] (spE K C 1 JY))(qm:Cal P w K mg base "check_seats" 1 ["seats"] (spE K C 1 J3))(T:RowC K C):FnOk P w K mg base CX0 2 f fd ["row","seats"] (spE K C 2 Ug):=by
 refine F.ok sc_stops (fun vs H Q E h=>JF h) (fun cdv A outer s H vs Q E hr h=>?_);have hu:=hr.units;refine⟨_,(Jg (Uz (Jl qm (hr.mono (by decide)) rfl (Ja (pv 1) Je)))
  (Jg (Jy (i:=2) sc_stops.nd rfl (.inl rfl) (JbA (JT JiX (pv 1) Vd (J0 _)) (Jl qr (hr.mono (by decide)) rfl (Ja (pv 0) Je)) (pv 1)))
  (Jg (Jy (i:=3) sc_stops.nd rfl (.inl rfl) (Vc Je))
  (Jg (Jy (i:=4) sc_stops.nd rfl (.inl rfl) Jn)
  (Jg (V0 PassesOwn.never rfl (JdR (K:=K) rfl rfl qB (Ja (J9 (K:=K) rfl (pv 0) rfl) (Ja (Jq (JE (K:=K) rfl) (Jl qb (hr.mono (by decide)) rfl (Ja (pv 0) Je)) (Vc (Ja (pv 2) Je))) Je))) (JH (K:=K) (n:=2) rfl rfl (Ji (Jk (i:=5) sc_stops.nd rfl (.inl rfl)) (Ji (Jk (i:=6) sc_stops.nd rfl (.inl rfl)) JI)) rfl rfl) (Jg (Jy (i:=7) sc_stops.nd rfl (.inl rfl) (J4 (VQ rfl) rfl qy ZZ (Ja (UB (Yr (K:=K) rfl) (pv 5) Jn (fun _ _=>rfl)) (Ja (Jq Yt (pv 2) (pv 4)) Je))))
  (Jg (Jy (i:=8) sc_stops.nd rfl (.inl rfl) (J4 (VQ rfl) rfl qy ZZ (Ja (Jq (JE (K:=K) rfl) (pv 4) (pv 7)) (Ja (pv 6) Je))))
  (Jg (Jy (i:=4) sc_stops.nd rfl (.inl rfl) (Jq Yt (Jq (JE (K:=K) rfl) (pv 4) (pv 7)) (pv 8)))
  (Jm (Uz (VY (K:=K) rfl PySem.F.plainAttrs_list PySem.F.slot_list_append PySem.F.type_list_append UX (pv 3) (Ja (Jq (JE (K:=K) rfl) (pv 5) (YE (Ja (pv 7) (Ja (pv 8) Je)))) Je))))))))
  (Jm (JM (pv 3)))))))),?_⟩
 exact JD (N:=["row","seats","most","told","load","stretch","gap","takes","sets"]) (Jx (Jmw (Jv (Jc (Jb 1) Jj)))
  (Jx (JC (Jj4 (YF (Jr JnN (Jb 1) Jd7)) (Jv (Jc (Jb 0) Jj)) (Jb 1)))
  (Jx (ZR (WX Jj))
  (Jx (JC Jt)
  (Jx (Jca (Jhg (Jc (Y8 T (Jb 0)) (Jc (Jr Yo (Jv (Jc (Jb 0) Jj)) (WX (Jc (Jb 2) Jj))) Jj))) (YD (Jp (JU 5) (Jp (JU 6) YC)) rfl) (Jx (JC (Vy JfV (Jc (Jr Wj (Jb 5) Jt) (Jc (Jr Y7 (Jb 2) (Jb 4)) Jj))))
  (Jx (JC (Vy JfV (Jc (Jr Yo (Jb 4) (Jb 7)) (Jc (Jb 6) Jj))))
  (Jx (JC (Jr Y7 (Jr Yo (Jb 4) (Jb 7)) (Jb 8)))
  (Jex (Jr Yo (Jb 5) (Uq (Jc (Jb 7) (Jc (Jb 8) Jj)))))))))
  W5))))) h
theorem Jju:FnScope ["row","seats"] ["row","seats"] (Jf V2):=⟨rfl,rfl,rfl,by decide +kernel,rfl,by decide +kernel,by decide +kernel⟩
theorem JiU{f:Addr}{fd:FuncData}(F:Fun K "gone" "gone" V2 f fd)(ql:CalM P w K mg base "Row" C 2 ["self","stretches"] (UQ C K))(qK:Cal P w K mg base "stops" 2 ["row","seats"] (spE K C 2 Ug)):FnOk P w K mg base CX0 4 f fd ["row","seats"] (spE K C 2 Uc):=by
 refine F.ok Jju (fun vs H Q E h=>JF h) (fun cdv A outer s H vs Q E hr h=>?_);have hu:=hr.units;refine⟨_,(Jm (JM (Uo ql (hr.mono (by decide)) rfl (Ja (JX (N':=["begin","length","takes","sets"]) (imp:=[none,none,none,none]) rfl (Yf (K:=K) rfl (Jl qK (hr.mono (by decide)) rfl (Ja (pv 0) (Ja (pv 1) Je)))) (Wg rfl rfl) (fun _ _ _ _=>(JH (K:=K) (n:=4) rfl rfl (Ji (Jk (i:=0) (show(["begin","length","takes","sets"]:List Str).Nodup from by decide +kernel) rfl (.inl rfl) (.inr rfl)) (Ji (Jk (i:=1) (show(["begin","length","takes","sets"]:List Str).Nodup from by decide +kernel) rfl (.inl rfl) (.inr rfl)) (Ji (Jk (i:=2) (show(["begin","length","takes","sets"]:List Str).Nodup from by decide +kernel) rfl (.inl rfl) (.inr rfl)) (Ji (Jk (i:=3) (show(["begin","length","takes","sets"]:List Str).Nodup from by decide +kernel) rfl (.inl rfl) (.inr rfl)) JI)))) rfl rfl)) (fun _ _ _ _=>JL) (fun _ _ _ _=>(YE (Ja (Jq (JE (K:=K) rfl) (pv 0) (pv 2)) (Ja (Jq (JE (K:=K) rfl) (Jq Yt (pv 1) (pv 2)) (pv 3)) Je))))) Je)))),?_⟩
 exact JD (N:=["row","seats"]) (Yq (ZJ (Jc (Yg (Wk (Jv (Jc (Jb 0) (Jc (Jb 1) Jj)))) (YD (Jp (JU 0) (Jp (JU 1) (Jp (JU 2) (Jp (JU 3) YC)))) rfl) YU (Uq (Jc (Jr Yo (Jb 0) (Jb 2)) (Jc (Jr Yo (Jr Y7 (Jb 1) (Jb 2)) (Jb 3)) Jj))) rfl) Jj))) h
theorem Jjt:FnScope ["row","seats"] ["row","seats"] (Jf V1):=⟨rfl,rfl,rfl,by decide +kernel,rfl,by decide +kernel,by decide +kernel⟩
theorem JiT{f:Addr}{fd:FuncData}(F:Fun K "back" "back" V1 f fd)(qd:Cal P w K mg base "mirrored" 4 ["row"] (spE K C 1 JW))(qC:Cal P w K mg base "gone" 4 ["row","seats"] (spE K C 2 Uc)):FnOk P w K mg base CX0 5 f fd ["row","seats"] (spE K C 2 UT):=by refine F.ok Jjt (fun vs H Q E h=>JF h) (fun cdv A outer s H vs Q E hr h=>?_);have hu:=hr.units;refine⟨_,(Jm (JM (Jl qd (hr.mono (by decide)) rfl (Ja (Jl qC (hr.mono (by decide)) rfl (Ja (Jl qd (hr.mono (by decide)) rfl (Ja (pv 0) Je)) (Ja (pv 1) Je))) Je)))),?_⟩;exact JD (N:=["row","seats"]) (Yq (Jv (Jc (Jv (Jc (Jv (Jc (Jb 0) Jj)) (Jc (Jb 1) Jj))) Jj))) h
theorem Ze:FnScope ["row"] ["row"] (Jf Yk):=⟨rfl,rfl,rfl,by decide +kernel,rfl,by decide +kernel,by decide +kernel⟩
theorem Zc{f:Addr}{fd:FuncData}(F:Fun K "_law_turned" "_law_turned" Yk f fd)(qi:mg "reversed"=none):FnOk P w K mg base CX0 1 f fd ["row"] (spE K C 1 Yd):=by
 refine F.ok Ze (fun vs H Q E h=>JF h) (fun cdv A outer s H vs Q E hr h=>?_);have hu:=hr.units;refine⟨_,(Jm (JM (JX (N':=["begin","length"]) (imp:=[none,none]) rfl (JdQ (K:=K) rfl rfl qi (Ja (pv 0) Je)) (Wg rfl rfl) (fun _ _ _ _=>(JH (K:=K) (n:=2) rfl rfl (Ji (Jk (i:=0) (show(["begin","length"]:List Str).Nodup from by decide +kernel) rfl (.inl rfl) (.inr rfl)) (Ji (Jk (i:=1) (show(["begin","length"]:List Str).Nodup from by decide +kernel) rfl (.inl rfl) (.inr rfl)) JI)) rfl rfl)) (fun _ _ _ _=>JL) (fun _ _ _ _=>(YE (Ja (Jq Yt (Jq Yt Jn (pv 0)) (pv 1)) (Ja (pv 1) Je))))))),?_⟩
 exact JD (N:=["row"]) (Yq (Yg (Jhf (Jc (Jb 0) Jj)) (YD (Jp (JU 0) (Jp (JU 1) YC)) rfl) YU (Uq (Jc (Jr Y7 (Jr Y7 Jt (Jb 0)) (Jb 1)) (Jc (Jb 1) Jj))) rfl)) h
theorem sc_closed_up:FnScope ["pairs","stretches","begin","length","ahead"] ["pairs"] (Jf YA):=⟨rfl,rfl,rfl,by decide +kernel,rfl,by decide +kernel,by decide +kernel⟩
theorem Jas{f:Addr}{fd:FuncData}(F:Fun K "closed_up" "closed_up" YA f fd)(qt:mg "sum"=none):FnOk P w K mg base CX0 1 f fd ["pairs"] (spE K C 1 J7):=by
 refine F.ok sc_closed_up (fun vs H Q E h=>JF h) (fun cdv A outer s H vs Q E hr h=>?_);have hu:=hr.units;refine⟨_,(Jg (Jy (i:=1) sc_closed_up.nd rfl (.inl rfl) (Vc Je))
  (Jg (V0 PassesOwn.never rfl (Yf (K:=K) rfl (pv 0)) (JH (K:=K) (n:=2) rfl rfl (Ji (Jk (i:=2) sc_closed_up.nd rfl (.inl rfl)) (Ji (Jk (i:=3) sc_closed_up.nd rfl (.inl rfl)) JI)) rfl rfl) (Jm (UM (PW.pt (WW (Vv (K:=K) rfl (pv 1) (fun _=>rfl)) (Vx (JT (JgH (K:=K) rfl hu) (J4 (US (K:=K) rfl rfl) rfl qt Z0 (Ja (UB (Yr (K:=K) rfl) (pv 1) (JjW JhH Jn) (fun _ _=>rfl)) Je)) (pv 2) (J0 _))))) (Jg (Jy (i:=4) sc_closed_up.nd rfl (.inl rfl) (JiZ (K:=K) rfl PySem.F.plainAttrs_list PySem.F.slot_list_pop PySem.F.type_list_pop Jk9 (pv 1)))
  (Jm (Uz (VY (K:=K) rfl PySem.F.plainAttrs_list PySem.F.slot_list_append PySem.F.type_list_append UX (pv 1) (Ja (YE (Ja (UB (Yr (K:=K) rfl) (pv 4) Jn (fun _ _=>rfl)) (Ja (Jq (JE (K:=K) rfl) (UB (Yr (K:=K) rfl) (pv 4) Jn (fun _ _=>rfl)) (pv 3)) Je))) Je))))) (Jm (UM (JT JdN (pv 3) Jn (J0 _)) (Jm (Uz (VY (K:=K) rfl PySem.F.plainAttrs_list PySem.F.slot_list_append PySem.F.type_list_append UX (pv 1) (Ja (YE (Ja (pv 2) (Ja (pv 3) Je))) Je)))) YR)))))
  (Jm (JM (pv 1))))),?_⟩
 exact JD (N:=["pairs","stretches","begin","length","ahead"]) (Jx (ZR (WX Jj))
  (Jx (Jca (JnS 0) (YD (Jp (JU 2) (Jp (JU 3) YC)) rfl) (Jcb (Jax (JbJ (Jb 1)) (YF (Jr Jm0 (Vy Jdb (Jc (Jr Wj (Jb 1) (Jnq Jj9 Jt)) Jj)) (Jb 2)))) (Jx Jnx
  (Jex (Uq (Jc (Jr Wj (Jb 4) Jt) (Jc (Jr Yo (Jr Wj (Jb 4) Jt) (Jb 3)) Jj))))) (Jcb (YF (Jr Jlb (Jb 3) Jt)) (Jex (Uq (Jc (Jb 2) (Jc (Jb 3) Jj)))) Vh)))
  W5)) h
theorem Jay:FnScope ["row","layers"] ["row","layers"] (Jf Yz):=⟨rfl,rfl,rfl,by decide +kernel,rfl,by decide +kernel,by decide +kernel⟩
theorem Jar{f:Addr}{fd:FuncData}(F:Fun K "by_layers" "by_layers" Yz f fd)(qe:mg "enumerate"=none)(T:RowC K C):FnOk P w K mg base CX0 1 f fd ["row","layers"] (spE K C 2 J6):=by
 refine F.ok Jay (fun vs H Q E h=>JF h) (fun cdv A outer s H vs Q E hr h=>?_);have hu:=hr.units;refine⟨_,(Jm (JM (JX (N':=["ahead","stretch","layers"]) (imp:=[none,none,some 1]) rfl (JbC (K:=K) rfl rfl qe (Ja (J9 (K:=K) rfl (pv 0) rfl) Je)) (JeC (own:=["ahead","stretch"]) (fr:=[("layers",1)]) rfl rfl rfl ⟨rfl,trivial⟩ rfl ⟨⟨rfl,rfl,rfl⟩,trivial⟩) (fun _ _ _ _=>(JH (K:=K) (n:=2) rfl rfl (Ji (Jk (i:=0) (show(["ahead","stretch","layers"]:List Str).Nodup from by decide +kernel) rfl (.inl rfl) (.inr rfl)) (Ji (Jk (i:=1) (show(["ahead","stretch","layers"]:List Str).Nodup from by decide +kernel) rfl (.inl rfl) (.inr rfl)) JI)) rfl rfl)) (fun _ _ _ _=>JL) (fun _ _ _ _=>(YE (Ja (Jq (JE (K:=K) rfl) (UB (Yr (K:=K) rfl) (pv 1) Jn (fun _ _=>rfl)) (Jq UL (Jq UL Jn (pv 2)) (pv 0))) (Ja (Jq (JE (K:=K) rfl) (UB (Yr (K:=K) rfl) (pv 1) Jn (fun _ _=>rfl)) (pv 2)) Je))))))),?_⟩
 exact JD (N:=["row","layers"]) (Yq (Yg (Jd6 (Jc (Y8 T (Jb 0)) Jj)) (YD (Jp (JU 0) (Jp (JU 1) YC)) rfl) YU (Uq (Jc (Jr Yo (Jr Wj (Jb 1) Jt) (Jr Wb (Jr Wb Jt (Jb 2)) (Jb 0))) (Jc (Jr Yo (Jr Wj (Jb 1) Jt) (Jb 2)) Jj))) rfl)) h
theorem Jaz:FnScope ["row"] ["row"] (Jf YB):=⟨rfl,rfl,rfl,by decide +kernel,rfl,by decide +kernel,by decide +kernel⟩
theorem Jat{f:Addr}{fd:FuncData}(F:Fun K "closes_at" "closes_at" YB f fd)(qy:mg "min"=none)(qb:Cal P w K mg base "gaps_of" 1 ["row"] (spE K C 1 JZ))(T:RowC K C):FnOk P w K mg base CX0 2 f fd ["row"] (spE K C 1 JG):=by
 refine F.ok Jaz (fun vs H Q E h=>JF h) (fun cdv A outer s H vs Q E hr h=>?_);have hu:=hr.units;refine⟨_,(Jm (JM (Jfj (Jci (K:=K) rfl rfl) rfl qy ZZ (Ja (Jq (JE (K:=K) rfl) (JX (N':=["begin","length"]) (imp:=[none,none]) rfl (Yf (K:=K) rfl (J9 (K:=K) rfl (pv 0) rfl)) (Wg rfl rfl) (fun _ _ _ _=>(JH (K:=K) (n:=2) rfl rfl (Ji (Jk (i:=0) (show(["begin","length"]:List Str).Nodup from by decide +kernel) rfl (.inl rfl) (.inr rfl)) (Ji (Jk (i:=1) (show(["begin","length"]:List Str).Nodup from by decide +kernel) rfl (.inl rfl) (.inr rfl)) JI)) rfl rfl)) (fun _ _ _ _=>JL) (fun _ _ _ _=>(pv 1))) (Jl qb (hr.mono (by decide)) rfl (Ja (pv 0) Je))) Je) Vd))),?_⟩
 exact JD (N:=["row"]) (Yq (Vy Jkl (Jc (Jr Yo (Yg (Wk (Y8 T (Jb 0))) (YD (Jp (JU 0) (Jp (JU 1) YC)) rfl) YU (Jb 1) rfl) (Jv (Jc (Jb 0) Jj))) Jj))) h
theorem sc_thinned:FnScope ["row","layers","left","still","at_once"] ["row","layers"] (Jf Y1):=⟨rfl,rfl,rfl,by decide +kernel,rfl,by decide +kernel,by decide +kernel⟩
theorem JcM{f:Addr}{fd:FuncData}(F:Fun K "thinned" "thinned" Y1 f fd)(qy:mg "min"=none)(ql:CalM P w K mg base "Row" C 2 ["self","stretches"] (UQ C K))(qu:Cal P w K mg base "closed_up" 1 ["pairs"] (spE K C 1 J7))(qv:Cal P w K mg base "by_layers" 1 ["row","layers"] (spE K C 2 J6))(qf:Cal P w K mg base "closes_at" 2 ["row"] (spE K C 1 JG))(T:RowC K C):FnOk P w K mg base CX0 4 f fd ["row","layers"] (spE K C 2 JS):=by
 refine F.ok sc_thinned (fun vs H Q E h=>JF h) (fun cdv A outer s H vs Q E hr h=>?_);have hu:=hr.units;refine⟨_,(Jg (Jy (i:=2) sc_thinned.nd rfl (.inl rfl) (Uo ql (hr.mono (by decide)) rfl (Ja (J9 (K:=K) rfl (pv 0) rfl) Je)))
  (Jg (Jy (i:=3) sc_thinned.nd rfl (.inl rfl) (pv 1))
  (Jg (JbF PassesOwn.never (PW.pt (WW (JT JdN (pv 3) Jn (J0 _)) (Vx (Vv (K:=K) rfl (J9 (K:=K) rfl (pv 2) rfl) (fun _=>rfl))))) (Jg (Jy (i:=4) sc_thinned.nd rfl (.inl rfl) (J4 (VQ rfl) rfl qy ZZ (Ja (pv 3) (Ja (Jl qf (hr.mono (by decide)) rfl (Ja (pv 2) Je)) Je))))
  (Jg (Jy (i:=2) sc_thinned.nd rfl (.inl rfl) (Uo ql (hr.mono (by decide)) rfl (Ja (Jl qu (hr.mono (by decide)) rfl (Ja (Jl qv (hr.mono (by decide)) rfl (Ja (pv 2) (Ja (JjW JhH (pv 4)) Je))) Je)) Je)))
  (Jm (JgU (i:=3) sc_thinned.nd rfl (.inl rfl) (pv 4) JkO)))))
  (Jm (JM (pv 2)))))),?_⟩
 exact JD (N:=["row","layers","left","still","at_once"]) (Jx (JC (ZJ (Jc (Y8 T (Jb 0)) Jj)))
  (Jx (JC (Jb 1))
  (Jx (Jey (Jax (YF (Jr Jlb (Jb 3) Jt)) (JbJ (Y8 T (Jb 2)))) (Jx (JC (Vy JfV (Jc (Jb 3) (Jc (Jv (Jc (Jb 2) Jj)) Jj))))
  (Jx (JC (ZJ (Jc (Jv (Jc (Jv (Jc (Jb 2) (Jc (Jnq Jj9 (Jb 4)) Jj))) Jj)) Jj)))
  (Jka (Jb 4)))))
  W5))) h
theorem JcT:FnScope ["row","place"] ["row","place"] (Jf YX):=⟨rfl,rfl,rfl,by decide +kernel,rfl,by decide +kernel,by decide +kernel⟩
theorem JcI{f:Addr}{fd:FuncData}(F:Fun K "ball_at" "ball_at" YX f fd)(qQ:mg "any"=none)(T:RowC K C):FnOk P w K mg base CX0 1 f fd ["row","place"] (spE K C 2 Ys):=by
 refine F.ok JcT (fun vs H Q E h=>JF h) (fun cdv A outer s H vs Q E hr h=>?_);have hu:=hr.units;refine⟨_,(Jm (JM (J4 (JeG (K:=K) rfl rfl) rfl qQ Jkj (Ja (JX (N':=["begin","length","place"]) (imp:=[none,none,some 1]) rfl (Yf (K:=K) rfl (J9 (K:=K) rfl (pv 0) rfl)) (JeC (own:=["begin","length"]) (fr:=[("place",1)]) rfl rfl rfl ⟨rfl,trivial⟩ rfl ⟨⟨rfl,rfl,rfl⟩,trivial⟩) (fun _ _ _ _=>(JH (K:=K) (n:=2) rfl rfl (Ji (Jk (i:=0) (show(["begin","length","place"]:List Str).Nodup from by decide +kernel) rfl (.inl rfl) (.inr rfl)) (Ji (Jk (i:=1) (show(["begin","length","place"]:List Str).Nodup from by decide +kernel) rfl (.inl rfl) (.inr rfl)) JI)) rfl rfl)) (fun _ _ _ _=>JL) (fun _ _ _ _=>(JgL JdO JdP (pv 0) (pv 2) (Jq (JE (K:=K) rfl) (pv 0) (pv 1))))) Je)))),?_⟩
 exact JD (N:=["row","place"]) (Yq (Vy JmJ (Jc (Yg (Wk (Y8 T (Jb 0))) (YD (Jp (JU 0) (Jp (JU 1) YC)) rfl) YU (Jjp Jlc Jld (Jb 0) (Jb 2) (Jr Yo (Jb 0) (Jb 1))) rfl) Jj))) h
theorem JcV:FnScope ["left","spot"] ["left","spot"] (Jf YZ):=⟨rfl,rfl,rfl,by decide +kernel,rfl,by decide +kernel,by decide +kernel⟩
theorem JcK{f:Addr}{fd:FuncData}(F:Fun K "owed_at" "owed_at" YZ f fd)(qx:Cal P w K mg base "ball_at" 1 ["row","place"] (spE K C 2 Ys)):FnOk P w K mg base CX0 2 f fd ["left","spot"] (spE K C 2 YI):=by refine F.ok JcV (fun vs H Q E h=>JF h) (fun cdv A outer s H vs Q E hr h=>?_);have hu:=hr.units;refine⟨_,(Jm (JM (JbA (PW.pt (WW (Vv (K:=K) rfl (Jl qx (hr.mono (by decide)) rfl (Ja (pv 0) (Ja (Jq Yt (pv 1) Jn) Je))) (fun _=>rfl)) (Vx (JlC (Vv (K:=K) rfl (Jl qx (hr.mono (by decide)) rfl (Ja (pv 0) (Ja (pv 1) Je))) (fun _=>rfl)))))) Jn Jn))),?_⟩;exact JD (N:=["left","spot"]) (Yq (Jj4 (Jax (JbJ (Jv (Jc (Jb 0) (Jc (Jr Y7 (Jb 1) Jt) Jj)))) (Jmc (JbJ (Jv (Jc (Jb 0) (Jc (Jb 1) Jj)))))) Jt Jt)) h
theorem sc_struck:FnScope ["row","left","pairs","ahead","stretch","spot"] ["row"] (Jf Up):=⟨rfl,rfl,rfl,by decide +kernel,rfl,by decide +kernel,by decide +kernel⟩
theorem Jfi{f:Addr}{fd:FuncData}(F:Fun K "struck" "struck" Up f fd)(qe:mg "enumerate"=none)(qt:mg "sum"=none)(qD:Cal P w K mg base "owed_at" 2 ["left","spot"] (spE K C 2 YI))(qk:Cal P w K mg base "thinned" 4 ["row","layers"] (spE K C 2 JS))(T:RowC K C):FnOk P w K mg base CX0 5 f fd ["row"] (spE K C 1 YJ):=by
 refine F.ok sc_struck (fun vs H Q E h=>JF h) (fun cdv A outer s H vs Q E hr h=>?_);have hu:=hr.units;refine⟨_,(Jg (Jy (i:=1) sc_struck.nd rfl (.inr rfl) (Jl qk (hr.mono (by decide)) rfl (Ja (pv 0) (Ja Jn Je))))
  (Jg (Jy (i:=2) sc_struck.nd rfl (.inl rfl) Jbz)
  (Jg (V0 PassesOwn.never rfl (JbC (K:=K) rfl rfl qe (Ja (J9 (K:=K) rfl (pv 0) rfl) Je)) (JH (K:=K) (n:=2) rfl rfl (Ji (Jk (i:=3) sc_struck.nd rfl (.inl rfl)) (Ji (Jk (i:=4) sc_struck.nd rfl (.inl rfl)) JI)) rfl rfl) (Jg (Jy (i:=5) sc_struck.nd rfl (.inl rfl) (Jq Yt (Jq Yt (J4 (US (K:=K) rfl rfl) rfl qt Z0 (Ja (pv 4) Je)) Jn) (Jq UL Jn (pv 3))))
  (Jm (JdV (JdA hr) (pv 2) (pv 5) (Jq (JE (K:=K) rfl) (Jby (JdA hr) (pv 2) (pv 5) Jn ⟨rfl,rfl,rfl,rfl⟩) Jn) rfl))))
  (Jm (Ji7 2 (JM (JX (N':=["spot","number","left"]) (imp:=[none,none,some 1]) rfl (JgP (pv 2)) (JeC (own:=["spot","number"]) (fr:=[("left",1)]) rfl rfl rfl ⟨rfl,trivial⟩ rfl ⟨⟨rfl,rfl,rfl⟩,trivial⟩) (fun _ _ _ _=>(JH (K:=K) (n:=2) rfl rfl (Ji (Jk (i:=0) (show(["spot","number","left"]:List Str).Nodup from by decide +kernel) rfl (.inl rfl) (.inr rfl)) (Ji (Jk (i:=1) (show(["spot","number","left"]:List Str).Nodup from by decide +kernel) rfl (.inl rfl) (.inr rfl)) JI)) rfl rfl)) (fun _ _ _ _=>JL) (fun _ _ _ _=>(YE (Ja (pv 0) (Ja (pv 1) (Ja (Jl qD (hr.mono (by decide)) rfl (Ja (pv 2) (Ja (pv 0) Je))) Je)))))))))))),?_⟩
 exact JD (N:=["row","left","pairs","ahead","stretch","spot"]) (Jx (JC (Jv (Jc (Jb 0) (Jc Jt Jj))))
  (Jx (ZR Jhd)
  (Jx (Jca (Jd6 (Jc (Y8 T (Jb 0)) Jj)) (YD (Jp (JU 3) (Jp (JU 4) YC)) rfl) (Jx (JC (Jr Y7 (Jr Y7 (Vy Jdb (Jc (Jb 4) Jj)) Jt) (Jr Wb Jt (Jb 3))))
  (JhO (Jr Yo (Jd5 (Jb 2) (Jb 5) Jt) Jt) (Jb 5))))
  (Jmx 2 (Yq (Yg (Jhe (Jb 2)) (YD (Jp (JU 0) (Jp (JU 1) YC)) rfl) YU (Uq (Jc (Jb 0) (Jc (Jb 1) (Jc (Jv (Jc (Jb 2) (Jc (Jb 0) Jj))) Jj)))) rfl)))))) h
theorem sc_table_of:FnScope ["row","table","left","size","layers"] ["row"] (Jf YQ):=⟨rfl,rfl,rfl,by decide +kernel,rfl,by decide +kernel,by decide +kernel⟩
theorem Jbw{f:Addr}{fd:FuncData}(F:Fun K "table_of" "table_of" YQ f fd)(qk:Cal P w K mg base "thinned" 4 ["row","layers"] (spE K C 2 JS))(qI:Cal P w K mg base "struck" 5 ["row"] (spE K C 1 YJ))(qf:Cal P w K mg base "closes_at" 2 ["row"] (spE K C 1 JG))(T:RowC K C):FnOk P w K mg base CX0 6 f fd ["row"] (spE K C 1 Yx):=by
 refine F.ok sc_table_of (fun vs H Q E h=>JF h) (fun cdv A outer s H vs Q E hr h=>?_);have hu:=hr.units;refine⟨_,(Jg (Jy (i:=1) sc_table_of.nd rfl (.inl rfl) (Vc Je))
  (Jg (Jy (i:=2) sc_table_of.nd rfl (.inl rfl) (pv 0))
  (Jg (Jy (i:=3) sc_table_of.nd rfl (.inr rfl) Jn)
  (Jg (JbF PassesOwn.never (Vv (K:=K) rfl (J9 (K:=K) rfl (pv 2) rfl) (fun _=>rfl)) (Jg (Jy (i:=4) sc_table_of.nd rfl (.inl rfl) (Jl qf (hr.mono (by decide)) rfl (Ja (pv 2) Je)))
  (Jg (JgU (i:=3) sc_table_of.nd rfl (.inr rfl) (pv 4) JkN)
  (Jg (Jy (i:=2) sc_table_of.nd rfl (.inl rfl) (Jl qk (hr.mono (by decide)) rfl (Ja (pv 2) (Ja (Jq Yt (pv 4) Jn) Je))))
  (Jg (Uz (VY (K:=K) rfl PySem.F.plainAttrs_list PySem.F.slot_list_extend PySem.F.type_list_extend Jfg (pv 1) (Ja (JX (N':=["spot","pairs","owed","size"]) (imp:=[none,none,none,some 3]) rfl (Yf (K:=K) rfl (Jl qI (hr.mono (by decide)) rfl (Ja (pv 2) Je))) (JeC (own:=["spot","pairs","owed"]) (fr:=[("size",3)]) rfl rfl rfl ⟨rfl,trivial⟩ rfl ⟨⟨rfl,rfl,rfl⟩,trivial⟩) (fun _ _ _ _=>(JH (K:=K) (n:=3) rfl rfl (Ji (Jk (i:=0) (show(["spot","pairs","owed","size"]:List Str).Nodup from by decide +kernel) rfl (.inl rfl) (.inr rfl)) (Ji (Jk (i:=1) (show(["spot","pairs","owed","size"]:List Str).Nodup from by decide +kernel) rfl (.inl rfl) (.inr rfl)) (Ji (Jk (i:=2) (show(["spot","pairs","owed","size"]:List Str).Nodup from by decide +kernel) rfl (.inl rfl) (.inr rfl)) JI))) rfl rfl)) (fun _ _ _ _=>(JgS (JT JdN (pv 1) (pv 2) (J0 _)))) (fun _ _ _ _=>(YE (Ja (pv 3) (Ja (pv 0) (Ja (Jq Yt (pv 1) (pv 2)) Je)))))) Je)))
  (Jm (Jy (i:=2) sc_table_of.nd rfl (.inl rfl) (Jl qk (hr.mono (by decide)) rfl (Ja (pv 2) (Ja Jn Je))))))))))
  (Jm (JM (pv 1))))))),?_⟩
 exact JD (N:=["row","table","left","size","layers"]) (Jx (ZR (WX Jj))
  (Jx (JC (Jb 0))
  (Jx (JC Jt)
  (Jx (Jey (JbJ (Y8 T (Jb 2))) (Jx (JC (Jv (Jc (Jb 2) Jj)))
  (Jx (Jka (Jb 4))
  (Jx (JC (Jv (Jc (Jb 2) (Jc (Jr Y7 (Jb 4) Jt) Jj))))
  (Jx (Jnw (Yg (Wk (Jv (Jc (Jb 2) Jj))) (YD (Jp (JU 0) (Jp (JU 1) (Jp (JU 2) YC))) rfl) (YF (Jr Jlb (Jb 1) (Jb 2))) (Uq (Jc (Jb 3) (Jc (Jb 0) (Jc (Jr Y7 (Jb 1) (Jb 2)) Jj)))) rfl))
  (JC (Jv (Jc (Jb 2) (Jc Jt Jj)))))))))
  W5)))) h
theorem sc_lumps_of:FnScope ["row","numbers","size","spot","number"] ["row"] (Jf YN):=⟨rfl,rfl,rfl,by decide +kernel,rfl,by decide +kernel,by decide +kernel⟩
theorem Jbu{f:Addr}{fd:FuncData}(F:Fun K "lumps_of" "lumps_of" YN f fd)(qM:mg "list"=none)(qz:Cal P w K mg base "table_of" 6 ["row"] (spE K C 1 Yx)):FnOk P w K mg base CX0 7 f fd ["row"] (spE K C 1 Yw):=by
 refine F.ok sc_lumps_of (fun vs H Q E h=>JF h) (fun cdv A outer s H vs Q E hr h=>?_);have hu:=hr.units;refine⟨_,(Jg (Jy (i:=1) sc_lumps_of.nd rfl (.inl rfl) Jbz)
  (Jg (V0 PassesOwn.never rfl (Yf (K:=K) rfl (Jl qz (hr.mono (by decide)) rfl (Ja (pv 0) Je))) (JH (K:=K) (n:=3) rfl rfl (Ji (Jk (i:=2) sc_lumps_of.nd rfl (.inl rfl)) (Ji (Jk (i:=3) sc_lumps_of.nd rfl (.inl rfl)) (Ji (Jk (i:=4) sc_lumps_of.nd rfl (.inl rfl)) JI))) rfl rfl) (Jm (JdV (JdA hr) (pv 1) (pv 2) (Jq (JE (K:=K) rfl) (Jby (JdA hr) (pv 1) (pv 2) Jn ⟨rfl,rfl,rfl,rfl⟩) (pv 4)) rfl)))
  (Jm (JM (Um (Jch rfl) rfl qM Jh1 (Ja (JgN (pv 1)) Je)))))),?_⟩
 exact JD (N:=["row","numbers","size","spot","number"]) (Jx (ZR Jhd)
  (Jx (Jca (Wk (Jv (Jc (Jb 0) Jj))) (YD (Jp (JU 2) (Jp (JU 3) (Jp (JU 4) YC))) rfl) (JhO (Jr Yo (Jd5 (Jb 1) (Jb 2) Jt) (Jb 4)) (Jb 2)))
  (Yq (Jjr (Jb 1))))) h
theorem JbL:FnScope ["script","k"] ["script","k"] (Jf YL):=⟨rfl,rfl,rfl,by decide +kernel,rfl,by decide +kernel,by decide +kernel⟩
theorem Jbs{f:Addr}{fd:FuncData}(F:Fun K "_law_cell" "_law_cell" YL f fd)(qJ:mg "len"=none):FnOk P w K mg base CX0 1 f fd ["script","k"] (spE K C 2 JK):=by
 refine F.ok JbL (fun vs H Q E h=>JF h) (fun cdv A outer s H vs Q E hr h=>?_);have hu:=hr.units;refine⟨_,(Jg (UM (JT JdP (pv 1) (J4 (Zo (K:=K) rfl) rfl qJ JfS (Ja (pv 0) Je)) (J0 _)) (Jm (JM (UB (Yr (K:=K) rfl) (pv 0) (pv 1) (fun _ _=>rfl)))) YR)
  (Jm (JM Jn))),?_⟩
 exact JD (N:=["script","k"]) (Jx (Jcb (YF (Jr Jld (Jb 1) (Vy JmK (Jc (Jb 0) Jj)))) (Yq (Jr Wj (Jb 0) (Jb 1))) Vh)
  (Yq Jt)) h
theorem sc_law_made:FnScope ["script","many","span","row","at","lengths","k"] ["script","many","span"] (Jf YM):=⟨rfl,rfl,rfl,by decide +kernel,rfl,by decide +kernel,by decide +kernel⟩
theorem Jbt{f:Addr}{fd:FuncData}(F:Fun K "_law_made" "_law_made" YM f fd)(qG:mg "range"=none)(qp:mg "sorted"=none)(qa:Cal P w K mg base "_law_cell" 1 ["script","k"] (spE K C 2 JK)):FnOk P w K mg base CX0 2 f fd ["script","many","span"] (spE K C 3 Yv):=by
 refine F.ok sc_law_made (fun vs H Q E h=>JF h) (fun cdv A outer s H vs Q E hr h=>?_);have hu:=hr.units;refine⟨_,(Jg (Jy (i:=3) sc_law_made.nd rfl (.inl rfl) (Vc Je))
  (Jg (Jy (i:=4) sc_law_made.nd rfl (.inl rfl) (Jq Yt (Jq VX (Jl qa (hr.mono (by decide)) rfl (Ja (pv 0) (Ja Jn Je))) (Jq (JE (K:=K) rfl) (Jq UL Jn (pv 2)) Jn)) (pv 2)))
  (Jg (Jy (i:=5) sc_law_made.nd rfl (.inl rfl) (J4 (Jab (K:=K) rfl rfl) rfl qp JeD (Ja (JX (N':=["k","span","script"]) (imp:=[none,some 2,some 0]) rfl (ZF rfl qG (Ja (pv 1) Je)) (JeC (own:=["k"]) (fr:=[("span",2),("script",0)]) rfl rfl rfl ⟨rfl,rfl,trivial⟩ rfl ⟨⟨rfl,rfl,rfl⟩,⟨rfl,rfl,rfl⟩,trivial⟩) (fun _ _ _ _=>(Jk (i:=0) (show(["k","span","script"]:List Str).Nodup from by decide +kernel) rfl (.inl rfl) (.inr rfl))) (fun _ _ _ _=>JL) (fun _ _ _ _=>(Jq (JE (K:=K) rfl) Jn (Jq VX (Jl qa (hr.mono (by decide)) rfl (Ja (pv 2) (Ja (Jq (JE (K:=K) rfl) Jn (Jq UL Jn (pv 0))) Je))) (pv 1))))) Je)))
  (Jg (V0 PassesOwn.never rfl (ZF rfl qG (Ja (pv 1) Je)) (Jk (i:=6) sc_law_made.nd rfl (.inl rfl)) (Jg (Uz (VY (K:=K) rfl PySem.F.plainAttrs_list PySem.F.slot_list_append PySem.F.type_list_append UX (pv 3) (Ja (YE (Ja (pv 4) (Ja (UB (Yr (K:=K) rfl) (pv 5) (pv 6) (fun _ _=>rfl)) Je))) Je)))
  (Jm (Jy (i:=4) sc_law_made.nd rfl (.inl rfl) (Jq (JE (K:=K) rfl) (Jq (JE (K:=K) rfl) (pv 4) (Jq UL Jn (UB (Yr (K:=K) rfl) (pv 5) (pv 6) (fun _ _=>rfl)))) (UB (Yr (K:=K) rfl) (Vc (Ja Jn (Ja Jn (Ja (Jq VX (Jl qa (hr.mono (by decide)) rfl (Ja (pv 0) (Ja (Jq (JE (K:=K) rfl) Jn (Jq UL Jn (pv 6))) Je))) (pv 2)) Je)))) (Jq VX (Jq JdM (Jl qa (hr.mono (by decide)) rfl (Ja (pv 0) (Ja (Jq (JE (K:=K) rfl) Jn (Jq UL Jn (pv 6))) Je))) Jn) Jn) (fun _ _=>rfl)))))))
  (Jm (JM (pv 3))))))),?_⟩
 exact JD (N:=["script","many","span","row","at","lengths","k"]) (Jx (ZR (WX Jj))
  (Jx (JC (Jr Y7 (Jr ZE (Jv (Jc (Jb 0) (Jc Jt Jj))) (Jr Yo (Jr Wb Jt (Jb 2)) Jt)) (Jb 2)))
  (Jx (JC (Vy JfW (Jc (Yg (Jj3 (Jc (Jb 1) Jj)) (JU 0) YU (Jr Yo Jt (Jr ZE (Jv (Jc (Jb 2) (Jc (Jr Yo Jt (Jr Wb Jt (Jb 0))) Jj))) (Jb 1))) rfl) Jj)))
  (Jx (Jca (Jj3 (Jc (Jb 1) Jj)) (JU 6) (Jx (Jex (Uq (Jc (Jb 4) (Jc (Jr Wj (Jb 5) (Jb 6)) Jj))))
  (JC (Jr Yo (Jr Yo (Jb 4) (Jr Wb Jt (Jr Wj (Jb 5) (Jb 6)))) (Jr Wj (WX (Jc Jt (Jc Jt (Jc (Jr ZE (Jv (Jc (Jb 0) (Jc (Jr Yo Jt (Jr Wb Jt (Jb 6))) Jj))) (Jb 2)) Jj)))) (Jr ZE (Jr JjU (Jv (Jc (Jb 0) (Jc (Jr Yo Jt (Jr Wb Jt (Jb 6))) Jj))) Jt) Jt))))))
  W5)))) h
theorem sc_law:FnScope ["script","lead","drawn","row","moved_on","sizes"] ["script"] (Jf Vz):=⟨rfl,rfl,rfl,by decide +kernel,rfl,by decide +kernel,by decide +kernel⟩
theorem Jli{f:Addr}{fd:FuncData}(F:Fun K "law" "law" Vz f fd)(qq:mg "tuple"=none)(qp:mg "sorted"=none)(qR:mg "set"=none)(qH:Cal P w K mg base "early" 5 ["row"] (spE K C 1 Y3))(qN:Cal P w K mg base "back" 5 ["row","seats"] (spE K C 2 UT))(ql:CalM P w K mg base "Row" C 2 ["self","stretches"] (UQ C K))(qo:Cal P w K mg base "_law_turned" 1 ["row"] (spE K C 1 Yd))(qA:Cal P w K mg base "lumps_of" 7 ["row"] (spE K C 1 Yw))(qj:Cal P w K mg base "settled" 2 ["row"] (spE K C 1 J8))(qC:Cal P w K mg base "gone" 4 ["row","seats"] (spE K C 2 Uc))(qw:Cal P w K mg base "_law_made" 2 ["script","many","span"] (spE K C 3 Yv))(qa:Cal P w K mg base "_law_cell" 1 ["script","k"] (spE K C 2 JK))(T:RowC K C):FnOk P w K mg base CX0 8 f fd ["script"] (spE K C 1 Jcq):=by
 refine F.ok sc_law (fun vs H Q E h=>JF h) (fun cdv A outer s H vs Q E hr h=>?_);have hu:=hr.units;refine⟨_,(Jg (Jy (i:=1) sc_law.nd rfl (.inl rfl) (Jl qa (hr.mono (by decide)) rfl (Ja (pv 0) (Ja Jn Je))))
  (Jg (Jy (i:=2) sc_law.nd rfl (.inl rfl) (Jl qw (hr.mono (by decide)) rfl (Ja (pv 0) (Ja (Jq (JE (K:=K) rfl) Jn (Jq VX (pv 1) Jn)) (Ja (UB (Yr (K:=K) rfl) (Vc (Ja Jn (Ja (Jq Jlq Jn Jn) Je))) (Jq VX (Jq JdM (pv 1) Jn) Jn) (fun _ _=>rfl)) Je)))))
  (Jg (Jy (i:=3) sc_law.nd rfl (.inl rfl) (Uo ql (hr.mono (by decide)) rfl (Ja (pv 2) Je)))
  (Jg (Jy (i:=4) sc_law.nd rfl (.inl rfl) (Jl qC (hr.mono (by decide)) rfl (Ja (pv 3) (Ja Vd Je))))
  (Jg (UM (PW.pt (JjX (JT Wq (Jl qj (hr.mono (by decide)) rfl (Ja (pv 3) Je)) Wc (J0 _)) (JgY (JT Wq (Jl qj (hr.mono (by decide)) rfl (Ja (pv 4) Je)) Wc (J0 _))))) (Jm (JM Wc)) YR)
  (Jg (UM (JT (JgI (K:=K) rfl hu) (J9 (K:=K) rfl (pv 4) rfl) (Um (UI (K:=K) rfl) rfl qq Wy (Ja (JX (N':=["begin","length"]) (imp:=[none,none]) rfl (Yf (K:=K) rfl (pv 2)) (Wg rfl rfl) (fun _ _ _ _=>(JH (K:=K) (n:=2) rfl rfl (Ji (Jk (i:=0) (show(["begin","length"]:List Str).Nodup from by decide +kernel) rfl (.inl rfl) (.inr rfl)) (Ji (Jk (i:=1) (show(["begin","length"]:List Str).Nodup from by decide +kernel) rfl (.inl rfl) (.inr rfl)) JI)) rfl rfl)) (fun _ _ _ _=>JL) (fun _ _ _ _=>(YE (Ja (Jq (JE (K:=K) rfl) (pv 0) (pv 1)) (Ja (pv 1) Je))))) Je)) (J0 _)) (Jm (JM Wc)) YR)
  (Jg (Jy (i:=5) sc_law.nd rfl (.inr rfl) (JX (N':=["begin","length"]) (imp:=[none,none]) rfl (Yf (K:=K) rfl (pv 2)) (Wg rfl rfl) (fun _ _ _ _=>(JH (K:=K) (n:=2) rfl rfl (Ji (Jk (i:=0) (show(["begin","length"]:List Str).Nodup from by decide +kernel) rfl (.inl rfl) (.inr rfl)) (Ji (Jk (i:=1) (show(["begin","length"]:List Str).Nodup from by decide +kernel) rfl (.inl rfl) (.inr rfl)) JI)) rfl rfl)) (fun _ _ _ _=>JL) (fun _ _ _ _=>(pv 1))))
  (Jg (UM (JT (JgI (K:=K) rfl hu) (Jl qA (hr.mono (by decide)) rfl (Ja (pv 3) Je)) (JX (N':=["size","sizes"]) (imp:=[none,some 5]) rfl (Yf (K:=K) rfl (JgO (K:=K) rfl rfl rfl qp rfl qR (pv 5))) (JeC (own:=["size"]) (fr:=[("sizes",5)]) rfl rfl rfl ⟨rfl,trivial⟩ rfl ⟨⟨rfl,rfl,rfl⟩,trivial⟩) (fun _ _ _ _=>(Jk (i:=0) (show(["size","sizes"]:List Str).Nodup from by decide +kernel) rfl (.inl rfl) (.inr rfl))) (fun _ _ _ _=>JL) (fun _ _ _ _=>(YE (Ja (pv 0) (Ja (VY (K:=K) rfl PySem.F.plainAttrs_list PySem.F.slot_list_count PySem.F.type_list_count Jff (pv 1) (Ja (pv 0) Je)) Je))))) (J0 _)) (Jm (JM Wc)) YR)
  (Jg (Jy (i:=2) sc_law.nd rfl (.inl rfl) (Jl qo (hr.mono (by decide)) rfl (Ja (pv 2) Je)))
  (Jg (Jy (i:=3) sc_law.nd rfl (.inl rfl) (Uo ql (hr.mono (by decide)) rfl (Ja (pv 2) Je)))
  (Jg (Jy (i:=4) sc_law.nd rfl (.inl rfl) (Jl qN (hr.mono (by decide)) rfl (Ja (pv 3) (Ja Vd Je))))
  (Jg (UM (PW.pt (JjX (JT Wq (Jl qH (hr.mono (by decide)) rfl (Ja (pv 3) Je)) Wc (J0 _)) (JgY (JT Wq (Jl qH (hr.mono (by decide)) rfl (Ja (pv 4) Je)) Wc (J0 _))))) (Jm (JM Wc)) YR)
  (Jm (JM (Jau (JgH (K:=K) rfl hu) (J9 (K:=K) rfl (pv 4) rfl) (Um (UI (K:=K) rfl) rfl qq Wy (Ja (JX (N':=["begin","length"]) (imp:=[none,none]) rfl (Yf (K:=K) rfl (pv 2)) (Wg rfl rfl) (fun _ _ _ _=>(JH (K:=K) (n:=2) rfl rfl (Ji (Jk (i:=0) (show(["begin","length"]:List Str).Nodup from by decide +kernel) rfl (.inl rfl) (.inr rfl)) (Ji (Jk (i:=1) (show(["begin","length"]:List Str).Nodup from by decide +kernel) rfl (.inl rfl) (.inr rfl)) JI)) rfl rfl)) (fun _ _ _ _=>JL) (fun _ _ _ _=>(YE (Ja (Jq Yt (pv 0) (pv 1)) (Ja (pv 1) Je))))) Je)) (J0 _)))))))))))))))),?_⟩
 exact JD (N:=["script","lead","drawn","row","moved_on","sizes"]) (Jx (JC (Jv (Jc (Jb 0) (Jc Jt Jj))))
  (Jx (JC (Jv (Jc (Jb 0) (Jc (Jr Yo Jt (Jr ZE (Jb 1) Jt)) (Jc (Jr Wj (WX (Jc Jt (Jc (Jr Jm2 Jt Jt) Jj))) (Jr ZE (Jr JjU (Jb 1) Jt) Jt)) Jj)))))
  (Jx (JC (ZJ (Jc (Jb 2) Jj)))
  (Jx (JC (Jv (Jc (Jb 3) (Jc Jd7 Jj))))
  (Jx (Jcb (Jj5 (YF (Jr Vt (Jv (Jc (Jb 3) Jj)) JbI)) (YF (Jr Vt (Jv (Jc (Jb 4) Jj)) JbI))) (Yq JbI) Vh)
  (Jx (Jcb (YF (Jr Jm1 (Y8 T (Jb 4)) (Vy Jdc (Jc (Yg (Wk (Jb 2)) (YD (Jp (JU 0) (Jp (JU 1) YC)) rfl) YU (Uq (Jc (Jr Yo (Jb 0) (Jb 1)) (Jc (Jb 1) Jj))) rfl) Jj)))) (Yq JbI) Vh)
  (Jx (JC (Yg (Wk (Jb 2)) (YD (Jp (JU 0) (Jp (JU 1) YC)) rfl) YU (Jb 1) rfl))
  (Jx (Jcb (YF (Jr Jm1 (Jv (Jc (Jb 3) Jj)) (Yg (Wk (Jjs (Jb 5))) (JU 0) YU (Uq (Jc (Jb 0) (Jc (Jhc (Jb 1) (Jb 0)) Jj))) rfl))) (Yq JbI) Vh)
  (Jx (JC (Jv (Jc (Jb 2) Jj)))
  (Jx (JC (ZJ (Jc (Jb 2) Jj)))
  (Jx (JC (Jv (Jc (Jb 3) (Jc Jd7 Jj))))
  (Jx (Jcb (Jj5 (YF (Jr Vt (Jv (Jc (Jb 3) Jj)) JbI)) (YF (Jr Vt (Jv (Jc (Jb 4) Jj)) JbI))) (Yq JbI) Vh)
  (Yq (Jr Jm0 (Y8 T (Jb 4)) (Vy Jdc (Jc (Yg (Wk (Jb 2)) (YD (Jp (JU 0) (Jp (JU 1) YC)) rfl) YU (Uq (Jc (Jr Y7 (Jb 0) (Jb 1)) (Jc (Jb 1) Jj))) rfl) Jj)))))))))))))))) h
end
theorem vl1{α:Type}{us:List α}(h:us.length=1):∃a,us=[a]:=match us,h with|[a],_=>⟨a,rfl⟩
theorem vl2{α:Type}{us:List α}(h:us.length=2):∃a b,us=[a,b]:=match us,h with|[a,b],_=>⟨a,b,rfl⟩
theorem vl3{α:Type}{us:List α}(h:us.length=3):∃a b c,us=[a,b,c]:=match us,h with|[a,b,c],_=>⟨a,b,c,rfl⟩
theorem all_mk{l:PySem.W.OpenLaw}{w:World}{K:Frag}{h:Heap}{mg:Str->Option Value}{fa:Addr}{C:Addr}{f1:Addr}{od1 an1:Option Addr}{sl1:Array (Option Value)}{oc1 kV1 dc1 pm1 cd1 ct1:Value}{f2:Addr}{od2 an2:Option Addr}{sl2:Array (Option Value)}{oc2 kV2 dc2 pm2 cd2 ct2:Value}{f3:Addr}{od3 an3:Option Addr}{sl3:Array (Option Value)}{oc3 kV3 dc3 pm3 cd3 ct3:Value}{f4:Addr}{od4 an4:Option Addr}{sl4:Array (Option Value)}{oc4 kV4 dc4 pm4 cd4 ct4:Value}{f5:Addr}{od5 an5:Option Addr}{sl5:Array (Option Value)}{oc5 kV5 dc5 pm5 cd5 ct5:Value}{f6:Addr}{od6 an6:Option Addr}{sl6:Array (Option Value)}{oc6 kV6 dc6 pm6 cd6 ct6:Value}{f7:Addr}{od7 an7:Option Addr}{sl7:Array (Option Value)}{oc7 kV7 dc7 pm7 cd7 ct7:Value}{f8:Addr}{od8 an8:Option Addr}{sl8:Array (Option Value)}{oc8 kV8 dc8 pm8 cd8 ct8:Value}{f9:Addr}{od9 an9:Option Addr}{sl9:Array (Option Value)}{oc9 kV9 dc9 pm9 cd9 ct9:Value}{f10:Addr}{od10 an10:Option Addr}{sl10:Array (Option Value)}{oc10 kV10 dc10 pm10 cd10 ct10:Value}{f11:Addr}{od11 an11:Option Addr}{sl11:Array (Option Value)}{oc11 kV11 dc11 pm11 cd11 ct11:Value}{f12:Addr}{od12 an12:Option Addr}{sl12:Array (Option Value)}{oc12 kV12 dc12 pm12 cd12 ct12:Value}{f13:Addr}{od13 an13:Option Addr}{sl13:Array (Option Value)}{oc13 kV13 dc13 pm13 cd13 ct13:Value}{f14:Addr}{od14 an14:Option Addr}{sl14:Array (Option Value)}{oc14 kV14 dc14 pm14 cd14 ct14:Value}{f15:Addr}{od15 an15:Option Addr}{sl15:Array (Option Value)}{oc15 kV15 dc15 pm15 cd15 ct15:Value}{f16:Addr}{od16 an16:Option Addr}{sl16:Array (Option Value)}{oc16 kV16 dc16 pm16 cd16 ct16:Value}{f17:Addr}{od17 an17:Option Addr}{sl17:Array (Option Value)}{oc17 kV17 dc17 pm17 cd17 ct17:Value}{f18:Addr}{od18 an18:Option Addr}{sl18:Array (Option Value)}{oc18 kV18 dc18 pm18 cd18 ct18:Value}{f19:Addr}{od19 an19:Option Addr}{sl19:Array (Option Value)}{oc19 kV19 dc19 pm19 cd19 ct19:Value}{f20:Addr}{od20 an20:Option Addr}{sl20:Array (Option Value)}{oc20 kV20 dc20 pm20 cd20 ct20:Value}{f21:Addr}{od21 an21:Option Addr}{sl21:Array (Option Value)}{oc21 kV21 dc21 pm21 cd21 ct21:Value}{f22:Addr}{od22 an22:Option Addr}{sl22:Array (Option Value)}{oc22 kV22 dc22 pm22 cd22 ct22:Value}{f23:Addr}{od23 an23:Option Addr}{sl23:Array (Option Value)}{oc23 kV23 dc23 pm23 cd23 ct23:Value}{f24:Addr}{od24 an24:Option Addr}{sl24:Array (Option Value)}{oc24 kV24 dc24 pm24 cd24 ct24:Value}{qE:Tok}(X:K.In h)(G:h.Ns mainGlobals mg)(hfa:mg "law"=some (.ref fa))
 (aC:nsIn K mainGlobals "Row"=some (some (.ref C)))
 (a1:nsIn K mainGlobals "gaps_of"=some (some (.ref f1)))
 (l1:K.lookup f1=some ⟨oc1,od1,.func (fnOf "gaps_of" "gaps_of" (Jw YY) (Ju YY) (Jf YY) .none kV1 dc1 pm1 an1 cd1 ct1),sl1⟩)
 (c1:codeIn K cd1 "gaps_of"=true)
 (k1:keepIn K (.ref f1)=true)
 (a2:nsIn K mainGlobals "settled"=some (some (.ref f2)))
 (l2:K.lookup f2=some ⟨oc2,od2,.func (fnOf "settled" "settled" (Jw Y0) (Ju Y0) (Jf Y0) .none kV2 dc2 pm2 an2 cd2 ct2),sl2⟩)
 (c2:codeIn K cd2 "settled"=true)
 (k2:keepIn K (.ref f2)=true)
 (a3:nsIn K mainGlobals "check_stretches"=some (some (.ref f3)))
 (l3:K.lookup f3=some ⟨oc3,od3,.func (fnOf "check_stretches" "check_stretches" (Jw JO) (Ju JO) (Jf JO) .none kV3 dc3 pm3 an3 cd3 ct3),sl3⟩)
 (c3:codeIn K cd3 "check_stretches"=true)
 (k3:keepIn K (.ref f3)=true)
 (a4:findIn K (.ref C) "__init__"=some (some (.ref f4)))
 (i4:isFn K (.ref f4)=true)
 (l4:K.lookup f4=some ⟨oc4,od4,.func (fnOf "__init__" "Row.__init__" (Jw YK) (Ju YK) (Jf YK) .none kV4 dc4 pm4 an4 cd4 ct4),sl4⟩)
 (c4:codeIn K cd4 "Row.__init__"=true)
 (k4:keepIn K (.ref f4)=true)
 (a5:nsIn K mainGlobals "mirrored"=some (some (.ref f5)))
 (l5:K.lookup f5=some ⟨oc5,od5,.func (fnOf "mirrored" "mirrored" (Jw YO) (Ju YO) (Jf YO) .none kV5 dc5 pm5 an5 cd5 ct5),sl5⟩)
 (c5:codeIn K cd5 "mirrored"=true)
 (k5:keepIn K (.ref f5)=true)
 (a6:nsIn K mainGlobals "early"=some (some (.ref f6)))
 (l6:K.lookup f6=some ⟨oc6,od6,.func (fnOf "early" "early" (Jw UZ) (Ju UZ) (Jf UZ) .none kV6 dc6 pm6 an6 cd6 ct6),sl6⟩)
 (c6:codeIn K cd6 "early"=true)
 (k6:keepIn K (.ref f6)=true)
 (a7:nsIn K mainGlobals "ball_count"=some (some (.ref f7)))
 (l7:K.lookup f7=some ⟨oc7,od7,.func (fnOf "ball_count" "ball_count" (Jw Yj) (Ju Yj) (Jf Yj) .none kV7 dc7 pm7 an7 cd7 ct7),sl7⟩)
 (c7:codeIn K cd7 "ball_count"=true)
 (k7:keepIn K (.ref f7)=true)
 (a8:nsIn K mainGlobals "check_seats"=some (some (.ref f8)))
 (l8:K.lookup f8=some ⟨oc8,od8,.func (fnOf "check_seats" "check_seats" (Jw Ye) (Ju Ye) (Jf Ye) .none kV8 dc8 pm8 an8 cd8 ct8),sl8⟩)
 (c8:codeIn K cd8 "check_seats"=true)
 (k8:keepIn K (.ref f8)=true)
 (a9:nsIn K mainGlobals "stops"=some (some (.ref f9)))
 (l9:K.lookup f9=some ⟨oc9,od9,.func (fnOf "stops" "stops" (Jw U0) (Ju U0) (Jf U0) .none kV9 dc9 pm9 an9 cd9 ct9),sl9⟩)
 (c9:codeIn K cd9 "stops"=true)
 (k9:keepIn K (.ref f9)=true)
 (a10:nsIn K mainGlobals "gone"=some (some (.ref f10)))
 (l10:K.lookup f10=some ⟨oc10,od10,.func (fnOf "gone" "gone" (Jw V2) (Ju V2) (Jf V2) .none kV10 dc10 pm10 an10 cd10 ct10),sl10⟩)
 (c10:codeIn K cd10 "gone"=true)
 (k10:keepIn K (.ref f10)=true)
 (a11:nsIn K mainGlobals "back"=some (some (.ref f11)))
 (l11:K.lookup f11=some ⟨oc11,od11,.func (fnOf "back" "back" (Jw V1) (Ju V1) (Jf V1) .none kV11 dc11 pm11 an11 cd11 ct11),sl11⟩)
 (c11:codeIn K cd11 "back"=true)
 (k11:keepIn K (.ref f11)=true)
 (a12:nsIn K mainGlobals "_law_turned"=some (some (.ref f12)))
 (l12:K.lookup f12=some ⟨oc12,od12,.func (fnOf "_law_turned" "_law_turned" (Jw Yk) (Ju Yk) (Jf Yk) .none kV12 dc12 pm12 an12 cd12 ct12),sl12⟩)
 (c12:codeIn K cd12 "_law_turned"=true)
 (k12:keepIn K (.ref f12)=true)
 (a13:nsIn K mainGlobals "closed_up"=some (some (.ref f13)))
 (l13:K.lookup f13=some ⟨oc13,od13,.func (fnOf "closed_up" "closed_up" (Jw YA) (Ju YA) (Jf YA) .none kV13 dc13 pm13 an13 cd13 ct13),sl13⟩)
 (c13:codeIn K cd13 "closed_up"=true)
 (k13:keepIn K (.ref f13)=true)
 (a14:nsIn K mainGlobals "by_layers"=some (some (.ref f14)))
 (l14:K.lookup f14=some ⟨oc14,od14,.func (fnOf "by_layers" "by_layers" (Jw Yz) (Ju Yz) (Jf Yz) .none kV14 dc14 pm14 an14 cd14 ct14),sl14⟩)
 (c14:codeIn K cd14 "by_layers"=true)
 (k14:keepIn K (.ref f14)=true)
 (a15:nsIn K mainGlobals "closes_at"=some (some (.ref f15)))
 (l15:K.lookup f15=some ⟨oc15,od15,.func (fnOf "closes_at" "closes_at" (Jw YB) (Ju YB) (Jf YB) .none kV15 dc15 pm15 an15 cd15 ct15),sl15⟩)
 (c15:codeIn K cd15 "closes_at"=true)
 (k15:keepIn K (.ref f15)=true)
 (a16:nsIn K mainGlobals "thinned"=some (some (.ref f16)))
 (l16:K.lookup f16=some ⟨oc16,od16,.func (fnOf "thinned" "thinned" (Jw Y1) (Ju Y1) (Jf Y1) .none kV16 dc16 pm16 an16 cd16 ct16),sl16⟩)
 (c16:codeIn K cd16 "thinned"=true)
 (k16:keepIn K (.ref f16)=true)
 (a17:nsIn K mainGlobals "ball_at"=some (some (.ref f17)))
 (l17:K.lookup f17=some ⟨oc17,od17,.func (fnOf "ball_at" "ball_at" (Jw YX) (Ju YX) (Jf YX) .none kV17 dc17 pm17 an17 cd17 ct17),sl17⟩)
 (c17:codeIn K cd17 "ball_at"=true)
 (k17:keepIn K (.ref f17)=true)
 (a18:nsIn K mainGlobals "owed_at"=some (some (.ref f18)))
 (l18:K.lookup f18=some ⟨oc18,od18,.func (fnOf "owed_at" "owed_at" (Jw YZ) (Ju YZ) (Jf YZ) .none kV18 dc18 pm18 an18 cd18 ct18),sl18⟩)
 (c18:codeIn K cd18 "owed_at"=true)
 (k18:keepIn K (.ref f18)=true)
 (a19:nsIn K mainGlobals "struck"=some (some (.ref f19)))
 (l19:K.lookup f19=some ⟨oc19,od19,.func (fnOf "struck" "struck" (Jw Up) (Ju Up) (Jf Up) .none kV19 dc19 pm19 an19 cd19 ct19),sl19⟩)
 (c19:codeIn K cd19 "struck"=true)
 (k19:keepIn K (.ref f19)=true)
 (a20:nsIn K mainGlobals "table_of"=some (some (.ref f20)))
 (l20:K.lookup f20=some ⟨oc20,od20,.func (fnOf "table_of" "table_of" (Jw YQ) (Ju YQ) (Jf YQ) .none kV20 dc20 pm20 an20 cd20 ct20),sl20⟩)
 (c20:codeIn K cd20 "table_of"=true)
 (k20:keepIn K (.ref f20)=true)
 (a21:nsIn K mainGlobals "lumps_of"=some (some (.ref f21)))
 (l21:K.lookup f21=some ⟨oc21,od21,.func (fnOf "lumps_of" "lumps_of" (Jw YN) (Ju YN) (Jf YN) .none kV21 dc21 pm21 an21 cd21 ct21),sl21⟩)
 (c21:codeIn K cd21 "lumps_of"=true)
 (k21:keepIn K (.ref f21)=true)
 (a22:nsIn K mainGlobals "_law_cell"=some (some (.ref f22)))
 (l22:K.lookup f22=some ⟨oc22,od22,.func (fnOf "_law_cell" "_law_cell" (Jw YL) (Ju YL) (Jf YL) .none kV22 dc22 pm22 an22 cd22 ct22),sl22⟩)
 (c22:codeIn K cd22 "_law_cell"=true)
 (k22:keepIn K (.ref f22)=true)
 (a23:nsIn K mainGlobals "_law_made"=some (some (.ref f23)))
 (l23:K.lookup f23=some ⟨oc23,od23,.func (fnOf "_law_made" "_law_made" (Jw YM) (Ju YM) (Jf YM) .none kV23 dc23 pm23 an23 cd23 ct23),sl23⟩)
 (c23:codeIn K cd23 "_law_made"=true)
 (k23:keepIn K (.ref f23)=true)
 (a24:nsIn K mainGlobals "law"=some (some (.ref f24)))
 (l24:K.lookup f24=some ⟨oc24,od24,.func (fnOf "law" "law" (Jw Vz) (Ju Vz) (Jf Vz) .none kV24 dc24 pm24 an24 cd24 ct24),sl24⟩)
 (c24:codeIn K cd24 "law"=true)
 (k24:keepIn K (.ref f24)=true)
 (pg:plainGet K C Str.empty=true)
 (hd:hasDictIn K C=true)
 (po:plainOver K C=true)
 (sa:findIn K (.ref C) "__setattr__"=some (some (.builtin "object.__setattr__")))
 (mk:makesIn K C=true)
 (kc:keepIn K (.ref C)=true)
 (nS:findIn K (.ref C) "stretches"=some none)
 (qW:nsIn K mainGlobals "sum"=some none)
 (qX:nsIn K mainGlobals "zip"=some none)
 (qY:nsIn K mainGlobals "all"=some none)
 (qT:nsIn K mainGlobals "tuple"=some none)
 (qZ:nsIn K mainGlobals "len"=some none)
 (qO:nsIn K mainGlobals "reversed"=some none)
 (q5:nsIn K mainGlobals "min"=some none)
 (qL:nsIn K mainGlobals "enumerate"=some none)
 (q9:nsIn K mainGlobals "any"=some none)
 (qV:nsIn K mainGlobals "list"=some none)
 (qU:nsIn K mainGlobals "range"=some none)
 (qS:nsIn K mainGlobals "sorted"=some none)
 (wa:nsIn K mainGlobals "set"=some none)
 (qF:nsIn K mainGlobals "MOST_STRETCHES"=some (some (.int 30 qE)))
:∃fd:FuncData,(∀(s:Shared) (v:Value),BindsTo s fd ⟨[v],[]⟩ [("script",v)])/\∀base:Heap,K.In base->base.Ns mainGlobals mg->FnOk l.prog w K mg base CX0 8 fa fd ["script"] (Jed K):=by
 have e:=hfa.symm.trans (mg_of X G a24);cases e
 have T:RowC K C:=⟨⟨pg,hd,po,sa⟩,nS⟩
 have wb:=mg_of X G aC
 have qt:=mg_none_of X G qW
 have qB:=mg_none_of X G qX
 have qP:=mg_none_of X G qY
 have qq:=mg_none_of X G qT
 have qJ:=mg_none_of X G qZ
 have qi:=mg_none_of X G qO
 have qy:=mg_none_of X G q5
 have qe:=mg_none_of X G qL
 have qQ:=mg_none_of X G q9
 have qM:=mg_none_of X G qV
 have qG:=mg_none_of X G qU
 have qp:=mg_none_of X G qS
 have qR:=mg_none_of X G wa
 have qh:GV mg "MOST_STRETCHES" (.int 30):=⟨_,mg_of X G qF,⟨_,rfl⟩⟩
 have F1:=JQ (st:=YY) l1 c1 k1
 have B1:=F1.binds (ps:=["row"]) fun _ _ _ _ _ _ us hl=>by obtain⟨_,rfl⟩:=vl1 hl;rfl
 have F2:=JQ (st:=Y0) l2 c2 k2
 have B2:=F2.binds (ps:=["row"]) fun _ _ _ _ _ _ us hl=>by obtain⟨_,rfl⟩:=vl1 hl;rfl
 have F3:=JQ (st:=JO) l3 c3 k3
 have B3:=F3.binds (ps:=["stretches"]) fun _ _ _ _ _ _ us hl=>by obtain⟨_,rfl⟩:=vl1 hl;rfl
 have F4:=JQ (st:=YK) l4 c4 k4
 have B4:=F4.binds (ps:=["self","stretches"]) fun _ _ _ _ _ _ us hl=>by obtain⟨_,_,rfl⟩:=vl2 hl;rfl
 have F5:=JQ (st:=YO) l5 c5 k5
 have B5:=F5.binds (ps:=["row"]) fun _ _ _ _ _ _ us hl=>by obtain⟨_,rfl⟩:=vl1 hl;rfl
 have F6:=JQ (st:=UZ) l6 c6 k6
 have B6:=F6.binds (ps:=["row"]) fun _ _ _ _ _ _ us hl=>by obtain⟨_,rfl⟩:=vl1 hl;rfl
 have F7:=JQ (st:=Yj) l7 c7 k7
 have B7:=F7.binds (ps:=["row"]) fun _ _ _ _ _ _ us hl=>by obtain⟨_,rfl⟩:=vl1 hl;rfl
 have F8:=JQ (st:=Ye) l8 c8 k8
 have B8:=F8.binds (ps:=["seats"]) fun _ _ _ _ _ _ us hl=>by obtain⟨_,rfl⟩:=vl1 hl;rfl
 have F9:=JQ (st:=U0) l9 c9 k9
 have B9:=F9.binds (ps:=["row","seats"]) fun _ _ _ _ _ _ us hl=>by obtain⟨_,_,rfl⟩:=vl2 hl;rfl
 have F10:=JQ (st:=V2) l10 c10 k10
 have B10:=F10.binds (ps:=["row","seats"]) fun _ _ _ _ _ _ us hl=>by obtain⟨_,_,rfl⟩:=vl2 hl;rfl
 have F11:=JQ (st:=V1) l11 c11 k11
 have B11:=F11.binds (ps:=["row","seats"]) fun _ _ _ _ _ _ us hl=>by obtain⟨_,_,rfl⟩:=vl2 hl;rfl
 have F12:=JQ (st:=Yk) l12 c12 k12
 have B12:=F12.binds (ps:=["row"]) fun _ _ _ _ _ _ us hl=>by obtain⟨_,rfl⟩:=vl1 hl;rfl
 have F13:=JQ (st:=YA) l13 c13 k13
 have B13:=F13.binds (ps:=["pairs"]) fun _ _ _ _ _ _ us hl=>by obtain⟨_,rfl⟩:=vl1 hl;rfl
 have F14:=JQ (st:=Yz) l14 c14 k14
 have B14:=F14.binds (ps:=["row","layers"]) fun _ _ _ _ _ _ us hl=>by obtain⟨_,_,rfl⟩:=vl2 hl;rfl
 have F15:=JQ (st:=YB) l15 c15 k15
 have B15:=F15.binds (ps:=["row"]) fun _ _ _ _ _ _ us hl=>by obtain⟨_,rfl⟩:=vl1 hl;rfl
 have F16:=JQ (st:=Y1) l16 c16 k16
 have B16:=F16.binds (ps:=["row","layers"]) fun _ _ _ _ _ _ us hl=>by obtain⟨_,_,rfl⟩:=vl2 hl;rfl
 have F17:=JQ (st:=YX) l17 c17 k17
 have B17:=F17.binds (ps:=["row","place"]) fun _ _ _ _ _ _ us hl=>by obtain⟨_,_,rfl⟩:=vl2 hl;rfl
 have F18:=JQ (st:=YZ) l18 c18 k18
 have B18:=F18.binds (ps:=["left","spot"]) fun _ _ _ _ _ _ us hl=>by obtain⟨_,_,rfl⟩:=vl2 hl;rfl
 have F19:=JQ (st:=Up) l19 c19 k19
 have B19:=F19.binds (ps:=["row"]) fun _ _ _ _ _ _ us hl=>by obtain⟨_,rfl⟩:=vl1 hl;rfl
 have F20:=JQ (st:=YQ) l20 c20 k20
 have B20:=F20.binds (ps:=["row"]) fun _ _ _ _ _ _ us hl=>by obtain⟨_,rfl⟩:=vl1 hl;rfl
 have F21:=JQ (st:=YN) l21 c21 k21
 have B21:=F21.binds (ps:=["row"]) fun _ _ _ _ _ _ us hl=>by obtain⟨_,rfl⟩:=vl1 hl;rfl
 have F22:=JQ (st:=YL) l22 c22 k22
 have B22:=F22.binds (ps:=["script","k"]) fun _ _ _ _ _ _ us hl=>by obtain⟨_,_,rfl⟩:=vl2 hl;rfl
 have F23:=JQ (st:=YM) l23 c23 k23
 have B23:=F23.binds (ps:=["script","many","span"]) fun _ _ _ _ _ _ us hl=>by obtain⟨_,_,_,rfl⟩:=vl3 hl;rfl
 have F24:=JQ (st:=Vz) l24 c24 k24
 have B24:=F24.binds (ps:=["script"]) fun _ _ _ _ _ _ us hl=>by obtain⟨_,rfl⟩:=vl1 hl;rfl
 refine⟨fnOf "law" "law" (Jw Vz) (Ju Vz) (Jf Vz) .none kV24 dc24 pm24 an24 cd24 ct24,fun s v=>.of_eq rfl,fun base _ _=>?_⟩;have qb:Cal l.prog w K mg base "gaps_of" 1 ["row"] (spE K C 1 JZ):=⟨f1,_,JcJ (C:=C) F1 qt qB T,mg_of X G a1,k1,B1⟩
 have qj:Cal l.prog w K mg base "settled" 2 ["row"] (spE K C 1 J8):=⟨f2,_,JcL (C:=C) F2 qP qB qb T,mg_of X G a2,k2,B2⟩
 have qg:Cal l.prog w K mg base "check_stretches" 1 ["stretches"] (Wt K):=⟨f3,_,Vb F3 ,mg_of X G a3,k3,B3⟩
 have ql:CalM l.prog w K mg base "Row" C 2 ["self","stretches"] (UQ C K):=⟨f4,_,⟨mk,a4,i4,kc⟩,Jbr F4 qq qJ qh qg T,wb,B4⟩
 have qd:Cal l.prog w K mg base "mirrored" 4 ["row"] (spE K C 1 JW):=⟨f5,_,Jbv (C:=C) F5 qi ql T,mg_of X G a5,k5,B5⟩
 have qH:Cal l.prog w K mg base "early" 5 ["row"] (spE K C 1 Y3):=⟨f6,_,JgF (C:=C) F6 qj qd,mg_of X G a6,k6,B6⟩
 have qr:Cal l.prog w K mg base "ball_count" 1 ["row"] (spE K C 1 JY):=⟨f7,_,Zb (C:=C) F7 qt T,mg_of X G a7,k7,B7⟩
 have qm:Cal l.prog w K mg base "check_seats" 1 ["seats"] (spE K C 1 J3):=⟨f8,_,WU (C:=C) F8 ,mg_of X G a8,k8,B8⟩
 have qK:Cal l.prog w K mg base "stops" 2 ["row","seats"] (spE K C 2 Ug):=⟨f9,_,JgG (C:=C) F9 qB qy qb qr qm T,mg_of X G a9,k9,B9⟩
 have qC:Cal l.prog w K mg base "gone" 4 ["row","seats"] (spE K C 2 Uc):=⟨f10,_,JiU (C:=C) F10 ql qK,mg_of X G a10,k10,B10⟩
 have qN:Cal l.prog w K mg base "back" 5 ["row","seats"] (spE K C 2 UT):=⟨f11,_,JiT (C:=C) F11 qd qC,mg_of X G a11,k11,B11⟩
 have qo:Cal l.prog w K mg base "_law_turned" 1 ["row"] (spE K C 1 Yd):=⟨f12,_,Zc (C:=C) F12 qi,mg_of X G a12,k12,B12⟩
 have qu:Cal l.prog w K mg base "closed_up" 1 ["pairs"] (spE K C 1 J7):=⟨f13,_,Jas (C:=C) F13 qt,mg_of X G a13,k13,B13⟩
 have qv:Cal l.prog w K mg base "by_layers" 1 ["row","layers"] (spE K C 2 J6):=⟨f14,_,Jar (C:=C) F14 qe T,mg_of X G a14,k14,B14⟩
 have qf:Cal l.prog w K mg base "closes_at" 2 ["row"] (spE K C 1 JG):=⟨f15,_,Jat (C:=C) F15 qy qb T,mg_of X G a15,k15,B15⟩
 have qk:Cal l.prog w K mg base "thinned" 4 ["row","layers"] (spE K C 2 JS):=⟨f16,_,JcM (C:=C) F16 qy ql qu qv qf T,mg_of X G a16,k16,B16⟩
 have qx:Cal l.prog w K mg base "ball_at" 1 ["row","place"] (spE K C 2 Ys):=⟨f17,_,JcI (C:=C) F17 qQ T,mg_of X G a17,k17,B17⟩
 have qD:Cal l.prog w K mg base "owed_at" 2 ["left","spot"] (spE K C 2 YI):=⟨f18,_,JcK (C:=C) F18 qx,mg_of X G a18,k18,B18⟩
 have qI:Cal l.prog w K mg base "struck" 5 ["row"] (spE K C 1 YJ):=⟨f19,_,Jfi (C:=C) F19 qe qt qD qk T,mg_of X G a19,k19,B19⟩
 have qz:Cal l.prog w K mg base "table_of" 6 ["row"] (spE K C 1 Yx):=⟨f20,_,Jbw (C:=C) F20 qk qI qf T,mg_of X G a20,k20,B20⟩
 have qA:Cal l.prog w K mg base "lumps_of" 7 ["row"] (spE K C 1 Yw):=⟨f21,_,Jbu (C:=C) F21 qM qz,mg_of X G a21,k21,B21⟩
 have qa:Cal l.prog w K mg base "_law_cell" 1 ["script","k"] (spE K C 2 JK):=⟨f22,_,Jbs (C:=C) F22 qJ,mg_of X G a22,k22,B22⟩
 have qw:Cal l.prog w K mg base "_law_made" 2 ["script","many","span"] (spE K C 3 Yv):=⟨f23,_,Jbt (C:=C) F23 qG qp qa,mg_of X G a23,k23,B23⟩
 exact JiI (Jli (C:=C) F24 qq qp qR qH qN ql qo qA qj qC qw qa T) law_true
theorem walk{l:PySem.W.OpenLaw}{q:Program}{loose:List Str}{XP:(Str->Option Value)->Heap->Prop}{YP:World->Heap->Prop}{d:DefRec}{K:Params->Frag}(hn:l.most=some 63)(hdf:d.params.defaults=[])
 (hY:∀(w:World) (h:Heap),YP w h->(K w.params).In h)
 (F:∀(w:World) (mg:Str->Option Value) (fa:Addr) (h:Heap),(K w.params).In h->h.Ns mainGlobals mg->mg d.name=some (.ref fa) ->
  ∃fd:FuncData,(∀(s:Shared) (u:Value),BindsTo s fd ⟨[u],[]⟩ [("script",u)])/\∀base:Heap,(K w.params).In base->base.Ns mainGlobals mg->FnOk l.prog w (K w.params) mg base CX0 8 fa fd ["script"] (Jed (K w.params))) :
 PySem.W.WalkO q loose XP YP l.row.toRowW d [] (fun f vs=>PySem.call f vs) :=
 L2.JjM (n:=63) (k:=8) (x:="script") (CX:=fun _=>CX0) (sp:=fun w=>Jed (K w.params)) hn (by decide) hdf ⟨rfl,by decide,by decide⟩ hY F (fun _ _ a ns hl _ hS=>⟨a,ns,rfl,hS,hl,fun _=>rfl⟩) fun _ _ _ _ _ z=>z
end LK
end
theorem PySem.W.Fast.tw6996492995933221222:True:=trivial
theorem PySem.W.Fast.tw7272731784800841916:True:=trivial
theorem PySem.W.Fast.tw448853346916119170:True:=trivial
theorem PySem.W.Fast.tw13717772673666670059:True:=trivial
theorem PySem.W.Fast.tw13190323510914267483:True:=trivial
theorem PySem.W.Fast.tw9761530284274940173:True:=trivial
theorem PySem.W.Fast.tw16812735668307214026:True:=trivial
theorem PySem.W.Fast.tw15782351750077658127:True:=trivial
theorem PySem.W.Fast.tw17554074114058571390:True:=trivial
theorem PySem.W.Fast.tw6487812318400338531:True:=trivial
theorem PySem.W.Fast.tw4524938079849682956:True:=trivial
theorem PySem.W.Fast.tw2549831068368237312:True:=trivial
theorem PySem.W.Fast.tw6538348266460420475:True:=trivial
theorem PySem.W.Fast.tw12351816508598403869:True:=trivial
theorem PySem.W.Fast.tw1985452629850697358:True:=trivial
theorem PySem.W.Fast.tw6772723642005440604:True:=trivial
theorem PySem.W.Fast.tw12367105074437427682:True:=trivial
theorem PySem.W.Fast.tw16779605121307283483:True:=trivial
theorem PySem.W.Fast.tw15451839045971231006:True:=trivial
theorem PySem.W.Fast.tw16492421182862299751:True:=trivial
theorem PySem.W.Fast.tw18378438858139307990:True:=trivial
theorem PySem.W.Fast.tw12255516400369667470:True:=trivial
theorem PySem.W.Fast.tw15690842435650100205:True:=trivial
theorem PySem.W.Fast.tw6199043996242434138:True:=trivial
theorem PySem.W.Fast.tw18064436209503882105:True:=trivial
theorem PySem.W.Fast.tw12389214471204216838:True:=trivial
theorem PySem.W.Fast.tw14512795500884694242:True:=trivial
theorem PySem.W.Fast.tw1310661151395104899:True:=trivial
theorem PySem.W.Fast.tw3276108902326896548:True:=trivial
theorem PySem.W.Fast.tw5046107605281058730:True:=trivial
theorem PySem.W.Fast.tw6798336158298357751:True:=trivial
theorem PySem.W.Fast.tw7058449650409647300:True:=trivial
theorem PySem.W.Fast.tw13772734658871047597:True:=trivial
theorem PySem.W.Fast.tw6185158406651544577:True:=trivial
theorem PySem.W.Fast.tw15192366052721457511:True:=trivial
theorem PySem.W.Fast.tw10114672375325487653:True:=trivial
theorem PySem.W.Fast.tw11149737049964837723:True:=trivial
theorem PySem.W.Fast.tw7463791729241338323:True:=trivial
theorem PySem.W.Fast.tw16810970698435774336:True:=trivial
theorem PySem.W.Fast.tw5567471832677365071:True:=trivial
theorem PySem.W.Fast.tw3625524985515105450:True:=trivial
theorem PySem.W.Fast.tw8363292197320460321:True:=trivial
theorem PySem.W.Fast.tw8317938551342928451:True:=trivial
theorem PySem.W.Fast.tw11829672648278425043:True:=trivial
theorem PySem.W.Fast.tw1241061273194332651:True:=trivial
theorem PySem.W.Fast.tw10038606094937178921:True:=trivial
theorem PySem.W.Fast.tw12075067797496255531:True:=trivial
theorem PySem.W.Fast.tw12197397268975567757:True:=trivial
theorem PySem.W.Fast.tw478459025346922627:True:=trivial
theorem PySem.W.Fast.tw5395497976735555316:True:=trivial
theorem PySem.W.Fast.tw2252046458630517588:True:=trivial
theorem PySem.W.Fast.tw10040065106619304014:True:=trivial
theorem PySem.W.Fast.tw13583200458088783117:True:=trivial
theorem PySem.W.Fast.tw12326129331261343995:True:=trivial
theorem PySem.W.Fast.tw10395313946462780254:True:=trivial
open PySem PySem.W PyProof.Rows
set_option maxRecDepth 100000 in
set_option maxHeartbeats 0 in
theorem PySem.Challenge.cw_lumprow_k49_far_rows_move_on_holds : PySem.Challenge.rw_lumprow_k49_far_rows_move_on.Holds := by
 w_on; o_law; k_head; (case hw => w_witness2)
 k_fill
 refine LK.walk (l := PySem.Challenge.rw_lumprow_k49_far_rows_move_on) rfl rfl (fun w h Y => PySem.W.kIn_of Y) ?F
 case F =>
  intro w mg fa h KX G hmg; apply LK.all_mk KX G hmg; all_goals k_is
