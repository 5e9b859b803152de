import PyProof.Rows.All
import Wide.All
import OpenK.AllK
import Wide.FinOn
import Lean
import PyProof.EqAt
import PyProof.EqKinds
import PyProof.TupleCall
import PySem.Challenge.RW_lumprow_k37_tables_moved_on
set_option Elab.async false
set_option linter.all false
set_option maxRecDepth 100000
set_option maxHeartbeats 4000000
open PySem.W (instObj methodObj Frag lookIn InstAt hasDictIn findIn specialIn keepIn emptyDict takesIn mroIn kitOne kia_one kitx_list callWith_K cellsFrom_some fnOf codeIn notCls nsIn KdlKeysView excIn exmOne findObj clsIn any_some kitAny mg_of mg_none_of)
noncomputable section
namespace L2
open PySem PySem.Spec PyProof.Rows

noncomputable abbrev Key:=Sum Int Str
noncomputable def Zf:Key->Value->Bool
 | .inl k,v=>Value.isInt k v
 | .inr x,v=>Value.isStrOf x v
noncomputable def Jj3(w:World):Key->Int
 | .inl k=>hashInt k
 | .inr x=>hashStr w x
theorem J7:∀{k:Key} {v:Value},Zf k v=true->(∃i t,k=Sum.inl i/\v=Value.int i t)\/(∃x t,k=Sum.inr x/\v=Value.str x t)
 | .inl i,v,h=>by obtain⟨t,e⟩:=Value.isInt_shape (k:=i) (v:=v) h;exact .inl ⟨i,t,rfl,e⟩
 | .inr x,v,h=>by obtain⟨t,e⟩:=Value.isStrOf_shape (x:=x) (v:=v) h;exact .inr ⟨x,t,rfl,e⟩
theorem Jcp(i:Int)(t:Tok):Zf (.inl i) (.int i t)=true:=by simp[Zf,Value.isInt]
theorem Jcq(x:Str)(t:Tok):Zf (.inr x) (.str x t)=true:=by simp[Zf,Value.isStrOf]
theorem Jhm(a b:Int):decide ((Sum.inl a:Key)=Sum.inl b)=(a == b):=by
 by_cases e:a=b
 ·subst e;simp
 ·have h:¬(Sum.inl a:Key)=Sum.inl b:=fun q=>e (Sum.inl.inj q)
  rw[decide_eq_false h];exact(beq_eq_false_iff_ne.mpr e).symm
theorem Jhp(a b:Str):decide ((Sum.inr a:Key)=Sum.inr b)=decide (a=b):=by
 by_cases e:a=b
 ·subst e;simp
 ·have h:¬(Sum.inr a:Key)=Sum.inr b:=fun q=>e (Sum.inr.inj q)
  rw[decide_eq_false h,decide_eq_false e]
theorem Jhn(a:Int)(b:Str):decide ((Sum.inl a:Key)=Sum.inr b)=false:=decide_eq_false (fun q=>nomatch q)
theorem Jho(a:Str)(b:Int):decide ((Sum.inr a:Key)=Sum.inl b)=false:=decide_eq_false (fun q=>nomatch q)

noncomputable def Yl(prog:Program)(w:World):PySem.KeyKind prog w Key where
 is:=Zf
 hash:=Jj3 w
 inj:=fun v a b ha hb=>by
  rcases J7 ha with ⟨i,t,rfl,rfl⟩|⟨x,t,rfl,rfl⟩
  ·rcases J7 hb with ⟨j,u,rfl,e⟩|⟨y,u,rfl,e⟩
   ·injection e with e1 _;rw[e1]
   ·exact nomatch e
  ·rcases J7 hb with ⟨j,u,rfl,e⟩|⟨y,u,rfl,e⟩
   ·exact nomatch e
   ·injection e with e1 _;rw[e1]
 byValue:=fun k v h=>by rcases J7 h with ⟨i,t,rfl,rfl⟩|⟨x,t,rfl,rfl⟩ <;> rfl
 pyHash:=fun hv h=>by
  rcases J7 hv with ⟨i,t,rfl,rfl⟩|⟨x,t,rfl,rfl⟩
  ·exact wpAny_pyHash_int h
  ·exact wpAny_pyHash_str h
 eqBool:=fun hu hv h=>by
  rcases J7 hu with ⟨i,t,rfl,rfl⟩|⟨x,t,rfl,rfl⟩
  ·rcases J7 hv with ⟨j,u,rfl,rfl⟩|⟨y,u,rfl,rfl⟩
   ·rw[Jhm] at h;exact wpAny_eqBool_int h
   ·rw[Jhn] at h;exact SeqAt.EqAt.int_str i t y u _ _ _ _ h
  ·rcases J7 hv with ⟨j,u,rfl,rfl⟩|⟨y,u,rfl,rfl⟩
   ·rw[Jho] at h;exact SeqAt.EqAt.str_int x t j u _ _ _ _ h
   ·rw[Jhp] at h;exact wpAny_eqBool_str h
 «strs»:=fun k x t v h=>by
  rcases J7 h with ⟨i,u,rfl,e⟩|⟨y,u,rfl,e⟩
  ·exact nomatch e
  ·injection e with e1 _
   subst e1;cases v <;> rfl

theorem Jao(prog:Program)(w:World)(i:Int)(t:Tok):(Yl prog w).is (.inl i) (.int i t)=true:=Jcp i t
theorem Jap(prog:Program)(w:World)(x:Str)(t:Tok):(Yl prog w).is (.inr x) (.str x t)=true:=Jcq x t
end L2

namespace L2
open PySem PySem.Spec PyProof.Rows

inductive V where
 | non|bl (b:Bool)|int (i:Int)|str (x:Str)|byt (b:Array UInt8)|flt (b:UInt64)|ref (a:Addr)|ty (n:String)
 deriving DecidableEq

noncomputable def RelV:V->Value->Prop
 | .non,u=>u=Value.none
 | .bl b,u=>u=Value.bool b
 | .int i,u=>∃t,u=Value.int i t
 | .str x,u=>∃t,u=Value.str x t
 | .byt b,u=>∃t,u=Value.bytes b t
 | .flt b,u=>∃t,u=Value.float b t
 | .ref a,u=>u=Value.ref a
 | .ty n,u=>u=Value.type n

noncomputable abbrev Vals:List V->List Value->Prop:=Paired RelV
theorem Vals.length{xs:List V}{us:List Value}(r:Vals xs us):xs.length=us.length:=Paired.length r
theorem Vals.get:∀{xs:List V} {us:List Value} {i:Nat} {x:V},Vals xs us->xs[i]?=some x->∃u,us[i]?=some u/\RelV x u
 | _,_,_,_,.nil,e=>by simp at e
 | _,_,0,_,.cons r _,e=>by simp at e;subst e;exact⟨_,rfl,r⟩
 | _,_,i+1,x,.cons _ t,e=>by obtain⟨u,h1,h2⟩:=Vals.get (i:=i) (x:=x) t (by simpa using e);exact⟨u,by simpa using h1,h2⟩
theorem Vals.set{x:V}{u:Value}(r:RelV x u):∀{xs:List V} {us:List Value} (i:Nat),Vals xs us->Vals (xs.set i x) (us.set i u)
 | _,_,_,.nil=>.nil
 | _,_,0,.cons _ t=>.cons r t
 | _,_,i+1,.cons q t=>.cons q (Vals.set r i t)
theorem Vals.append:∀{xs ys:List V} {us ws:List Value},Vals xs us->Vals ys ws->Vals (xs++ys) (us++ws)
 | _,_,_,_,.nil,s=>s
 | _,_,_,_,.cons r t,s=>.cons r (Vals.append t s)
theorem Vals.take:∀{xs:List V} {us:List Value} (n:Nat),Vals xs us->Vals (xs.take n) (us.take n)
 | _,_,0,_=>.nil
 | _,_,_+1,.nil=>.nil
 | _,_,n+1,.cons r t=>.cons r (Vals.take n t)
theorem Vals.drop:∀{xs:List V} {us:List Value} (n:Nat),Vals xs us->Vals (xs.drop n) (us.drop n)
 | _,_,0,r=>r
 | _,_,_+1,.nil=>.nil
 | _,_,n+1,.cons _ t=>Vals.drop n t
noncomputable def RelO:Option V->Option Value->Prop
 | some v,some u=>RelV v u
 | none,none=>True
 | _,_=>False
noncomputable def KV{κ:Type}:List (κ×V)->List (κ×Value)->Prop:=Paired fun(p:κ×V) (q:κ×Value)=>p.1=q.1/\RelV p.2 q.2

noncomputable def kV:Key->V
 | .inl i=>.int i
 | .inr x=>.str x

inductive HO where
 | lst (xs:List V)
 | tup (xs:List V)
 | dK (kvs:List (Key×V))|dT (kvs:List (List Key×V))
 | set (S:Int->Bool) (n:Nat)
 | ins (C dx:Addr) (fs:List (Str×V))
 | own (x:Addr)
 | xd (fs:List (Str×V))
 | met (f x:Addr)
 | rng (lo hi:Int)
 | frz (o:Obj) (u:HO)
 | tbl (ps:Array Value)
 | ext (φ:Heap->Prop)

noncomputable abbrev Hp:=Addr->Option HO
noncomputable def upd(H:Hp)(a:Addr)(o:HO):Hp:=fun b=>if b=a then some o else H b
theorem JR{H:Hp}{a:Addr}{o:HO}:upd H a o a=some o:=by unfold upd;rw[if_pos rfl]
theorem Jo{H:Hp}{a b:Addr}{o:HO}(h:b≠a):upd H a o b=H b:=by unfold upd;rw[if_neg h]
theorem Jdz{H:Hp}{a b:Addr}{o u:HO}(h:H a=some o)(h':H b=some u)(d:o≠u):a≠b:=by intro e;subst e;rw[h] at h';exact d (Option.some.inj h')
theorem JA{H:Hp}{a b:Addr}{o:HO}(h:H a=some o)(h':H b=none):a≠b:=by intro e;subst e;rw[h] at h';cases h'

section
variable(P:Program)(w:World)
noncomputable def ObjOk(H:Hp)(h:Heap)(a:Addr):HO->Prop
 | .lst xs=>xs.length<=sizeLine/\∃(its:List Value) (n:Nat),Vals xs its/\h.get? a=some { cls:=.type "list",data:=.seq its.toArray n }
 | .tup xs=>xs.length<=sizeLine/\∃its:List Value,Vals xs its/\IsTup h a its.toArray
 | .dK kvs=>kvs.length<=sizeLine/\(a == sysModules)=false/\∃vs,KV kvs vs/\h.DictOf (Yl P w) a vs
 | .dT kvs=>kvs.length<=sizeLine/\(a == sysModules)=false/\∃xs:List (List Key×Addr×Value),
  Paired (fun(p:List Key×V) (q:List Key×Addr×Value)=>p.1=q.1/\H q.2.1=some (.tup (p.1.map kV))/\RelV p.2 q.2.2) kvs xs ∧
  ∃o es ep,h.get? a=some o/\o.ExactDict/\o.data=.dict es ep/\es.toList=xs.map (entryOfKey (tupleKind (Yl P w)))/\(xs.map (·.1)).Nodup
 | .set S n=>h.SetOf (intKind P w) a S n
 | .ins C dx fs=>H dx=some (.own a)/\fs.length<=1000/\dx≠a/\h.get? a=some (instObj C dx) ∧
  ∃mA,h.Ns1 dx mA/\(∀f,RelO (fs.lookup f) (mA f))/\PySem.Within mA (fs.map (·.1))
 | .own _=>∃o,h.get? a=some o
 | .xd fs=>∃mA,h.Ns1 a mA/\∀f,RelO (fs.lookup f) (mA f)
 | .rng lo hi=>∃t u v,h.get? a=some { cls:=.type "range",data:=.fields #[.int lo t,.int hi u,.int 1 v] }
 | .frz o u=>h.get? a=some o/\ObjOk H h a u
 | .tbl ps=>h.get? a=some { cls:=.none,data:=.fields ps }
 | .met f x=>h.get? a=some (methodObj (.ref f) (.ref x))
 | .ext φ=>φ h/\(∃o,h.get? a=some o)/\∀h1 h2:Heap,φ h1->(∀o,h1.get? a=some o->h2.get? a=some o)->φ h2
noncomputable def HOk(H:Hp)(h:Heap):Prop:=∀a o,H a=some o->ObjOk P w H h a o
end

section
variable{P:Program}{w:World}{H H':Hp}{h h':Heap}{a:Addr}{o:HO}
theorem ObjOk.lt(x:ObjOk P w H h a o):a<h.objs.size:=by
 cases o with
 | lst xs=>obtain⟨_,_,_,_,e⟩:=x;exact Heap.lt_size e
 | tup xs=>obtain⟨_,_,_,p⟩:=x;exact p.lt
 | dK kvs=>obtain⟨_,_,_,_,o,_,_,e,_⟩:=x;exact Heap.lt_size e
 | dT kvs=>obtain⟨_,_,_,_,o,_,_,e,_⟩:=x;exact Heap.lt_size e
 | set S n=>obtain⟨o,_,_,_,e,_⟩:=x;exact Heap.lt_size e
 | ins C dx fs=>obtain⟨_,_,_,e,_⟩:=x;exact Heap.lt_size e
 | own y=>obtain⟨_,e⟩:=x;exact Heap.lt_size e
 | xd fs=>obtain⟨_,⟨_,_,_,e,_⟩,_⟩:=x;exact Heap.lt_size e
 | rng lo hi=>obtain⟨_,_,_,e⟩:=x;exact Heap.lt_size e
 | frz ob u=>obtain⟨e,_⟩:=x;exact Heap.lt_size e
 | tbl ps=>exact Heap.lt_size (show h.get? a=some _ from x)
 | met f y=>exact Heap.lt_size (show h.get? a=some _ from x)
 | ext φ=>obtain⟨_,⟨_,e⟩,_⟩:=x;exact Heap.lt_size e
theorem Paired.mapP{α β:Type}{F G:α->β->Prop}:∀{l₁:List α} {l₂:List β},Paired F l₁ l₂->(∀a b,F a b->G a b)->Paired G l₁ l₂
 | _,_,.nil,_=>.nil
 | _,_,.cons r t,f=>.cons (f _ _ r) (Paired.mapP t f)
theorem ObjOk.stay(x:ObjOk P w H h a o)(k:∀b u,(b=a\/H b=some (.own a))->h.get? b=some u->h'.get? b=some u)
 (ho:∀b,H b=some (.own a)->H' b=some (.own a)) (ht:∀b xs,H b=some (.tup xs)->H' b=some (.tup xs)):ObjOk P w H' h' a o:=by
 induction o with
 | lst xs=>obtain⟨z,its,n,r,e⟩:=x;exact⟨z,its,n,r,k _ _ (.inl rfl) e⟩
 | tup xs=>obtain⟨z,its,r,ob,e,c⟩:=x;exact⟨z,its,r,ob,k _ _ (.inl rfl) e,c⟩
 | dK kvs=>obtain⟨z,y,vs,r,ob,es,ep,e,c⟩:=x;exact⟨z,y,vs,r,ob,es,ep,k _ _ (.inl rfl) e,c⟩
 | dT kvs=>obtain⟨z,y,xs,r,ob,es,ep,e,c⟩:=x;exact⟨z,y,xs,Paired.mapP r fun p q z=>⟨z.1,ht _ _ z.2.1,z.2.2⟩,ob,es,ep,k _ _ (.inl rfl) e,c⟩
 | set S n=>obtain⟨ob,es,ep,t,e,c⟩:=x;exact⟨ob,es,ep,t,k _ _ (.inl rfl) e,c⟩
 | ins C dx fs=>obtain⟨d,z,ne,e,mA,⟨od,es,ep,e2,c⟩,r⟩:=x;exact⟨ho _ d,z,ne,k _ _ (.inl rfl) e,mA,⟨od,es,ep,k _ _ (.inr d) e2,c⟩,r⟩
 | own y=>obtain⟨ob,e⟩:=x;exact⟨ob,k _ _ (.inl rfl) e⟩
 | xd fs=>obtain⟨mA,⟨od,es,ep,e,c⟩,r⟩:=x;exact⟨mA,⟨od,es,ep,k _ _ (.inl rfl) e,c⟩,r⟩
 | rng lo hi=>obtain⟨t,u,v,e⟩:=x;exact⟨t,u,v,k _ _ (.inl rfl) e⟩
 | frz ob u ih=>obtain⟨e,q⟩:=x;exact⟨k _ _ (.inl rfl) e,ih q⟩
 | tbl ps =>
  have e:h.get? a=some { cls:=.none,data:=.fields ps }:=x
  show h'.get? a=some { cls:=.none,data:=.fields ps };exact k a _ (.inl rfl) e
 | met f y =>
  have e:h.get? a=some (methodObj (.ref f) (.ref y)):=x
  show h'.get? a=some (methodObj (.ref f) (.ref y));exact k a _ (.inl rfl) e
 | ext φ=>obtain⟨p,⟨o,e⟩,st⟩:=x;exact⟨st _ _ p fun o q=>k _ _ (.inl rfl) q,⟨o,k _ _ (.inl rfl) e⟩,st⟩
theorem HOk.lt(x:HOk P w H h)(e:H a=some o):a<h.objs.size:=(x a o e).lt
theorem HOk.fresh(x:HOk P w H h)(e:h.objs.size<=a):H a=none:=by
 cases q:H a with
 | none=>rfl
 | some u=>exact absurd (Nat.lt_of_lt_of_le (x.lt q) e) (Nat.lt_irrefl _)
theorem HOk.kept(x:HOk P w H h)(k:∀b u,h.get? b=some u->h'.get? b=some u):HOk P w H h':=fun a o e=>(x a o e).stay (fun b u _ q=>k b u q) (fun _ q=>q) fun _ _ q=>q
theorem HOk.laid(x:HOk P w H h)(k:∀b u,h.get? b=some u->h'.get? b=some u)(hp:h.objs.size<=a)(new:ObjOk P w (upd H a o) h' a o):HOk P w (upd H a o) h':=fun b u e=>by
 have hn:=x.fresh hp
 by_cases hb:b=a
 ·subst hb;rw[JR] at e;cases e;exact new
 ·rw[Jo hb] at e;exact(x b u e).stay (fun c v _ q=>k c v q) (fun c q=>by rw[Jo (JA q hn)];exact q) fun c xs q=>by rw[Jo (JA q hn)];exact q
end

noncomputable def Rd(H:Hp)(a:Addr)(u:HO):Prop:=H a=some u\/∃o,H a=some (.frz o u)
theorem Rd.of{H:Hp}{a:Addr}{u:HO}(h:H a=some u):Rd H a u:=.inl h
theorem Rd.ok{P:Program}{w:World}{H:Hp}{h:Heap}{a:Addr}{u:HO}(r:Rd H a u)(x:HOk P w H h):ObjOk P w H h a u:=by
 rcases r with r|⟨o,r⟩
 ·exact x a u r
 ·obtain⟨_,q⟩:=x a _ r;exact q
noncomputable def Mut:Option HO->Prop
 | some (.lst _)=>True
 | some (.dK _)=>True
 | some (.dT _)=>True
 | some (.set _ _)=>True
 | some (.ins _ _ _)=>True
 | some (.ext _)=>True
 | _=>False
section
variable{P:Program}{w:World}{H:Hp}{h h':Heap}{x e:Addr}{o':HO}
theorem HOk.write(ok:HOk P w H h)(mu:Mut (H x))(he:e=x\/H e=some (.own x))(k:∀b u,b≠e->h.get? b=some u->h'.get? b=some u)(heo:∃u,h'.get? e=some u)
 (new:ObjOk P w (upd H x o') h' x o'):HOk P w (upd H x o') h':=fun b u q=>by
 have nown:∀c y,H c=some (.own y)->c≠x:=fun c y r z=>by subst z;rw[r] at mu;exact mu
 have ntup:∀c xs,H c=some (.tup xs)->c≠x:=fun c xs r z=>by subst z;rw[r] at mu;exact mu
 by_cases hb:b=x
 ·subst hb;rw[JR] at q;cases q;exact new
 ·rw[Jo hb] at q
  by_cases hbe:b=e
  ·have q':H b=some (.own x):=by
    rcases he with z|z
    ·exact absurd (hbe.trans z) hb
    ·rw[hbe];exact z
   rw[q] at q';cases q';obtain⟨v,hv⟩:=heo;exact⟨v,by rw[hbe];exact hv⟩
  ·refine(ok b u q).stay (fun c v hc r=>k c v ?_ r) (fun c r=>by rw[Jo (nown c b r)];exact r) fun c xs r=>by rw[Jo (ntup c xs r)];exact r
   rcases hc with rfl|hc
   ·exact hbe
   ·rintro rfl;rcases he with z|z
    ·exact nown c b hc z
    ·rw[hc] at z;cases z;exact hb rfl
end

structure Un (fs ex:List Addr) (H H':Hp) (h h':Heap):Prop where
 keep:∀b o,h.get? b=some o->H b=none->b∉fs->b∉ex->h'.get? b=some o
 slot:∀b o,h.get? b=some o->H b=none->b∈fs->b∉ex->∃sl,h'.get? b=some { o with slots:=sl }
 free:∀b o,h.get? b=some o->H b=none->b∉ex->H' b=none
 there:∀b o,h.get? b=some o->b∉ex->∃o',h'.get? b=some o'
 tups:∀b xs,H b=some (.tup xs)->H' b=some (.tup xs)
 frzs:∀b o u,H b=some (.frz o u)->H' b=some (.frz o u)
 tbls:∀b ps,H b=some (.tbl ps)->∃more,H' b=some (.tbl (ps++more))
section
variable{fs fs' ex ex':List Addr}{H H1 H2:Hp}{h h1 h2 h':Heap}{a x e:Addr}{o:HO}
theorem Un.any(u:Un fs ex H H1 h h1){b:Addr}{ob:Obj}(q:h.get? b=some ob)(n:H b=none)(hx:b∉ex):∃sl,h1.get? b=some { ob with slots:=sl }:=by
 by_cases hb:b∈fs
 ·exact u.slot b ob q n hb hx
 ·exact⟨ob.slots,u.keep b ob q n hb hx⟩
theorem Un.trans(a:Un fs ex H H1 h h1)(b:Un fs ex H1 H2 h1 h2):Un fs ex H H2 h h2 where
 keep:=fun c ob q n hc hx=>b.keep c ob (a.keep c ob q n hc hx) (a.free c ob q n hx) hc hx
 slot:=fun c ob q n hc hx=>by obtain⟨sl,e1⟩:=a.slot c ob q n hc hx;obtain⟨sl',e2⟩:=b.slot c _ e1 (a.free c ob q n hx) hc hx;exact⟨sl',e2⟩
 free:=fun c ob q n hx=>by obtain⟨o',e1⟩:=a.there c ob q hx;exact b.free c o' e1 (a.free c ob q n hx) hx
 there:=fun c ob q hx=>by obtain⟨o',e1⟩:=a.there c ob q hx;exact b.there c o' e1 hx
 tups:=fun c xs q=>b.tups c xs (a.tups c xs q)
 frzs:=fun c ob xs q=>b.frzs c ob xs (a.frzs c ob xs q)
 tbls:=fun c ps q=>by obtain⟨m1,e1⟩:=a.tbls c ps q;obtain⟨m2,e2⟩:=b.tbls c _ e1;exact⟨m1++m2,by rw[e2,Array.append_assoc]⟩
theorem Un.kept(k:∀b u,h.get? b=some u->h'.get? b=some u):Un fs ex H H h h' :=
 ⟨fun b ob q _ _ _=>k b ob q,fun b ob q _ _ _=>⟨ob.slots,k b ob q⟩,fun _ _ _ n _=>n,fun b ob q _=>⟨ob,k b ob q⟩,fun _ _ q=>q,fun _ _ _ q=>q,fun _ ps q=>⟨#[],by rw[q];simp⟩⟩
theorem Un.refl:Un fs ex H H h h:=Un.kept fun _ _ q=>q
theorem Un.laid(k:∀b u,h.get? b=some u->h'.get? b=some u)(hp:h.objs.size<=a)(hn:H a=none):Un fs ex H (upd H a o) h h' where
 keep:=fun b u q _ _ _=>k b u q
 slot:=fun b u q _ _ _=>⟨u.slots,k b u q⟩
 free:=fun b u q n _=>by rw[Jo (Nat.ne_of_lt (Nat.lt_of_lt_of_le (Heap.lt_size q) hp))];exact n
 there:=fun b u q _=>⟨u,k b u q⟩
 tups:=fun b xs q=>by rw[Jo (JA q hn)];exact q
 frzs:=fun b u xs q=>by rw[Jo (JA q hn)];exact q
 tbls:=fun b ps q=>⟨#[],by rw[Jo (JA q hn),q];simp⟩
theorem Un.write(mu:Mut (H x))(he:e=x\/H e=some (.own x))(k:∀b u,b≠e->h.get? b=some u->h'.get? b=some u)(heo:∃u,h'.get? e=some u):Un fs ex H (upd H x o) h h':=by
 have hx:∀b,H b=none->b≠x:=fun b n z=>by subst z;rw[n] at mu;exact mu
 have hb:∀b,H b=none->b≠e:=fun b n z=>by
  subst z;rcases he with r|r
  ·exact hx b n r
  ·rw[n] at r;cases r
 have hm:∀b u,H b=some u->¬Mut (some u)->b≠x:=fun b u q nm z=>by subst z;rw[q] at mu;exact nm mu
 refine⟨fun b u q n _ _=>k b u (hb b n) q,fun b u q n _ _=>⟨u.slots,k b u (hb b n) q⟩,fun b u q n _=>by rw[Jo (hx b n)];exact n,fun b u q _=>?_,
  fun b xs q=>by rw[Jo (hm b _ q fun z=>z)];exact q,fun b u xs q=>by rw[Jo (hm b _ q fun z=>z)];exact q,fun b ps q=>⟨#[],by rw[Jo (hm b _ q fun z=>z),q];simp⟩⟩
 by_cases hbe:b=e
 ·subst hbe;exact heo
 ·exact⟨u,k b u hbe q⟩
theorem Un.mono(u:Un fs ex H H1 h h1)(hs:∀b∈fs,b∈fs')(hx:∀b∈ex,b∈ex'):Un fs' ex' H H1 h h1 :=
 ⟨fun b ob q n hb he=>u.keep b ob q n (fun z=>hb (hs b z)) fun z=>he (hx b z),fun _ _ q n _ he=>u.any q n fun z=>he (hx _ z),fun b ob q n he=>u.free b ob q n fun z=>he (hx b z),fun b ob q he=>u.there b ob q fun z=>he (hx b z),u.tups,u.frzs,u.tbls⟩
end

noncomputable def trk(h:Heap)(H:Hp):List Addr:=(List.range h.objs.size).filter fun a=>(H a).isSome
noncomputable def ZH(h:Heap)(H:Hp):Heap:=PySem.W.hideAll h (trk h H)
theorem Jcg(h:Heap)(H:Hp):(ZH h H).objs.size=h.objs.size:=PySem.W.hideAll_size _ _
theorem Jdj{h:Heap}{H:Hp}{b:Addr}{o:Obj}(e:h.get? b=some o)(n:H b=none):(ZH h H).get? b=some o :=
 PySem.W.hideAll_get _ e fun hm=>by have q:(H b).isSome=true:=(List.mem_filter.mp hm).2;rw[n] at q;simp at q
theorem Jfl{h:Heap}{H:Hp}{b:Addr}{o:Obj}(e:(ZH h H).get? b=some o):h.get? b=some o/\H b=none:=by
 have e':h.get? b=some o:=PySem.W.of_hideAll (trk h H) e;refine⟨e',?_⟩
 cases q:H b with
 | none=>rfl
 | some x =>
  have hm:b∈trk h H:=List.mem_filter.mpr ⟨List.mem_range.mpr (Heap.lt_size e'),by simp[q]⟩
  have z:(ZH h H).get? b=none:=PySem.W.hideAll_none (trk h H) hm;rw[z] at e;cases e

noncomputable def Jev(g h:Heap)(L:Addr):List (Addr×Obj):=(List.range h.objs.size).filterMap fun a=>if a=L\/(g.get? a).isSome=true then none else(h.get? a).map fun o=>(a,o)
noncomputable def rest(g h:Heap)(L d:Addr):List (Addr×Obj):=(Jev g h L).filter fun p=>decide (p.1≠d)
end L2

namespace L2
open PySem PySem.Spec PyProof.Rows

structure Mod (K:Frag) (mg:Str->Option Value) (base:Heap):Prop where
 kin:K.In base
 glob:base.Ns mainGlobals mg
 blt:∃mb,base.Ns builtinsNs mb/\∀x:Str,x≠"__name__"->mb x=bootBuiltins x
 nolimit:base.NoLimit

structure Cx where
 prog:Program
 w:World
 K:Frag
 mg:Str->Option Value
 base:Heap
 A:Around
 N:List Str
 s₀:Shared
 H₀:Hp
 env:Env
 outer:List Env
 stack:List Env
 ex:List Addr
 fn:Str->Bool
 calm:Bool
 pn:List (Addr×Obj)
 xe:Value->Shared->Prop
noncomputable def frs(l:List Env):List Addr:=l.filterMap (·.frame)
noncomputable abbrev Cx.fs(X:Cx):List Addr:=frs X.outer

noncomputable def Vis(sc:Scope)(x:Str):Prop:=sc.names.lookup x=some .local\/sc.names.lookup x=some .cell\/sc.names.lookup x=some .free
noncomputable def Loc(sc:Scope)(x:Str):Prop:=sc.names.lookup x=some .local\/sc.names.lookup x=some .cell
noncomputable def JiK(env:Env)(h:Heap)(m:Str->Option Value)(x:Str)(u:Value):Prop :=
 (env.kindOf x=some .local/\m x=some u)\/((env.kindOf x=some .cell\/env.kindOf x=some .free)/\∃c,env.cells.lookup x=some c/\h.IsCell c (some u))

structure Cx.Ok (X:Cx):Prop where
 mod:Mod X.K X.mg X.base
 kind:X.env.scope.kind=.function
 glob:X.env.globals=mainGlobals
 blt:X.env.builtins=builtinsNs
 above:X.s₀.heap.objs.size<=X.env.locals
 inj:∀x y c,X.env.cells.lookup x=some c->X.env.cells.lookup y=some c->x=y
 has:∀x,(X.env.kindOf x=some .cell\/X.env.kindOf x=some .free)->∃c,X.env.cells.lookup x=some c
 cab:∀x c,X.fn x=true->X.env.cells.lookup x=some c->X.s₀.heap.objs.size<=c
 hd:X.calm=true->X.A.handled=none
 frames:X.A.frames=some X.stack
 stk:X.stack=X.outer\/(X.stack=X.env::X.outer/\X.env.frame=some X.env.locals)
 exf:∀b∈X.ex,b≠X.env.locals/\∀x c,X.env.cells.lookup x=some c->c≠b
 bs:∀b o,X.base.get? b=some o->X.s₀.heap.get? b=some o/\X.H₀ b=none
 bsz:X.base.objs.size<=X.s₀.heap.objs.size
 noex:∀b o,X.base.get? b=some o->b∉X.ex
 exfs:∀b∈X.ex,b∉X.fs
 funs:X.s₀.heap.FunFrames X.base X.outer
 frf:∀b∈X.fs,X.H₀ b=none

structure Inv (X:Cx) (pins:List (Addr×Obj)) (σ:List (Option V)) (H:Hp) (s:Shared):Prop where
 ok:X.Ok
 os:s.os=X.s₀.os
 bare:AllBare s.gens
 base:Un X.fs X.ex X.H₀ H X.s₀.heap s.heap
 loc:∃m,s.heap.Ns X.env.locals m/\∀(i:Nat) (x:Str) (v:V),X.N[i]?=some x->σ[i]?=some (some v)->Vis X.env.scope x->∃u,RelV v u/\JiK X.env s.heap m x u
 cell:∀x c,X.env.cells.lookup x=some c->∃v,s.heap.IsCell c v
 free:H X.env.locals=none
 freeC:∀x c,X.env.cells.lookup x=some c->H c=none
 pin:∀p∈X.pn++pins,s.heap.get? p.1=some p.2/\H p.1=none/\p.1≠X.env.locals/\p.1∉X.fs/\∀v,p.2.data≠.cell v
 hok:HOk X.prog X.w H s.heap
 len:σ.length=X.N.length

section
variable{X:Cx}{pins:List (Addr×Obj)}{σ:List (Option V)}{H H':Hp}{s:Shared}{h':Heap}

theorem Cx.Ok.nofr(ok:X.Ok){b:Addr}{o:Obj}(e:X.base.get? b=some o):b∉X.fs:=fun hb=>by have:=(ok.funs.mem hb).1;rw[e] at this;cases this
theorem Inv.bs(I:Inv X pins σ H s):∀b o,X.base.get? b=some o->s.heap.get? b=some o/\H b=none:=fun b o e=>⟨I.base.keep b o (I.ok.bs b o e).1 (I.ok.bs b o e).2 (I.ok.nofr e) (I.ok.noex b o e),I.base.free b o (I.ok.bs b o e).1 (I.ok.bs b o e).2 (I.ok.noex b o e)⟩
theorem Inv.bk(I:Inv X pins σ H s):∀b o,X.base.get? b=some o->s.heap.get? b=some o:=fun b o e=>(I.bs b o e).1
theorem Inv.mod(I:Inv X pins σ H s):Mod X.K X.mg X.base:=I.ok.mod
theorem Inv.kIn(I:Inv X pins σ H s):X.K.In s.heap:=I.ok.mod.kin.keeps I.bk
theorem Inv.nolimit(I:Inv X pins σ H s):s.heap.NoLimit:=I.ok.mod.nolimit.keeps I.bk
theorem Inv.fr(I:Inv X pins σ H s):∃m,Fr X.base X.env.locals s.heap m :=
 let ⟨m,hn,_⟩:=I.loc
 ⟨m,hn,I.bk,Nat.le_trans I.ok.bsz I.ok.above⟩
theorem Inv.lt(I:Inv X pins σ H s):X.env.locals<s.heap.objs.size:=let ⟨_,hn,_⟩:=I.loc;hn.lt
theorem Inv.sz(I:Inv X pins σ H s):X.s₀.heap.objs.size<=s.heap.objs.size:=Nat.le_trans I.ok.above (Nat.le_of_lt I.lt)
theorem Inv.nofs(I:Inv X pins σ H s){a:Addr}(h:s.heap.objs.size<=a):a∉X.fs:=fun hb=>by obtain⟨_,o,ho,_⟩:=I.ok.funs.mem hb;exact absurd (Nat.lt_of_lt_of_le (Heap.lt_size ho) (Nat.le_trans I.sz h)) (Nat.lt_irrefl _)
theorem Inv.cne(I:Inv X pins σ H s):∀x c,X.env.cells.lookup x=some c->c≠X.env.locals:=fun x c e z=>by obtain⟨v,o,ho,hd⟩:=I.cell x c e;obtain⟨m,⟨o',es,ep,ho',hd',_⟩,_⟩:=I.loc;rw[z,ho'] at ho;cases ho;rw[hd'] at hd;cases hd
theorem Inv.funs(I:Inv X pins σ H s):s.heap.FunFrames X.base X.outer:=by
 have all:∀(l:List Env),(∀b∈frs l,b∈X.fs)->X.s₀.heap.FunFrames X.base l->s.heap.FunFrames X.base l:=by
  intro l
  induction l with
  | nil=>intro _ _;trivial
  | cons env r ih =>
   intro hs hl;obtain⟨hk,⟨L,o,hf,hn,ho,hd⟩,hr⟩:=hl;have hL:L∈X.fs:=hs L (by unfold frs;rw[List.filterMap_cons,hf];exact List.mem_cons_self);obtain⟨sl,e⟩:=I.base.slot L o ho (I.ok.frf L hL) hL fun z=>I.ok.exfs L z hL
   exact⟨hk,⟨L,_,hf,hn,e,hd⟩,ih (fun b hb=>hs b (by unfold frs;rw[List.filterMap_cons,hf];exact List.mem_cons_of_mem _ hb)) hr⟩
 exact all X.outer (fun _ hb=>hb) I.ok.funs

theorem Inv.stack(I:Inv X pins σ H s):s.heap.FunFrames X.base X.stack:=by
 rcases I.ok.stk with e|⟨e,hf⟩
 ·rw[e];exact I.funs
 ·rw[e];obtain⟨m,hn,_⟩:=I.loc;refine .cons (by rw[I.ok.kind];decide) hf hn ?_ I.funs;exact Heap.get?_none_of_le (Nat.le_trans I.ok.bsz I.ok.above)
theorem Inv.stkSub(I:Inv X pins σ H s):∀b∈frs X.stack,b∈X.env.locals::X.fs:=fun b hb=>by
 rcases I.ok.stk with e|⟨e,hf⟩
 ·rw[e] at hb;exact List.mem_cons_of_mem _ hb
 ·rw[e] at hb;unfold frs at hb;rw[List.filterMap_cons,hf] at hb;exact hb
theorem Inv.stkFree(I:Inv X pins σ H s):∀b∈frs X.stack,H b=none:=fun b hb=>by
 rcases List.mem_cons.mp (I.stkSub b hb) with e|hb
 ·rw[e];exact I.free
 ·obtain⟨_,o,ho,_⟩:=I.ok.funs.mem hb;exact I.base.free b o ho (I.ok.frf b hb) fun z=>I.ok.exfs b z hb

theorem Inv.step{g':Array GenState}{t':Nat}{d':Drawn}{ch:List Addr}(I:Inv X pins σ H s)
 (hch:∀b∈ch,(b∈X.ex\/X.s₀.heap.objs.size<=b)/\b≠X.env.locals/\(∀x c,X.env.cells.lookup x=some c->c≠b)/\∀p∈X.pn++pins,p.1≠b)
 (keep:∀b o,b≠X.env.locals->b∉X.fs->b∉ch->s.heap.get? b=some o->H b=none->h'.get? b=some o)
 (slot:∀b o,b≠X.env.locals->b∈X.fs->b∉ch->s.heap.get? b=some o->H b=none->∃sl,h'.get? b=some { o with slots:=sl }) (free:∀b o,b∉ch->s.heap.get? b=some o->H b=none->H' b=none)
 (there:∀b o,b∉ch->s.heap.get? b=some o->∃o',h'.get? b=some o')
 (tups:∀b xs,H b=some (.tup xs)->H' b=some (.tup xs)) (frzs:∀b o u,H b=some (.frz o u)->H' b=some (.frz o u)) (tbls:∀b ps,H b=some (.tbl ps)->∃more,H' b=some (.tbl (ps++more)))
 (ns:∀m,s.heap.Ns X.env.locals m->h'.Ns X.env.locals m) (hok:HOk X.prog X.w H' h') (hg:AllBare g') :
 Inv X pins σ H' { s with heap:=h',gens:=g',drawn:=d',toks:=t' }:=by
 have neL:∀b o,X.s₀.heap.get? b=some o->b≠X.env.locals:=fun b o e=>Nat.ne_of_lt (Nat.lt_of_lt_of_le (Heap.lt_size e) I.ok.above)
 have neC:∀b o,X.s₀.heap.get? b=some o->b∉X.ex->b∉ch:=fun b o e hx hb=>by
  rcases(hch b hb).1 with z|z
  ·exact hx z
  ·exact absurd (Nat.lt_of_lt_of_le (Heap.lt_size e) z) (Nat.lt_irrefl _)
 have cellK:∀x c,X.env.cells.lookup x=some c->∀v,s.heap.IsCell c v->h'.IsCell c v:=fun x c e v ⟨o,ho,hd⟩=>by
  have nch:c∉ch:=fun z=>(hch c z).2.2.1 x c e rfl
  by_cases hc:c∈X.fs
  ·obtain⟨sl,q⟩:=slot c o (I.cne x c e) hc nch ho (I.freeC x c e);exact⟨_,q,hd⟩
  ·exact⟨o,keep c o (I.cne x c e) hc nch ho (I.freeC x c e),hd⟩
 refine⟨I.ok,I.os,hg,⟨fun b o e n hb hx=>?_,fun b o e n hb hx=>?_,fun b o e n hx=>?_,fun b o e hx=>?_,fun b xs e=>tups b xs (I.base.tups b xs e),fun b o xs e=>frzs b o xs (I.base.frzs b o xs e),fun b ps e=>?_⟩,?_,fun x c e=>?_,?_,fun x c e=>?_,fun p hp=>?_,hok,I.len⟩
 ·exact keep b o (neL b o e) hb (neC b o e hx) (I.base.keep b o e n hb hx) (I.base.free b o e n hx)
 ·obtain⟨sl,e1⟩:=I.base.slot b o e n hb hx;obtain⟨sl',e2⟩:=slot b _ (neL b o e) hb (neC b o e hx) e1 (I.base.free b o e n hx);exact⟨sl',e2⟩
 ·obtain⟨o',e1⟩:=I.base.there b o e hx;exact free b o' (neC b o e hx) e1 (I.base.free b o e n hx)
 ·obtain⟨o',e1⟩:=I.base.there b o e hx;exact there b o' (neC b o e hx) e1
 ·obtain⟨m1,e1⟩:=I.base.tbls b ps e;obtain⟨m2,e2⟩:=tbls b _ e1;exact⟨m1++m2,by rw[e2,Array.append_assoc]⟩
 ·obtain⟨m,hn,hl⟩:=I.loc;refine⟨m,ns m hn,fun i x v e1 e2 e3=>?_⟩;obtain⟨u,r,l⟩:=hl i x v e1 e2 e3;refine⟨u,r,?_⟩;rcases l with l|⟨k,c,e,z⟩
  ·exact .inl l
  ·exact .inr ⟨k,c,e,cellK x c e _ z⟩
 ·obtain⟨v,z⟩:=I.cell x c e;exact⟨v,cellK x c e v z⟩
 ·obtain⟨m,⟨o,_,_,ho,_⟩,_⟩:=I.loc;exact free _ o (fun z=>(hch _ z).2.1 rfl) ho I.free
 ·obtain⟨v,o,ho,hd⟩:=I.cell x c e;exact free c o (fun z=>(hch c z).2.2.1 x c e rfl) ho (I.freeC x c e)
 ·obtain⟨e,n,ne,nf,d⟩:=I.pin p hp;have nch:p.1∉ch:=fun z=>(hch p.1 z).2.2.2 p hp rfl
  exact⟨keep p.1 p.2 ne nf nch e n,free p.1 p.2 nch e n,ne,nf,d⟩
theorem Inv.un{t':Nat}(I:Inv X pins σ H s)(u:Un X.fs [] H H' s.heap h')(hok:HOk X.prog X.w H' h'):Inv X pins σ H' { s with heap:=h',toks:=t' }:=by
 obtain⟨m,⟨o,es,ep,ho,r⟩,_⟩:=id I.loc;obtain⟨sl,hL⟩:=u.any ho I.free (by simp);exact I.step (g':=s.gens) (d':=s.drawn) (ch:=[]) (fun _ z=>nomatch z) (fun b o _ hb _ e n=>u.keep b o e n hb (by simp)) (fun b o _ hb _ e n=>u.slot b o e n hb (by simp)) (fun b o _ e n=>u.free b o e n (by simp)) (fun b o _ e=>u.there b o e (by simp)) u.tups u.frzs u.tbls (fun m' hm=>by obtain⟨o',es',ep',ho',r'⟩:=hm;rw[ho] at ho';cases ho';exact⟨_,es',ep',hL,r'⟩) hok I.bare
theorem Inv.call{g':Array GenState}{t':Nat}{d':Drawn}{ch:List Addr}(I:Inv X pins σ H s)(u:Un (frs X.stack) ch H H' s.heap h')(hok:HOk X.prog X.w H' h')(hg:AllBare g')
 (hch:∀b∈ch,(b∈X.ex\/X.s₀.heap.objs.size<=b)/\b≠X.env.locals/\(∀x c,X.env.cells.lookup x=some c->c≠b)/\∀p∈X.pn++pins,p.1≠b) :
 Inv X pins σ H' { s with heap:=h',gens:=g',drawn:=d',toks:=t' }:=by
 obtain⟨m,⟨o,es,ep,ho,r⟩,_⟩:=id I.loc;obtain⟨sl,hL⟩:=u.any ho I.free fun z=>(hch _ z).2.1 rfl
 exact I.step (ch:=ch) hch (fun b o hL hb hc e n=>u.keep b o e n (fun z=>(List.mem_cons.mp (I.stkSub b z)).elim hL hb) hc) (fun b o _ _ hc e n=>u.any e n hc) (fun b o hc e n=>u.free b o e n hc) (fun b o hc e=>u.there b o e hc) u.tups u.frzs u.tbls (fun m' hm=>by obtain⟨o',es',ep',ho',r'⟩:=hm;rw[ho] at ho';cases ho';exact⟨_,es',ep',hL,r'⟩) hok hg
theorem Inv.turned{t':Nat}{it:Addr}(I:Inv X pins σ H s)(k:∀b o,b≠it->s.heap.get? b=some o->h'.get? b=some o)(hn:H it=none)(hL:it≠X.env.locals)
 (h1:it∈X.ex\/X.s₀.heap.objs.size<=it) (h2:∀x c,X.env.cells.lookup x=some c->c≠it) (h3:∀p∈X.pn++pins,p.1≠it):Inv X pins σ H { s with heap:=h',toks:=t' }:=by
 have nit:∀b u,H b=some u->b≠it:=fun b u e z=>by rw[z,hn] at e;cases e
 refine I.step (g':=s.gens) (d':=s.drawn) (ch:=[it]) (fun b hb=>?_) (fun b o _ _ hc e _=>k b o (fun z=>hc (by simp[z])) e) (fun b o _ _ hc e _=>⟨o.slots,k b o (fun z=>hc (by simp[z])) e⟩) (fun _ _ _ _ n=>n)
  (fun b o hc e=>⟨o,k b o (fun z=>hc (by simp[z])) e⟩) (fun _ _ e=>e) (fun _ _ _ e=>e) (fun b ps e=>⟨#[],by rw[e];simp⟩) (fun m hm=>?_) (fun b u e=>?_) I.bare
 ·have e:b=it:=by simpa using hb
  subst e;exact⟨h1,hL,h2,h3⟩
 ·obtain⟨o,es,ep,ho,r⟩:=hm;exact⟨o,es,ep,k _ o (Ne.symm hL) ho,r⟩
 ·refine(I.hok b u e).stay (fun c v hc q=>k c v ?_ q) (fun _ q=>q) fun _ _ q=>q
  rcases hc with z|z
  ·rw[z];exact nit b u e
  ·exact nit c _ z
theorem Inv.tok(I:Inv X pins σ H s)(t:Nat):Inv X pins σ H { s with toks:=t }:=I.un (h':=s.heap) (t':=t) Un.refl I.hok
theorem Inv.kept{t':Nat}(I:Inv X pins σ H s)(k:∀b u,s.heap.get? b=some u->h'.get? b=some u):Inv X pins σ H { s with heap:=h',toks:=t' }:=I.un (Un.kept k) (I.hok.kept k)
theorem Inv.laid{a:Addr}{o:HO}{t':Nat}(I:Inv X pins σ H s)(k:∀b u,s.heap.get? b=some u->h'.get? b=some u)(hp:s.heap.objs.size<=a)(new:ObjOk X.prog X.w (upd H a o) h' a o) :
 Inv X pins σ (upd H a o) { s with heap:=h',toks:=t' }:=I.un (Un.laid k hp (I.hok.fresh hp)) (I.hok.laid k hp new)
theorem Inv.write{x e:Addr}{o:HO}{t':Nat}(I:Inv X pins σ H s)(mu:Mut (H x))(he:e=x\/H e=some (.own x))(k:∀b u,b≠e->s.heap.get? b=some u->h'.get? b=some u)(heo:∃u,h'.get? e=some u)
 (new:ObjOk X.prog X.w (upd H x o) h' x o):Inv X pins σ (upd H x o) { s with heap:=h',toks:=t' }:=I.un (Un.write mu he k heo) (I.hok.write mu he k heo new)
theorem Inv.weak{σ':List (Option V)}(I:Inv X pins σ H s)(hl:σ'.length=σ.length)(w:∀(i:Nat) v,σ'[i]?=some (some v)->σ[i]?=some (some v)):Inv X pins σ' H s :=
 ⟨I.ok,I.os,I.bare,I.base,let ⟨m,hn,hl'⟩:=I.loc;⟨m,hn,fun i x v e1 e2 e3=>hl' i x v e1 (w i v e2) e3⟩,I.cell,I.free,I.freeC,I.pin,I.hok,hl.trans I.len⟩
theorem Inv.pins_of{pins':List (Addr×Obj)}(I:Inv X pins σ H s)(h:∀p∈pins',s.heap.get? p.1=some p.2/\H p.1=none/\p.1≠X.env.locals/\p.1∉X.fs/\∀v,p.2.data≠.cell v):Inv X pins' σ H s :=
 ⟨I.ok,I.os,I.bare,I.base,I.loc,I.cell,I.free,I.freeC,fun p hp=>(List.mem_append.mp hp).elim (fun z=>I.pin p (List.mem_append_left _ z)) (h p),I.hok,I.len⟩

theorem Jaq{N:List Str}(hN:N.Nodup){i j:Nat}{x:Str}(a:N[i]?=some x)(b:N[j]?=some x):i=j:=by obtain⟨h1,e1⟩:=List.getElem?_eq_some_iff.mp a;obtain⟨h2,e2⟩:=List.getElem?_eq_some_iff.mp b;exact(List.getElem_inj hN).mp (e1.trans e2.symm)

theorem JcF{M:Model}{A:Around}{E:Value->Shared->Prop}{i:Nat}{x:Str}{v:V}{u:Value}{Q:Unit->Shared->Prop}(I:Inv X pins σ H s)(hN:X.N.Nodup)(hi:X.N[i]?=some x)(hx:Loc X.env.scope x)(r:RelV v u)
 (h:∀s',Inv X pins (σ.set i (some v)) H s'->(∃a,Heap.SameBut a s.heap s'.heap/\(a=X.env.locals\/X.env.cells.lookup x=some a))->Q () s') (hf:X.fn x=true\/X.env.scope.names.lookup x=some .local:=by first|exact .inl rfl|exact .inr rfl|assumption):wpAny M A (storeName X.env x u) Q E s:=by
 obtain⟨m,hn,hl⟩:=id I.loc;have hcls:(X.env.scope.kind == .class || (X.env.scope.kind == .module && X.env.locals != X.env.globals))=false:=by rw[I.ok.kind];rfl
 have hiσ:i<σ.length:=by rw[I.len];exact(List.getElem?_eq_some_iff.mp hi).1
 have cne:=I.cne
 have tracked:∀{a:Addr} {h':Heap},(∃o,s.heap.get? a=some o/\H a=none)->Heap.SameBut a s.heap h'->HOk X.prog X.w H h':=fun {a h'} ha hs b ob e=>by
  obtain⟨_,_,hfree⟩:=ha;refine(I.hok b ob e).stay (fun c w' hc q=>(hs.2 c ?_).trans q) (fun _ q=>q) fun _ _ q=>q
  rintro rfl;rcases hc with rfl|hc
  ·rw[hfree] at e;cases e
  ·rw[hfree] at hc;cases hc
 rcases hx with hk|hk
 ·refine wpAny_storeName_local hk hn (fun h' hn' hs=>?_) hcls;obtain⟨oL,_,_,hoL,_⟩:=id hn;refine h _ ⟨I.ok,I.os,I.bare,⟨fun b o e n hb hx=>?_,fun b o e n hb hx=>?_,I.base.free,fun b o e hx=>?_,I.base.tups,I.base.frzs,I.base.tbls⟩,⟨_,hn',fun j y v' e1 e2 e3=>?_⟩,fun y c e=>?_,I.free,I.freeC,fun p hp=>?_,tracked ⟨oL,hoL,I.free⟩ hs,by simpa using I.len⟩ ⟨_,hs,.inl rfl⟩
  ·exact(hs.2 b (Nat.ne_of_lt (Nat.lt_of_lt_of_le (Heap.lt_size e) I.ok.above))).trans (I.base.keep b o e n hb hx)
  ·obtain⟨sl,e1⟩:=I.base.slot b o e n hb hx;exact⟨sl,(hs.2 b (Nat.ne_of_lt (Nat.lt_of_lt_of_le (Heap.lt_size e) I.ok.above))).trans e1⟩
  ·obtain⟨o',e1⟩:=I.base.there b o e hx;exact⟨o',(hs.2 b (Nat.ne_of_lt (Nat.lt_of_lt_of_le (Heap.lt_size e) I.ok.above))).trans e1⟩
  ·by_cases hj:j=i
   ·subst hj;rw[hi] at e1;cases e1;rw[List.getElem?_set_self hiσ] at e2;cases e2;exact⟨u,r,.inl ⟨hk,by simp⟩⟩
   ·rw[List.getElem?_set_ne (Ne.symm hj)] at e2;obtain⟨u',r',q⟩:=hl j y v' e1 e2 e3;refine⟨u',r',?_⟩;rcases q with ⟨k,e⟩|⟨k,c,e,z⟩
    ·refine .inl ⟨k,?_⟩;have:y≠x:=fun e=>hj (Jaq hN e1 (e▸hi))
     simp[this,e]
    ·exact .inr ⟨k,c,e,z.sameBut hs (cne y c e)⟩
  ·obtain⟨w',z⟩:=I.cell y c e;exact⟨w',z.sameBut hs (cne y c e)⟩
  ·obtain⟨e,n,ne,nf,d⟩:=I.pin p hp;exact⟨(hs.2 p.1 ne).trans e,n,ne,nf,d⟩
 ·have hfn:X.fn x=true:=by
   rcases hf with z|z
   ·exact z
   ·rw[z] at hk;cases hk
  obtain⟨c,hc⟩:=I.ok.has x (.inl hk);obtain⟨w',z⟩:=I.cell x c hc;refine wpAny_storeName_cell I.ok.kind hk hc z (fun h' hc' hs=>?_);obtain⟨oc,hoc,hocd⟩:=id z;refine h { s with heap:=h' } ⟨I.ok,I.os,I.bare,⟨fun b o e n hb hx=>?_,fun b o e n hb hx=>?_,I.base.free,fun b o e hx=>?_,I.base.tups,I.base.frzs,I.base.tbls⟩,⟨m,hn.sameBut hs (Ne.symm (cne x c hc)),fun j y v' e1 e2 e3=>?_⟩,fun y c' e=>?_,I.free,I.freeC,fun p hp=>?_,tracked ⟨oc,hoc,I.freeC x c hc⟩ hs,by simpa using I.len⟩ ⟨c,hs,.inr hc⟩
  ·exact(hs.2 b (Nat.ne_of_lt (Nat.lt_of_lt_of_le (Heap.lt_size e) (I.ok.cab x c hfn hc)))).trans (I.base.keep b o e n hb hx)
  ·obtain⟨sl,e1⟩:=I.base.slot b o e n hb hx;exact⟨sl,(hs.2 b (Nat.ne_of_lt (Nat.lt_of_lt_of_le (Heap.lt_size e) (I.ok.cab x c hfn hc)))).trans e1⟩
  ·obtain⟨o',e1⟩:=I.base.there b o e hx;exact⟨o',(hs.2 b (Nat.ne_of_lt (Nat.lt_of_lt_of_le (Heap.lt_size e) (I.ok.cab x c hfn hc)))).trans e1⟩
  ·by_cases hj:j=i
   ·subst hj;rw[hi] at e1;cases e1;rw[List.getElem?_set_self hiσ] at e2;cases e2;exact⟨u,r,.inr ⟨.inl hk,c,hc,hc'⟩⟩
   ·rw[List.getElem?_set_ne (Ne.symm hj)] at e2;obtain⟨u',r',q⟩:=hl j y v' e1 e2 e3;refine⟨u',r',?_⟩;rcases q with q|⟨k,c',e,z'⟩
    ·exact .inl q
    ·refine .inr ⟨k,c',e,z'.sameBut hs ?_⟩;rintro rfl;exact hj (Jaq hN e1 (I.ok.inj _ _ _ e hc▸hi))
  ·by_cases hcc:c'=c
   ·subst hcc;exact⟨_,hc'⟩
   ·obtain⟨w2,z2⟩:=I.cell y c' e;exact⟨w2,z2.sameBut hs hcc⟩
  ·obtain⟨e,n,ne,nf,d⟩:=I.pin p hp;refine⟨(hs.2 p.1 ?_).trans e,n,ne,nf,d⟩;intro q;rw[q,hoc] at e;have q':oc=p.2:=Option.some.inj e;exact d w' (by rw[<- q'];exact hocd)
theorem WK{M:Model}{A:Around}{E:Value->Shared->Prop}{i:Nat}{x:Str}{v:V}{u:Value}{Q:Unit->Shared->Prop}(I:Inv X pins σ H s)(hN:X.N.Nodup)(hi:X.N[i]?=some x)(hx:Loc X.env.scope x)(r:RelV v u)
 (h:∀s',Inv X pins (σ.set i (some v)) H s'->Q () s') (hf:X.fn x=true\/X.env.scope.names.lookup x=some .local:=by first|exact .inl rfl|exact .inr rfl|assumption):wpAny M A (storeName X.env x u) Q E s :=
 JcF I hN hi hx r (fun s' I' _=>h s' I') hf
theorem Inv.call'{s':Shared}{ch:List Addr}(I:Inv X pins σ H s)(ho:s'.os=s.os)(u:Un (frs X.stack) ch H H' s.heap s'.heap)(hok:HOk X.prog X.w H' s'.heap)(hg:AllBare s'.gens)
 (hch:∀b∈ch,(b∈X.ex\/X.s₀.heap.objs.size<=b)/\b≠X.env.locals/\(∀x c,X.env.cells.lookup x=some c->c≠b)/\∀p∈X.pn++pins,p.1≠b):Inv X pins σ H' s':=by
 obtain⟨h',g',d',t',o'⟩:=s';have e:o'=s.os:=ho;subst e;exact I.call (g':=g') (t':=t') (d':=d') u hok hg hch
end

noncomputable abbrev XK:=Value->Option Addr->Hp->Prop
noncomputable abbrev St:=List (Option V)
noncomputable abbrev VK:=V->Hp->Prop
noncomputable abbrev TE:=St->Hp->VK->Prop
noncomputable abbrev TT:=St->Hp->(Bool->Hp->Prop)->Prop
noncomputable abbrev TA:=St->Hp->(List V->Hp->Prop)->Prop
structure Ends where
 nx:St->Hp->Prop
 rt:VK
 bk:St->Hp->Prop:=fun _ _=>False
 ct:St->Hp->Prop:=fun _ _=>False
noncomputable abbrev TS:=Ends->St->Hp->Prop

noncomputable def EP(X:Cx)(pins:List (Addr×Obj))(σ:St)(Q:VK)(u:Value)(s':Shared):Prop:=∃v H',Inv X pins σ H' s'/\RelV v u/\Q v H'
noncomputable def TP(X:Cx)(pins:List (Addr×Obj))(σ:St)(Q:Bool->Hp->Prop)(b:Bool)(s':Shared):Prop:=∃H',Inv X pins σ H' s'/\Q b H'
noncomputable def AP(X:Cx)(pins:List (Addr×Obj))(σ:St)(Q:List V->Hp->Prop)(us:List Value)(s':Shared):Prop:=∃vs H',Inv X pins σ H' s'/\Vals vs us/\Q vs H'
noncomputable def SP(X:Cx)(pins:List (Addr×Obj))(D:Ends)(f:Flow)(s':Shared):Prop :=
 match f with
 | .next=>∃σ' H',Inv X pins σ' H' s'/\D.nx σ' H'
 | .brk=>∃σ' H',Inv X pins σ' H' s'/\D.bk σ' H'
 | .cont=>∃σ' H',Inv X pins σ' H' s'/\D.ct σ' H'
 | .ret u=>∃v σ' H',Inv X pins σ' H' s'/\RelV v u/\D.rt v H'

noncomputable def PE(X:Cx)(e:Expr)(t:TE):Prop :=
 ∀(pins:List (Addr×Obj)) (s:Shared) (σ:St) (H:Hp) (Q:VK),Inv X pins σ H s->t σ H Q->wpAny (model X.prog X.w) X.A (eval e X.env) (EP X pins σ Q) X.xe s
noncomputable def PT(X:Cx)(e:Expr)(t:TT):Prop :=
 ∀(pins:List (Addr×Obj)) (s:Shared) (σ:St) (H:Hp) (Q:Bool->Hp->Prop),Inv X pins σ H s->t σ H Q->wpAny (model X.prog X.w) X.A (isTrue e X.env (eval e X.env)) (TP X pins σ Q) X.xe s
noncomputable def PW(X:Cx)(e:Expr)(t:TT):Prop :=
 ∀(whole:Sem Value) (pins:List (Addr×Obj)) (s:Shared) (σ:St) (H:Hp) (Q:Bool->Hp->Prop),Inv X pins σ H s->t σ H Q->wpAny (model X.prog X.w) X.A (isTrue e X.env whole) (TP X pins σ Q) X.xe s
theorem PW.pt{X:Cx}{e:Expr}{t:TT}(h:PW X e t):PT X e t:=h _
noncomputable def PA(X:Cx)(es:List Expr)(t:TA):Prop :=
 ∀(pos:Pos) (pins:List (Addr×Obj)) (s:Shared) (σ:St) (H:Hp) (Q:List V->Hp->Prop),Inv X pins σ H s->t σ H Q->wpAny (model X.prog X.w) X.A (spliced (backTo pos (starEach es X.env))) (AP X pins σ Q) X.xe s
noncomputable def PS(X:Cx)(st:Stmt)(t:TS):Prop :=
 ∀(pins:List (Addr×Obj)) (s:Shared) (σ:St) (H:Hp) (D:Ends),Inv X pins σ H s->t D σ H->wpAny (model X.prog X.w) X.A (exec st X.env) (SP X pins D) X.xe s
noncomputable def PSs(X:Cx)(st:List Stmt)(t:TS):Prop :=
 ∀(pins:List (Addr×Obj)) (s:Shared) (σ:St) (H:Hp) (D:Ends),Inv X pins σ H s->t D σ H->wpAny (model X.prog X.w) X.A (execs st X.env) (SP X pins D) X.xe s
theorem thn{α:Type}{t:Sem α}{Q Q':α->Shared->Prop}{M:Model}{A:Around}{E:Value->Shared->Prop}{s:Shared}(h:wpAny M A t Q E s)(hQ:∀a s,Q a s->Q' a s):wpAny M A t Q' E s:=wpAny_mono h hQ fun _ _ x=>x
end L2

namespace L2
open PySem PySem.Spec PyProof.Rows
section
variable{X:Cx}

noncomputable def WM(i:Nat):TE:=fun σ H Q=>∃v,σ[i]?=some (some v)/\Q v H
noncomputable def tC(v:V):TE:=fun _ H Q=>Q v H
theorem JhI{i:Nat}{x:Str}{pos:Pos}(hN:X.N[i]?=some x)(hv:Vis X.env.scope x)(hd:(x == ("__debug__":Str))=false:=by decide)(hcd:(x == ("__classdict__":Str))=false:=by decide):PE X (.Name x pos) (WM i):=by
 intro pins s σ H Q I h;obtain⟨v,e,h⟩:=h;obtain⟨m,hn,hl⟩:=I.loc;obtain⟨u,r,l⟩:=hl i x v hN e hv;have fin:EP X pins σ Q u s:=⟨v,H,I,r,h⟩
 rcases l with ⟨hk,hm⟩|⟨hk,c,hc,hcell⟩
 ·exact wpAny_Name (wpAny_loadName_local I.ok.kind hk hn hm fin) hd
 ·rcases hk with hk|hk
  ·exact wpAny_Name (wpAny_loadName_cell I.ok.kind hk hc hcell fin) hd
  ·exact wpAny_Name (wpAny_loadName_free I.ok.kind hk hc hcell fin hcd) hd
theorem Je{i j pos}:PE X (.Constant (.int i) j pos) (tC (.int i)):=fun _ _ _ H _ I h=>wpAny_Constant_int ⟨.int i,H,I.tok _,⟨_,rfl⟩,h⟩
theorem Y2{b j pos}:PE X (.Constant (.bool b) j pos) (tC (.bl b)):=fun _ _ _ H _ I h=>Constant_bool ⟨.bl b,H,I,rfl,h⟩
theorem VI{j pos}:PE X (.Constant .none j pos) (tC .non):=fun _ _ _ H _ I h=>Constant_none ⟨.non,H,I,rfl,h⟩
theorem YN{x j pos}:PE X (.Constant (.str x) j pos) (tC (.str x)):=fun _ _ _ H _ I h=>Calls.Constant_str ⟨.str x,H,I.tok _,⟨_,rfl⟩,h⟩

noncomputable def Gl(X:Cx)(x:Str):Prop:=X.env.kindOf x=some .globalImplicit
theorem UW{E:Value->Shared->Prop}{pins:List (Addr×Obj)}{s:Shared}{σ:St}{H:Hp}{x:Str}{u:Value}{pos:Pos}{Q:Value->Shared->Prop}(I:Inv X pins σ H s)(hg:Gl X x)(hm:X.mg x=some u)(h:Q u s)
 (hd:(x == ("__debug__":Str))=false:=by decide):wpAny (model X.prog X.w) X.A (eval (.Name x pos) X.env) Q E s :=
 Calls.Name_function_global I.ok.kind hg (Calls.loadGlobal_global (by rw[I.ok.glob];exact I.mod.glob.keeps I.bk) hm h) hd
theorem ZI{E:Value->Shared->Prop}{pins:List (Addr×Obj)}{s:Shared}{σ:St}{H:Hp}{x:Str}{u:Value}{pos:Pos}{Q:Value->Shared->Prop}(I:Inv X pins σ H s)(hg:Gl X x)(hm:X.mg x=none)(hv:bootBuiltins x=some u)(h:Q u s)
 (hn:x≠"__name__":=by decide) (hd:(x == ("__debug__":Str))=false:=by decide):wpAny (model X.prog X.w) X.A (eval (.Name x pos) X.env) Q E s:=by
 obtain⟨mb,h1,h2⟩:=I.mod.blt;exact Calls.Name_function_global I.ok.kind hg (Calls.loadGlobal_builtin (by rw[I.ok.glob];exact I.mod.glob.keeps I.bk) hm (by rw[I.ok.blt];exact h1.keeps I.bk) ((h2 x hn).trans hv) h) hd
theorem Yq{x:Str}{v:V}{u:Value}{pos:Pos}(hg:Gl X x)(hm:X.mg x=some u)(r:RelV v u)(hd:(x == ("__debug__":Str))=false:=by decide):PE X (.Name x pos) (tC v) :=
 fun _ _ _ H _ I h=>UW I hg hm ⟨v,H,I,r,h⟩ hd
theorem Vl{x:Str}{v:V}{u:Value}{pos:Pos}(hg:Gl X x)(hm:X.mg x=none)(hv:bootBuiltins x=some u)(r:RelV v u)(hn:x≠"__name__":=by decide)(hd:(x == ("__debug__":Str))=false:=by decide):PE X (.Name x pos) (tC v) :=
 fun _ _ _ H _ I h=>ZI I hg hm hv ⟨v,H,I,r,h⟩ hn hd

variable{a b:Expr}{ta tb:TE}{pos:Pos}
noncomputable def tB(t:TE):TT:=fun σ H Q=>t σ H fun x H1=>∃c,x=.bl c/\Q c H1
variable{tA tB':TT}{rest:List Expr}
noncomputable def Jip(t u:TT):TT:=fun σ H Q=>t σ H fun c H1=>if c=true then u σ H1 Q else Q false H1
noncomputable def tOr(t u:TT):TT:=fun σ H Q=>t σ H fun c H1=>if c=true then Q true H1 else u σ H1 Q
noncomputable def Jit(t:TT):TT:=fun σ H Q=>t σ H fun c H1=>Q (!c) H1
theorem UZ(ha:PT X a tA):PW X (.BoolOp .And [a] pos) tA:=by
 intro wh pins s σ H Q I h;refine isTrue_and (thn (ha pins s σ H Q I h) fun c s1 e=>?_)
 cases c with
 | true=>exact isTrue_and_nil e
 | false=>exact e
theorem ZO(ha:PT X a tA):PW X (.BoolOp .Or [a] pos) tA:=by
 intro wh pins s σ H Q I h;refine isTrue_or (thn (ha pins s σ H Q I h) fun c s1 e=>?_)
 cases c with
 | false=>exact isTrue_or_nil e
 | true=>exact e
theorem VL(ha:PT X a tA)(hb:PW X (.BoolOp .And (b::rest) pos) tB'):PW X (.BoolOp .And (a::b::rest) pos) (Jip tA tB'):=by
 intro wh pins s σ H Q I h;refine isTrue_and (thn (ha pins s σ H _ I h) fun c s1 ⟨H1,I1,q1⟩=>?_)
 cases c with
 | true=>exact hb wh pins s1 σ H1 Q I1 q1
 | false=>exact⟨H1,I1,q1⟩
theorem JbF(ha:PT X a tA)(hb:PW X (.BoolOp .Or (b::rest) pos) tB'):PW X (.BoolOp .Or (a::b::rest) pos) (tOr tA tB'):=by
 intro wh pins s σ H Q I h;refine isTrue_or (thn (ha pins s σ H _ I h) fun c s1 ⟨H1,I1,q1⟩=>?_)
 cases c with
 | true=>exact⟨H1,I1,q1⟩
 | false=>exact hb wh pins s1 σ H1 Q I1 q1
theorem Ja1(ha:PT X a tA):PT X (.UnaryOp .Not a pos) (Jit tA):=by intro pins s σ H Q I h;exact isTrue_not (ha pins s σ H (fun c H1=>Q (!c) H1) I h)
noncomputable def Jee(ta tb:TE):TE:=fun σ H Q=>ta σ H fun x H1=>∃c,x=.bl c/\if c=true then tb σ H1 Q else Q (.bl false) H1
noncomputable def Jkd(ta tb:TE):TE:=fun σ H Q=>ta σ H fun x H1=>∃c,x=.bl c/\if c=true then Q (.bl true) H1 else tb σ H1 Q
noncomputable def JjO(ta:TE):TE:=fun σ H Q=>ta σ H fun x H1=>∃c,x=.bl c/\Q (.bl (!c)) H1
theorem JdL{op}{t:TE}(h:PE X a t):PE X (.BoolOp op [a] pos) t:=fun pins s σ H Q I hw=>BoolOp_one (h pins s σ H Q I hw)
theorem JaY(ha:PE X a ta)(hb:PE X (.BoolOp .And (b::rest) pos) tb):PE X (.BoolOp .And (a::b::rest) pos) (Jee ta tb):=by
 intro pins s σ H Q I h;refine BoolOp_and (thn (ha pins s σ H _ I h) fun v s1 ⟨x,H1,I1,r1,q1⟩=>?_);obtain⟨c,rfl,q1⟩:=q1;cases r1;refine wpAny_truthy_bool ?_
 cases c with
 | true=>exact hb pins s1 σ H1 Q I1 q1
 | false=>exact⟨.bl false,H1,I1,rfl,q1⟩
noncomputable def tIf(t:TT)(ta tb:TE):TE:=fun σ H Q=>t σ H fun c H1=>if c=true then ta σ H1 Q else tb σ H1 Q
theorem JdJ{c:Expr}(hc:PT X c tA)(ha:PE X a ta)(hb:PE X b tb):PE X (.IfExp c a b pos) (tIf tA ta tb):=by
 intro pins s σ H Q I h;refine wpAny_IfExp (thn (hc pins s σ H _ I h) fun d s1 ⟨H1,I1,q1⟩=>?_)
 cases d with
 | true=>exact ha pins s1 σ H1 Q I1 q1
 | false=>exact hb pins s1 σ H1 Q I1 q1
end
end L2

namespace L2
open PySem PySem.Spec PyProof.Rows

noncomputable def SqL(K:Frag)(H:Hp)(a:Addr)(xs:List V):Prop :=
 Rd H a (.lst xs) ∨
  ∃(o:Obj) (its:Array Value) (n:Nat),K.lookup a=some o/\o.cls=.type "list"/\o.dict=none/\o.data=.seq its n/\its.size<=sizeLine/\Vals xs its.toList
noncomputable def SqT(K:Frag)(H:Hp)(a:Addr)(xs:List V):Prop :=
 Rd H a (.tup xs) ∨
  ∃(o:Obj) (its:Array Value) (n:Nat),K.lookup a=some o/\o.cls=.type "tuple"/\o.data=.seq its n/\its.size<=sizeLine/\Vals xs its.toList
noncomputable def JjT:Value->Option V
 | .none=>some .non
 | .bool b=>some (.bl b)
 | .int i _=>some (.int i)
 | .str x _=>some (.str x)
 | .bytes b _=>some (.byt b)
 | .float b _=>some (.flt b)
 | .ref a=>some (.ref a)
 | .type n=>some (.ty n)
 | _=>none
theorem RelV.abs{x:V}{u:Value}(r:RelV x u):JjT u=some x:=by
 cases x with
 | non=>cases r;rfl
 | bl _=>cases r;rfl
 | int _=>obtain⟨t,rfl⟩:=r;rfl
 | str _=>obtain⟨t,rfl⟩:=r;rfl
 | byt _=>obtain⟨t,rfl⟩:=r;rfl
 | flt _=>obtain⟨t,rfl⟩:=r;rfl
 | ref _=>cases r;rfl
 | ty _=>cases r;rfl
theorem RelV.inj{x y:V}{u:Value}(r:RelV x u)(q:RelV y u):x=y:=Option.some.inj (r.abs.symm.trans q.abs)
theorem Vals.inj:∀{xs ys:List V} {us:List Value},Vals xs us->Vals ys us->xs=ys
 | _,_,_,.nil,.nil=>rfl
 | _,_,_,.cons r t,.cons r' t'=>by rw[r.inj r',Vals.inj t t']
section
variable{X:Cx}{pins:List (Addr×Obj)}{σ:St}{H:Hp}{s:Shared}{a:Addr}{xs ys:List V}
theorem SqL.of{K:Frag}(h:H a=some (.lst xs)):SqL K H a xs:=.inl (.inl h)
theorem SqT.of{K:Frag}(h:H a=some (.tup xs)):SqT K H a xs:=.inl (.inl h)
theorem Inv.list(I:Inv X pins σ H s)(h:SqL X.K H a xs):∃its:List Value,Vals xs its/\PlainL s.heap a its.toArray/\xs.length<=sizeLine:=by
 rcases h with h|⟨o,its,n,hk,hc,hd,hs,hz,r⟩
 ·obtain⟨z,its,n,r,e⟩:=h.ok I.hok;exact⟨its,r,⟨_,n,e,rfl,rfl,rfl⟩,z⟩
 ·refine⟨its.toList,r,⟨o,n,I.kIn a o hk,hc,hd,by simpa using hs⟩,?_⟩;have e:=r.length;simp only[Array.length_toList] at e;omega
theorem Inv.tuple(I:Inv X pins σ H s)(h:SqT X.K H a xs):∃its:List Value,Vals xs its/\IsTup s.heap a its.toArray/\xs.length<=sizeLine:=by
 rcases h with h|⟨o,its,n,hk,hc,hs,hz,r⟩
 ·obtain⟨z,its,r,p⟩:=h.ok I.hok;exact⟨its,r,p,z⟩
 ·refine⟨its.toList,r,⟨o,I.kIn a o hk,hc,n,by simpa using hs⟩,?_⟩;have e:=r.length;simp only[Array.length_toList] at e;omega
theorem Inv.list_inj(I:Inv X pins σ H s)(h:SqL X.K H a xs)(h':SqL X.K H a ys):xs=ys:=by
 obtain⟨its,r,⟨o,n,e,_,_,d⟩,_⟩:=I.list h;obtain⟨its',r',⟨o',n',e',_,_,d'⟩,_⟩:=I.list h';rw[e] at e';cases e';rw[d] at d'
 injection d' with d1 _
 have:its=its':=by simpa using congrArg Array.toList d1
 subst this;exact r.inj r'
theorem Inv.tuple_inj(I:Inv X pins σ H s)(h:SqT X.K H a xs)(h':SqT X.K H a ys):xs=ys:=by
 obtain⟨its,r,⟨o,e,_,n,d⟩,_⟩:=I.tuple h;obtain⟨its',r',⟨o',e',_,n',d'⟩,_⟩:=I.tuple h';rw[e] at e';cases e';rw[d] at d'
 injection d' with d1 _
 have:its=its':=by simpa using congrArg Array.toList d1
 subst this;exact r.inj r'
end

noncomputable abbrev Cx.wish(X:Cx)(E:Value->Shared->Prop):Cx:={ X with xe:=E }
noncomputable abbrev Cx.nox(X:Cx):Cx:=X.wish fun _ _=>False
theorem Cx.Ok.wish{X:Cx}(ok:X.Ok)(E:Value->Shared->Prop):(X.wish E).Ok :=
 ⟨ok.mod,ok.kind,ok.glob,ok.blt,ok.above,ok.inj,ok.has,ok.cab,ok.hd,ok.frames,ok.stk,ok.exf,ok.bs,ok.bsz,ok.noex,ok.exfs,ok.funs,ok.frf⟩
theorem Cx.Ok.unwish{X:Cx}{E:Value->Shared->Prop}(ok:(X.wish E).Ok):X.Ok :=
 ⟨ok.mod,ok.kind,ok.glob,ok.blt,ok.above,ok.inj,ok.has,ok.cab,ok.hd,ok.frames,ok.stk,ok.exf,ok.bs,ok.bsz,ok.noex,ok.exfs,ok.funs,ok.frf⟩
section
variable{X:Cx}{pins:List (Addr×Obj)}{σ:St}{H:Hp}{s:Shared}{E:Value->Shared->Prop}
theorem Inv.wish(I:Inv X pins σ H s)(E:Value->Shared->Prop):Inv (X.wish E) pins σ H s:=⟨I.ok.wish E,I.os,I.bare,I.base,I.loc,I.cell,I.free,I.freeC,I.pin,I.hok,I.len⟩
theorem Inv.unwish(I:Inv (X.wish E) pins σ H s):Inv X pins σ H s:=⟨I.ok.unwish,I.os,I.bare,I.base,I.loc,I.cell,I.free,I.freeC,I.pin,I.hok,I.len⟩
theorem SP.unwish{D:Ends}{f:Flow}{s':Shared}(h:SP (X.wish E) pins D f s'):SP X pins D f s':=by
 cases f with
 | next=>obtain⟨σ',H',I,q⟩:=h;exact⟨σ',H',I.unwish,q⟩
 | brk=>obtain⟨σ',H',I,q⟩:=h;exact⟨σ',H',I.unwish,q⟩
 | cont=>obtain⟨σ',H',I,q⟩:=h;exact⟨σ',H',I.unwish,q⟩
 | ret u=>obtain⟨v,σ',H',I,r,q⟩:=h;exact⟨v,σ',H',I.unwish,r,q⟩
theorem PE.nox{e:Expr}{t:TE}(h:PE X.nox e t):PE X e t:=fun pins s σ H Q I hw=>wpAny_mono (h pins s σ H Q (I.wish _) hw) (fun _ _ ⟨v,H',I',r,q⟩=>⟨v,H',I'.unwish,r,q⟩) fun _ _ z=>False.elim z
theorem PT.nox{e:Expr}{t:TT}(h:PT X.nox e t):PT X e t:=fun pins s σ H Q I hw=>wpAny_mono (h pins s σ H Q (I.wish _) hw) (fun _ _ ⟨H',I',q⟩=>⟨H',I'.unwish,q⟩) fun _ _ z=>False.elim z
theorem PSs.nox{st:List Stmt}{t:TS}(h:PSs X.nox st t):PSs X st t:=fun pins s σ H D I hw=>wpAny_mono (h pins s σ H D (I.wish _) hw) (fun _ _ q=>q.unwish) fun _ _ z=>False.elim z
end

section
variable{X:Cx}{st:Stmt}{rest:List Stmt}{t u:TS}{e:Expr}{te:TE}{pos:Pos}
noncomputable def Jeh:TS:=fun D σ H=>D.nx σ H
noncomputable def Jf4(t u:TS):TS:=fun D σ H=>t { D with nx:=u D } σ H
theorem JL:PSs X [] Jeh:=fun _ _ σ H _ I h=>wpAny_execs_nil ⟨σ,H,I,h⟩
theorem Jh(h1:PS X st t)(h2:PSs X rest u):PSs X (st::rest) (Jf4 t u):=by
 intro pins s σ H D I h;refine wpAny_execs_cons (thn (h1 pins s σ H { D with nx:=u D } I h) fun f s1 q=>?_)
 cases f with
 | next=>obtain⟨σ',H',I',q⟩:=q;exact h2 pins s1 σ' H' D I' q
 | ret v=>exact q
 | brk=>exact q
 | cont=>exact q
theorem Jl(h1:PS X st t):PSs X [st] t:=by
 intro pins s σ H D I h;refine wpAny_execs_cons (thn (h1 pins s σ H D I h) fun f s1 q=>?_)
 cases f with
 | next=>exact wpAny_execs_nil q
 | ret v=>exact q
 | brk=>exact q
 | cont=>exact q
theorem Inv.quiet{pins:List (Addr×Obj)}{σ:St}{H:Hp}{s:Shared}(I:Inv X pins σ H s):interactive X.env=false:=by simp[interactive,I.ok.kind]
noncomputable def WL(te:TE):TS:=fun D σ H=>te σ H fun _ H1=>D.nx σ H1
theorem Uz(he:PE X e te)(hs:swapsWith e none pos.line X.env=pure false:=by rfl):PS X (.Expr e pos) (WL te):=by intro pins s σ H D I h;exact wpAny_Expr_any (thn (he pins s σ H _ I h) fun v s1 ⟨x,H1,I1,r1,q1⟩=>⟨σ,H1,I1,q1⟩) I.quiet hs
noncomputable def Jf3(te:TE):TS:=fun D σ H=>te σ H D.rt
theorem JV(he:PE X e te):PS X (.Return (some e) pos) (Jf3 te):=by intro pins s σ H D I h;exact wpAny_Return_some (thn (he pins s σ H _ I h) fun v s1 ⟨x,H1,I1,r1,q1⟩=>⟨x,σ,H1,I1,r1,q1⟩)
noncomputable def Jf2(c:TT)(t u:TS):TS:=fun D σ H=>c σ H fun b H1=>if b=true then t D σ H1 else u D σ H1
theorem Yc{c:Expr}{a b:List Stmt}{tc:TT}(hc:PT X c tc)(ha:PSs X a t)(hb:PSs X b u):PS X (.If c a b pos) (Jf2 tc t u):=by
 intro pins s σ H D I h;refine wpAny_If (thn (hc pins s σ H _ I h) fun d s1 ⟨H1,I1,q1⟩=>?_)
 cases d with
 | true=>exact ha pins s1 σ H1 D I1 q1
 | false=>exact hb pins s1 σ H1 D I1 q1
end

noncomputable abbrev TG:=V->St->Hp->(St->Hp->Prop)->Prop
noncomputable abbrev TGs:=List V->St->Hp->(St->Hp->Prop)->Prop
noncomputable def PG(X:Cx)(target:Expr)(t:TG):Prop :=
 ∀(pins:List (Addr×Obj)) (s:Shared) (σ:St) (H:Hp) (v:V) (u:Value) (Q:St->Hp->Prop),Inv X pins σ H s->RelV v u->t v σ H Q ->
  wpAny (model X.prog X.w) X.A (assign target X.env u) (fun _ s'=>∃σ' H',Inv X pins σ' H' s'/\Q σ' H') X.xe s
noncomputable def PGs(X:Cx)(ts:List Expr)(t:TGs):Prop :=
 ∀(pins:List (Addr×Obj)) (s:Shared) (σ:St) (H:Hp) (vs:List V) (us:List Value) (Q:St->Hp->Prop),Inv X pins σ H s->Vals vs us->t vs σ H Q ->
  wpAny (model X.prog X.w) X.A (assignInOrder ((assignEach ts X.env).map (·.2)) us) (fun _ s'=>∃σ' H',Inv X pins σ' H' s'/\Q σ' H') X.xe s
noncomputable abbrev Jeu:=V->V->V->Hp->(Hp->Prop)->Prop
noncomputable def JiL(X:Cx)(t:Jeu):Prop :=
 ∀(pins:List (Addr×Obj)) (s:Shared) (σ:St) (H:Hp) (o i v:V) (ov iv u:Value) (Q:Hp->Prop),Inv X pins σ H s->RelV o ov->RelV i iv->RelV v u->t o i v H Q ->
  wpAny (model X.prog X.w) X.A (setItem ov iv u) (fun _ s'=>∃H',Inv X pins σ H' s'/\Q H') X.xe s
section
variable{X:Cx}{pos:Pos}
noncomputable def Zb(i:Nat):TG:=fun v σ H Q=>Q (σ.set i (some v)) H
theorem JJ{i:Nat}{x:Str}(hN:X.N.Nodup)(hi:X.N[i]?=some x)(hx:Loc X.env.scope x)(hf:X.fn x=true\/X.env.scope.names.lookup x=some .local:=by first|exact .inl rfl|exact .inr rfl|assumption):PG X (.Name x pos) (Zb i):=by intro pins s σ H v u Q I r h;exact wpAny_assign_Name (WK I hN hi hx r (fun s' I'=>⟨_,H,I',h⟩) hf)
noncomputable def Jg7:TGs:=fun vs σ H Q=>vs=[]/\Q σ H
noncomputable def Jdh(t:TG)(u:TGs):TGs:=fun vs σ H Q=>∃v r,vs=v::r/\t v σ H fun σ' H'=>u r σ' H' Q
theorem Vn:PGs X [] Jg7:=by intro pins s σ H vs us Q I r h;obtain⟨e,h⟩:=h;subst e;cases r;exact assignInOrder_nil ⟨σ,H,I,h⟩
theorem J1{e:Expr}{es:List Expr}{t:TG}{u:TGs}(h1:PG X e t)(h2:PGs X es u)
 (hs:(assignEach (e::es) X.env).map (·.2)=assign e X.env::(assignEach es X.env).map (·.2):=by rfl):PGs X (e::es) (Jdh t u):=by
 intro pins s σ H vs us Q I r h;obtain⟨v,vr,e1,h⟩:=h;subst e1
 cases r with
 | cons r rr=>rw[hs];refine assignInOrder_cons (thn (h1 pins s σ H _ _ _ I r h) fun _ s1 ⟨σ1,H1,I1,q1⟩=>?_);exact h2 pins s1 σ1 H1 _ _ Q I1 rr q1
noncomputable def Je7(K:Frag)(n:Nat)(t:TGs):TG:=fun v σ H Q=>∃a xs,v=.ref a/\SqT K H a xs/\xs.length=n/\t xs σ H Q
theorem JhJ{es:List Expr}{k:Nat}{t:TGs}{n:Nat}(hc:X.calm=true)(h:PGs X es t)
 (hn:(assignEach es X.env).length=n:=by rfl) (hst:(assignEach es X.env).findIdx? (·.1)=none:=by rfl):PG X (.Tuple es k pos) (Je7 X.K n t):=by
 intro pins s σ H v u Q I r hw;obtain⟨a,xs,e1,hq,hl,hw⟩:=hw;subst e1;cases r;obtain⟨its,rv,ht,hz⟩:=I.tuple hq;refine assign_Tuple_tuple (I.ok.hd hc) ht (by simp[hn,<- hl,rv.length]) hst fun h' hx=>?_
 have I1:Inv X pins σ H { s with heap:=h' }:=I.kept (t':=s.toks) fun b o e=>hx b o (Nat.ne_of_lt (Heap.lt_size e)) e
 exact h pins _ σ H xs _ Q I1 (by simpa using rv) hw
noncomputable def Jg8(to ti:TE)(t:Jeu):TG:=fun v σ H Q=>to σ H fun o H1=>ti σ H1 fun i H2=>t o i v H2 fun H3=>Q σ H3
theorem WC{o i:Expr}{to ti:TE}{t:Jeu}(ho:PE X o to)(hi:PE X i ti)(hs:JiL X t)
 (ha:∀v,assign (.Subscript o i pos) X.env v=(do
  let ov <- holding [v] (eval o X.env)
  let iv <- holding [v,ov] (eval i X.env)
  standAt pos
  holding [v,ov,iv] (setItem ov iv v)
  release [v,ov,iv] []):=by intro _;rfl):PG X (.Subscript o i pos) (Jg8 to ti t):=by
 intro pins s σ H v u Q I r h;rw[ha];refine wpAny_bind (wpAny_holding (thn (ho pins s σ H _ I h) fun ov s1 ⟨x,H1,I1,r1,q1⟩=>?_));refine wpAny_bind (wpAny_holding (thn (hi pins s1 σ H1 _ I1 q1) fun iv s2 ⟨y,H2,I2,r2,q2⟩=>?_));refine wpAny_bind (wpAny_standAt (wpAny_bind (wpAny_holding (thn (hs pins s2 σ H2 x y v ov iv u _ I2 r1 r2 r q2) fun _ s3 ⟨H3,I3,q3⟩=>?_))));exact wpAny_release ⟨σ,H3,I3,q3⟩
noncomputable def Ja7(te:TE)(g:TG):TS:=fun D σ H=>te σ H fun x H1=>g x σ H1 D.nx
theorem VJ{tg e:Expr}{te:TE}{g:TG}(he:PE X e te)(hg:PG X tg g)(hs:swapsWithSole [tg] e pos.line X.env=pure false:=by rfl)(hw:swappedStores [tg] e X.env=pure none:=by rfl)
 (h1:(assignEach [tg] X.env).map (·.2)=[assign tg X.env]:=by rfl):PS X (.Assign [tg] e pos) (Ja7 te g):=by
 intro pins s σ H D I h;refine wpAny_Assign_stores (thn (he pins s σ H _ I h) fun v s1 ⟨x,H1,I1,r1,q1⟩=>?_) hs hw;rw[h1];exact thn (hg pins s1 σ H1 x v _ I1 r1 q1) fun _ s2 q=>q
theorem JC{i:Nat}{x:Str}{e:Expr}{te:TE}{pos':Pos}(hN:X.N.Nodup)(hi:X.N[i]?=some x)(hx:Loc X.env.scope x)(he:PE X e te)(hs:swapsWith e (some (.Name x pos')) pos.line X.env=pure false:=by rfl)(hf:X.fn x=true\/X.env.scope.names.lookup x=some .local:=by first|exact .inl rfl|exact .inr rfl|assumption) :
 PS X (.Assign [.Name x pos'] e pos) (Ja7 te (Zb i)):=by
 intro pins s σ H D I h;refine wpAny_Assign_Name (thn (he pins s σ H _ I h) fun v s1 ⟨y,H1,I1,r1,q1⟩=>?_) hs;exact WK I1 hN hi hx r1 (fun s2 I2=>⟨_,H1,I2,q1⟩) hf
end

section
variable{X:Cx}{pos:Pos}
noncomputable def Jej(c:TT)(tb:TS):TS:=fun D σ H=>∃W:Nat->St->Hp->Prop,(∃m,W m σ H)/\∀m σ H,W m σ H ->
 c σ H fun b H1=>if b=true then ∃N:St->Hp->Prop,(∀σ' H',N σ' H'->∃m',m'<m/\W m' σ' H')/\tb { D with nx:=N,ct:=N,bk:=D.nx } σ H1 else D.nx σ H1
theorem JdP{c:Expr}{body:List Stmt}{tc:TT}{tb:TS}(hp:PassesOwn (model X.prog X.w) X.A X.env X.xe)(hc:PT X c tc)(hb:PSs X body tb):PS X (.While c body [] pos) (Jej tc tb):=by
 intro pins s σ H D I h;obtain⟨W,⟨m0,w0⟩,turn⟩:=h;refine wpAny_While (codeAny_whileLoop (fun n s'=>∃σ' H',Inv X pins σ' H' s'/\W n σ' H') ?_ m0 ⟨σ,H,I,w0⟩);rintro n s1 ⟨σ1,H1,I1,w1⟩;refine wpAny_passesOwn hp (thn (hc pins s1 σ1 H1 _ I1 (turn n σ1 H1 w1)) fun b s2 ⟨H2,I2,q2⟩=>?_)
 cases b with
 | true =>
  obtain⟨N,hN,q2⟩:=q2;rw[if_pos rfl];refine wpAny_passesOwn hp (thn (hb pins s2 σ1 H2 _ I2 q2) fun f s3 q3=>?_)
  cases f with
  | next=>obtain⟨σ3,H3,I3,n3⟩:=q3;obtain⟨m',hm,w3⟩:=hN σ3 H3 n3;exact⟨m',hm,σ3,H3,I3,w3⟩
  | cont=>obtain⟨σ3,H3,I3,n3⟩:=q3;obtain⟨m',hm,w3⟩:=hN σ3 H3 n3;exact⟨m',hm,σ3,H3,I3,w3⟩
  | brk=>exact q3
  | ret v=>exact q3
 | false=>rw[if_neg Bool.false_ne_true];exact wpAny_execs_nil ⟨σ1,H2,I2,q2⟩
end

structure It where
 go:Nat->Hp->Prop
 yld:Nat->Hp->V->Hp->Prop
 stop:Nat->Hp->Prop
noncomputable def FpOk(X:Cx)(pins:List (Addr×Obj))(H:Hp)(b:Addr):Prop :=
 H b=none/\b≠X.env.locals/\b∉X.fs/\(b∈X.ex\/X.s₀.heap.objs.size<=b)/\(∀x c,X.env.cells.lookup x=some c->c≠b)/\∀p∈X.pn++pins,p.1≠b
theorem Inv.fpOk{X:Cx}{pins:List (Addr×Obj)}{σ:St}{H H':Hp}{s:Shared}{b:Addr}(I:Inv X pins σ H s)(hb:s.heap.objs.size<=b)(hn:H' b=none):FpOk X pins H' b:=by
 refine⟨hn,Nat.ne_of_gt (Nat.lt_of_lt_of_le I.lt hb),I.nofs hb,.inr (Nat.le_trans I.sz hb),fun x c e z=>?_,fun p hp z=>?_⟩
 ·obtain⟨v,q⟩:=I.cell x c e;exact absurd (Nat.lt_of_lt_of_le q.lt (by rw[z];exact hb)) (Nat.lt_irrefl _)
 ·exact absurd (Nat.lt_of_lt_of_le (Heap.lt_size (I.pin p hp).1) (by rw[z];exact hb)) (Nat.lt_irrefl _)
structure Turn (P:Program) (w:World) (K:Frag) (tg:Expr) (J:It) (fp:List Addr) (it:Addr) (tn:Nat->Heap->Prop):Prop where
 mem:it∈fp
 obj:∀i h,tn i h->∀b∈fp,∃o,h.get? b=some o/\∀v,o.data≠.cell v
 keep:∀i h h',tn i h->(∀b∈fp,∀o,h.get? b=some o->h'.get? b=some o)->tn i h'
 item:∀(X:Cx),X.prog=P->X.w=w->X.K=K->X.calm=true->∀(i:Nat) (pins:List (Addr×Obj)) (s:Shared) (σ:St) (H:Hp) (E:Value->Shared->Prop),Inv X pins σ H s->(∀b∈fp,FpOk X pins H b)->tn i s.heap->J.go i H ->
  wpAny (model P w) X.A (pyNext (.ref it)) (fun r s1=>∃u,r=some u ∧
   wpAny (model P w) X.A (letOwnedTupleGo tg (.ref it) u) (fun _ s2=>∃x H',Inv X pins σ H' s2/\RelV x u/\J.yld i H x H'/\tn (i+1) s2.heap/\∀b∈fp,H' b=none) E s1) E s
 done:∀(X:Cx),X.prog=P->X.w=w->X.K=K->X.calm=true->∀(i:Nat) (pins:List (Addr×Obj)) (s:Shared) (σ:St) (H:Hp) (E:Value->Shared->Prop),Inv X pins σ H s->(∀b∈fp,FpOk X pins H b)->tn i s.heap->J.stop i H ->
  wpAny (model P w) X.A (pyNext (.ref it)) (fun r s1=>r=none/\Inv X pins σ H s1) E s
 self:∀(A:Around) (i:Nat) (s:Shared) (Q:Value->Shared->Prop) (E:Value->Shared->Prop),tn i s.heap->Q (.ref it) s->wpAny (model P w) A (pyIter (.ref it)) Q E s
noncomputable abbrev TI:=St->Hp->(It->Hp->Prop)->Prop
noncomputable def PIE(X:Cx)(pins:List (Addr×Obj))(σ:St)(tg:Expr)(R:It->Hp->Prop)(itv:Value)(s2:Shared):Prop :=
 ∃(it:Addr) (fp:List Addr) (tn:Nat->Heap->Prop) (J:It) (H':Hp),itv=.ref it/\Inv X pins σ H' s2/\Turn X.prog X.w X.K tg J fp it tn/\tn 0 s2.heap/\(∀b∈fp,FpOk X pins H' b)/\R J H'
noncomputable def PI(X:Cx)(tg iter:Expr)(wi:TI):Prop :=
 ∀(pins:List (Addr×Obj)) (s:Shared) (σ:St) (H:Hp) (R:It->Hp->Prop),Inv X pins σ H s->wi σ H R ->
  wpAny (model X.prog X.w) X.A (eval iter X.env) (fun v s1=>wpAny (model X.prog X.w) X.A (pyIter v) (PIE X pins σ tg R) X.xe s1) X.xe s

theorem Jdi{M:Model}{A:Around}{E:Value->Shared->Prop}{s:Shared}{tg:Expr}{it:Addr}{u:Value}{o:Obj}{n:String}{vs:Array Value}{Q:Unit->Shared->Prop}(ho:s.heap.get? it=some o)(hc:o.cls=.type n)(hd:o.data=.fields vs)
 (hn:["enumerate","zip","dict_itemiterator","dict_reverseitemiterator","odict_iterator","itertools.zip_longest","itertools.pairwise"].contains n=false) (hQ:Q () s):wpAny M A (letOwnedTupleGo tg (.ref it) u) Q E s:=by
 unfold letOwnedTupleGo;cases tg <;> first
  | exact wpAny_pure hQ
  | (cases u <;> first
   | exact wpAny_pure hQ
   | (refine wpAny_bind (wpAny_load ho ?_)
      rw[hc,hd];show wpAny M A (if (["enumerate","zip","dict_itemiterator","dict_reverseitemiterator","odict_iterator","itertools.zip_longest","itertools.pairwise"].contains n && vs[0]? == some (rawInt _))=true then _ else _) Q E s;rw[if_neg (by intro h;rw[hn,Bool.false_and] at h;cases h)];exact wpAny_pure hQ))

noncomputable def Itl(K:Frag)(a:Addr):It :=
 ⟨fun i H=>∃xs x,SqL K H a xs/\xs[i]?=some x,fun i H x H'=>H'=H/\∀xs,SqL K H a xs->xs[i]?=some x,fun i H=>∃xs,SqL K H a xs/\xs.length<=i⟩
noncomputable def Itt(K:Frag)(a:Addr):It :=
 ⟨fun i H=>∃xs x,SqT K H a xs/\xs[i]?=some x,fun i H x H'=>H'=H/\∀xs,SqT K H a xs->xs[i]?=some x,fun i H=>∃xs,SqT K H a xs/\xs.length<=i⟩
noncomputable def Itr(lo:Int)(n:Nat):It:=⟨fun i _=>i<n,fun i H x H'=>H'=H/\x=.int (lo+i),fun i _=>n<=i⟩
theorem JcG{P:Program}{w:World}{K:Frag}{tg:Expr}(a it:Addr):Turn P w K tg (Itl K a) [it] it (fun i h=>h.IsListIter it a i) where
 mem:=by simp
 obj:=fun i h st b hb=>by
  have e:b=it:=by simpa using hb
  subst e;obtain⟨o,e,c,d⟩:=st;exact⟨o,e,fun v z=>by rw[d] at z;cases z⟩
 keep:=fun i h h' st k=>st.at fun o e=>k it (by simp) o e
 item:=by
  intro X hP hw hK hc i pins s σ H E I hf st hg;subst hP hw hK;obtain⟨xs,x,hq,hx⟩:=hg;obtain⟨its,rv,p,hz⟩:=I.list hq;obtain⟨u,hu,ru⟩:=rv.get hx;obtain⟨f0,f1,f2,f3,f4,f5⟩:=hf it (by simp);refine wpAny_pyNext_list_item st p.isList (x:=u) (by simpa using hu) fun h' st' sb=>?_
  have I1:Inv X pins σ H { s with heap:=h' }:=I.turned (t':=s.toks) (fun b o hb e=>(sb.2 b hb).trans e) f0 f1 f3 f4 f5;obtain⟨o,e,c,d⟩:=id st';exact⟨u,rfl,Jdi (s:={ s with heap:=h' }) e c d (by decide) ⟨x,H,I1,ru,⟨rfl,fun ys hy=>by rw[I.list_inj hy hq];exact hx⟩,st',fun b hb=>(hf b hb).1⟩⟩
 done:=by intro X hP hw hK hc i pins s σ H E I hf st hg;subst hP hw hK;obtain⟨xs,hq,hx⟩:=hg;obtain⟨its,rv,p,hz⟩:=I.list hq;obtain⟨f0,f1,f2,f3,f4,f5⟩:=hf it (by simp);have hl:=rv.length;exact wpAny_pyNext_list_end (I.ok.hd hc) st p.isList (by simp;omega) fun h' eb=>⟨rfl,I.turned (t':=s.toks) (fun b o hb e=>eb b o hb e) f0 f1 f3 f4 f5⟩
 self:=fun _ _ _ _ _ st h=>wpAny_pyIter_listiter st h
theorem Jbc{P:Program}{w:World}{K:Frag}{tg:Expr}(a it:Addr):Turn P w K tg (Itt K a) [it] it (fun i h=>h.IsTupleIter it a i) where
 mem:=by simp
 obj:=fun i h st b hb=>by
  have e:b=it:=by simpa using hb
  subst e;obtain⟨o,e,c,d⟩:=st;exact⟨o,e,fun v z=>by rw[d] at z;cases z⟩
 keep:=fun i h h' st k=>st.at fun o e=>k it (by simp) o e
 item:=by
  intro X hP hw hK hc i pins s σ H E I hf st hg;subst hP hw hK;obtain⟨xs,x,hq,hx⟩:=hg;obtain⟨its,rv,p,hz⟩:=I.tuple hq;obtain⟨u,hu,ru⟩:=rv.get hx;obtain⟨f0,f1,f2,f3,f4,f5⟩:=hf it (by simp);refine wpAny_pyNext_tuple_item st (show s.heap.IsTuple a its.toArray from p) (x:=u) (by simpa using hu) fun h' st' sb=>?_
  have I1:Inv X pins σ H { s with heap:=h' }:=I.turned (t':=s.toks) (fun b o hb e=>(sb.2 b hb).trans e) f0 f1 f3 f4 f5;obtain⟨o,e,c,d⟩:=id st';exact⟨u,rfl,Jdi (s:={ s with heap:=h' }) e c d (by decide) ⟨x,H,I1,ru,⟨rfl,fun ys hy=>by rw[I.tuple_inj hy hq];exact hx⟩,st',fun b hb=>(hf b hb).1⟩⟩
 done:=by intro X hP hw hK hc i pins s σ H E I hf st hg;subst hP hw hK;obtain⟨xs,hq,hx⟩:=hg;obtain⟨its,rv,p,hz⟩:=I.tuple hq;obtain⟨f0,f1,f2,f3,f4,f5⟩:=hf it (by simp);have hl:=rv.length;exact wpAny_pyNext_tuple_end (I.ok.hd hc) st (show s.heap.IsTuple a its.toArray from p) (by simp;omega) fun h' eb=>⟨rfl,I.turned (t':=s.toks) (fun b o hb e=>eb b o hb e) f0 f1 f3 f4 f5⟩
 self:=fun _ _ _ _ _ st h=>wpAny_pyIter_tupleiter st h
theorem Jbb{P:Program}{w:World}{K:Frag}{tg:Expr}(it:Addr)(lo:Int)(n:Nat):Turn P w K tg (Itr lo n) [it] it (fun i h=>IsRangeIter h it (lo+(i:Nat)*1) ((n:Int)-(i:Nat)) 1) where
 mem:=by simp
 obj:=fun i h st b hb=>by
  have e:b=it:=by simpa using hb
  subst e;exact⟨_,st,fun v z=>by have z':Data.fields _=Data.cell v:=z;cases z'⟩
 keep:=fun i h h' st k=>k it (by simp) _ st
 item:=by
  intro X hP hw hK hc i pins s σ H E I hf st hg;subst hP hw hK;obtain⟨f0,f1,f2,f3,f4,f5⟩:=hf it (by simp);have W:=Walks.range (prog:=X.prog) (w:=X.w) (I.ok.hd hc) it lo 1 n;refine W.item i s _ _ hg st fun v h' tk hv st' kk=>?_
  obtain⟨t,rfl⟩:=hv;have I1:Inv X pins σ H { s with heap:=h',toks:=tk }:=I.turned (fun b o hb e=>kk b o (by simpa using hb) e) f0 f1 f3 f4 f5;refine⟨_,rfl,Jdi (s:={ s with heap:=h',toks:=tk }) (n:="range_iterator") st' rfl rfl (by decide) ⟨.int (lo+i),H,I1,⟨t,?_⟩,⟨rfl,rfl⟩,st',fun b hb=>(hf b hb).1⟩⟩;rw[Int.mul_one]
 done:=by intro X hP hw hK hc i pins s σ H E I hf st hg;subst hP hw hK;obtain⟨f0,f1,f2,f3,f4,f5⟩:=hf it (by simp);exact wpAny_pyNext_range_end (I.ok.hd hc) st (by have:n<=i:=hg;omega) fun h' eb=>⟨rfl,I.turned (t':=s.toks) (fun b o hb e=>eb b o hb e) f0 f1 f3 f4 f5⟩
 self:=fun _ _ _ _ _ st h=>wpAny_pyIter_rangeiter st h
end L2

namespace L2
open PySem PySem.Spec PyProof.Rows
section
variable{X:Cx}{tg:Expr}
noncomputable def Jgq(K:Frag)(tl:TE):TI:=fun σ H R=>tl σ H fun x H1=>∃a,x=.ref a/\(∃xs,SqL K H1 a xs)/\R (Itl K a) H1
noncomputable def Ji5(K:Frag)(tl:TE):TI:=fun σ H R=>tl σ H fun x H1=>∃a,x=.ref a/\(∃xs,SqT K H1 a xs)/\R (Itt K a) H1
theorem Jfs{l:Expr}{tl:TE}(hl:PE X l tl):PI X tg l (Jgq X.K tl):=by
 intro pins s σ H R I h;refine thn (hl pins s σ H _ I h) fun v s1 ⟨x,H1,I1,r1,q1⟩=>?_
 obtain⟨a,e,⟨xs,hq⟩,q⟩:=q1;subst e;cases r1;obtain⟨its,rv,p,hz⟩:=I1.list hq;refine wpAny_pyIter_list p.isList ?_;refine⟨s1.heap.objs.size,[s1.heap.objs.size],_,_,H1,rfl,I1.kept (t':=s1.toks) fun b o e=>Heap.get?_push_of_some _ e,JcG a _,⟨_,Heap.get?_push_size _ rfl,rfl,rfl⟩,fun b hb=>?_,q⟩;have e:b=s1.heap.objs.size:=by simpa using hb
 subst e;exact I1.fpOk (Nat.le_refl _) (I1.hok.fresh (Nat.le_refl _))
theorem JhL{l:Expr}{tl:TE}(hl:PE X l tl):PI X tg l (Ji5 X.K tl):=by
 intro pins s σ H R I h;refine thn (hl pins s σ H _ I h) fun v s1 ⟨x,H1,I1,r1,q1⟩=>?_
 obtain⟨a,e,⟨xs,hq⟩,q⟩:=q1;subst e;cases r1;obtain⟨its,rv,p,hz⟩:=I1.tuple hq;refine wpAny_pyIter_tuple (show s1.heap.IsTuple a its.toArray from p) ?_;refine⟨s1.heap.objs.size,[s1.heap.objs.size],_,_,H1,rfl,I1.kept (t':=s1.toks) fun b o e=>Heap.get?_push_of_some _ e,Jbc a _,⟨_,Heap.get?_push_size _ rfl,rfl,rfl⟩,fun b hb=>?_,q⟩;have e:b=s1.heap.objs.size:=by simpa using hb
 subst e;exact I1.fpOk (Nat.le_refl _) (I1.hok.fresh (Nat.le_refl _))
theorem JdY{pins:List (Addr×Obj)}{σ:St}{H:Hp}{s:Shared}{R:It->Hp->Prop}{E:Value->Shared->Prop}{lo hi:Int}{t u v:Tok}{tk:Nat}(I:Inv X pins σ H s)(h1:-(2 ^ 62)<=lo)(h2:lo<2 ^ 62)(h3:-(2 ^ 62)<=hi)(h4:hi<2 ^ 62)
 (q:R (Itr lo (hi-lo).toNat) H):wpAny (model X.prog X.w) X.A (pyIter (.ref s.heap.objs.size)) (PIE X pins σ tg R) E { s with heap:=s.heap.push { cls:=.type "range",data:=.fields #[.int lo t,.int hi u,.int 1 v] },toks:=tk }:=by
 refine wpAny_pyIter_range (IsRange.new ..) (small_one h1 h2 h3 h4) ?_;have I1:Inv X pins σ H { s with heap:=s.heap.push { cls:=.type "range",data:=.fields #[.int lo t,.int hi u,.int 1 v] },toks:=tk }:=I.kept fun b o e=>Heap.get?_push_of_some _ e
 refine⟨(s.heap.push { cls:=.type "range",data:=.fields #[.int lo t,.int hi u,.int 1 v] }).objs.size,[(s.heap.push { cls:=.type "range",data:=.fields #[.int lo t,.int hi u,.int 1 v] }).objs.size],_,_,H,rfl,
  I1.kept (t':=tk) fun b o e=>Heap.get?_push_of_some _ e,Jbb _ lo (hi-lo).toNat,?_,fun b hb=>?_,q⟩
 ·have e1:lo+((0:Nat):Int)*1=lo:=by simp
  have e2:(((hi-lo).toNat:Nat):Int)-((0:Nat):Int)=Builtin.Range.rangeSize lo hi 1:=by rw[rangeSize_one];split <;> omega
  show IsRangeIter _ _ (lo+((0:Nat):Int)*1) ((((hi-lo).toNat:Nat):Int)-((0:Nat):Int)) 1;rw[e1,e2];exact Heap.get?_push_size _ rfl
 ·have e:b=(s.heap.push { cls:=.type "range",data:=.fields #[.int lo t,.int hi u,.int 1 v] }).objs.size:=by simpa using hb
  subst e;exact I1.fpOk (Nat.le_refl _) (I1.hok.fresh (Nat.le_refl _))
noncomputable def Jgr(ta:TA):TI:=fun σ H R=>ta σ H fun vs H1=>∃j:Int,vs=[.int j]/\-(2 ^ 62)<=j/\j<2 ^ 62/\R (Itr 0 j.toNat) H1
theorem Zj{a:Expr}{ta:TA}{p pos:Pos}(hg:Gl X "range")(hm:X.mg "range"=none)(ha:PA X [a] ta)(hs:starEach [a] X.env=[(false,eval a X.env)]:=by rfl):PI X tg (.Call (.Name "range" p) [a] [] pos) (Jgr ta):=by
 intro pins s σ H R I h;refine Call_ (ZI I hg hm boot_range (PyProof.Rows.callWith_type1 (thn (ha pos pins s σ H _ I h) fun us s1 ⟨vs,H1,I1,r1,q1⟩=>?_) hs rfl));obtain⟨j,e,q1,q2,q⟩:=q1;subst e
 cases r1 with
 | cons r rr=>cases rr;obtain⟨t,rfl⟩:=r;exact call_range_1 (JdY I1 (by omega) (by omega) q1 q2 (by simpa using q))
noncomputable def Jir(wi:TI)(g:TG)(tb:TS):TS:=fun D σ H=>wi σ H fun J H1=>∃W:Nat->Nat->St->Hp->Prop,(∃m,W 0 m σ H1)/\∀i m σ H,W i m σ H ->
 (J.stop i H/\D.nx σ H)\/(J.go i H/\∃N:St->Hp->Prop,(∀σ' H',N σ' H'->∃m',m'<m/\W (i+1) m' σ' H')/\∀x H',J.yld i H x H'->g x σ H' fun σ2 H2=>tb { D with nx:=N,ct:=N,bk:=D.nx } σ2 H2)
noncomputable def WD(fp:List Addr)(h:Heap):List (Addr×Obj):=fp.filterMap fun b=>(h.get? b).map fun o=>(b,o)
theorem U8{fp:List Addr}{h:Heap}{b:Addr}{o:Obj}(hb:b∈fp)(e:h.get? b=some o):(b,o)∈WD fp h:=List.mem_filterMap.mpr ⟨b,hb,by rw[e];rfl⟩
theorem Jcx{fp:List Addr}{h:Heap}{p:Addr×Obj}(hp:p∈WD fp h):p.1∈fp/\h.get? p.1=some p.2:=by
 obtain⟨b,hb,e⟩:=List.mem_filterMap.mp hp
 cases q:h.get? b with
 | none=>rw[q] at e;cases e
 | some o=>rw[q] at e;have e':(b,o)=p:=Option.some.inj e;subst e';exact⟨hb,q⟩
theorem Inv.pinned{pins:List (Addr×Obj)}{σ:St}{H:Hp}{s:Shared}{fp:List Addr}(I:Inv X pins σ H s)(hf:∀b∈fp,FpOk X pins H b)(ho:∀b∈fp,∃o,s.heap.get? b=some o/\∀v,o.data≠.cell v):Inv X (pins++WD fp s.heap) σ H s :=
 I.pins_of fun p hp=>(List.mem_append.mp hp).elim (fun z=>I.pin p (List.mem_append_right _ z)) fun z=>by obtain⟨hb,e⟩:=Jcx z;obtain⟨f0,f1,f2,_⟩:=hf p.1 hb;obtain⟨o,e',d⟩:=ho p.1 hb;rw[e] at e';cases e';exact⟨e,f0,f1,f2,d⟩
theorem Inv.unpinned{pins pl:List (Addr×Obj)}{σ:St}{H:Hp}{s:Shared}(I:Inv X (pins++pl) σ H s):Inv X pins σ H s:=I.pins_of fun p hp=>I.pin p (List.mem_append_right _ (List.mem_append_left _ hp))
theorem WE{iter:Expr}{body:List Stmt}{wi:TI}{g:TG}{tb:TS}{pos:Pos}(hp:PassesOwn (model X.prog X.w) X.A X.env X.xe)(hc:X.calm=true)(hi:PI X tg iter wi)(hg:PG X tg g)(hb:PSs X body tb)
 (hs:∀x,foldedSetIterable iter X.env x=pure x:=by intro _;rfl):PS X (.For tg iter body [] pos) (Jir wi g tb):=by
 intro pins s σ H D I h;refine wpAny_For (thn (hi pins s σ H _ I h) fun v s1 h1=>thn h1 fun itv s2 h2=>?_) hs;obtain⟨it,fp,tn,J,H2,e,I2,T,st2,f2,W,⟨m0,w0⟩,turn⟩:=h2;subst e
 -- what stays true of the iterator's objects through the loop
 have stat:∀{H':Hp},(∀b∈fp,H' b=none)->∀b∈fp,FpOk X pins H' b:=fun hn b hb=>⟨hn b hb,(f2 b hb).2⟩
 refine codeAny_forLoop_any (fun n s'=>∃i σ' H',Inv X pins σ' H' s'/\tn i s'.heap/\(∀b∈fp,H' b=none)/\W i n σ' H') ?_ m0 ⟨0,σ,H2,I2,st2,fun b hb=>(f2 b hb).1,w0⟩;rintro n s3 ⟨i,σ3,H3,I3,st3,fr3,w3⟩;rcases turn i n σ3 H3 w3 with ⟨stop,qn⟩|⟨go,N,hN,step⟩
 ·refine wpAny_passesOwn hp (thn (T.done X rfl rfl rfl hc i pins s3 σ3 H3 X.xe I3 (stat fr3) st3 stop) fun r s4 ⟨hr,I4⟩=>?_);subst hr;exact wpAny_execs_nil ⟨σ3,H3,I4,qn⟩
 ·refine wpAny_passesOwn hp (thn (T.item X rfl rfl rfl hc i pins s3 σ3 H3 X.xe I3 (stat fr3) st3 go) fun r s4 ⟨u,hr,h4⟩=>?_);subst hr;refine wpAny_passesOwn hp (thn h4 fun _ s5 ⟨x,H5,I5,r5,y5,st5,fr5⟩=>?_);have I5':=I5.pinned (stat fr5) (T.obj _ _ st5);refine wpAny_passesOwn hp (thn (hg _ s5 σ3 H5 x u _ I5' r5 (step x H5 y5)) fun _ s6 ⟨σ6,H6,I6,q6⟩=>?_);refine wpAny_passesOwn hp (thn (hb _ s6 σ6 H6 _ I6 q6) fun f s7 q7=>?_)
  have again:∀{σ7:St} {H7:Hp},Inv X (pins++WD fp s5.heap) σ7 H7 s7->N σ7 H7->∃m,m<n/\∃i σ' H',Inv X pins σ' H' s7/\tn i s7.heap/\(∀b∈fp,H' b=none)/\W i m σ' H':=fun {σ7 H7} I7 n7=>by obtain⟨m',hm,w7⟩:=hN σ7 H7 n7;refine⟨m',hm,i+1,σ7,H7,I7.unpinned,T.keep _ _ _ st5 fun b hb o e=>(I7.pin (b,o) (List.mem_append_right _ (List.mem_append_right _ (U8 hb e)))).1,fun b hb=>?_,w7⟩;obtain⟨o,e,d⟩:=T.obj _ _ st5 b hb;exact(I7.pin (b,o) (List.mem_append_right _ (List.mem_append_right _ (U8 hb e)))).2.1
  cases f with
  | next=>obtain⟨σ7,H7,I7,n7⟩:=q7;exact again I7 n7
  | cont=>obtain⟨σ7,H7,I7,n7⟩:=q7;exact again I7 n7
  | brk=>obtain⟨σ7,H7,I7,q7⟩:=q7;exact⟨σ7,H7,I7.unpinned,q7⟩
  | ret v=>obtain⟨x7,σ7,H7,I7,r7,q7⟩:=q7;exact⟨x7,σ7,H7,I7.unpinned,r7,q7⟩
end

end L2

namespace L2
open PySem PySem.Spec PyProof.Rows

noncomputable abbrev R2:=V->V->Hp->VK->Prop
noncomputable def OpR(X:Cx)(f:Value->Value->Sem Value)(r:R2):Prop :=
 ∀(pins:List (Addr×Obj)) (s:Shared) (σ:St) (H:Hp) (x y:V) (v u:Value) (Q:VK),Inv X pins σ H s->RelV x v->RelV y u->r x y H Q ->
  wpAny (model X.prog X.w) X.A (f v u) (EP X pins σ Q) X.xe s
noncomputable def UnR(X:Cx)(f:Value->Sem Value)(r:V->Hp->VK->Prop):Prop :=
 ∀(pins:List (Addr×Obj)) (s:Shared) (σ:St) (H:Hp) (x:V) (v:Value) (Q:VK),Inv X pins σ H s->RelV x v->r x H Q ->
  wpAny (model X.prog X.w) X.A (f v) (EP X pins σ Q) X.xe s
noncomputable def CallR(X:Cx)(f:Value)(r:List V->Hp->VK->Prop):Prop :=
 ∀(pins:List (Addr×Obj)) (s:Shared) (σ:St) (H:Hp) (xs:List V) (us:List Value) (Q:VK),Inv X pins σ H s->Vals xs us->r xs H Q ->
  wpAny (model X.prog X.w) X.A (call f us) (EP X pins σ Q) X.xe s
noncomputable def JjS(X:Cx)(r:V->Hp->(Bool->Hp->Prop)->Prop):Prop :=
 ∀(pins:List (Addr×Obj)) (s:Shared) (σ:St) (H:Hp) (x:V) (v:Value) (Q:Bool->Hp->Prop),Inv X pins σ H s->RelV x v->r x H Q ->
  wpAny (model X.prog X.w) X.A (truthy v) (TP X pins σ Q) X.xe s

noncomputable def tOp(r:R2)(ta tb:TE):TE:=fun σ H Q=>ta σ H fun x H1=>tb σ H1 fun y H2=>r x y H2 Q
noncomputable def tUn(r:V->Hp->VK->Prop)(ta:TE):TE:=fun σ H Q=>ta σ H fun x H1=>r x H1 Q
noncomputable def rI(C:Int->Int->Prop)(g:Int->Int->V):R2:=fun x y H Q=>∃i j,x=.int i/\y=.int j/\C i j/\Q (g i j) H
noncomputable def rI0(g:Int->Int->V):R2:=fun x y H Q=>∃i j,x=.int i/\y=.int j/\Q (g i j) H
noncomputable def rU(g:Int->V):V->Hp->VK->Prop:=fun x H Q=>∃i,x=.int i/\Q (g i) H

section
variable{X:Cx}{a b c:Expr}{ta tb tc:TE}{pos:Pos}

theorem JgK(ha:PE X a ta)(hb:PE X b tb){pins:List (Addr×Obj)}{s:Shared}{σ:St}{H:Hp}{R:V->V->Hp->Prop}(I:Inv X pins σ H s)
 (h:ta σ H fun x H1=>tb σ H1 fun y H2=>R x y H2) {Q:Value->Shared->Prop} {f:Value->Value->Sem Value}
 (hf:∀v u s2 x y H2,Inv X pins σ H2 s2->RelV x v->RelV y u->R x y H2->wpAny (model X.prog X.w) X.A (f v u) Q X.xe s2) :
 wpAny (model X.prog X.w) X.A (eval a X.env) (fun v s₁=>wpAny (model X.prog X.w) X.A (eval b X.env) (fun u s₂=>wpAny (model X.prog X.w) X.A (f v u) Q X.xe s₂) X.xe s₁) X.xe s:=by
 refine thn (ha pins s σ H _ I h) fun v s1 ⟨x,H1,I1,r1,q1⟩=>?_
 refine thn (hb pins s1 σ H1 _ I1 q1) fun u s2 ⟨y,H2,I2,r2,q2⟩=>?_
 exact hf v u s2 x y H2 I2 r1 r2 q2

theorem Jk{op:Operator}{r:R2}(ho:OpR X (binaryOp op) r)(ha:PE X a ta)(hb:PE X b tb):PE X (.BinOp a op b pos) (tOp r ta tb):=by intro pins s σ H Q I h;exact wpAny_BinOp (JgK ha hb I h fun v u s2 x y H2 I2 rx ry q=>ho pins s2 σ H2 x y v u Q I2 rx ry q)
theorem Jgt{op:UnaryOp}{r:V->Hp->VK->Prop}(ho:UnR X (unaryOp op) r)(ha:PE X a ta):PE X (.UnaryOp op a pos) (tUn r ta):=by intro pins s σ H Q I h;exact UnaryOp_ (thn (ha pins s σ H _ I h) fun v s1 ⟨x,H1,I1,r1,q1⟩=>ho pins s1 σ H1 x v Q I1 r1 q1)
theorem opI{f:Value->Value->Sem Value}{C:Int->Int->Prop}{g:Int->Int->Int}
 (rule:∀(i j:Int) (t u:Tok) (s:Shared) (Q:Value->Shared->Prop) (E:Value->Shared->Prop),C i j->Q (.int (g i j) s.toks) { s with toks:=s.toks+1 }->wpAny (model X.prog X.w) X.A (f (.int i t) (.int j u)) Q E s) :
 OpR X f (rI C fun i j=>.int (g i j)):=by
 intro pins s σ H x y v u Q I rx ry h;obtain⟨i,j,rfl,rfl,hc,q⟩:=h;obtain⟨t,rfl⟩:=rx;obtain⟨t',rfl⟩:=ry;exact rule i j t t' s _ _ hc ⟨.int (g i j),H,I.tok _,⟨_,rfl⟩,q⟩
theorem Jjk{f:Value->Value->Sem Value}{g:Int->Int->Int}
 (rule:∀(i j:Int) (t u:Tok) (s:Shared) (Q:Value->Shared->Prop) (E:Value->Shared->Prop),Q (.int (g i j) s.toks) { s with toks:=s.toks+1 }->wpAny (model X.prog X.w) X.A (f (.int i t) (.int j u)) Q E s) :
 OpR X f (rI0 fun i j=>.int (g i j)):=by
 intro pins s σ H x y v u Q I rx ry h;obtain⟨i,j,rfl,rfl,q⟩:=h;obtain⟨t,rfl⟩:=rx;obtain⟨t',rfl⟩:=ry;exact rule i j t t' s _ _ ⟨.int (g i j),H,I.tok _,⟨_,rfl⟩,q⟩
theorem Jjj{f:Value->Value->Sem Value}{g:Int->Int->Bool}
 (rule:∀(i j:Int) (t u:Tok) (s:Shared) (Q:Value->Shared->Prop) (E:Value->Shared->Prop),Q (.bool (g i j)) s->wpAny (model X.prog X.w) X.A (f (.int i t) (.int j u)) Q E s) :
 OpR X f (rI0 fun i j=>.bl (g i j)):=by
 intro pins s σ H x y v u Q I rx ry h;obtain⟨i,j,rfl,rfl,q⟩:=h;obtain⟨t,rfl⟩:=rx;obtain⟨t',rfl⟩:=ry;exact rule i j t t' s _ _ ⟨.bl (g i j),H,I,rfl,q⟩

noncomputable def JiG(i j:Int):Prop:=0<j/\j<1073741824
noncomputable def JiH(i j:Int):Prop:=0<=j/\j<=1000000/\i.natAbs<2 ^ 64
noncomputable def CMul(i j:Int):Prop:=(-(2 ^ 64)<i/\i<2 ^ 64)\/(-(2 ^ 64)<j/\j<2 ^ 64)
theorem CMul.ok{i j:Int}(h:CMul i j):IntMulOk i j:=by
 rcases h with ⟨h1,h2⟩|⟨h1,h2⟩
 ·exact .of_left (intBits_le_64 h1 h2)
 ·exact .of_right (intBits_le_64 h1 h2)
theorem op_add:OpR X (binaryOp .Add) (rI0 fun i j=>.int (i+j)):=Jjk fun _ _ _ _ _ _ _ q=>add_int q
theorem Ue:OpR X (binaryOp .Sub) (rI0 fun i j=>.int (i-j)):=Jjk fun _ _ _ _ _ _ _ q=>sub_int q
theorem UO:OpR X (binaryOp .Mult) (rI CMul fun i j=>.int (i*j)):=opI fun _ _ _ _ _ _ _ hc q=>mul_int q hc.ok
theorem J2:OpR X (binaryOp .FloorDiv) (rI JiG fun i j=>.int (i / j)):=opI fun i j _ _ _ _ _ hc q=>by
 have h1:(0:Int)<j:=hc.1
 have h2:j<1073741824:=hc.2;exact floordiv_int (by omega) (by rw[Int.fdiv_eq_ediv_of_nonneg i (by omega)];exact q) (.inl (PyProof.noPylong_small (by omega)))
theorem JU:OpR X (binaryOp .Mod) (rI (fun _ j=>0<j) fun i j=>.int (i % j)):=opI fun i j _ _ _ _ _ hc q=>by have h1:(0:Int)<j:=hc;exact mod_int' (by omega) (by rw[Int.fmod_eq_emod_of_nonneg i (by omega)];exact q)
theorem Ux:OpR X (binaryOp .Pow) (rI JiH fun i j=>.int (i ^ j.toNat)):=opI fun _ _ _ _ _ _ _ hc q=>pow_int_small hc.1 hc.2.1 hc.2.2 q
theorem unI{f:Value->Sem Value}{g:Int->Int}
 (rule:∀(i:Int) (t:Tok) (s:Shared) (Q:Value->Shared->Prop) (E:Value->Shared->Prop),Q (.int (g i) s.toks) { s with toks:=s.toks+1 }->wpAny (model X.prog X.w) X.A (f (.int i t)) Q E s) :
 UnR X f (rU fun i=>.int (g i)):=by
 intro pins s σ H x v Q I rx h;obtain⟨i,rfl,q⟩:=h;obtain⟨t,rfl⟩:=rx;exact rule i t s _ _ ⟨.int (g i),H,I.tok _,⟨_,rfl⟩,q⟩
theorem Jek:UnR X (unaryOp .USub) (rU fun i=>.int (-i)):=unI fun _ _ _ _ _ q=>neg_int q
end

noncomputable def Jin:V->V->Bool
 | .non,.non=>true|.non,.int _=>true|.int _,.non=>true|.non,.bl _=>true|.bl _,.non=>true|.non,.str _=>true|.str _,.non=>true
 | .int _,.int _=>true|.bl _,.bl _=>true|.str _,.str _=>true|.byt _,.byt _=>true
 | .int _,.str _=>true|.str _,.int _=>true|.bl _,.str _=>true|.str _,.bl _=>true
 | _,_=>false
noncomputable def rEq:R2:=fun x y H Q=>Jin x y=true/\Q (.bl (decide (x=y))) H
noncomputable def rNe:R2:=fun x y H Q=>Jin x y=true/\Q (.bl (!decide (x=y))) H

theorem Jbp{i j:Int}:decide (V.int i=V.int j)=(i == j):=by rw[Bool.eq_iff_iff];simp
theorem Jc2{i j:Bool}:decide (V.bl i=V.bl j)=(i == j):=by rw[Bool.eq_iff_iff];simp
theorem Jbq{i j:Str}:decide (V.str i=V.str j)=(i == j):=by rw[Bool.eq_iff_iff];simp
theorem Jbo{i j:Array UInt8}:decide (V.byt i=V.byt j)=(i.toList == j.toList):=by rw[Bool.eq_iff_iff];cases i;cases j;simp

section
variable{X:Cx}{a b c:Expr}{ta tb tc:TE}{pos:Pos}
theorem JD{pins:List (Addr×Obj)}{σ:St}{H:Hp}{s:Shared}{Q:VK}{k k':Bool}(I:Inv X pins σ H s)(q:Q (.bl k) H)(e:k=k'):EP X pins σ Q (.bool k') s:=by subst e;exact⟨.bl k,H,I,rfl,q⟩
theorem op_eq:OpR X (compareOp .Eq) rEq:=by
 intro pins s σ H x y v u Q I rx ry h;obtain⟨hs,q⟩:=h
 cases x with
 | non =>
  cases rx
  cases y with
  | non=>cases ry;exact PySem.EqNone.eq_none_none (JD I q (by simp))
  | bl j=>cases ry;exact PySem.EqNone.eq_none_bool (JD I q (by simp))
  | int j=>obtain⟨t',rfl⟩:=ry;exact PySem.EqNone.eq_none_int (JD I q (by simp))
  | str j=>obtain⟨t',rfl⟩:=ry;exact PySem.EqNone.eq_none_str (JD I q (by simp))
  | _=>exact absurd (show false=true from hs) Bool.false_ne_true
 | bl i =>
  cases rx
  cases y with
  | non=>cases ry;exact PySem.EqNone.eq_bool_none (JD I q (by simp))
  | bl j=>cases ry;exact eq_bool (JD I q Jc2)
  | str j=>obtain⟨t',rfl⟩:=ry;exact PySem.EqMixed.eq_bool_str (JD I q (by simp))
  | _=>exact absurd (show false=true from hs) Bool.false_ne_true
 | int i =>
  obtain⟨t,rfl⟩:=rx
  cases y with
  | non=>cases ry;exact PySem.EqNone.eq_int_none (JD I q (by simp))
  | int j=>obtain⟨t',rfl⟩:=ry;exact eq_int (JD I q Jbp)
  | str j=>obtain⟨t',rfl⟩:=ry;exact PySem.EqMixed.eq_int_str (JD I q (by simp))
  | _=>exact absurd (show false=true from hs) Bool.false_ne_true
 | str i =>
  obtain⟨t,rfl⟩:=rx
  cases y with
  | non=>cases ry;exact PySem.EqNone.eq_str_none (JD I q (by simp))
  | bl j=>cases ry;exact PySem.EqMixed.eq_str_bool (JD I q (by simp))
  | int j=>obtain⟨t',rfl⟩:=ry;exact PySem.EqMixed.eq_str_int (JD I q (by simp))
  | str j=>obtain⟨t',rfl⟩:=ry;exact eq_str (JD I q Jbq)
  | _=>exact absurd (show false=true from hs) Bool.false_ne_true
 | byt i =>
  obtain⟨t,rfl⟩:=rx
  cases y with
  | byt j=>obtain⟨t',rfl⟩:=ry;exact PySem.W.eq_bytes (JD I q Jbo)
  | _=>exact absurd (show false=true from hs) Bool.false_ne_true
 | _=>cases y <;> exact absurd (show false=true from hs) Bool.false_ne_true
theorem op_ne:OpR X (compareOp .NotEq) rNe:=by
 intro pins s σ H x y v u Q I rx ry h;obtain⟨hs,q⟩:=h
 cases x with
 | non =>
  cases rx
  cases y with
  | non=>cases ry;exact PySem.EqNone.ne_none_none (JD I q (by simp))
  | bl j=>cases ry;exact PySem.EqNone.ne_none_bool (JD I q (by simp))
  | int j=>obtain⟨t',rfl⟩:=ry;exact PySem.EqNone.ne_none_int (JD I q (by simp))
  | str j=>obtain⟨t',rfl⟩:=ry;exact PySem.EqNone.ne_none_str (JD I q (by simp))
  | _=>exact absurd (show false=true from hs) Bool.false_ne_true
 | bl i =>
  cases rx
  cases y with
  | non=>cases ry;exact PySem.EqNone.ne_bool_none (JD I q (by simp))
  | bl j=>cases ry;exact ne_bool (JD I q (congrArg not Jc2))
  | str j=>obtain⟨t',rfl⟩:=ry;exact PySem.EqMixed.ne_bool_str (JD I q (by simp))
  | _=>exact absurd (show false=true from hs) Bool.false_ne_true
 | int i =>
  obtain⟨t,rfl⟩:=rx
  cases y with
  | non=>cases ry;exact PySem.EqNone.ne_int_none (JD I q (by simp))
  | int j=>obtain⟨t',rfl⟩:=ry;exact ne_int (JD I q (congrArg not Jbp))
  | str j=>obtain⟨t',rfl⟩:=ry;exact PySem.EqMixed.ne_int_str (JD I q (by simp))
  | _=>exact absurd (show false=true from hs) Bool.false_ne_true
 | str i =>
  obtain⟨t,rfl⟩:=rx
  cases y with
  | non=>cases ry;exact PySem.EqNone.ne_str_none (JD I q (by simp))
  | bl j=>cases ry;exact PySem.EqMixed.ne_str_bool (JD I q (by simp))
  | int j=>obtain⟨t',rfl⟩:=ry;exact PySem.EqMixed.ne_str_int (JD I q (by simp))
  | str j=>obtain⟨t',rfl⟩:=ry;exact ne_str (JD I q (congrArg not Jbq))
  | _=>exact absurd (show false=true from hs) Bool.false_ne_true
 | byt i =>
  obtain⟨t,rfl⟩:=rx
  cases y with
  | byt j=>obtain⟨t',rfl⟩:=ry;exact PySem.W.ne_bytes (JD I q (congrArg not Jbo))
  | _=>exact absurd (show false=true from hs) Bool.false_ne_true
 | _=>cases y <;> exact absurd (show false=true from hs) Bool.false_ne_true

theorem VV:OpR X (compareOp .Lt) (rI0 fun i j=>.bl (decide (i<j))):=Jjj fun _ _ _ _ _ _ _ q=>lt_int q
theorem VU:OpR X (compareOp .Gt) (rI0 fun i j=>.bl (decide (j<i))):=Jjj fun _ _ _ _ _ _ _ q=>gt_int q
theorem JhD:OpR X (compareOp .Is) (fun x y H Q=>y=.non/\Q (.bl (decide (x=.non))) H):=by
 intro pins s σ H x y v u Q I rx ry h;obtain⟨rfl,q⟩:=h;cases ry;refine is_none_gen (JD I q ?_);cases x <;> first
  | (cases rx;rfl)
  | (obtain⟨t,rfl⟩:=rx;rfl)
theorem Jfq:OpR X (compareOp .IsNot) (fun x y H Q=>y=.non/\Q (.bl (!decide (x=.non))) H):=by
 intro pins s σ H x y v u Q I rx ry h;obtain⟨rfl,q⟩:=h;cases ry;refine isnot_none_gen (JD I q ?_);cases x <;> first
  | (cases rx;rfl)
  | (obtain⟨t,rfl⟩:=rx;rfl)

theorem OpR.or{f:Value->Value->Sem Value}{r r':R2}(h:OpR X f r)(h':OpR X f r'):OpR X f (fun x y H Q=>r x y H Q\/r' x y H Q):=by
 intro pins s σ H x y v u Q I rx ry q;rcases q with q|q
 ·exact h pins s σ H x y v u Q I rx ry q
 ·exact h' pins s σ H x y v u Q I rx ry q

theorem Jx(b:Expr){op:CmpOp}(h:op≠.In:=by decide)(h2:op≠.NotIn:=by decide):behindInMarks op b=false:=by
 have e1:(op == CmpOp.In)=false:=by cases op <;> first|rfl|exact absurd rfl h
 have e2:(op == CmpOp.NotIn)=false:=by cases op <;> first|rfl|exact absurd rfl h2
 cases b <;> simp[behindInMarks,e1,e2]
theorem V4{op:CmpOp}{r:R2}(ho:OpR X (compareOp op) r)(ha:PE X a ta)(hb:PE X b tb)(hm:behindInMarks op b=false):PE X (.Compare a [op] [b] pos) (tOp r ta tb):=by intro pins s σ H Q I h;exact wpAny_Compare1 (JgK ha hb I h fun v u s2 x y H2 I2 rx ry q=>ho pins s2 σ H2 x y v u Q I2 rx ry q) hm
noncomputable def Jei(t:TE):TT:=fun σ H Q=>t σ H fun x H'=>∃k,x=.bl k/\Q k H'
theorem Ju{op:CmpOp}{r:R2}(ho:OpR X (compareOp op) r)(ha:PE X a ta)(hb:PE X b tb)(hm:behindInMarks op b=false):PT X (.Compare a [op] [b] pos) (Jei (tOp r ta tb)):=by
 intro pins s σ H Q I h;refine wpAny_isTrue_Compare1 (thn (ha pins s σ H _ I h) fun v s1 ⟨x,H1,I1,r1,q1⟩=>thn (hb pins s1 σ H1 _ I1 q1) fun u s2 ⟨y,H2,I2,r2,q2⟩=>thn (ho pins s2 σ H2 x y v u _ I2 r1 r2 q2) fun c s3 ⟨z,H3,I3,r3,k,e,q3⟩=>?_) hm
 subst e;cases r3;exact wpAny_truthy_bool ⟨H3,I3,q3⟩
noncomputable def Jiq(r r':R2)(ta tb tc:TE):TE:=fun σ H Q=>ta σ H fun x H1=>tb σ H1 fun y H2=>r x y H2 fun z H3=>∃k,z=.bl k ∧
 (if k=true then tc σ H3 fun w' H4=>r' y w' H4 Q else Q (.bl false) H3)
noncomputable def JbV(K:Frag)(x:V)(H:Hp)(k:Bool):Prop :=
 match x with
 | .non=>k=false
 | .bl b=>k=b
 | .int i=>k=(i != 0)
 | .str y=>y.length<=sizeLine/\k=((y.length:Int) != 0)
 | .byt y=>y.size<=sizeLine/\k=((y.size:Int) != 0)
 | .ref p=>(∃xs,SqL K H p xs/\k=!xs.isEmpty)\/(∃xs,SqT K H p xs/\k=!xs.isEmpty)\/∃kvs,H p=some (.dK kvs)/\k=!kvs.isEmpty
 | _=>False
theorem JaO{κ:Type}{kvs:List (κ×V)}{vs:List (κ×Value)}(r:KV kvs vs):(!vs.isEmpty)=!kvs.isEmpty:=by cases r <;> rfl
theorem Wo{xs:List V}{its:List Value}(r:Vals xs its):(!its.toArray.isEmpty)=!xs.isEmpty:=by cases r <;> simp
theorem VC:(sizeLine:Nat)<2 ^ 63:=by rw[sizeLine_eq];decide
theorem JiA:JjS X (fun x H Q=>∃k,JbV X.K x H k/\Q k H):=by
 intro pins s σ H x v Q I rx h;obtain⟨k,e,q⟩:=h;have hl:=VC;have hs:sizeLine=16777216:=sizeLine_eq
 cases x with
 | non=>cases rx;have e':k=false:=e;subst e';exact truthy_none ⟨H,I,q⟩
 | bl b=>cases rx;have e':k=b:=e;subst e';exact wpAny_truthy_bool ⟨H,I,q⟩
 | int i=>obtain⟨t,rfl⟩:=rx;have e':k=(i != 0):=e;subst e';exact PySem.P.truthy_int ⟨H,I,q⟩
 | str y=>obtain⟨t,rfl⟩:=rx;obtain⟨hy,e'⟩:y.length<=sizeLine/\k=((y.length:Int) != 0):=e;subst e';exact PySem.P.truthy_str (by omega) ⟨H,I.tok _,q⟩
 | byt y=>obtain⟨t,rfl⟩:=rx;obtain⟨hy,e'⟩:y.size<=sizeLine/\k=((y.size:Int) != 0):=e;subst e';exact PySem.W.truthy_bytes (by omega) ⟨H,I.tok _,q⟩
 | ref p =>
  cases rx;have e':(∃xs,SqL X.K H p xs/\k=!xs.isEmpty)\/(∃xs,SqT X.K H p xs/\k=!xs.isEmpty)\/∃kvs,H p=some (.dK kvs)/\k=!kvs.isEmpty:=e
  rcases e' with ⟨xs,hx,e'⟩|⟨xs,hx,e'⟩|⟨kvs,hx,e'⟩
  ·subst e';obtain⟨its,r,pl,hz⟩:=I.list hx;have hlen:=r.length;exact wpAny_truthy_list pl.isList (by simp only[List.size_toArray];omega) ⟨H,I.tok _,by rw[Wo r];exact q⟩
  ·subst e';obtain⟨its,r,pl,hz⟩:=I.tuple hx;have hlen:=r.length;exact truthy_tuple pl (by simp only[List.size_toArray];omega) ⟨H,I.tok _,by rw[Wo r];exact q⟩
  ·subst e';obtain⟨hz,hS,vs,r,m⟩:kvs.length<=sizeLine/\(p == sysModules)=false/\∃vs,KV kvs vs/\s.heap.DictOf (Yl X.prog X.w) p vs:=I.hok p _ hx
   have hlen:kvs.length=vs.length:=Paired.length r;exact wpAny_truthy_dict hS m (by omega) ⟨H,I.tok _,by rw[JaO r];exact q⟩
 | _=>exact(show False from e).elim
theorem JdQ(ha:PE X a ta)(he:∀whole,isTrue a X.env whole=(do let v <- whole;standAt a.pos;holding [v] (truthy v))) :
 PT X a (fun σ H Q=>ta σ H fun x H'=>∃k,JbV X.K x H' k/\Q k H'):=by
 intro pins s σ H Q I h;exact isTrue_plain (thn (ha pins s σ H _ I h) fun v s1 ⟨x,H1,I1,r1,q1⟩=>JiA pins s1 σ H1 x v Q I1 r1 q1) (he _)

theorem op_add_str:OpR X (binaryOp .Add) (fun x y H Q=>∃i j,x=.str i/\y=.str j/\i.length+j.length<=sizeLine/\Q (.str (i++j)) H):=by intro pins s σ H x y v u Q I rx ry h;obtain⟨i,j,rfl,rfl,hz,q⟩:=h;obtain⟨t,rfl⟩:=rx;obtain⟨t',rfl⟩:=ry;exact add_str (fun t' tk=>⟨.str (i++j),H,I.tok _,⟨_,rfl⟩,q⟩) hz
theorem Zn{x:V}{us:List Value}(r:Vals [x] us):∃u,us=[u]/\RelV x u:=by
 cases r with
 | cons r1 r2=>cases r2;exact⟨_,rfl,r1⟩
theorem Jel{x y:V}{us:List Value}(r:Vals [x,y] us):∃u w',us=[u,w']/\RelV x u/\RelV y w':=by
 cases r with
 | cons r1 r2 =>
  cases r2 with
  | cons r3 r4=>cases r4;exact⟨_,_,rfl,r1,r3⟩
theorem Jb4(hc:X.calm=true):CallR X (.builtin "min") (fun xs H Q=>∃i j,xs=[.int i,.int j]/\Q (.int (if j<i then j else i)) H):=by
 intro pins s σ H xs us Q I r h;obtain⟨i,j,rfl,q⟩:=h;obtain⟨u,w',rfl,⟨t,rfl⟩,⟨t',rfl⟩⟩:=Jel r;refine min_two_ints (I.ok.hd hc) fun h' tk k=>⟨_,H,I.kept k,?_,q⟩
 by_cases hj:j<i
 ·rw[if_pos hj,if_pos hj];exact⟨_,rfl⟩
 ·rw[if_neg hj,if_neg hj];exact⟨_,rfl⟩
theorem Zw:CallR X (.type "str") (fun xs H Q=>∃i,xs=[.int i]/\i.natAbs.log2<1920/\Q (.str (toString i)) H):=by intro pins s σ H xs us Q I r h;obtain⟨i,rfl,hz,q⟩:=h;obtain⟨u,rfl,t,rfl⟩:=Zn r;exact PySem.P.str_of_int hz ⟨.str _,H,I.tok _,⟨_,rfl⟩,q⟩
noncomputable def JiJ(K:Frag)(x:V)(H:Hp)(n:Nat):Prop :=
 match x with
 | .str y=>y.length<=sizeLine/\n=y.length
 | .byt y=>y.size<=sizeLine/\n=y.size
 | .ref p=>(∃xs,SqL K H p xs/\n=xs.length)\/∃xs,SqT K H p xs/\n=xs.length
 | _=>False
theorem JcV:CallR X (.builtin "len") (fun xs H Q=>∃x n,xs=[x]/\JiJ X.K x H n/\Q (.int n) H):=by
 intro pins s σ H xs us Q I r h;obtain⟨x,n,rfl,e,q⟩:=h;obtain⟨u,rfl,rx⟩:=Zn r;have hl:=VC;have hs:sizeLine=16777216:=sizeLine_eq
 cases x with
 | str y=>obtain⟨t,rfl⟩:=rx;obtain⟨hy,e'⟩:y.length<=sizeLine/\n=y.length:=e;subst e';exact len_str (by omega) ⟨.int _,H,I.tok _,⟨_,rfl⟩,q⟩
 | byt y=>obtain⟨t,rfl⟩:=rx;obtain⟨hy,e'⟩:y.size<=sizeLine/\n=y.size:=e;subst e';exact PySem.W.len_bytes (by omega) ⟨.int _,H,I.tok _,⟨_,rfl⟩,q⟩
 | ref p =>
  cases rx;have e':(∃xs,SqL X.K H p xs/\n=xs.length)\/∃xs,SqT X.K H p xs/\n=xs.length:=e
  rcases e' with ⟨xs,hx,e'⟩|⟨xs,hx,e'⟩
  ·subst e';obtain⟨its,r',pl,hz⟩:=I.list hx;have hlen:=r'.length;exact Calls.call_len_list pl.isList (by simp only[List.size_toArray];omega) ⟨.int xs.length,H,I.tok _,⟨_,by simp only[List.size_toArray];rw[hlen]⟩,q⟩
  ·subst e';obtain⟨its,r',pl,hz⟩:=I.tuple hx;have hlen:=r'.length;exact len_tuple pl (by simp only[List.size_toArray];omega) ⟨.int xs.length,H,I.tok _,⟨_,by simp only[List.size_toArray];rw[hlen]⟩,q⟩
 | _=>exact(show False from e).elim
end
end L2

namespace L2
open PySem PySem.Spec PyProof.Rows

structure ObjM (h:Heap) (x dx C:Addr) (mA:Str->Option Value):Prop where
 obj:h.get? x=some (instObj C dx)
 ns:h.Ns1 dx mA
 ne:dx≠x

theorem Jcs{h:Heap}{dx:Addr}{mA:Str->Option Value}(n:h.Ns1 dx mA):∃od,h.get? dx=some od/\∀name,lookIn name od=some (mA name):=by
 obtain⟨o,es,ep,ho,hd,hk,_,hm⟩:=n;refine⟨o,ho,fun name=>?_⟩;have e:=hm name;unfold nsFind findBy at e;rw[<- Array.find?_toList] at e;unfold lookIn;rw[hd];dsimp only;split
 ·rename_i y q;rw[q] at e;exact congrArg some e
 ·rename_i q;rw[q] at e
  have a:es.toList.any (·.refKey)=false:=by rw[List.any_eq_false];intro y hy;obtain⟨z,t,hkey⟩:=hk y (Array.mem_toList_iff.mp hy);simp[DictEntry.refKey,hkey]
  have a':¬es.toList.any (·.refKey)=true:=by rw[a];exact Bool.false_ne_true
  rw[if_neg a'];exact congrArg some e

theorem ObjM.look{h:Heap}{x dx C:Addr}{mA:Str->Option Value}(I:ObjM h x dx C mA):∃od,InstAt h x (instObj C dx) C (some od)/\∀name,lookIn name od=some (mA name) :=
 let ⟨od,ho,hl⟩:=Jcs I.ns
 ⟨od,⟨I.obj,rfl,rfl,ho⟩,hl⟩

section
variable{prog:Program}{w:World}{A:Around}{E:Value->Shared->Prop}{s:Shared}{K:Frag}{x dx C f:Addr}{mA:Str->Option Value}{name:Str}{v:Value}

end

noncomputable def putF(f:Str)(v:V):List (Str×V)->List (Str×V)
 | []=>[(f,v)]
 | (g,x)::r=>if g=f then(g,v)::r else(g,x)::putF f v r
theorem RelO.some_of{v:V}{o:Option Value}(r:RelO (some v) o):∃u,o=some u/\RelV v u:=by
 cases o with
 | none=>exact(show False from r).elim
 | some u=>exact⟨u,rfl,r⟩
section
variable{P:Program}{w:World}{H H':Hp}{h h':Heap}{a C dx:Addr}{fs fs':List (Str×V)}
theorem Jfa(hok:HOk P w H h)(e:H a=some (.ins C dx fs)):∃mA,ObjM h a dx C mA/\(∀f,RelO (fs.lookup f) (mA f))/\PySem.Within mA (fs.map (·.1))/\fs.length<=1000/\H dx=some (.own a):=by
 obtain⟨d,z,ne,ob,mA,n,r,q⟩:=(show ObjOk P w H h a (.ins C dx fs) from hok a _ e)
 exact⟨mA,⟨ob,n,ne⟩,r,q,z,d⟩
end

structure Cls (K:Frag) (C:Addr):Prop where
 pg:PySem.W.plainGet K C Str.empty=true
 hd:hasDictIn K C=true
 po:PySem.W.plainOver K C=true
 sa:findIn K (.ref C) "__setattr__"=some (some (.builtin "object.__setattr__"))
theorem Cls.get{K:Frag}{C:Addr}(c:Cls K C)(f:Str):PySem.W.plainGet K C f=true:=c.pg
noncomputable def V8(K:Frag)(C:Addr)(f:Str):Prop:=findIn K (.ref C) f=some none
structure Con (K:Frag) (C:Addr) (f:Str) (v:V) (u:Value):Prop where
 at_:findIn K (.ref C) f=some (some u)
 rel:RelV v u
 get:specialIn K u "__get__"=some none
 cp:PySem.W.copiedNames.contains f=false
structure Meth (K:Frag) (C:Addr) (m:Str) (f:Addr):Prop where
 at_:findIn K (.ref C) m=some (some (.ref f))
 fn:PySem.W.isFn K (.ref f)=true
 kp:keepIn K (.ref f)=true

section
variable{X:Cx}{pins:List (Addr×Obj)}{σ:St}{H:Hp}{s:Shared}{a C dx:Addr}{fs:List (Str×V)}{f:Str}{v:V}{A:Around}{E:Value->Shared->Prop}

theorem Inv.made(I:Inv X pins σ H s):Inv X pins σ (upd (upd H s.heap.objs.size (.own (s.heap.objs.size+1))) (s.heap.objs.size+1) (.ins C s.heap.objs.size []))
 { s with heap:=(s.heap.push emptyDict).push (instObj C s.heap.objs.size) }:=by
 have e1:(s.heap.push emptyDict).get? s.heap.objs.size=some emptyDict:=Heap.get?_push_size s.heap rfl
 have e2:((s.heap.push emptyDict).push (instObj C s.heap.objs.size)).get? (s.heap.objs.size+1)=some (instObj C s.heap.objs.size):=by
  have:=Heap.get?_push_size (s.heap.push emptyDict) (o:=instObj C s.heap.objs.size) rfl
  rwa [Heap.size_push] at this
 have e3:(s.heap.push emptyDict).Ns s.heap.objs.size (fun _=>none):=⟨emptyDict,#[],_,e1,rfl,(fun e he=>absurd he (by simp)),fun _=>rfl⟩
 have I1:=I.laid (a:=s.heap.objs.size) (o:=.own (s.heap.objs.size+1)) (h':=s.heap.push emptyDict) (t':=s.toks) (fun b u q=>Heap.get?_push_of_some _ q) (Nat.le_refl _) ⟨_,e1⟩;refine I1.laid (a:=s.heap.objs.size+1) (o:=.ins C s.heap.objs.size []) (t':=s.toks) (fun b u q=>Heap.get?_push_of_some _ q) (Nat.le_of_eq (Heap.size_push _ _)) ?_
 have ne:s.heap.objs.size≠s.heap.objs.size+1:=Nat.ne_of_lt (Nat.lt_succ_self _);refine⟨by rw[Jo ne,JR],Nat.zero_le _,ne,e2,fun _=>none,(Heap.Ns1.of_empty e3).at fun o q=>Heap.get?_push_of_some _ q,fun _=>True.intro,fun y hy=>absurd rfl hy⟩

end

noncomputable def Jkc(K:Frag)(ta:TE)(f:Str):TE:=fun σ H Q=>ta σ H fun x H1=>∃a C dx fs v,x=.ref a/\H1 a=some (.ins C dx fs)/\Cls K C/\V8 K C f/\fs.lookup f=some v/\Q v H1
noncomputable def Jka(K:Frag)(ta tv:TE)(f:Str):TS:=fun D σ H=>tv σ H fun y H1=>ta σ H1 fun x H2=>∃a C dx fs,x=.ref a/\H2 a=some (.ins C dx fs)/\Cls K C/\V8 K C f/\fs.length<1000 ∧
 D.nx σ (upd H2 a (.ins C dx (putF f y fs)))
section
variable{X:Cx}{o e value:Expr}{f:Str}{pos pos' tpos:Pos}{ta tv:TE}
end

section
variable{X:Cx}{pins:List (Addr×Obj)}{σ:St}{H:Hp}{s:Shared}{A:Around}{E:Value->Shared->Prop}{Q:Value->Shared->Prop}{c:Value}{b:Bool}
inductive TyOf (K:Frag) (H:Hp):V->Value->Prop where
 | non:TyOf K H .non (.type "NoneType")
 | bl (x:Bool):TyOf K H (.bl x) (.type "bool")
 | int (i:Int):TyOf K H (.int i) (.type "int")
 | str (x:Str):TyOf K H (.str x) (.type "str")
 | flt (x:UInt64):TyOf K H (.flt x) (.type "float")
 | lst {a:Addr} {xs:List V} (e:H a=some (.lst xs)):TyOf K H (.ref a) (.type "list")
 | frz {a:Addr} {o:Obj} {xs:List V} (e:H a=some (.frz o (.lst xs))):TyOf K H (.ref a) (.type "list")
 | tup {a:Addr} {xs:List V} (e:H a=some (.tup xs)):TyOf K H (.ref a) (.type "tuple")
 | dK {a:Addr} {kvs:List (Key×V)} (e:H a=some (.dK kvs)):TyOf K H (.ref a) (.type "dict")
 | dT {a:Addr} {kvs:List (List Key×V)} (e:H a=some (.dT kvs)):TyOf K H (.ref a) (.type "dict")
 | ins {a C dx:Addr} {fs:List (Str×V)} (e:H a=some (.ins C dx fs)) (cl:Cls K C) (ha:findIn K (.ref C) "__class__"=some (some (.builtin "object.__class__")))
  (hn:specialIn K (.builtin "object.__class__") "__get__"=some (some (.builtin "getset_descriptor.__get__"))) (htk:takesIn K (.builtin "object.__class__")=some true)
  (hm:mroIn K C (.type "object")=some true):TyOf K H (.ref a) (.ref C)
theorem Jco{x:V}{u t:Value}(I:Inv X pins σ H s)(rx:RelV x u)(ty:TyOf X.K H x t)(e:kitOne X.K t c=some b)(h:∀tk,Q (.bool b) { s with toks:=tk }) :
 wpAny (model X.prog X.w) A (call (.builtin "isinstance") [u,c]) Q E s:=by
 cases ty with
 | non=>cases (show u=Value.none from rx);exact kia_one PySem.W.kitx_none I.kIn True.intro e (fun z=>nomatch z) h
 | bl y=>cases (show u=Value.bool y from rx);exact kia_one PySem.W.kitx_bool I.kIn True.intro e (fun z=>nomatch z) h
 | int i=>obtain⟨t,q⟩:=(show ∃t,u=Value.int i t from rx);cases q;exact kia_one PySem.W.kitx_int I.kIn True.intro e (fun z=>nomatch z) h
 | str y=>obtain⟨t,q⟩:=(show ∃t,u=Value.str y t from rx);cases q;exact kia_one PySem.W.kitx_str I.kIn True.intro e (fun z=>nomatch z) h
 | flt y=>obtain⟨t,q⟩:=(show ∃t,u=Value.float y t from rx);cases q;exact kia_one PySem.W.kitx_float I.kIn True.intro e (fun z=>nomatch z) h
 | @lst a xs ea =>
  cases (show u=Value.ref a from rx);obtain⟨_,_,n,_,h1⟩:=(show ObjOk X.prog X.w H s.heap a (.lst xs) from I.hok a _ ea)
  exact kia_one kitx_list I.kIn ⟨_,h1,rfl⟩ e (fun z=>nomatch z) h
 | @frz a ob xs ea =>
  cases (show u=Value.ref a from rx);obtain⟨_,_,_,n,_,h1⟩:=(show ObjOk X.prog X.w H s.heap a (.frz ob (.lst xs)) from I.hok a _ ea)
  exact kia_one kitx_list I.kIn ⟨_,h1,rfl⟩ e (fun z=>nomatch z) h
 | @tup a xs ea =>
  cases (show u=Value.ref a from rx);obtain⟨_,_,_,p⟩:=(show ObjOk X.prog X.w H s.heap a (.tup xs) from I.hok a _ ea)
  obtain⟨o,h1,h2,_⟩:=p;exact kia_one PySem.W.kitx_tuple I.kIn ⟨o,h1,h2⟩ e (fun z=>nomatch z) h
 | @dK a kvs ea =>
  cases (show u=Value.ref a from rx);obtain⟨_,_,vs,_,p⟩:=(show ObjOk X.prog X.w H s.heap a (.dK kvs) from I.hok a _ ea)
  obtain⟨o,es,ep,h1,h2,_⟩:=p;exact kia_one PySem.W.kitx_dict I.kIn ⟨o,h1,h2.1⟩ e (fun z=>nomatch z) h
 | @dT a kvs ea =>
  cases (show u=Value.ref a from rx);obtain⟨_,_,xs,_,o,es,ep,h1,h2,_⟩:=(show ObjOk X.prog X.w H s.heap a (.dT kvs) from I.hok a _ ea)
  exact kia_one PySem.W.kitx_dict I.kIn ⟨o,h1,h2.1⟩ e (fun z=>nomatch z) h
 | @ins a C dx fs ea cl ha hn htk hm=>cases (show u=Value.ref a from rx);obtain⟨mA,O,_⟩:=Jfa I.hok ea;obtain⟨od,J,_⟩:=O.look;exact kia_one (PySem.W.kitx_own (cl.get _) cl.hd ha hn htk hm) I.kIn J e (fun z=>nomatch z) h
end
end L2

namespace L2
open PySem PySem.Spec PyProof.Rows

structure Room (k:Nat) (A:Around):Prop where
 hd:A.handled=none
 dp:A.depth+3*k+5<recursionLimit
 un:A.units+16*k+200<cLine
theorem Room.mono{j k:Nat}{A:Around}(r:Room k A)(h:j<=k):Room j A:=⟨r.hd,by have:=r.dp;omega,by have:=r.un;omega⟩
theorem Room.deeper{k:Nat}{A:Around}(r:Room (k+1) A)(env:Env):Room k (A.deeper env) :=
 ⟨r.hd,by have:=r.dp;show A.depth+1+3*k+5<_;omega,by have:=r.un;show A.units+3+16*k+200<_;omega⟩
theorem Room.in1{k:Nat}{A:Around}(r:Room (k+1) A):Room k A.in1 :=
 ⟨r.hd,by have:=r.dp;show A.depth+3*k+5<_;omega,by have:=r.un;show A.units+1+16*k+200<_;omega⟩
theorem Room.depth{k:Nat}{A:Around}(r:Room k A):A.depth<recursionLimit:=by have:=r.dp;omega
theorem Room.units{k:Nat}{A:Around}(r:Room k A):A.units+64<cLine:=by have:=r.un;omega
noncomputable def V3:TA:=fun _ H Q=>Q [] H
noncomputable def Y4(ta:TE)(tr:TA):TA:=fun σ H Q=>ta σ H fun x H1=>tr σ H1 fun xs H2=>Q (x::xs) H2
section
variable{X:Cx}{e:Expr}{es:List Expr}{te:TE}{t:TA}{pos:Pos}
theorem Jg:PA X [] V3:=fun _ _ _ _ H Q I h=>Calls.spliced_nil ⟨[],H,I,.nil,h⟩
theorem Ja(ha:PE X e te)(hr:PA X es t)(hs:starEach (e::es) X.env=(false,eval e X.env)::starEach es X.env:=by rfl):PA X (e::es) (Y4 te t):=by intro pos pins s σ H Q I h;rw[hs];show wpAny _ _ (spliced ((false,eval e X.env)::backTo pos (starEach es X.env))) _ _ s;refine Calls.spliced_cons (thn (ha pins s σ H _ I h) fun u s1 ⟨x,H1,I1,r1,q1⟩=>?_);exact thn (hr pos pins s1 σ H1 _ I1 q1) fun us s2 ⟨xs,H2,I2,r2,q2⟩=>⟨x::xs,H2,I2,.cons r1 r2,q2⟩

noncomputable def Jf6(t:TA):TE:=fun σ H Q=>t σ H fun xs H1=>xs.length<=sizeLine/\∀p,H1 p=none->Q (.ref p) (upd H1 p (.tup xs))
noncomputable def Jis(t:TA):TE:=fun σ H Q=>t σ H fun xs H1=>xs.length<=sizeLine/\∀p,H1 p=none->Q (.ref p) (upd H1 p (.lst xs))
theorem YY{x1}(h:PA X es t):PE X (.Tuple es x1 pos) (Jf6 t):=by intro pins s σ H Q I hq;refine wpAny_Tuple_spliced (thn (h pos pins s σ H _ I hq) fun us s1 ⟨xs,H1,I1,r,z,q⟩=>⟨by rw[<- r.length];exact z,?_⟩);have hf:H1 s1.heap.objs.size=none:=I1.hok.fresh (Nat.le_refl _);refine⟨.ref s1.heap.objs.size,upd H1 s1.heap.objs.size (.tup xs),I1.laid (t':=s1.toks) (fun b u e=>Heap.get?_push_of_some _ e) (Nat.le_refl _) ?_,rfl,q _ hf⟩;exact⟨z,us,r,⟨_,Heap.get?_push_size _ rfl,rfl,_,rfl⟩⟩
theorem YX(h:PA X es t):PE X (.List es pos) (Jis t):=by intro pins s σ H Q I hq;refine wpAny_List_spliced (thn (h pos pins s σ H _ I hq) fun us s1 ⟨xs,H1,I1,r,z,q⟩=>⟨by rw[<- r.length];exact z,?_⟩);have hf:H1 s1.heap.objs.size=none:=I1.hok.fresh (Nat.le_refl _);refine⟨.ref s1.heap.objs.size,upd H1 s1.heap.objs.size (.lst xs),I1.laid (t':=s1.toks) (fun b u e=>Heap.get?_push_of_some _ e) (Nat.le_refl _) ?_,rfl,q _ hf⟩;exact⟨z,us,0,r,Heap.get?_push_size _ rfl⟩
end

noncomputable abbrev Sp:=List V->Hp->VK->XK->Prop
noncomputable abbrev CXT:=List Env->Hp->Shared->XK->Value->Shared->Prop

structure Env0 (P:Program) (w:World) (K:Frag) (mg:Str->Option Value) (base:Heap) (A:Around) (outer:List Env) (s:Shared) (H:Hp):Prop where
 frames:A.frames=some outer
 mod:Mod K mg base
 bs:∀b o,base.get? b=some o->s.heap.get? b=some o/\H b=none
 bsz:base.objs.size<=s.heap.objs.size
 funs:s.heap.FunFrames base outer
 frf:∀b∈frs outer,H b=none
 hok:HOk P w H s.heap
 bare:AllBare s.gens
noncomputable def CE(outer:List Env)(P:Program)(w:World)(H:Hp)(s:Shared)(Q:VK)(u:Value)(s':Shared):Prop :=
 ∃v H',s'.os=s.os/\AllBare s'.gens/\Un (frs outer) [] H H' s.heap s'.heap/\HOk P w H' s'.heap/\RelV v u/\Q v H'
noncomputable def CR(CX:CXT)(outer:List Env)(P:Program)(w:World)(H:Hp)(s:Shared)(Q:VK)(E:XK)(r:Result)(s':Shared):Prop :=
 match r with
 | .ok (.ret u)=>CE outer P w H s Q u s'
 | .ok _=>False
 | .error e=>CX outer H s E e s'
structure FnOk (P:Program) (w:World) (K:Frag) (mg:Str->Option Value) (base:Heap) (CX:CXT) (k:Nat) (f:Addr) (fd:FuncData) (ps:List Str) (sp:Sp):Prop where
 len:∀vs H Q E,sp vs H Q E->vs.length=ps.length
 run:∀(A:Around) (outer:List Env) (s:Shared) (H:Hp) (args:Args) (us:List Value) (vs:List V) (Q:VK) (E:XK),Room k A->Env0 P w K mg base A outer s H->BindsTo s fd args (ps.zip us)->Vals vs us->sp vs H Q E ->
  codeAny (model P w) A (.call (.ref f) args) (CR CX outer P w H s Q E) s
theorem FnOk.mono{P:Program}{w:World}{K:Frag}{mg:Str->Option Value}{base:Heap}{CX:CXT}{j k:Nat}{f:Addr}{fd:FuncData}{ps:List Str}{sp:Sp}(F:FnOk P w K mg base CX j f fd ps sp)(h:j<=k) :
 FnOk P w K mg base CX k f fd ps sp:=⟨F.len,fun A outer s H args us vs Q E hr=>F.run A outer s H args us vs Q E (hr.mono h)⟩
theorem FnOk.imp{P:Program}{w:World}{K:Frag}{mg:Str->Option Value}{base:Heap}{CX:CXT}{k:Nat}{f:Addr}{fd:FuncData}{ps:List Str}{sp sp':Sp}(F:FnOk P w K mg base CX k f fd ps sp)
 (h:∀vs H Q E,sp' vs H Q E->sp vs H Q E):FnOk P w K mg base CX k f fd ps sp' :=
 ⟨fun vs H Q E q=>F.len vs H Q E (h _ _ _ _ q),fun A outer s H args us vs Q E hr he hb hv hs=>F.run A outer s H args us vs Q E hr he hb hv (h _ _ _ _ hs)⟩

theorem Env0.in1{P:Program}{w:World}{K:Frag}{mg:Str->Option Value}{base:Heap}{A:Around}{outer:List Env}{s:Shared}{H:Hp}(e:Env0 P w K mg base A outer s H) :
 Env0 P w K mg base A.in1 outer s H:=⟨e.frames,e.mod,e.bs,e.bsz,e.funs,e.frf,e.hok,e.bare⟩

section
variable{X:Cx}{pins:List (Addr×Obj)}{σ:St}{H:Hp}{s s':Shared}
theorem Inv.env0(I:Inv X pins σ H s):Env0 X.prog X.w X.K X.mg X.base X.A X.stack s H :=
 ⟨I.ok.frames,I.ok.mod,I.bs,Nat.le_trans I.ok.bsz I.sz,I.stack,I.stkFree,I.hok,I.bare⟩
theorem Inv.after{Q:VK}{u:Value}(I:Inv X pins σ H s)(h:CE X.stack X.prog X.w H s Q u s'):EP X pins σ Q u s':=by obtain⟨v,H',os,bare,un,hok,r,q⟩:=h;obtain⟨hh,g,d,t,os'⟩:=s';obtain rfl:os'=s.os:=os;exact⟨v,H',I.call (h':=hh) (g':=g) (d':=d) (t':=t) (ch:=[]) un hok bare (fun b z=>absurd z (by simp)),r,q⟩
end

noncomputable def Vr(sp:Sp)(dvs:List V)(E:XK)(t:TA):TE:=fun σ H Q=>t σ H fun vs H1=>sp (vs++dvs) H1 Q E
noncomputable def JjN(C:Addr)(sp:Sp)(dvs:List V)(E:XK)(t:TA):TE:=fun σ H Q=>t σ H fun vs H1=>∀x dx,H1 x=none->H1 dx=none->dx≠x ->
 sp (.ref x::(vs++dvs)) (upd (upd H1 dx (.own x)) x (.ins C dx [])) (fun v H2=>v=.non/\Q (.ref x) H2) E

noncomputable def Binds(K:Frag)(fd:FuncData)(ps:List Str)(ds:List Value):Prop :=
 ∀(s:Shared) (us:List Value),K.In s.heap->(us++ds).length=ps.length->BindsTo s fd ⟨us,[]⟩ (ps.zip (us++ds))
theorem Binds.all{K:Frag}{fd:FuncData}{ps:List Str}(h:∀us:List Value,us.length=ps.length->bindArgs fd ⟨us,[]⟩=pure (ps.zip us)):Binds K fd ps []:=fun s us _ hl=>by rw[List.append_nil] at hl ⊢;exact .of_eq (h us hl)

noncomputable def Vw(CX:CXT)(X:Cx)(E:XK):Prop:=∀(pins:List (Addr×Obj)) (σ:St) (H:Hp) (s:Shared) (e:Value) (s':Shared),Inv X pins σ H s->CX X.stack H s E e s'->X.xe e s'

section
variable{X:Cx}{CX:CXT}{k:Nat}{f C:Addr}{fd:FuncData}{ps:List Str}{sp:Sp}{dvs:List V}{ds:List Value}{E:XK}{x m:Str}{p pos apos:Pos}{e o:Expr}{es:List Expr}{ta:TE}{t:TA}

theorem Jik{pins:List (Addr×Obj)}{σ:St}{H:Hp}{s:Shared}{Q:VK}{us:List Value}{vs:List V}(F:FnOk X.prog X.w X.K X.mg X.base CX k f fd ps sp)(hr:Room k X.A)(hb:Binds X.K fd ps ds)(hd:Vals dvs ds)(hx:Vw CX X E)
 (I:Inv X pins σ H s) (r:Vals vs us) (h:sp (vs++dvs) H Q E):wpAny (model X.prog X.w) X.A (call (.ref f) us) (EP X pins σ Q) X.xe s:=by
 have r2:Vals (vs++dvs) (us++ds):=r.append hd
 have hl:(us++ds).length=ps.length:=by rw[<- r2.length];exact F.len _ _ _ _ h
 refine wpAny_call (codeAny_mono (F.run X.A X.stack s H ⟨us,[]⟩ (us++ds) (vs++dvs) Q E hr I.env0 (hb s us I.kIn hl) r2 h) fun r s' hq=>?_)
 cases r with
 | error e=>exact hx pins σ H s e s' I hq
 | ok fl =>
  cases fl with
  | ret u=>exact I.after hq
  | next=>exact False.elim hq
  | brk=>exact False.elim hq
  | cont=>exact False.elim hq

theorem JbE(F:FnOk X.prog X.w X.K X.mg X.base CX k f fd ps sp)(hr:Room k X.A)(hg:Gl X x)(hm:X.mg x=some (.ref f))(hk:keepIn X.K (.ref f)=true)(hb:Binds X.K fd ps ds)(hd:Vals dvs ds)(hx:Vw CX X E)
 (ha:PA X (e::es) t) (hdb:(x == ("__debug__":Str))=false:=by decide) (he:starEach (e::es) X.env=(false,eval e X.env)::starEach es X.env:=by rfl) (hpl:(backTo pos (starEach es X.env)).any (·.1)=false:=by rfl) :
 PE X (.Call (.Name x p) (e::es) [] pos) (Vr sp dvs E t):=by
 intro pins s σ H Q I h;refine wpAny_Call_Name_kw (UW I hg hm ?_ hdb);refine callWith_K (h₀:=X.base) I.ok.mod.kin hk (thn (ha pos pins s σ H _ I h) fun us s1 ⟨vs,H1,I1,r,q⟩=>⟨I1.kIn,?_⟩) he hpl;exact Jik F hr hb hd hx I1 r q
structure Mk (K:Frag) (C f:Addr):Prop where
 makes:PySem.W.makesIn K C=true
 init:findIn K (.ref C) "__init__"=some (some (.ref f))
 fn:PySem.W.isFn K (.ref f)=true
 kp:keepIn K (.ref C)=true

end

section
variable{X:Cx}{CX:CXT}{k:Nat}{f C:Addr}{fd:FuncData}{ps ks:List Str}{sp:Sp}{E:XK}{x m:Str}{p pos apos kpos:Pos}{e o:Expr}{es:List Expr}{kws:List Keyword}{te ta:TE}{t tk:TA}{nm:Option Str}
structure KBinds (K:Frag) (fd:FuncData) (ps ks:List Str) (g:List Value->List Value->List Value) (gV:List V->List V->List V):Prop where
 to:∀(s:Shared) (us ws:List Value),K.In s.heap->(g us ws).length=ps.length->BindsTo s fd ⟨us,ks.zip ws⟩ (ps.zip (g us ws))
 rel:∀{vs:List V} {us:List Value} {zs:List V} {ws:List Value},Vals vs us->Vals zs ws->Vals (gV vs zs) (g us ws)
variable{g:List Value->List Value->List Value}{gV:List V->List V->List V}
end

structure FnScope (N P:List Str) (sc:Scope):Prop where
 kind:sc.kind=.function
 co:sc.isCoroutine=false
 gen:sc.isGenerator=false
 nd:N.Nodup
 pre:N.take P.length=P
 par:∀x∈P,sc.names.lookup x=some .local\/sc.names.lookup x=some .cell
 nofree:∀y∈sc.names,y.2≠.free

theorem W7{kindOf:Str->Option NameKind}{x:Str}:∀{binds:List (Str×Value)} {m:Str->Option Value},(∀v,(x,v)∉binds)->bindL kindOf binds m x=m x
 | [],_,_=>rfl
 | (n,v)::r,m,h=>by
  unfold bindL;rw[W7 fun w hw=>h w (List.mem_cons_of_mem _ hw)];split
  ·have:x≠n:=by rintro rfl;exact h v List.mem_cons_self
   simp[this]
  ·rfl
theorem W5{kindOf:Str->Option NameKind}{x:Str}:∀{binds:List (Str×Value)} {m:Str->Option Value},(∀v,(x,v)∉binds)->bindC kindOf binds m x=m x
 | [],_,_=>rfl
 | (n,v)::r,m,h=>by
  unfold bindC;rw[W5 fun w hw=>h w (List.mem_cons_of_mem _ hw)];split
  ·rfl
  ·have:x≠n:=by rintro rfl;exact h v List.mem_cons_self
   simp[this]
theorem W6{kindOf:Str->Option NameKind}{x:Str}{v:Value}:∀{P:List Str} {vs:List Value} {i:Nat} {m:Str->Option Value},P.Nodup->P[i]?=some x->vs[i]?=some v->kindOf x=some .local ->
 bindL kindOf (P.zip vs) m x=some v
 | [],_,_,_,_,h,_,_=>by simp at h
 | _::_,[],_,_,_,_,h,_=>by simp at h
 | p::P,w::vs,0,m,nd,h1,h2,hk=>by simp at h1 h2;subst h1;subst h2;show bindL kindOf ((p,w)::P.zip vs) m p=_;unfold bindL;rw[W7 fun v hv=>(List.nodup_cons.mp nd).1 (List.of_mem_zip hv).1,if_pos hk];simp
 | p::P,w::vs,i+1,m,nd,h1,h2,hk=>by show bindL kindOf ((p,w)::P.zip vs) m x=_;unfold bindL;exact W6 (i:=i) (List.nodup_cons.mp nd).2 (by simpa using h1) (by simpa using h2) hk
theorem W4{kindOf:Str->Option NameKind}{x:Str}{v:Value}:∀{P:List Str} {vs:List Value} {i:Nat} {m:Str->Option Value},P.Nodup->P[i]?=some x->vs[i]?=some v->kindOf x≠some .local ->
 bindC kindOf (P.zip vs) m x=some v
 | [],_,_,_,_,h,_,_=>by simp at h
 | _::_,[],_,_,_,_,h,_=>by simp at h
 | p::P,w::vs,0,m,nd,h1,h2,hk=>by simp at h1 h2;subst h1;subst h2;show bindC kindOf ((p,w)::P.zip vs) m p=_;unfold bindC;rw[W5 fun v hv=>(List.nodup_cons.mp nd).1 (List.of_mem_zip hv).1,if_neg hk];simp
 | p::P,w::vs,i+1,m,nd,h1,h2,hk=>by show bindC kindOf ((p,w)::P.zip vs) m x=_;unfold bindC;exact W4 (i:=i) (List.nodup_cons.mp nd).2 (by simpa using h1) (by simpa using h2) hk

noncomputable def Ys(N:List Str)(vs:List V):St:=vs.map some++List.replicate (N.length-vs.length) none

noncomputable def Wd(CX:CXT)(P:Program)(w:World)(K:Frag)(mg:Str->Option Value)(base:Heap)(N:List Str)(qual:Str)(scope:Scope)(f:Addr)(cd:Value)(A:Around)(outer:List Env)(s:Shared)(H:Hp)(E:XK):Cx where
 prog:=P
 w:=w
 K:=K
 mg:=mg
 base:=base
 A:=A.deeper (envOfC qual scope s.heap.objs.size f cd)
 N:=N
 s₀:=s
 H₀:=H
 env:=envOfC qual scope s.heap.objs.size f cd
 outer:=outer
 stack:=envOfC qual scope s.heap.objs.size f cd::outer
 ex:=[]
 calm:=true
 fn:=fun _=>true
 pn:=[]
 xe:=fun e s'=>wpAny (model P w) (A.deeper (envOfC qual scope s.heap.objs.size f cd)) (leaving (envOfC qual scope s.heap.objs.size f cd) e) (fun _ s''=>CX outer H s E e s'') (fun e' s''=>CX outer H s E e' s'') s'

theorem Jaa{sc:Scope}{n:Nat}{x:Str}(h:sc.names.lookup x=some .cell):∃c,(cellsFrom n sc.names []).lookup x=some c:=by have q:=cellsFrom_some sc.names n [] (.inl h);exact Option.isSome_iff_exists.mp q

theorem Zc{CX:CXT}{P:Program}{w:World}{K:Frag}{mg:Str->Option Value}{base:Heap}{N ps:List Str}{qual:Str}{scope:Scope}{f:Addr}{cd:Value}{A:Around}{outer:List Env}{s s1:Shared}{H:Hp}{E:XK}{us:List Value}{vs:List V}
 (S:FnScope N ps scope) (hd:A.handled=none) (e0:Env0 P w K mg base A outer s H) (hl:vs.length=ps.length) (r:Vals vs us)
 (x:InCallC s s.heap.objs.size (bindL (envOfC qual scope s.heap.objs.size f cd).kindOf (ps.zip us) fun _=>none) (cellsFrom (s.heap.objs.size+1) scope.names []) (bindC (envOfC qual scope s.heap.objs.size f cd).kindOf (ps.zip us) fun _=>none) s1) :
 Inv (Wd CX P w K mg base N qual scope f cd A outer s H E) [] (Ys N vs) H s1:=by
 have hpl:ps.length<=N.length:=by have:=congrArg List.length S.pre;rw[List.length_take] at this;omega
 obtain⟨h1,tk,rfl,hk⟩:=x.done;have noA:∀b:Addr,b∉(Wd CX P w K mg base N qual scope f cd A outer s H E).ex:=fun b z=>absurd (show b∈([]:List Addr) from z) (by simp)
 refine⟨⟨e0.mod,S.kind,rfl,rfl,Nat.le_refl _,fun y z c h1 h2=>?_,fun y hy=>?_,fun y c _ h=>?_,fun _=>hd,Around.frames_deeper e0.frames,.inr ⟨rfl,rfl⟩,fun b z=>absurd z (noA b),e0.bs,e0.bsz,fun b _ _=>noA b,fun b z=>absurd z (noA b),e0.funs,e0.frf⟩,
  rfl,e0.bare,Un.kept hk,⟨_,x.toInCall.ns,fun i y v h1 h2 h3=>?_⟩,fun y c h=>⟨_,x.cell y c h⟩,e0.hok.fresh (Nat.le_refl _),fun y c h=>?_,fun p hp=>absurd (show p∈([]:List (Addr×Obj)) from hp) (by simp),e0.hok.kept hk,?_⟩
 ·exact name_of_addr x.apart (PySem.mem_of_lookup h1) (PySem.mem_of_lookup h2)
 ·have hy:scope.names.lookup y=some .cell\/scope.names.lookup y=some .free:=hy;rcases hy with hy|hy
  ·exact Jaa hy
  ·exact absurd rfl (S.nofree _ (PySem.mem_of_lookup hy))
 ·exact Nat.le_of_lt (x.above y c (PySem.mem_of_lookup h))
 ·have hi:i<vs.length:=by
   unfold Ys at h2
   by_cases hi:i<vs.length
   ·exact hi
   ·rw[List.getElem?_append_right (by simpa using hi)] at h2;rw[List.getElem?_replicate] at h2;split at h2 <;> cases h2
  have ha:vs[i]?=some v:=by
   unfold Ys at h2;rw[List.getElem?_append_left (by simpa using hi),List.getElem?_map] at h2
   cases e:vs[i]? with
   | none=>rw[e] at h2;cases h2
   | some a=>rw[e] at h2;cases h2;rfl
  obtain⟨u,hu,rv⟩:=r.get ha
  have hp:ps[i]?=some y:=by rw[<- S.pre,List.getElem?_take_of_lt (by omega)];exact h1
  have ndP:ps.Nodup:=by rw[<- S.pre];exact S.nd.sublist (List.take_sublist _ _)
  refine⟨u,rv,?_⟩;rcases S.par y (List.mem_of_getElem? hp) with k|k
  ·exact .inl ⟨k,W6 ndP hp hu k⟩
  ·obtain⟨c,e⟩:=Jaa (n:=s.heap.objs.size+1) k;refine .inr ⟨.inl k,c,e,?_⟩;have q:=x.cell y c e;rw[W4 ndP hp hu (by show scope.names.lookup y≠_;rw[k];decide)] at q;exact q
 ·exact e0.hok.fresh (Nat.le_of_lt (x.above y c (PySem.mem_of_lookup h)))
 ·unfold Ys;show _=N.length;rw[List.length_append,List.length_map,List.length_replicate];omega

theorem Jgo{CX:CXT}{P:Program}{w:World}{K:Frag}{mg:Str->Option Value}{base:Heap}{k:Nat}{f:Addr}{name qual:Str}{params:Arguments}{body:List Stmt}{scope:Scope}{dV kV doc pm cdv ct oc:Value}{an od:Option Addr}
 {osl:Array (Option Value)} {N ps:List Str} {sp:Sp} (lk:K.lookup f=some ⟨oc,od,.func (fnOf name qual params body scope dV kV doc pm an cdv ct),osl⟩) (hcd:codeIn K cdv qual=true) (S:FnScope N ps scope)
 (len:∀vs H Q E,sp vs H Q E->vs.length=ps.length)
 (hbody:∀(A:Around) (outer:List Env) (s:Shared) (H:Hp) (vs:List V) (Q:VK) (E:XK),Room k (A.deeper (envOfC qual scope s.heap.objs.size f cdv))->sp vs H Q E ->
  ∃t,PSs (Wd CX P w K mg base N qual scope f cdv A outer s H E) body t/\t { nx:=fun _ H'=>Q .non H',rt:=Q } (Ys N vs) H) :
 FnOk P w K mg base CX (k+1) f (fnOf name qual params body scope dV kV doc pm an cdv ct) ps sp:=by
 refine⟨len,fun A outer s H args us vs Q E hr e0 hb r hsp=>?_⟩;have hl:=len _ _ _ _ hsp;have KX:K.In s.heap:=e0.mod.kin.keeps fun b o e=>(e0.bs b o e).1
 have lim:s.heap.NoLimit:=e0.mod.nolimit.keeps fun b o e=>(e0.bs b o e).1
 have hkind:∀y∈ps.zip us,scope.names.lookup y.1=some .local\/(scope.names.lookup y.1=some .cell/\((cellsFrom (s.heap.objs.size+1) scope.names []).lookup y.1).isSome=true):=fun⟨n,v⟩ hy=>by
  rcases S.par n (List.of_mem_zip hy).1 with q|q
  ·exact .inl q
  ·exact .inr ⟨q,cellsFrom_some _ _ _ (.inl q)⟩
 refine codeAny_call_function hr.depth (KX _ _ lk) rfl S.co S.gen rfl (PySem.W.codeRec_of KX hcd) (hb _ _ _ _ ?_);refine wpAny_newFunctionEnv_cells S.kind hkind fun env he s1 x=>?_
 subst he;refine⟨lim.keeps x.toInCall.keep,codeAny_func ?_⟩;obtain⟨t,ht,hq⟩:=hbody A outer s H vs Q E (hr.deeper _) hsp;have I:Inv (Wd CX P w K mg base N qual scope f cdv A outer s H E) [] (Ys N vs) H s1:=Zc S hr.hd e0 hl r x;refine wpAny_mono (ht [] s1 (Ys N vs) H _ I hq) (fun fl s' hs=>?_) fun e s' hs=>hs
 have fin:∀{σ':St} {H':Hp} {v:V} {u:Value},Inv (Wd CX P w K mg base N qual scope f cdv A outer s H E) [] σ' H' s'->RelV v u->Q v H'->CE outer P w H s Q u s' :=
  fun {σ' H' v u} J rv q=>⟨v,H',J.os,J.bare,J.base,J.hok,rv,q⟩
 cases fl with
 | ret u=>obtain⟨v,σ',H',J,rv,q⟩:=hs;exact fin J rv q
 | next=>obtain⟨σ',H',J,q⟩:=hs;exact fin (v:=V.non) (u:=Value.none) J rfl q
 | brk=>obtain⟨_,_,_,q⟩:=hs;exact False.elim q
 | cont=>obtain⟨_,_,_,q⟩:=hs;exact False.elim q
end L2

namespace L2
open PySem PySem.Spec PyProof.Rows
section
variable{X:Cx}{x:Str}{p pos:Pos}{e:Expr}{es:List Expr}{t:TA}{id T:String}{r:List V->Hp->VK->Prop}

noncomputable def tCB(r:List V->Hp->VK->Prop)(t:TA):TE:=fun σ H Q=>t σ H fun vs H1=>r vs H1 Q
theorem Jp(hc:CallR X (.builtin id) r)(hg:Gl X x)(hm:X.mg x=none)(hv:bootBuiltins x=some (.builtin id))(ha:PA X (e::es) t)(hn:x≠"__name__":=by decide)(hdb:(x == ("__debug__":Str))=false:=by decide)
 (he:starEach (e::es) X.env=(false,eval e X.env)::starEach es X.env:=by rfl) (hpl:(backTo pos (starEach es X.env)).any (·.1)=false:=by rfl):PE X (.Call (.Name x p) (e::es) [] pos) (tCB r t):=by
 intro pins s σ H Q I h;refine wpAny_Call_Name_kw (ZI I hg hm hv ?_ hn hdb);exact PyProof.Rows.callWith_builtin1 (thn (ha pos pins s σ H _ I h) fun us s1 ⟨vs,H1,I1,r1,q1⟩=>hc pins s1 σ H1 vs us Q I1 r1 q1) he hpl
theorem VH(hc:CallR X (.type T) r)(hg:Gl X x)(hm:X.mg x=none)(hv:bootBuiltins x=some (.type T))(ha:PA X (e::es) t)(hn:x≠"__name__":=by decide)(hdb:(x == ("__debug__":Str))=false:=by decide)
 (he:starEach (e::es) X.env=(false,eval e X.env)::starEach es X.env:=by rfl) (hpl:(backTo pos (starEach es X.env)).any (·.1)=false:=by rfl):PE X (.Call (.Name x p) (e::es) [] pos) (tCB r t):=by
 intro pins s σ H Q I h;refine wpAny_Call_Name_kw (ZI I hg hm hv ?_ hn hdb);exact PyProof.Rows.callWith_type1 (thn (ha pos pins s σ H _ I h) fun us s1 ⟨vs,H1,I1,r1,q1⟩=>hc pins s1 σ H1 vs us Q I1 r1 q1) he hpl
end
end L2

namespace HT
open PySem PyProof.Rows

theorem Jae(A:Around)(s:Shared)(a:Int)(t:Tok)(c:Int)(u:Tok):∃e,SeqAt.EqAt A s (.int a t) (.int c u) e/\(e=true↔a=c) :=
 ⟨(a == c),SeqAt.EqAt.int_int a t c u,by simp⟩
section
open PySem.SeqAt
open PySem.AutoSeq1 (wpAny_loadPart')
open PySem.MeetsSeq PySem.MeetsSeq2 PySem.MeetsSeq3

end

section
variable{prog:Program}{w:World}{A:Around}{E:Value->Shared->Prop}{s:Shared}

theorem Jez{t b:Addr}{vs ws:List Value}{Q:Value->Shared->Prop}(ht:IsTup s.heap t vs.toArray)(hb:IsTup s.heap b ws.toArray)(hv:vs≠[])
 (h1:ws=[]->Q (.ref t) s) (h2:ws≠[]->Q (.ref s.heap.objs.size) { s with heap:=s.heap.push { cls:=.type "tuple",data:=.seq (vs++ws).toArray } })
 (hsz:vs.length+ws.length<=sizeLine):wpAny (model prog w) A (binaryOp .Add (.ref t) (.ref b)) Q E s:=by
 obtain⟨⟨cls,dd,data,sl⟩,ho,hc,n,hd⟩:=id ht;obtain⟨⟨cls2,dd2,data2,sl2⟩,ho2,hc2,n2,hd2⟩:=id hb;simp only at hc hd hc2 hd2;subst hc hd hc2 hd2;have e:vs.toArray++ws.toArray=(vs++ws).toArray:=by simp
 by_cases hw:ws=[]
 ·exact concat_meets ⟨_,ho,rfl⟩ ⟨_,ho2,rfl⟩ noFill_tuple_add seq_tuple_add PySem.F.slot_tuple_add PySem.F.entry_tuple_add (PySem.F.args_tuple_add_2 _ _)
   (tuple_addW1 t b vs.toArray ws.toArray n n2 dd dd2 sl sl2 (by simpa using hv) (by simp[hw])) ⟨ho,ho2,h1 hw⟩
 ·refine concat_meets ⟨_,ho,rfl⟩ ⟨_,ho2,rfl⟩ noFill_tuple_add seq_tuple_add PySem.F.slot_tuple_add PySem.F.entry_tuple_add (PySem.F.args_tuple_add_2 _ _)
   (tuple_addW2 t b vs.toArray ws.toArray n n2 dd dd2 sl sl2 (by simpa using hv) (by simpa using hw) (by rw[List.size_toArray,List.size_toArray];exact hsz)) ⟨ho,ho2,?_⟩
  rw[e];exact h2 hw

noncomputable def sIx(n d:Nat):Option Int->Nat
 | none=>d
 | some v=>if v<0 then(v+(n:Int)).toNat else min v.toNat n
theorem Jil(n d:Nat)(hd:d<=n)(o:Option Int):sIx n d o<=n:=by
 cases o with
 | none=>exact hd
 | some v =>
  show(if v<0 then(v+(n:Int)).toNat else min v.toNat n)<=n
  by_cases hv:v<0
  ·rw[if_pos hv];omega
  ·rw[if_neg hv];exact Nat.min_le_right _ _
theorem Jbl(v:Int)(n d:Nat):(if v<0 then max (v+(n:Int)) 0 else min v (n:Int))=((sIx n d (some v):Nat):Int):=by
 show(if v<0 then max (v+(n:Int)) 0 else min v (n:Int))=(((if v<0 then(v+(n:Int)).toNat else min v.toNat n):Nat):Int)
 by_cases hv:v<0
 ·simp only[if_pos hv];omega
 ·simp only[if_neg hv];omega
theorem JaH(lo hi:Option Int)(n:Nat):Builtin.Slice.sliceAdjust lo hi 1 (n:Int)=(((sIx n 0 lo:Nat):Int),((sIx n n hi:Nat):Int)):=by
 have h1:¬((1:Int)<0):=by omega
 unfold Builtin.Slice.sliceAdjust;simp only[h1,if_false];refine Prod.ext ?_ ?_
 ·cases lo with
  | none=>rfl
  | some v=>exact Jbl v n 0
 ·cases hi with
  | none=>rfl
  | some v=>exact Jbl v n n
theorem Ja0(i j:Nat):Builtin.Slice.slicePlaces (i:Int) (j:Int) 1=j-i:=by
 unfold Builtin.Slice.slicePlaces;have h1:(1:Int)>0:=by omega
 simp only[h1,if_true,Int.ediv_one];split <;> omega
theorem WI{v:Value}{o:Option Int}{Q:Option Int->Shared->Prop}(p:IsPart v o)(h:Q o s):wpAny (model prog w) A (Builtin.Slice.slicePartIndex v) Q E s:=by
 cases p with
 | none=>exact slicePart_none h
 | int i t=>exact slicePart_int h
theorem Ur{sl:Addr}{vl vu:Value}{lo hi:Option Int}{n:Nat}{Q:Int×Int×Nat->Shared->Prop}(hs:s.heap.IsSliceOf sl vl vu .none)(pl:IsPart vl lo)(pu:IsPart vu hi)
 (h:Q (((sIx n 0 lo:Nat):Int),1,sIx n n hi-sIx n 0 lo) s):wpAny (model prog w) A (Builtin.Slice.sliceApplied (.ref sl) (pure (n:Int))) Q E s:=by
 obtain⟨os,hos,hcs,hds⟩:=id hs;unfold Builtin.Slice.sliceApplied Builtin.Slice.sliceFields;refine wpAny_bind (wpAny_bind (wpAny_field hos hds (x:=vl) rfl (wpAny_bind (wpAny_field hos hds (x:=vu) rfl (wpAny_bind (wpAny_field hos hds (x:=.none) rfl (wpAny_pure ?_)))))));refine wpAny_bind (slicePart_none ?_);show wpAny _ _ (if ((1:Int) == 0)=true then _ else _) _ _ s;rw[if_neg (by decide)];refine wpAny_bind (WI pl (wpAny_bind (WI pu (wpAny_bind (wpAny_pure ?_)))))
 show wpAny _ _ (match Builtin.Slice.sliceAdjust lo hi 1 (n:Int) with|(lo,hi)=>pure (lo,(1:Int),Builtin.Slice.slicePlaces lo hi 1)) _ _ s;rw[JaH lo hi n]
 show wpAny _ _ (pure (((sIx n 0 lo:Nat):Int),(1:Int),Builtin.Slice.slicePlaces ((sIx n 0 lo:Nat):Int) ((sIx n n hi:Nat):Int) 1)) _ _ s;rw[Ja0];exact wpAny_pure h
theorem JdN(xs:Array Value)(i k:Nat):((List.range k).filterMap fun(m:Nat)=>xs[((i:Int)+(m:Int)*1).toNat]?).toArray=((xs.toList.drop i).take k).toArray:=by
 have e:(fun(m:Nat)=>xs[((i:Int)+(m:Int)*1).toNat]?)=fun m=>xs[i+m]?:=by
  funext m
  have:((i:Int)+(m:Int)*1).toNat=i+m:=by omega
  rw[this]
 rw[e];have:=pick_run xs i k;rw[List.filterMap_map] at this;have e2:((fun x=>xs[x]?) ∘ fun x=>i+x)=fun m=>xs[i+m]?:=rfl
 rw[e2] at this;rw[this]

theorem Ve{t sl:Addr}{items:Array Value}{vl vu:Value}{lo hi:Option Int}{Q:Value->Shared->Prop}(ht:IsTup s.heap t items)(hs:s.heap.IsSliceOf sl vl vu .none)(pl:IsPart vl lo)(pu:IsPart vu hi)
 (hw:¬(sIx items.size 0 lo=0/\sIx items.size items.size hi=items.size))
 (h:Q (.ref s.heap.objs.size) { s with heap:=s.heap.push { cls:=.type "tuple",data:=.seq ((items.toList.drop (sIx items.size 0 lo)).take (sIx items.size items.size hi-sIx items.size 0 lo)).toArray } })
 (hsz:items.size<=sizeLine):wpAny (model prog w) A (getItem (.ref t) (.ref sl)) Q E s:=by
 have htake:sizeOk (.seq ((items.toList.drop (sIx items.size 0 lo)).take (sIx items.size items.size hi-sIx items.size 0 lo)).toArray):=by show((items.toList.drop (sIx items.size 0 lo)).take (sIx items.size items.size hi-sIx items.size 0 lo)).toArray.size<=sizeLine;rw[List.size_toArray,List.length_take,List.length_drop,Array.length_toList];omega
 have hj:sIx items.size items.size hi<=items.size:=Jil _ _ (Nat.le_refl _) hi;obtain⟨os,hos,hcs,hds⟩:=id hs
 have hTs:s.TypeIs (.ref sl) "slice":=⟨os,hos,hcs⟩
 unfold getItem
 try with_reducible refine wpAny_holding ?_
 first|refine wpAny_bind (wpAny_pure ?_)|skip
 refine wpAny_bind (wpAny_sequenceKey ht.typeIs (by decide) ?_);refine wpAny_bind (wpAny_callSpecial?_slot (name:=Str.ofString "__getitem__") ht.typeIs PyProof.Rows.slot_tuple_getitem
  (wpAny_call_entry PyProof.Rows.slot_tuple_getitem ht.typeIs entry_tuple_getitem ?_ (args_tuple_getitem _ _)))
 show wpAny _ _ (Builtin.Tuple.tupleItemsOf (.ref t) >>= _) _ _ s;refine wpAny_bind (tupleItemsOf_ ht ?_);refine wpAny_bind (wpAny_typeOf hTs ?_);rw[if_pos (by decide)];refine wpAny_bind (Ur hs pl pu ?_)
 have hno:¬((((sIx items.size 0 lo:Nat):Int) == 0 && (1:Int) == 1 && (sIx items.size items.size hi-sIx items.size 0 lo) == items.size)=true):=by intro q;rw[Bool.and_eq_true,Bool.and_eq_true] at q;have q1:((sIx items.size 0 lo:Nat):Int)=0:=eq_of_beq q.1.1;have q2:sIx items.size items.size hi-sIx items.size 0 lo=items.size:=eq_of_beq q.2;exact hw ⟨by omega,by omega⟩
 show wpAny _ _ (if (((sIx items.size 0 lo:Nat):Int) == 0 && (1:Int) == 1 && (sIx items.size items.size hi-sIx items.size 0 lo) == items.size)=true then _ else _) _ _ s;rw[if_neg hno,JdN]
 first
  | exact wpAny_bind (m:=Builtin.Tuple.tupleExact _) (wpAny_newObj_type (wpAny_pure ⟨_,rfl,wpAny_pure h⟩) htake)
  | exact wpAny_bind (m:=Builtin.Tuple.tupleExact _) (wpAny_newObj_type (wpAny_bind (wpAny_pure (wpAny_pure ⟨_,rfl,wpAny_pure h⟩))) htake)
  | exact wpAny_bind (wpAny_bind (m:=Builtin.Tuple.tupleExact _) (wpAny_newObj_type (wpAny_pure (wpAny_pure ⟨_,rfl,wpAny_pure h⟩)) htake))
  | exact wpAny_bind (wpAny_bind (m:=Builtin.Tuple.tupleExact _) (wpAny_newObj_type (wpAny_pure ⟨_,rfl,wpAny_pure h⟩) htake))
end
end HT

namespace L2
open PySem PySem.Spec PyProof.Rows

noncomputable abbrev TO:=St->Hp->(Option Int->Hp->Prop)->Prop
noncomputable def PO(X:Cx)(e:Option Expr)(t:TO):Prop :=
 ∀(pins:List (Addr×Obj)) (s:Shared) (σ:St) (H:Hp) (Q:Option Int->Hp->Prop),Inv X pins σ H s->t σ H Q ->
  wpAny (model X.prog X.w) X.A (evalPart e X.env) (fun u s'=>∃o H',Inv X pins σ H' s'/\IsPart u o/\Q o H') X.xe s
noncomputable def JbQ:TO:=fun _ H Q=>Q none H
noncomputable def JgA(t:TE):TO:=fun σ H Q=>t σ H fun x H1=>∃i,x=.int i/\Q (some i) H1

theorem Uc{ns:List Int}:∀{us:List Value},Vals (ns.map V.int) us->IntsAre us ns:=by
 induction ns with
 | nil=>intro us r;rw[List.map_nil] at r;cases r;exact .nil
 | cons n ns ih =>
  intro us r;rw[List.map_cons] at r
  cases r with
  | cons r1 r2=>obtain⟨t,e⟩:=r1;subst e;exact .cons n t (ih r2)

section
variable{X:Cx}{e:Expr}{te:TE}{lo hi:Option Expr}{tl th:TO}{pos p2:Pos}

theorem ZM:PO X none JbQ:=by intro pins s σ H Q I h;rw[evalPart_none];exact wpAny_pure ⟨none,H,I,.none,h⟩
theorem ZN(h:PE X e te):PO X (some e) (JgA te):=by
 intro pins s σ H Q I hw;rw[evalPart_some];refine thn (h pins s σ H _ I hw) fun u s1 ⟨x,H1,I1,r1,q1⟩=>?_
 obtain⟨i,rfl,q⟩:=q1;obtain⟨t,rfl⟩:=r1;exact⟨some i,H1,I1,.int i t,q⟩

noncomputable def SlR(X:Cx)(r:V->Option Int->Option Int->Hp->VK->Prop):Prop :=
 ∀(pins:List (Addr×Obj)) (s:Shared) (σ:St) (H:Hp) (x:V) (v vl vu:Value) (lo hi:Option Int) (sl:Addr) (Q:VK),Inv X pins σ H s->RelV x v->s.heap.IsSliceOf sl vl vu .none->IsPart vl lo->IsPart vu hi->r x lo hi H Q ->
  ∃T id,typeLookup (.type T) "__getitem__"=pure (some (.builtin id))/\s.TypeIs v T/\wpAny (model X.prog X.w) X.A (getItem v (.ref sl)) (EP X pins σ Q) X.xe s
theorem SlR.or{r r':V->Option Int->Option Int->Hp->VK->Prop}(h:SlR X r)(h':SlR X r'):SlR X (fun x lo hi H Q=>r x lo hi H Q\/r' x lo hi H Q):=by
 intro pins s σ H x v vl vu lo hi sl Q I rx hs pl pu q;rcases q with q|q
 ·exact h pins s σ H x v vl vu lo hi sl Q I rx hs pl pu q
 ·exact h' pins s σ H x v vl vu lo hi sl Q I rx hs pl pu q
noncomputable def tSl(r:V->Option Int->Option Int->Hp->VK->Prop)(te:TE)(tl th:TO):TE:=fun σ H Q=>te σ H fun x H1=>tl σ H1 fun l H2=>th σ H2 fun u H3=>r x l u H3 Q
theorem WB{r:V->Option Int->Option Int->Hp->VK->Prop}(hr:SlR X r)(he:PE X e te)(hl:PO X lo tl)(hu:PO X hi th):PE X (.Subscript e (.Slice lo hi none p2) pos) (tSl r te tl th):=by
 intro pins s σ H Q I h;refine Subscript_ (thn (he pins s σ H _ I h) fun v s1 ⟨x,H1,I1,r1,q1⟩=>?_);refine wpAny_Slice (thn (hl pins s1 σ H1 _ I1 q1) fun vl s2 ⟨l,H2,I2,pl,q2⟩=>thn (hu pins s2 σ H2 _ I2 q2) fun vu s3 ⟨u,H3,I3,pu,q3⟩=>?_);rw[evalPart_none];refine wpAny_pure ?_;have I4:Inv X pins σ H3 { s3 with heap:=s3.heap.push { cls:=.type "slice",data:=.fields #[vl,vu,.none] } }:=I3.kept (t':=s3.toks) fun b ob q=>Heap.get?_push_of_some _ q
 obtain⟨T,id,hT,ht,hg⟩:=hr pins { s3 with heap:=s3.heap.push { cls:=.type "slice",data:=.fields #[vl,vu,.none] } } σ H3 x v vl vu l u s3.heap.objs.size Q I4 r1 (Heap.IsSliceOf.new ..) pl pu q3;show wpAny (model X.prog X.w) X.A (subscriptTail e (.Slice lo hi none p2) v (.ref s3.heap.objs.size)) (EP X pins σ Q) X.xe { s3 with heap:=s3.heap.push { cls:=.type "slice",data:=.fields #[vl,vu,.none] } };exact tail_any (ops:=[.ref s3.heap.objs.size,v]) ht hT hg (by with_unfolding_all rfl)

noncomputable def WU(xs:List V)(lo hi:Option Int):List V:=(xs.drop (HT.sIx xs.length 0 lo)).take (HT.sIx xs.length xs.length hi-HT.sIx xs.length 0 lo)
theorem VO(xs:List V)(lo hi:Option Int):(WU xs lo hi).length<=xs.length:=by unfold WU;rw[List.length_take,List.length_drop];omega
noncomputable def Jjx(K:Frag):V->Option Int->Option Int->Hp->VK->Prop:=fun x lo hi H Q=>∃a xs,x=.ref a/\SqT K H a xs ∧
 ¬(HT.sIx xs.length 0 lo=0/\HT.sIx xs.length xs.length hi=xs.length)/\∀p,H p=none->Q (.ref p) (upd H p (.tup (WU xs lo hi)))
theorem sl_tup:SlR X (Jjx X.K):=by
 intro pins s σ H x v vl vu lo hi sl Q I rx hs pl pu h;obtain⟨a,xs,rfl,hx,hw,q⟩:=h;cases rx;obtain⟨its,r,ht,hz⟩:=I.tuple hx;have hlen:its.toArray.size=xs.length:=by rw[List.size_toArray];exact r.length.symm
 refine⟨"tuple",_,PyProof.Rows.slot_tuple_getitem.lookup,ht.typeIs,?_⟩;refine HT.Ve ht hs pl pu (by rw[hlen];exact hw) ?_ (by rw[hlen];exact hz);rw[hlen];refine⟨.ref s.heap.objs.size,_,I.laid (t':=s.toks) (o:=.tup (WU xs lo hi)) (fun b ob q=>Heap.get?_push_of_some _ q) (Nat.le_refl _) ?_,rfl,q _ (I.hok.fresh (Nat.le_refl _))⟩;exact⟨Nat.le_trans (VO xs lo hi) hz,_,(r.drop (HT.sIx xs.length 0 lo)).take (HT.sIx xs.length xs.length hi-HT.sIx xs.length 0 lo),IsTup.new _ _⟩

noncomputable def Jgu(K:Frag):R2:=fun x y H Q=>∃a b xs ys,x=.ref a/\y=.ref b/\SqT K H a xs/\SqT K H b ys/\xs≠[]/\xs.length+ys.length<=sizeLine ∧
 (ys=[]->Q (.ref a) H)/\(ys≠[]->∀p,H p=none->Q (.ref p) (upd H p (.tup (xs++ys))))
theorem Vals.nil_iff{xs:List V}{us:List Value}(r:Vals xs us):us=[]↔xs=[]:=by
 cases r with
 | nil=>simp
 | cons _ _=>simp
theorem Jfo:OpR X (binaryOp .Add) (Jgu X.K):=by
 intro pins s σ H x y v u Q I rx ry h;obtain⟨a,b,xs,ys,rfl,rfl,ha,hb,hx,hz,q1,q2⟩:=h;cases rx;cases ry;obtain⟨its,r1,p1,_⟩:=I.tuple ha;obtain⟨its2,r2,p2,_⟩:=I.tuple hb;refine HT.Jez p1 p2 (fun z=>hx (r1.nil_iff.mp z)) (fun z=>⟨.ref a,H,I,rfl,q1 (r2.nil_iff.mp z)⟩) (fun z=>?_) (by rw[<- r1.length,<- r2.length];exact hz);refine⟨.ref s.heap.objs.size,_,I.laid (t':=s.toks) (o:=.tup (xs++ys)) (fun b ob q=>Heap.get?_push_of_some _ q) (Nat.le_refl _) ?_,rfl,q2 (fun w=>z (r2.nil_iff.mpr w)) _ (I.hok.fresh (Nat.le_refl _))⟩
 exact⟨by rw[List.length_append];exact hz,_,r1.append r2,IsTup.new _ _⟩
end
end L2

namespace L2
open PySem PySem.Spec PyProof.Rows

noncomputable def ixN(n:Nat)(i:Int):Option Nat:=if 0<=i then(if i<n then some i.toNat else none) else if -(n:Int)<=i then some (i+n).toNat else none
noncomputable def atI{α:Type}(xs:List α)(i:Int):Option α:=(ixN xs.length i).bind fun j=>xs[j]?
theorem JbA{n:Nat}{i:Int}{j:Nat}(h:ixN n i=some j):seqIndex? i n=some j/\j<n/\-(n:Int)<=i/\i<n:=by
 unfold ixN at h
 by_cases h0:0<=i
 ·rw[if_pos h0] at h
  by_cases h1:i<n
  ·rw[if_pos h1] at h;have e:i.toNat=j:=Option.some.inj h;exact⟨by rw[seqIndex_of h0 h1,e],by omega,by omega,h1⟩
  ·rw[if_neg h1] at h;cases h
 ·rw[if_neg h0] at h
  by_cases h1:-(n:Int)<=i
  ·rw[if_pos h1] at h;have e:(i+n).toNat=j:=Option.some.inj h;exact⟨by rw[seqIndex_neg (by omega) h1,e],by omega,h1,by omega⟩
  ·rw[if_neg h1] at h;cases h
theorem Zs{α:Type}{xs:List α}{i:Int}{v:α}(h:atI xs i=some v):∃j,seqIndex? i xs.length=some j/\xs[j]?=some v/\j<xs.length/\-(xs.length:Int)<=i/\i<xs.length:=by
 unfold atI at h
 cases e:ixN xs.length i with
 | none=>rw[e] at h;cases h
 | some j=>rw[e] at h;obtain⟨h1,h2,h3,h4⟩:=JbA e;exact⟨j,h1,h,h2,h3,h4⟩
noncomputable def Jes(b:Expr):Prop:=∀o i,subscripted b false o i=operate [o,i] (getItem o i)
noncomputable def IxR(X:Cx)(r:R2):Prop :=
 ∀(value slice:Expr) (pins:List (Addr×Obj)) (s:Shared) (σ:St) (H:Hp) (x y:V) (v u:Value) (Q:VK),Inv X pins σ H s->RelV x v->RelV y u->r x y H Q ->
  subscripted slice false v u=operate [v,u] (getItem v u)->wpAny (model X.prog X.w) X.A (subscriptTail value slice v u) (EP X pins σ Q) X.xe s
noncomputable def MtR(X:Cx)(id:String)(r:V->List V->Hp->VK->Prop):Prop :=
 ∀(pins:List (Addr×Obj)) (s:Shared) (σ:St) (H:Hp) (x:V) (xs:List V) (v:Value) (us:List Value) (Q:VK),Inv X pins σ H s->RelV x v->Vals xs us->r x xs H Q ->
  wpAny (model X.prog X.w) X.A (call (.builtin id) (v::us)) (EP X pins σ Q) X.xe s
section
variable{X:Cx}{a b:Expr}{ta tb:TE}{pos:Pos}
theorem IxR.or{r r':R2}(h:IxR X r)(h':IxR X r'):IxR X (fun x y H Q=>r x y H Q\/r' x y H Q):=by
 intro value slice pins s σ H x y v u Q I rx ry q hs;rcases q with q|q
 ·exact h value slice pins s σ H x y v u Q I rx ry q hs
 ·exact h' value slice pins s σ H x y v u Q I rx ry q hs
theorem MtR.or{id:String}{r r':V->List V->Hp->VK->Prop}(h:MtR X id r)(h':MtR X id r'):MtR X id (fun x xs H Q=>r x xs H Q\/r' x xs H Q):=by
 intro pins s σ H x xs v us Q I rx rs q;rcases q with q|q
 ·exact h pins s σ H x xs v us Q I rx rs q
 ·exact h' pins s σ H x xs v us Q I rx rs q
theorem Ya{r:R2}(hr:IxR X r)(ha:PE X a ta)(hb:PE X b tb)(hs:Jes b):PE X (.Subscript a b pos) (tOp r ta tb):=by intro pins s σ H Q I h;exact Subscript_ (JgK ha hb I h fun v u s2 x y H2 I2 rx ry q=>hr a b pins s2 σ H2 x y v u Q I2 rx ry q (hs _ _))

noncomputable def Jjr(K:Frag):R2:=fun x y H Q=>∃p xs i v,x=.ref p/\y=.int i/\SqL K H p xs/\atI xs i=some v/\Q v H
noncomputable def Jjt(K:Frag):R2:=fun x y H Q=>∃p xs i v,x=.ref p/\y=.int i/\SqT K H p xs/\atI xs i=some v/\Q v H
noncomputable def Jjs:R2:=fun x y H Q=>∃z i c,x=.str z/\y=.int i/\z.length<=sizeLine/\atI z.cps.toList i=some c/\Q (.str ⟨#[c]⟩) H
theorem ix_list:IxR X (Jjr X.K):=by
 intro value slice pins s σ H x y v u Q I rx ry h hs;obtain⟨p,xs,i,z,rfl,rfl,hq,he,q⟩:=h;cases rx;obtain⟨t,rfl⟩:=ry;obtain⟨its,r,pl,hz⟩:=I.list hq;obtain⟨j,h1,h2,h3,h4,h5⟩:=Zs he;obtain⟨w,ew,rw'⟩:=r.get h2;have hl:=r.length;have hn:=VC;have fin:EP X pins σ Q w s:=⟨z,H,I,rw',q⟩
 by_cases h0:0<=i
 ·have hj:i.toNat=j:=by rw[seqIndex_of h0 h5] at h1;exact Option.some.inj h1
  exact item_listR pl.isList h0 (by omega) (by rw[hj];simpa using ew) fin hs
 ·have hj:(i+(its.toArray.size:Int)).toNat=j:=by rw[seqIndex_neg (by omega) h4] at h1;rw[List.size_toArray,<- hl];exact Option.some.inj h1
  exact subscriptTail_builtinR (x:=w) pl.isList.typeIs slot_list_getitem.lookup
   (wpAny_getItem_list_neg (Q:=fun r s'=>r=w/\EP X pins σ Q r s') pl.isList (by omega) (by rw[List.size_toArray] <;> omega) (by omega) (by rw[hj];simpa using ew) ⟨rfl,fin⟩) hs
theorem ix_tup:IxR X (Jjt X.K):=by
 intro value slice pins s σ H x y v u Q I rx ry h hs;obtain⟨p,xs,i,z,rfl,rfl,hq,he,q⟩:=h;cases rx;obtain⟨t,rfl⟩:=ry;obtain⟨its,r,pl,hz⟩:=I.tuple hq;obtain⟨j,h1,h2,h3,h4,h5⟩:=Zs he;obtain⟨w,ew,rw'⟩:=r.get h2;have hl:=r.length;have hn:=VC;have fin:EP X pins σ Q w s:=⟨z,H,I,rw',q⟩
 exact subscriptTail_builtinR (x:=w) pl.typeIs slot_tuple_getitem.lookup
  (getItem_tuple (j:=j) (Q:=fun r s'=>r=w/\EP X pins σ Q r s') pl (by omega) (by omega) (by rw[List.size_toArray,<- hl];exact h1) (by simpa using ew) ⟨rfl,fin⟩) hs
theorem Jhj:IxR X Jjs:=by
 intro value slice pins s σ H x y v u Q I rx ry h hs;obtain⟨z,i,c,rfl,rfl,hz,he,q⟩:=h;obtain⟨t,rfl⟩:=rx;obtain⟨t',rfl⟩:=ry;obtain⟨j,h1,h2,h3,h4,h5⟩:=Zs he;have hl:z.cps.toList.length=z.length:=by simp[Str.length]
 rw[hl] at h1 h4 h5;have hn:=VC;exact tail_any (typeIs_str s z t) slot_str_getitem.lookup (getItem_str (c:=c) (by
  have e1:decide (i < -(2 ^ 63:Int))=false:=decide_eq_false (by omega)
  have e2:decide (i ≥ 2 ^ 63)=false:=decide_eq_false (by omega);rw[e1,e2,Bool.or_false]) (by rw[h1];simpa using h2) ⟨.str ⟨#[c]⟩,H,I.tok _,⟨_,rfl⟩,q⟩) hs
noncomputable def rIx(K:Frag):R2:=fun x y H Q=>Jjr K x y H Q\/Jjt K x y H Q\/Jjs x y H Q
theorem Jhi:IxR X (rIx X.K):=ix_list.or (ix_tup.or Jhj)

theorem JaT(its:List Value)(n j:Nat)(u:Value):Obj.mapSeq (·.setIfInBounds j u) { cls:=.type "list",data:=.seq its.toArray n }={ cls:=.type "list",data:=.seq (its.set j u).toArray n }:=by simp[Obj.mapSeq]
theorem Inv.lst{pins:List (Addr×Obj)}{σ:St}{H:Hp}{s:Shared}{p:Addr}{xs:List V}(I:Inv X pins σ H s)(h:H p=some (.lst xs)) :
 ∃(its:List Value) (n:Nat),Vals xs its/\s.heap.get? p=some { cls:=.type "list",data:=.seq its.toArray n }/\xs.length<=sizeLine:=by
 obtain⟨z,its,n,r,e⟩:=I.hok p _ h;exact⟨its,n,r,e,z⟩
theorem Inv.lstUpd{pins:List (Addr×Obj)}{σ:St}{H:Hp}{s:Shared}{p:Addr}{xs ys:List V}{its its':List Value}{n n':Nat}{f:Obj->Obj}(I:Inv X pins σ H s)(h:H p=some (.lst xs))
 (ho:s.heap.get? p=some { cls:=.type "list",data:=.seq its.toArray n }) (hf:f { cls:=.type "list",data:=.seq its.toArray n }={ cls:=.type "list",data:=.seq its'.toArray n' }) (r:Vals ys its') (hz:ys.length<=sizeLine) (t:Nat) :
 Inv X pins σ (upd H p (.lst ys)) { s with heap:=s.heap.update p f,toks:=t }:=by
 have e:(s.heap.update p f).get? p=some { cls:=.type "list",data:=.seq its'.toArray n' }:=by rw[Heap.get?_update_self f ho (by rw[hf] <;> rfl),hf]
 refine I.write (x:=p) (e:=p) (by rw[h];trivial) (.inl rfl) (fun b u hb q=>(Heap.get?_update_other _ _ (Ne.symm hb)).trans q) ⟨_,e⟩ ?_;exact⟨hz,its',n',r,e⟩
noncomputable def Jgv:V->V->V->Hp->(Hp->Prop)->Prop:=fun o i v H Q=>∃p xs k j,o=.ref p/\i=.int k/\H p=some (.lst xs)/\ixN xs.length k=some j/\Q (upd H p (.lst (xs.set j v)))
theorem US:JiL X Jgv:=by
 intro pins s σ H o i v ov iv u Q I ro ri rv h;obtain⟨p,xs,k,j,rfl,rfl,hp,hj,q⟩:=h;cases ro;obtain⟨t,rfl⟩:=ri;obtain⟨its,n,r,ho,hz⟩:=I.lst hp;obtain⟨h1,h2,h3,h4⟩:=JbA hj;have hl:=r.length;have hn:=VC
 have I':Inv X pins σ (upd H p (.lst (xs.set j v))) { s with heap:=s.heap.update p (Obj.mapSeq (·.setIfInBounds j u)) } :=
  I.lstUpd hp ho (JaT its n j u) (r.set rv j) (by rw[List.length_set];exact hz) s.toks
 by_cases h0:0<=k
 ·have hk:k.toNat=j:=by rw[seqIndex_of h0 h4] at h1;exact Option.some.inj h1
  exact PySem.W.ki_setAt ho h0 (by omega) (by rw[List.size_toArray,<- hl];exact h4) (by rw[hk];exact⟨_,I',q⟩)
 ·have hk:(k+(its.toArray.size:Int)).toNat=j:=by rw[seqIndex_neg (by omega) h3] at h1;rw[List.size_toArray,<- hl];exact Option.some.inj h1
  exact PySem.W.ki_setBack ho (by omega) (by rw[List.size_toArray,<- hl];exact h3) (by omega) (by rw[hk];exact⟨_,I',q⟩)

theorem ZU(lo hi:Option Int)(n:Nat):(sliceBounds lo hi none n).1=((HT.sIx n 0 lo:Nat):Int)/\(sliceBounds lo hi none n).2.1=((HT.sIx n n hi:Nat):Int)/\(sliceBounds lo hi none n).2.2=1:=by
 refine⟨?_,?_,rfl⟩
 ·cases lo with
  | none=>simp[sliceBounds,HT.sIx]
  | some i =>
   simp only[sliceBounds,HT.sIx,Option.getD_none,show(1:Int)>0 by decide,if_true]
   by_cases h:i<0
   ·simp only[h,if_true] <;> omega
   ·simp only[h,if_false] <;> omega
 ·cases hi with
  | none=>simp[sliceBounds,HT.sIx]
  | some i =>
   simp only[sliceBounds,HT.sIx,Option.getD_none,show(1:Int)>0 by decide,if_true]
   by_cases h:i<0
   ·simp only[h,if_true] <;> omega
   ·simp only[h,if_false] <;> omega
theorem WX(its:List Value)(lo hi:Option Int):slicePick its.toArray lo hi none=((its.drop (HT.sIx its.length 0 lo)).take (HT.sIx its.length its.length hi-HT.sIx its.length 0 lo)).toArray:=by obtain⟨h1,h2,h3⟩:=ZU lo hi its.toArray.size;unfold slicePick;rw[h1,h2,h3];simp only[sliceRange_one,pick_run,List.size_toArray] <;> rfl
noncomputable def Jjw(K:Frag):V->Option Int->Option Int->Hp->VK->Prop:=fun x lo hi H Q=>∃a xs,x=.ref a/\SqL K H a xs/\∀p,H p=none->Q (.ref p) (upd H p (.lst (WU xs lo hi)))
theorem sl_list:SlR X (Jjw X.K):=by
 intro pins s σ H x v vl vu lo hi sl Q I rx hs pl pu h;obtain⟨a,xs,rfl,hx,q⟩:=h;cases rx;obtain⟨its,r,ht,hz⟩:=I.list hx;have hlen:=r.length;refine⟨"list",_,slot_list_getitem.lookup,ht.isList.typeIs,?_⟩;refine wpAny_getItem_list_slice ht.isList hs pl pu .none (by simp) ?_ (by rw[List.size_toArray] <;> omega);rw[WX,<- hlen];refine⟨.ref s.heap.objs.size,_,I.laid (t':=s.toks) (o:=.lst (WU xs lo hi)) (fun b ob q=>Heap.get?_push_of_some _ q) (Nat.le_refl _) ?_,rfl,q _ (I.hok.fresh (Nat.le_refl _))⟩
 exact⟨Nat.le_trans (VO xs lo hi) hz,_,0,(r.drop (HT.sIx xs.length 0 lo)).take (HT.sIx xs.length xs.length hi-HT.sIx xs.length 0 lo),Heap.get?_push_size _ rfl⟩

theorem CallR.or{f:Value}{r r':List V->Hp->VK->Prop}(h:CallR X f r)(h':CallR X f r'):CallR X f (fun xs H Q=>r xs H Q\/r' xs H Q):=by
 intro pins s σ H xs us Q I rs q;rcases q with q|q
 ·exact h pins s σ H xs us Q I rs q
 ·exact h' pins s σ H xs us Q I rs q
theorem Zv:CallR X (.type "list") (fun xs H Q=>∃p ys,xs=[.ref p]/\(SqL X.K H p ys\/SqT X.K H p ys)/\∀l,H l=none->Q (.ref l) (upd H l (.lst ys))):=by
 intro pins s σ H xs us Q I r h;obtain⟨p,ys,rfl,hq,q⟩:=h;obtain⟨u,rfl,rx⟩:=Zn r;cases rx
 have fin:∀(its:List Value),Vals ys its->ys.length<=sizeLine->∀(h':Heap) (c':Nat),(∀b o',s.heap.get? b=some o'->h'.get? b=some o') ->
  h'.get? s.heap.objs.size=some { cls:=.type "list",dict:=none,data:=.seq its.toArray c',slots:=#[] }->EP X pins σ Q (.ref s.heap.objs.size) { s with heap:=h' }:=fun its r' hz h' c' kp e =>
  ⟨.ref s.heap.objs.size,_,I.laid (t':=s.toks) kp (Nat.le_refl _) (show ObjOk X.prog X.w _ h' _ (.lst ys) from⟨hz,its,c',r',e⟩),rfl,q _ (I.hok.fresh (Nat.le_refl _))⟩
 rcases hq with hq|hq
 ·obtain⟨its,r',pl,hz⟩:=I.list hq;have hlen:=r'.length;obtain⟨o,ho,hc,n,hd⟩:=pl.isList;exact call_list_seq p (.inl rfl) ho hc hd (fun h' c' kp e=>fin its r' hz h' c' kp e) (by simp only[List.size_toArray] <;> omega)
 ·obtain⟨its,r',pl,hz⟩:=I.tuple hq;have hlen:=r'.length;obtain⟨o,ho,hc,n,hd⟩:=pl;exact call_list_seq p (.inr rfl) ho hc hd (fun h' c' kp e=>fin its r' hz h' c' kp e) (by simp only[List.size_toArray] <;> omega)
noncomputable def tyV(K:Frag)(T:String)(x:V)(H:Hp):Prop:=match x with
 | .str _=>T="str"
 | .int _=>T="int"
 | .ref p=>(T="list"/\∃xs,SqL K H p xs)\/(T="tuple"/\∃o,K.lookup p=some o/\o.cls=.type "tuple"/\o.dict=none) ∨
  (T="dict"/\((∃kvs,H p=some (.dK kvs))\/∃kvs,H p=some (.dT kvs)))\/(T="set"/\∃S n,H p=some (.set S n))
 | _=>False
theorem JiB{pins:List (Addr×Obj)}{σ:St}{H:Hp}{s:Shared}{T:String}{x:V}{v:Value}(I:Inv X pins σ H s)(r:RelV x v)(ty:tyV X.K T x H) :
 s.TypeIs v T/\∀a,v=.ref a->∃ob,s.heap.get? a=some ob/\ob.dict=none:=by
 cases x with
 | str z=>obtain⟨t,rfl⟩:=r;cases (show T="str" from ty);exact⟨typeIs_str s z t,fun _ e=>nomatch e⟩
 | int i=>obtain⟨t,rfl⟩:=r;cases (show T="int" from ty);exact⟨typeIs_int s i t,fun _ e=>nomatch e⟩
 | ref p =>
  cases r;rcases ty with ⟨rfl,xs,hq⟩|⟨rfl,o,hk,hc,hd⟩|⟨rfl,hk⟩|⟨rfl,S,n,hk⟩
  ·obtain⟨its,_,pl,_⟩:=I.list hq;refine⟨pl.isList.typeIs,fun a e=>?_⟩;cases e;obtain⟨o,n,e,c,hd,_⟩:=pl;exact⟨o,e,hd⟩
  ·refine⟨⟨o,I.kIn p o hk,hc⟩,fun a e=>?_⟩;cases e;exact⟨o,I.kIn _ o hk,hd⟩
  ·have z:∃o,s.heap.get? p=some o/\o.ExactDict:=by
    rcases hk with ⟨kvs,hk⟩|⟨kvs,hk⟩
    ·obtain⟨_,_,_,_,o,_,_,e,ex,_⟩:=I.hok p _ hk;exact⟨o,e,ex⟩
    ·obtain⟨_,_,_,_,o,_,_,e,ex,_⟩:=I.hok p _ hk;exact⟨o,e,ex⟩
   obtain⟨o,e,ex⟩:=z;refine⟨⟨o,e,ex.1⟩,fun a e2=>?_⟩;cases e2;exact⟨o,e,ex.2.1⟩
  ·obtain⟨o,_,_,_,e,ex,_⟩:=I.hok p _ hk;refine⟨⟨o,e,ex.1⟩,fun a e2=>?_⟩;cases e2;exact⟨o,e,ex.2.1⟩
 | _=>exact False.elim ty
noncomputable def tBM(K:Frag)(T:String)(r:V->List V->Hp->VK->Prop)(to:TE)(t:TA):TE:=fun σ H Q=>to σ H fun x H1=>tyV K T x H1/\t σ H1 fun xs H2=>r x xs H2 Q
variable{o e:Expr}{es:List Expr}{to:TE}{t:TA}{name:Str}{apos cpos:Pos}{T id:String}{r:V->List V->Hp->VK->Prop}
theorem Jjn(pa:PlainAttrs T)(slot:Slot T name id)(hty:typeOf (.builtin id)=pure (.type "method_descriptor"))(hm:MtR X id r)(ho:PE X o to)(ha:PA X (e::es) t)
 (hbase:attributeBase o name X.env (eval o X.env)=eval o X.env:=by rfl)
 (hfew:((backTo cpos (starEach (e::es) X.env)).all (fun x=>!x.1) && (backToKw cpos (keywordEach [] X.env)).all (fun x=>x.1.isSome)
  && decide ((e::es).length+([]:List Keyword).length+(if ([]:List Keyword).isEmpty then 0 else 1)<30))=true:=by rfl)
 (hline:(apos.endLine == cpos.line)=true:=by rfl) (hs:starEach (e::es) X.env=(false,eval e X.env)::starEach es X.env:=by rfl) (hplain:(backTo cpos (starEach es X.env)).any (·.1)=false:=by rfl) :
 PE X (.Call (.Attribute o name apos) (e::es) [] cpos) (tBM X.K T r to t):=by
 intro pins s σ H Q I h;refine wpAny_Call_method_late hbase hfew hline rfl (thn (ho pins s σ H _ I h) fun v s1 ⟨x,H1,I1,r1,ty,q1⟩=>?_);obtain⟨h1,h2⟩:=JiB I1 r1 ty;refine⟨T,id,pa,slot,hty,h1,h2,?_⟩;have hA:=ha cpos pins s1 σ H1 _ I1 q1;rw[hs] at hA ⊢;refine Calls.callWith_builtin (by show(false || (backTo cpos (starEach es X.env)).any (·.1))=false;rw[hplain] <;> rfl) (Calls.evalArgs_plain ?_);exact thn hA fun us s2 ⟨vs,H2,I2,r2,q2⟩=>hm pins s2 σ H2 x vs v us Q I2 r1 r2 q2
/- xs.append(e),list.index on a module's tuple .. are MtR facts of 06m -/
end
end L2

namespace L2
open PySem PySem.Spec PyProof.Rows

noncomputable def MtM(X:Cx)(id:String)(r:V->List V->Hp->VK->Prop):Prop :=
 ∀(pins:List (Addr×Obj)) (s:Shared) (σ:St) (H:Hp) (x:V) (xs:List V) (v:Value) (us:List Value) (Q:VK),Inv X pins σ H s->RelV x v->Vals xs us->r x xs H Q ->
  wpAny (model X.prog X.w) X.A (call (.builtin id) (v::us)) (EP X pins σ Q) X.xe s

theorem Vals.one:∀{x:V} {us:List Value},Vals [x] us->∃u,us=[u]/\RelV x u
 | _,_,.cons r .nil=>⟨_,rfl,r⟩
theorem Vals.two:∀{x y:V} {us:List Value},Vals [x,y] us->∃u v,us=[u,v]/\RelV x u/\RelV y v
 | _,_,_,.cons r (.cons q .nil)=>⟨_,_,rfl,r,q⟩
theorem Vals.zero:∀{us:List Value},Vals [] us->us=[]
 | _,.nil=>rfl
theorem Vals.dropLast{xs:List V}{us:List Value}(h:Vals xs us):Vals xs.dropLast us.dropLast:=by
 induction h with
 | nil=>exact .nil
 | cons r t ih =>
  cases t with
  | nil=>exact .nil
  | cons q t'=>exact .cons r ih
theorem Vals.eraseIdx:∀{xs:List V} {us:List Value} (i:Nat),Vals xs us->Vals (xs.eraseIdx i) (us.eraseIdx i)
 | _,_,_,.nil=>.nil
 | _,_,0,.cons _ t=>t
 | _,_,i+1,.cons r t=>.cons r (Vals.eraseIdx i t)
theorem Vals.rep{xs:List V}{us:List Value}(h:Vals xs us):∀k:Nat,Vals (List.replicate k xs).flatten (List.replicate k us).flatten
 | 0=>.nil
 | k+1=>by rw[List.replicate_succ,List.replicate_succ,List.flatten_cons,List.flatten_cons];exact Vals.append h (Vals.rep h k)
theorem Zg{α:Type}:∀(l:List α) (i:Nat),(l.eraseIdx i).length<=l.length
 | [],_=>Nat.le_refl _
 | _::_,0=>Nat.le_succ _
 | _::r,i+1=>Nat.succ_le_succ (Zg r i)
section
variable{X:Cx}{pins:List (Addr×Obj)}{σ:St}{H:Hp}{s:Shared}{l b:Addr}{xs ys zs:List V}

theorem Inv.lset{its its':List Value}{n:Nat}{f:Array Value->Array Value}{t':Nat}(I:Inv X pins σ H s)(hH:H l=some (.lst xs))
 (e:s.heap.get? l=some { cls:=.type "list",data:=.seq its.toArray n }) (hf:f its.toArray=its'.toArray) (hv:Vals ys its') (hz:ys.length<=sizeLine) :
 Inv X pins σ (upd H l (.lst ys)) { s with heap:=s.heap.update l (Obj.mapSeq f),toks:=t' }:=by
 have q:=PySem.IsL.update e f;rw[hf] at q;refine I.write (x:=l) (e:=l) (by rw[hH];exact trivial) (.inl rfl) (fun b' u hb hu=>(Heap.get?_update_other s.heap (Obj.mapSeq f) (Ne.symm hb)).trans hu) ⟨_,q⟩ ?_;exact⟨hz,its',_,hv,q⟩
theorem Inv.lnew{its:List Value}{t':Nat}(I:Inv X pins σ H s)(hv:Vals ys its)(hz:ys.length<=sizeLine) :
 Inv X pins σ (upd H s.heap.objs.size (.lst ys)) { s with heap:=s.heap.push { cls:=.type "list",data:=.seq its.toArray },toks:=t' } :=
 I.laid (fun _ _ q=>Heap.get?_push_of_some _ q) (Nat.le_refl _) ⟨hz,its,0,hv,Heap.get?_push_size _ rfl⟩
theorem Inv.fresh(I:Inv X pins σ H s):H s.heap.objs.size=none:=I.hok.fresh (Nat.le_refl _)
theorem Inv.lstM(I:Inv X pins σ H s)(hH:H l=some (.lst xs)):xs.length<=sizeLine/\∃(its:List Value) (n:Nat),Vals xs its/\xs.length=its.length/\s.heap.get? l=some { cls:=.type "list",data:=.seq its.toArray n }:=by obtain⟨z,its,n,r,e⟩:=I.hok l _ hH;exact⟨z,its,n,r,r.length,e⟩

end

section
variable{X:Cx}

noncomputable def JbI:V->List V->Hp->VK->Prop:=fun x vs H Q=>∃l xs y,x=.ref l/\vs=[y]/\H l=some (.lst xs)/\xs.length<sizeLine/\Q .non (upd H l (.lst (xs++[y])))
theorem VE:MtM X "list.append" JbI:=by intro pins s σ H x vs v us Q I rx rv h;obtain⟨l,xs,y,rfl,rfl,hH,hz,q⟩:=h;cases rx;obtain⟨u,rfl,ru⟩:=rv.one;obtain⟨z,its,n,r,hl,e⟩:=I.lstM hH;refine call_meets F.slot_list_append ⟨_,e,rfl⟩ F.entry_list_append (F.args_list_append_2 _ _) (PySem.list_append l its.toArray n u (by rw[List.size_toArray];omega)) ⟨e,?_⟩;refine⟨.non,_,I.lset (its':=its++[u]) hH e (by simp) (r.append (.cons ru .nil)) ?_,rfl,q⟩;rw[List.length_append,List.length_singleton];omega

noncomputable def JdX:V->List V->Hp->VK->Prop:=fun x vs H Q=>∃l xs i k y,x=.ref l/\vs=[.int i]/\H l=some (.lst xs)/\-(2 ^ 63)<=i/\i<2 ^ 63/\seqIndex? i xs.length=some k/\xs[k]?=some y/\Q y (upd H l (.lst (xs.eraseIdx k)))
theorem Jdy:MtM X "list.pop" JdX:=by
 intro pins s σ H x vs v us Q I rx rv h;obtain⟨l,xs,i,k,y,rfl,rfl,hH,h1,h2,hk,hy,q⟩:=h;cases rx;obtain⟨u,rfl,ru⟩:=rv.one;obtain⟨t,rfl⟩:=ru;obtain⟨z,its,n,r,hl,e⟩:=I.lstM hH;obtain⟨w,hw,rw'⟩:=r.get hy;refine call_meets F.slot_list_pop ⟨_,e,rfl⟩ F.entry_list_pop (F.args_list_pop_2 _ _)
  (MeetsSeq.list_pop_at l its.toArray n i t k w (fitsIndex_both h1 h2) (by rw[List.size_toArray,<- hl];exact hk) (by rw[<- Array.getElem?_toList];exact hw) (by rw[List.size_toArray];omega)) ⟨e,?_⟩
 refine⟨y,_,I.lset (its':=its.eraseIdx k) hH e ?_ (r.eraseIdx k) ?_,rw',q⟩
 ·show its.toArray.eraseIdxIfInBounds k=(its.eraseIdx k).toArray;rw[List.eraseIdxIfInBounds_toArray]
 ·have:=Zg xs k;omega

noncomputable def Jjo:R2:=fun x y H Q=>∃l b xs zs,x=.ref l/\y=.ref b/\H l=some (.lst xs)/\H b=some (.lst zs)/\xs.length+zs.length<=sizeLine/\∀p,H p=none->Q (.ref p) (upd H p (.lst (xs++zs)))
theorem Jhz:OpR X (binaryOp .Add) Jjo:=by
 intro pins s σ H x y v u Q I rx ry h;obtain⟨l,b,xs,zs,rfl,rfl,hH,hB,hz,q⟩:=h;cases rx;cases ry;obtain⟨z,its,n,r,hl,e⟩:=I.lstM hH;obtain⟨z2,its2,n2,r2,hl2,e2⟩:=I.lstM hB;refine PySem.P.add_list e e2 ?_ (by rw[List.size_toArray,List.size_toArray];omega);have ea:its.toArray++its2.toArray=(its++its2).toArray:=by simp
 rw[ea];exact⟨.ref _,_,I.lnew (t':=s.toks) (r.append r2) (by rw[List.length_append];omega),rfl,q _ I.fresh⟩
end

section
variable{prog:Program}{w:World}{A:Around}{E:Value->Shared->Prop}{s:Shared}
end

section
variable{X:Cx}
end
end L2

namespace Att
open PySem PySem.W PySem.Calls PyProof.Rows

theorem V1{P:Params}{h:Heap}:∀(ns:List Int) (vs:List Value),WellAll P h vs (ns.map WData.int)->IntsAre vs ns:=by
 intro ns
 induction ns with
 | nil=>intro vs w;rw[List.map_nil] at w;cases w;exact .nil
 | cons n ns ih =>
  intro vs w;rw[List.map_cons] at w
  cases w with
  | cons a b=>cases a;exact .cons _ _ (ih _ b)

theorem JcE{l:OpenLaw}{n:Nat}(hn:l.most=some n){P:Params}{h:Heap}{args:List WData}{vals:List Value}
 (hpre:l.row.toRowW.claim.pre args=true) (hwl:WellAll P h vals args) :
 ∃a vs ns,vals=[Value.ref a]/\args=[WData.list (ns.map WData.int)]/\h.get? a=some { cls:=.type "list",data:=.seq vs.toArray }/\IntsAre vs ns/\ns.length<=n:=by
 have hsh:WShape.hasAll [] args [.list .int]=true:=(pre_splitW hpre).1
 have hc:l.pre.holds [] { args:=args }=true:=(pre_splitW hpre).2;obtain⟨d,r,rfl,h1,h2⟩:=hasAllW_cons hsh;obtain rfl:=hasAllW_nil h2;obtain⟨xs,rfl,h3⟩:=hasW_list h1;obtain⟨ns,rfl⟩:=items_int h3
 have hlen:ns.length<=n:=by
  unfold OpenLaw.pre at hc
  have h4:(WTm.not (.lt (.lit (.int (n:Int))) (.len (.arg 0)))).holds [] { args:=[.list (ns.map .int)] }=true:=by have h4:=(holds_andW hc).1;rw[hn] at h4;exact h4
  have h5:=condW_of h4 (w_not (w_lt w_lit (w_len_list (w_arg rfl))));rw[List.length_map] at h5;refine Nat.le_of_not_lt fun q=>?_
  have q':(n:Int)<((ns.length:Nat):Int):=by omega
  first
   | (rw[decide_eq_true q'] at h5;exact absurd h5 (by decide))
   | (simp at h5;omega)
 cases hwl with
 | cons w1 w2 =>
  cases w2
  cases w1 with
  | list ho hall=>exact⟨_,_,ns,rfl,rfl,ho,V1 ns _ hall,hlen⟩

theorem Jcz(l:OpenLaw)(args:List WData):l.row.toRowW.claim.post args (.bool true) args=true :=
 postW_of (r:=l.row.toRowW) (X:=(true == true))
  (show WShape.has [] (.bool true) .bool=true by first|rfl|decide|simp[WShape.has,WShape.arms,WShape.armsAll])
  (show(WTm.eq .res (.lit (.bool true))).value [] { args:=args,res:=some (.bool true),after:=args }=some (.bool (true == true)) from w_eq_bool (w_res rfl) w_lit) rfl

theorem attach_call{l:OpenLaw}{n:Nat}{q:Program}{loose:List Str}{XP:(Str->Option Value)->Heap->Prop}{YP:World->Heap->Prop}{d:DefRec}
 (hn:l.most=some n) (hdf:d.params.defaults=[])
 (call:∀(w:World) (s₀ s₁:Shared) (mg mb:Str->Option Value) (fa:Addr) (o:Obj) (pm cd doc:Value) (a:Addr) (vs:List Value) (ns:List Int),
  Ground q loose [] XP w s₀ mg mb s₁.heap->YP w s₁.heap ->
  s₁.heap.get? fa=some o->o.data=.func (docDef d.name d.params d.body d.scope pm cd doc)->s₁.heap.CodeRec cd d.name->mg d.name=some (.ref fa) ->
  s₁.heap.get? a=some { cls:=.type "list",data:=.seq vs.toArray }->IntsAre vs ns->ns.length<=n->s₁.gens=#[] ->
  codeAny (model l.prog w) callerA (.call (.ref fa) ⟨[.ref a],[]⟩) (fun r s'=>r=.ok (.ret (.bool true))/\OldK s₁.heap s'.heap/\s'.os=s₁.os/\AllBare s'.gens) s₁) :
 WalkO q loose XP YP l.row.toRowW d [] (fun f vs=>PySem.call f vs):=by
 intro w s₀ s₁ mg mb G Y fa o pm cd doc dV kV ho hd hcd hD hmg hg args vals as hpre hlay hrd hwl hlo;obtain rfl:dV=.none:=Dflts.none hD hdf;obtain rfl:kV=.none:=Dflts.noKw hD;obtain⟨a,vs,ns,rfl,rfl,hobj,hints,hlen⟩:=JcE hn hpre hwl;refine enter_call (codeAny_mono (call w s₀ s₁ mg mb fa o pm cd doc a vs ns G Y ho (fd_plain hd) hcd hmg hobj hints hlen hg) fun r s' hq=>?_);obtain⟨rfl,h2,h3,h4⟩:=hq;exact⟨.inl ⟨.bool true,.bool true,[],rfl,fun _=>rfl,.bool true,Jcz l _,fun _=>⟨List.Pairwise.nil,fun _ hm=>(nomatch hm)⟩⟩,h2,h3,h4⟩

section
variable{prog:Program}{w:World}{A:Around}{E:Value->Shared->Prop}{s:Shared}{K:Frag}

end
end Att

namespace L2
open PySem PySem.Spec PyProof.Rows

theorem Zo:∀{vs:List Value} {ns:List Int},IntsAre vs ns->Vals (ns.map V.int) vs
 | _,_,.nil=>.nil
 | _,_,.cons n t h=>.cons ⟨t,rfl⟩ (Zo h)

noncomputable def JgF(H:Hp):Prop:=∀b,H b=none\/∃o xs,H b=some (.frz o (.lst xs))

theorem Jdt{P:Program}{w:World}{K:Frag}{mg mb:Str->Option Value}{CX:CXT}{k:Nat}{fa a:Addr}{fd:FuncData}{x:Str}{sp:Sp}{s₁:Shared}{vs:List Value}{ns:List Int}
 (KX:K.In s₁.heap) (hns:s₁.heap.Ns mainGlobals mg) (hb:s₁.heap.Ns builtinsNs mb) (hbb:∀x:Str,x≠"__name__"->mb x=bootBuiltins x) (hlim:s₁.heap.NoLimit) (hg:s₁.gens=#[])
 (ha:s₁.heap.get? a=some { cls:=.type "list",data:=.seq vs.toArray }) (hi:IntsAre vs ns) (hl:ns.length<=sizeLine) (hr:Room k callerA)
 (F:∀base:Heap,K.In base->base.Ns mainGlobals mg->FnOk P w K mg base CX k fa fd [x] sp) (hbind:∀(s:Shared) (u:Value),BindsTo s fd ⟨[u],[]⟩ [(x,u)])
 (hsp:∀H:Hp,JgF H->SqL K H a (ns.map V.int)->sp [.ref a] H (fun v _=>v=.bl true) fun _ _ _=>False)
 (hCX:∀H e s',CX [] H s₁ (fun _ _ _=>False) e s'->False) :
 codeAny (model P w) callerA (.call (.ref fa) ⟨[.ref a],[]⟩) (fun r s'=>r=.ok (.ret (.bool true))/\OldK s₁.heap s'.heap/\s'.os=s₁.os/\AllBare s'.gens) s₁:=by
 have rv:=Zo hi
 have lenV:=hi.length
 -- from an abstract heap in which nothing but the script may be tracked
 have core:∀H:Hp,JgF H->SqL K H a (ns.map V.int)->HOk P w H s₁.heap->(∀b,H b≠none->b=a)->(H a≠none->K.lookup a=none) ->
  codeAny (model P w) callerA (.call (.ref fa) ⟨[.ref a],[]⟩) (fun r s'=>r=.ok (.ret (.bool true))/\OldK s₁.heap s'.heap/\s'.os=s₁.os/\AllBare s'.gens) s₁:=by
  intro H hO hS hok hA hK;have base_of:∀{b:Addr} {o:Obj},s₁.heap.get? b=some o->H b=none->(ZH s₁.heap H).get? b=some o:=fun e n=>Jdj e n
  have noA:∀{b:Addr} {o:Obj} {es:Array DictEntry} {ep:Nat},s₁.heap.get? b=some o->o.data=.dict es ep->H b=none:=fun {b o es ep} e d=>by
   cases q:H b with
   | none=>rfl
   | some u =>
    have e':b=a:=hA b (by rw[q];simp);subst e';rw[ha] at e;cases e
    have d':Data.seq vs.toArray _=Data.dict es ep:=d;cases d'
  have nsK:∀{b:Addr} {m:Str->Option Value},s₁.heap.Ns b m->(ZH s₁.heap H).Ns b m:=fun {b m} ⟨o,es,ep,e,d,r⟩=>⟨o,es,ep,base_of e (noA e d),d,r⟩
  have hKb:K.In (ZH s₁.heap H):=fun b o e=>base_of (KX b o e) (by
   cases q:H b with
   | none=>rfl
   | some u=>have e':b=a:=hA b (by rw[q];simp);subst e';rw[hK (by rw[q];simp)] at e;cases e)
  have hM:Mod K mg (ZH s₁.heap H):=⟨hKb,nsK hns,⟨mb,nsK hb,hbb⟩,let ⟨mc,h1,h2⟩:=hlim;⟨mc,nsK h1,h2⟩⟩
  have e0:Env0 P w K mg (ZH s₁.heap H) callerA [] s₁ H:=⟨rfl,hM,fun b o e=>Jfl e,Nat.le_of_eq (Jcg _ _),trivial,fun b hb=>absurd (show b∈([]:List Addr) from hb) (by simp),hok,.of_eq hg⟩
  refine codeAny_mono ((F _ hKb (nsK hns)).run callerA [] s₁ H ⟨[.ref a],[]⟩ [.ref a] [.ref a] _ _ hr e0 (hbind s₁ (.ref a)) (.cons rfl .nil) (hsp H hO hS)) fun r s' h=>?_
  cases r with
  | error e=>exact(hCX H e s' h).elim
  | ok fl =>
   cases fl with
   | next=>exact False.elim h
   | brk=>exact False.elim h
   | cont=>exact False.elim h
   | ret u =>
    obtain⟨v,H',os,bare,un,hok',r',q⟩:=h;have q':v=.bl true:=q;subst q';obtain rfl:u=Value.bool true:=r';refine⟨rfl,OldK.of_keep fun b o e=>?_,os,bare⟩
    cases q:H b with
    | none=>exact un.keep b o e q (by intro z;exact absurd (show b∈([]:List Addr) from z) (by simp)) (by simp)
    | some u =>
     rcases hO b with z|⟨ob,xs,z⟩
     ·rw[q] at z;cases z
     ·have z2:=un.frzs b ob _ z;obtain⟨e1,_⟩:=hok b _ z;obtain⟨e2,_⟩:=hok' b _ z2;rw[e] at e1;cases e1;exact e2
 cases hk:K.lookup a with
 | some o =>
  -- the script is one of the module's own objects
  have e:=KX a o hk;rw[ha] at e;cases e;refine core (fun _=>none) (fun _=>.inl rfl) (.inr ⟨_,vs.toArray,_,hk,rfl,rfl,rfl,by rw[List.size_toArray,lenV];exact hl,by simpa using rv⟩) (fun b u z=>by have z':(none:Option HO)=some u:=z;cases z') (fun b z=>absurd rfl z) fun z=>absurd rfl z
 | none =>
  refine core (fun b=>if b=a then some (.frz { cls:=.type "list",data:=.seq vs.toArray } (.lst (ns.map V.int))) else none) (fun b=>?_) (.inl (.inr ⟨{ cls:=.type "list",data:=.seq vs.toArray },if_pos rfl⟩)) (fun b u z=>?_) (fun b z=>?_) fun _=>hk
  ·by_cases hb:b=a
   ·exact .inr ⟨_,_,if_pos hb⟩
   ·exact .inl (if_neg hb)
  ·by_cases hb:b=a
   ·have z':=(if_pos hb).symm.trans z;cases z';subst hb;exact⟨ha,by rw[List.length_map];exact hl,vs,_,rv,ha⟩
   ·have z':=(if_neg hb).symm.trans z;cases z'
  ·by_cases hb:b=a
   ·exact hb
   ·exact absurd (if_neg hb) z
end L2

namespace L2
open PySem PySem.Spec PyProof.Rows

theorem Jgb{l:PySem.W.OpenLaw}{n k:Nat}{q:Program}{loose:List Str}{XP:(Str->Option Value)->Heap->Prop}{YP:World->Heap->Prop}{d:DefRec}{K:Params->Frag}{CX:World->CXT}{sp:World->Sp}{x:Str}
 (hn:l.most=some n) (hn2:n<=sizeLine) (hdf:d.params.defaults=[]) (hr:Room k callerA)
 (hY:∀(w:World) (h:Heap),YP w h->(K w.params).In h)
 (F:∀(w:World) (mg:Str->Option Value) (fa:Addr) (h:Heap),(K w.params).In h->h.Ns mainGlobals mg->mg d.name=some (.ref fa) ->
  ∃fd:FuncData,(∀(s:Shared) (u:Value),BindsTo s fd ⟨[u],[]⟩ [(x,u)]) ∧
   ∀base:Heap,(K w.params).In base->base.Ns mainGlobals mg->FnOk l.prog w (K w.params) mg base (CX w) k fa fd [x] (sp w))
 (hsp:∀(w:World) (H:Hp) (a:Addr) (ns:List Int),ns.length<=n->JgF H->SqL (K w.params) H a (ns.map V.int)->sp w [.ref a] H (fun v _=>v=.bl true) fun _ _ _=>False)
 (hCX:∀(w:World) (H:Hp) (s:Shared) (e:Value) (s':Shared),CX w [] H s (fun _ _ _=>False) e s'->False) :
 PySem.W.WalkO q loose XP YP l.row.toRowW d [] (fun f vs=>PySem.call f vs):=by
 refine Att.attach_call hn hdf fun w s₀ s₁ mg mb fa o pm cd doc a vs ns G Y ho hd hcd hmg hobj hints hlen hg=>?_
 have KX:=hY w _ Y;obtain⟨fd,hb,hF⟩:=F w mg fa _ KX G.T.g hmg;exact Jdt KX G.T.g G.T.b G.T.builtins G.T.nolimit hg hobj hints (Nat.le_trans hlen hn2) hr hF hb (fun H hO hS=>hsp w H a ns hlen hO hS) fun H e s'=>hCX w H s₁ e s'
end L2

namespace L2
open PySem PySem.Spec PyProof.Rows

noncomputable def JS(s:Stmt):Arguments:=match s with
 | .FunctionDef _ a _ _ _ _ _ _ _ _=>a
 | _=>{ posonlyargs:=[],args:=[],vararg:=none,kwonlyargs:=[],kw_defaults:=[],kwarg:=none,defaults:=[] }
noncomputable def JH(s:Stmt):List Stmt:=match s with
 | .FunctionDef _ _ b _ _ _ _ _ _ _=>b
 | _=>[]
noncomputable def Jj(s:Stmt):Scope:=match s with
 | .FunctionDef _ _ _ _ _ _ sc _ _ _=>sc
 | _=>{ kind:=.function,names:=[],isGenerator:=false,isCoroutine:=false }

noncomputable abbrev CX0:CXT:=fun _ _ _ _ _ _=>False
noncomputable abbrev E0:XK:=fun _ _ _=>False
theorem Jjl{X:Cx}:Vw CX0 X E0:=fun _ _ _ _ _ _ _ h=>h.elim

structure Fun (K:Frag) (x qual:Str) (st:Stmt) (f:Addr) (fd:FuncData):Prop where
 ex:∃(oc:Value) (od:Option Addr) (kV doc pm:Value) (an:Option Addr) (cdv ct:Value) (osl:Array (Option Value)),
  fd=fnOf x qual (JS st) (JH st) (Jj st) .none kV doc pm an cdv ct/\K.lookup f=some ⟨oc,od,.func fd,osl⟩/\codeIn K cdv qual=true
 kp:keepIn K (.ref f)=true
section
variable{P:Program}{w:World}{K:Frag}{mg:Str->Option Value}{base:Heap}
theorem Fun.ok{x qual:Str}{st:Stmt}{f:Addr}{fd:FuncData}{N ps:List Str}{k:Nat}{sp:Sp}(F:Fun K x qual st f fd)(S:FnScope N ps (Jj st))(len:∀vs H Q E,sp vs H Q E->vs.length=ps.length)
 (hbody:∀(cdv:Value) (A:Around) (outer:List Env) (s:Shared) (H:Hp) (vs:List V) (Q:VK) (E:XK),Room k (A.deeper (envOfC qual (Jj st) s.heap.objs.size f cdv))->sp vs H Q E ->
  ∃t,PSs (Wd CX0 P w K mg base N qual (Jj st) f cdv A outer s H E).nox (JH st) t/\t { nx:=fun _ H'=>Q .non H',rt:=Q } (Ys N vs) H):FnOk P w K mg base CX0 (k+1) f fd ps sp:=by
 obtain⟨oc,od,kV,doc,pm,an,cdv,ct,osl,rfl,lk,hcd⟩:=F.ex;refine Jgo lk hcd S len fun A outer s H vs Q E hr hsp=>?_
 obtain⟨t,h,q⟩:=hbody cdv A outer s H vs Q E hr hsp;exact⟨t,h.nox,q⟩
theorem Fun.binds{x qual:Str}{st:Stmt}{f:Addr}{fd:FuncData}{ps:List Str}(F:Fun K x qual st f fd)
 (h:∀(kV doc pm:Value) (an:Option Addr) (cdv ct:Value) (us:List Value),us.length=ps.length->bindArgs (fnOf x qual (JS st) (JH st) (Jj st) .none kV doc pm an cdv ct) ⟨us,[]⟩=pure (ps.zip us)):Binds K fd ps []:=by
 obtain⟨oc,od,kV,doc,pm,an,cdv,ct,osl,rfl,lk,hcd⟩:=F.ex;exact .all (h kV doc pm an cdv ct)
theorem YA{x qual:Str}{st:Stmt}{f:Addr}{oc:Value}{od an:Option Addr}{osl:Array (Option Value)}{kV doc pm cdv ct:Value}(l:K.lookup f=some ⟨oc,od,.func (fnOf x qual (JS st) (JH st) (Jj st) .none kV doc pm an cdv ct),osl⟩)
 (c:codeIn K cdv qual=true) (k:keepIn K (.ref f)=true):Fun K x qual st f (fnOf x qual (JS st) (JH st) (Jj st) .none kV doc pm an cdv ct):=⟨⟨oc,od,kV,doc,pm,an,cdv,ct,osl,rfl,l,c⟩,k⟩
end
theorem Jgp{A:Around}{k:Nat}(hr:Room k A):A.units+1<cLine:=Nat.lt_of_le_of_lt (Nat.add_le_add_left (by decide:1<=64) _) hr.units
section
variable{X:Cx}
theorem pv(i:Nat){x:Str}{pos:Pos}(hN:X.N[i]?=some x:=by rfl)(hv:Vis X.env.scope x:=by first | exact Or.inl rfl | exact Or.inr (.inl rfl) | exact Or.inr (.inr rfl))(hd:(x == ("__debug__":Str))=false:=by decide)
 (hcd:(x == ("__classdict__":Str))=false:=by decide):PE X (.Name x pos) (WM i):=JhI hN hv hd hcd
end

noncomputable def Same(H H':Hp):Prop:=∀b o,H b=some o->H' b=some o
theorem Same.refl(H:Hp):Same H H:=fun _ _ h=>h
theorem Same.trans{H H1 H2:Hp}(a:Same H H1)(b:Same H1 H2):Same H H2:=fun c o h=>b c o (a c o h)
theorem Same.free{H H':Hp}(e:Same H H'){l:Addr}(h:H' l=Option.none):H l=Option.none:=by
 cases q:H l with
 | none=>rfl
 | some o=>rw[e l o q] at h;cases h
theorem Same.seq{K:Frag}{H H':Hp}{a:Addr}{xs:List V}(e:Same H H')(h:SqL K H a xs):SqL K H' a xs:=by
 rcases h with (h|⟨o,h⟩)|h
 ·exact .inl (.inl (e _ _ h))
 ·exact .inl (.inr ⟨o,e _ _ h⟩)
 ·exact .inr h

end L2

namespace L2
open PySem PySem.Spec PyProof.Rows

section
variable{κ:Type}[DecidableEq κ]
noncomputable def Va(kvs:List (κ×V))(k:κ):Option V:=(kvs.find? fun kv=>decide (kv.1=k)).map (·.2)
noncomputable def Vo(kvs:List (κ×V))(k:κ)(v:V):List (κ×V) :=
 if (kvs.any fun kv=>decide (kv.1=k))=true then kvs.map (fun kv=>if kv.1=k then(kv.1,v) else kv) else kvs++[(k,v)]
noncomputable def Jgm(kvs:List (κ×V))(k:κ):List (κ×V):=kvs.filter fun kv=>decide (kv.1≠k)

theorem Vt{p:κ×V}{r:List (κ×V)}{k:κ}(e:p.1=k):Va (p::r) k=some p.2:=by simp[Va,List.find?_cons,e]
theorem Vs{p:κ×V}{r:List (κ×V)}{k:κ}(e:¬p.1=k):Va (p::r) k=Va r k:=by simp[Va,List.find?_cons,e]
theorem JaE(k:κ):∀kvs:List (κ×V),(kvs.any fun kv=>decide (kv.1=k))=(Va kvs k).isSome
 | []=>rfl
 | p::r=>by
  rw[List.any_cons]
  by_cases e:p.1=k
  ·simp only[Vt e,decide_eq_true e,Bool.true_or,Option.isSome_some]
  ·rw[Vs e,decide_eq_false e,Bool.false_or];exact JaE k r
theorem VS(kvs:List (κ×V))(k:κ)(v:V):(Vo kvs k v).length<=kvs.length+1:=by
 unfold Vo;split
 ·rw[List.length_map];omega
 ·rw[List.length_append,List.length_cons,List.length_nil];omega
theorem RelO.isSome_eq{o:Option V}{u:Option Value}(r:RelO o u):o.isSome=u.isSome:=by
 cases o with
 | none=>cases u with
  | none=>rfl
  | some _=>exact(show False from r).elim
 | some _=>cases u with
  | none=>exact(show False from r).elim
  | some _=>rfl
theorem RelO.getD{o:Option V}{u:Option Value}{d:V}{d':Value}(r:RelO o u)(rd:RelV d d'):RelV (o.getD d) (u.getD d'):=by
 cases o with
 | none=>cases u with
  | none=>exact rd
  | some _=>exact(show False from r).elim
 | some _=>cases u with
  | none=>exact(show False from r).elim
  | some _=>exact r

theorem KV.val{kvs:List (κ×V)}{vs:List (κ×Value)}(r:KV kvs vs)(k:κ):RelO (Va kvs k) (valueAt vs k):=by
 unfold KV at r
 induction r with
 | nil=>exact True.intro
 | @cons p q ps qs h t ih =>
  obtain⟨h1,h2⟩:=h
  by_cases e:p.1=k
  ·have e':q.1=k:=h1.symm.trans e
   have b:valueAt (q::qs) k=some q.2:=by simp[valueAt,List.find?_cons,e']
   rw[Vt e,b];exact h2
  ·have e':¬q.1=k:=fun z=>e (h1.trans z)
   have b:valueAt (q::qs) k=valueAt qs k:=by simp[valueAt,List.find?_cons,e']
   rw[Vs e,b];exact ih
theorem KV.any{kvs:List (κ×V)}{vs:List (κ×Value)}(r:KV kvs vs)(k:κ):(kvs.any fun kv=>decide (kv.1=k))=vs.any fun kv=>decide (kv.1=k):=by
 unfold KV at r
 induction r with
 | nil=>rfl
 | cons h t ih=>rw[List.any_cons,List.any_cons,ih,h.1]
theorem KV.repl{kvs:List (κ×V)}{vs:List (κ×Value)}(r:KV kvs vs)(k:κ){y:V}{u:Value}(ry:RelV y u) :
 KV (kvs.map fun kv=>if kv.1=k then(kv.1,y) else kv) (vs.map fun kv=>if kv.1=k then(kv.1,u) else kv):=by
 unfold KV at r ⊢
 induction r with
 | nil=>exact .nil
 | @cons p q ps qs h t ih =>
  rw[List.map_cons,List.map_cons];refine .cons ?_ ih;obtain⟨h1,h2⟩:=h
  by_cases e:p.1=k
  ·rw[if_pos e,if_pos (h1.symm.trans e)];exact⟨h1,ry⟩
  ·rw[if_neg e,if_neg (fun z=>e (h1.trans z))];exact⟨h1,h2⟩
theorem KV.put{kvs:List (κ×V)}{vs:List (κ×Value)}(r:KV kvs vs)(k:κ){y:V}{u:Value}(ry:RelV y u):KV (Vo kvs k y) (stored vs k u):=by
 unfold Vo stored;rw[r.any k]
 by_cases e:(vs.any fun kv=>decide (kv.1=k))=true
 ·rw[if_pos e,if_pos e];exact r.repl k ry
 ·rw[if_neg e,if_neg e];exact Paired.snoc r ⟨rfl,ry⟩
theorem KV.drop{kvs:List (κ×V)}{vs:List (κ×Value)}(r:KV kvs vs)(k:κ):KV (Jgm kvs k) (without vs k):=by
 unfold KV at r ⊢;unfold Jgm without
 induction r with
 | nil=>exact .nil
 | @cons p q ps qs h t ih =>
  obtain⟨h1,h2⟩:=h;rw[List.filter_cons,List.filter_cons]
  by_cases e:p.1=k
  ·have a:¬decide (p.1≠k)=true:=by simp[e]
   have b:¬decide (q.1≠k)=true:=by simp[h1.symm.trans e]
   rw[if_neg a,if_neg b];exact ih
  ·have e':¬q.1=k:=fun z=>e (h1.trans z)
   have a:decide (p.1≠k)=true:=by simp[e]
   have b:decide (q.1≠k)=true:=by simp[e']
   rw[if_pos a,if_pos b];exact .cons ⟨h1,h2⟩ ih
theorem KV.keys{kvs:List (κ×V)}{vs:List (κ×Value)}(r:KV kvs vs):kvs.map (·.1)=vs.map (·.1):=by
 unfold KV at r
 induction r with
 | nil=>rfl
 | cons h t ih=>rw[List.map_cons,List.map_cons,ih,h.1]
theorem KV.length{kvs:List (κ×V)}{vs:List (κ×Value)}(r:KV kvs vs):kvs.length=vs.length:=Paired.length r
end

theorem Jgs{P:Program}{w:World}{k:Key}{u:Value}(r:RelV (kV k) u):(Yl P w).is k u=true:=by
 cases k with
 | inl i=>obtain⟨t,e⟩:=(show ∃t,u=Value.int i t from r);subst e;exact Jao P w i t
 | inr x=>obtain⟨t,e⟩:=(show ∃t,u=Value.str x t from r);subst e;exact Jap P w x t
theorem VA{P:Program}{w:World}:∀{ks:List Key} {us:List Value},Vals (ks.map kV) us->ItemsAre (Yl P w) ks us
 | [],_,r=>by rw[List.map_nil] at r;cases r;exact .nil
 | k::ks,_,r=>by
  rw[List.map_cons] at r
  cases r with
  | cons h t=>exact .cons (Jgs h) (VA t)

noncomputable abbrev KT(H:Hp):List (List Key×V)->List (List Key×Addr×Value)->Prop:=Paired fun p q=>p.1=q.1/\H q.2.1=some (.tup (p.1.map kV))/\RelV p.2 q.2.2
theorem KT.val{H:Hp}{kvs:List (List Key×V)}{xs:List (List Key×Addr×Value)}(r:KT H kvs xs)(k:List Key):RelO (Va kvs k) ((atKey xs k).map (·.2)):=by
 induction r with
 | nil=>exact True.intro
 | @cons p q ps qs h t ih =>
  obtain⟨h1,_,h2⟩:=h
  by_cases e:p.1=k
  ·have e':q.1=k:=h1.symm.trans e
   have b:atKey (q::qs) k=some q.2:=by simp[atKey,List.find?_cons,e']
   rw[Vt e,b];exact h2
  ·have e':¬q.1=k:=fun z=>e (h1.trans z)
   have b:atKey (q::qs) k=atKey qs k:=by simp[atKey,List.find?_cons,e']
   rw[Vs e,b];exact ih
theorem KT.repl{H:Hp}{kvs:List (List Key×V)}{xs:List (List Key×Addr×Value)}(r:KT H kvs xs)(k:List Key){y:V}{u:Value}(ry:RelV y u) :
 KT H (kvs.map fun kv=>if kv.1=k then(kv.1,y) else kv) (xs.map (putAt k u)):=by
 induction r with
 | nil=>exact .nil
 | @cons p q ps qs h t ih =>
  rw[List.map_cons,List.map_cons];refine .cons ?_ ih;obtain⟨h1,h2,h3⟩:=h;unfold putAt
  by_cases e:p.1=k
  ·rw[if_pos e,if_pos (h1.symm.trans e)];exact⟨h1,h2,ry⟩
  ·rw[if_neg e,if_neg (fun z=>e (h1.trans z))];exact⟨h1,h2,h3⟩
theorem KT.put{H:Hp}{kvs:List (List Key×V)}{xs:List (List Key×Addr×Value)}(r:KT H kvs xs)(k:List Key){b:Addr}{y:V}{u:Value}(hb:H b=some (.tup (k.map kV)))(ry:RelV y u) :
 KT H (Vo kvs k y) (storedH xs k b u):=by
 have e:(kvs.any fun kv=>decide (kv.1=k))=(atKey xs k).isSome:=by rw[JaE,(r.val k).isSome_eq,Option.isSome_map]
 unfold Vo storedH;rw[e]
 by_cases q:(atKey xs k).isSome=true
 ·rw[if_pos q,if_pos q];exact r.repl k ry
 ·rw[if_neg q,if_neg q];exact Paired.snoc r ⟨rfl,hb,ry⟩
theorem KT.keeps{H H':Hp}{kvs:List (List Key×V)}{xs:List (List Key×Addr×Value)}(r:KT H kvs xs)(ht:∀b ys,H b=some (.tup ys)->H' b=some (.tup ys)):KT H' kvs xs :=
 Paired.mapP r fun _ _ z=>⟨z.1,ht _ _ z.2.1,z.2.2⟩

section
variable{P:Program}{w:World}{H:Hp}{h:Heap}{a:Addr}
theorem Jgw{u:HO}(ok:HOk P w H h)(e:Rd H a u):ObjOk P w H h a u:=e.ok ok
theorem Jgl{kvs:List (Key×V)}(ok:HOk P w H h)(e:Rd H a (.dK kvs)):kvs.length<=sizeLine/\(a == sysModules)=false/\∃vs,KV kvs vs/\h.DictOf (Yl P w) a vs :=
 show ObjOk P w H h a (.dK kvs) from Jgw ok e
theorem JiS{kvs:List (Key×V)}(ok:HOk P w H h)(e:H a=some (.dK kvs)):kvs.length<=sizeLine/\(a == sysModules)=false/\∃vs,KV kvs vs/\h.DictOf (Yl P w) a vs:=Jgl ok (.inl e)
theorem Jdp{ks:List Key}(ok:HOk P w H h)(e:H a=some (.tup (ks.map kV))):(tupleKind (Yl P w)).is h ks a:=by
 obtain⟨_,its,r,o,h1,h2,n,h3⟩:=(show ObjOk P w H h a (.tup (ks.map kV)) from ok a _ e)
 exact⟨o,its.toArray,n,h1,h2,h3,by simpa using VA r⟩
theorem Jbu{kvs:List (List Key×V)}(ok:HOk P w H h)(e:Rd H a (.dT kvs)):kvs.length<=sizeLine/\(a == sysModules)=false ∧
 ∃xs,KT H kvs xs/\h.DictOfH (tupleKind (Yl P w)) a xs:=by
 obtain⟨z,y,xs,r,o,es,ep,h1,h2,h3,h4,h5⟩:=(show ObjOk P w H h a (.dT kvs) from Jgw ok e)
 refine⟨z,y,xs,r,o,es,ep,h1,h2,h3,h4,fun x hx=>?_,h5⟩
 have all:∀{l:List (List Key×V)} {m:List (List Key×Addr×Value)},KT H l m->∀x∈m,(tupleKind (Yl P w)).is h x.1 x.2.1:=by
  intro l m q
  induction q with
  | nil=>intro x hx;exact nomatch hx
  | @cons p q ps qs hq t ih =>
   intro x hx;rcases List.mem_cons.mp hx with e|hx
   ·subst e;exact Jdp ok (by rw[<- hq.1];exact hq.2.1)
   ·exact ih x hx
 exact all r x hx
theorem JiT{kvs:List (List Key×V)}(ok:HOk P w H h)(e:H a=some (.dT kvs)):kvs.length<=sizeLine/\(a == sysModules)=false ∧
 ∃xs,KT H kvs xs/\h.DictOfH (tupleKind (Yl P w)) a xs:=Jbu ok (.inl e)
end

noncomputable def DGet(H:Hp)(a:Addr)(y:V)(r:Option V):Prop :=
 (∃kvs k,Rd H a (.dK kvs)/\y=kV k/\r=Va kvs k)\/∃kvs k b,Rd H a (.dT kvs)/\y=.ref b/\H b=some (.tup (k.map kV))/\r=Va kvs k
noncomputable def DPut(H:Hp)(a:Addr)(y v:V)(H':Hp):Prop :=
 (∃kvs k,H a=some (.dK kvs)/\y=kV k/\kvs.length<sizeLine/\H'=upd H a (.dK (Vo kvs k v))) ∨
 ∃kvs k b,H a=some (.dT kvs)/\y=.ref b/\H b=some (.tup (k.map kV))/\kvs.length<sizeLine/\H'=upd H a (.dT (Vo kvs k v))
theorem DGet.k{H:Hp}{a:Addr}{kvs:List (Key×V)}{k:Key}(e:H a=some (.dK kvs)):DGet H a (kV k) (Va kvs k):=.inl ⟨kvs,k,.inl e,rfl,rfl⟩
theorem DGet.t{H:Hp}{a b:Addr}{kvs:List (List Key×V)}{k:List Key}(e:H a=some (.dT kvs))(eb:H b=some (.tup (k.map kV))):DGet H a (.ref b) (Va kvs k):=.inr ⟨kvs,k,b,.inl e,rfl,eb,rfl⟩
theorem DPut.k{H:Hp}{a:Addr}{kvs:List (Key×V)}{k:Key}{v:V}(e:H a=some (.dK kvs))(hl:kvs.length<sizeLine):DPut H a (kV k) v (upd H a (.dK (Vo kvs k v))):=.inl ⟨kvs,k,e,rfl,hl,rfl⟩
theorem DPut.t{H:Hp}{a b:Addr}{kvs:List (List Key×V)}{k:List Key}{v:V}(e:H a=some (.dT kvs))(eb:H b=some (.tup (k.map kV)))(hl:kvs.length<sizeLine) :
 DPut H a (.ref b) v (upd H a (.dT (Vo kvs k v))):=.inr ⟨kvs,k,b,e,rfl,eb,hl,rfl⟩

section
variable{X:Cx}{pins:List (Addr×Obj)}{σ:St}{H:Hp}{s:Shared}{a:Addr}{y v:V}{u r:Value}{o:Option V}{A:Around}{E:Value->Shared->Prop}

theorem Inv.big(I:Inv X pins σ H s):sysModules<s.heap.objs.size:=by have h:mainGlobals<s.heap.objs.size:=(I.mod.glob.keeps I.bk).lt;exact Nat.lt_trans (by decide) h

theorem Jbn{h':Heap}{t':Nat}{ob:HO}(I:Inv X pins σ H s)(mu:Mut (H a))(hs:Heap.SameBut a s.heap h')(he:∃q,h'.get? a=some q)(new:ObjOk X.prog X.w (upd H a ob) h' a ob) :
 Inv X pins σ (upd H a ob) { s with heap:=h',toks:=t' } :=
 I.write (x:=a) (e:=a) mu (.inl rfl) (fun b q hb z=>(hs.2 b hb).trans z) he new
theorem JgO{P:Program}{w:World}{H':Hp}{h':Heap}{kvs:List (Key×V)}{vs:List (Key×Value)}(z:kvs.length<=sizeLine)(hd:(a == sysModules)=false)(rel:KV kvs vs)(dd:h'.DictOf (Yl P w) a vs) :
 ObjOk P w H' h' a (.dK kvs):=⟨z,hd,vs,rel,dd⟩
theorem Jb8{H':Hp}{Q:Unit->Shared->Prop}(hu:A.units+1<cLine)(I:Inv X pins σ H s)(g:DPut H a y v H')(ry:RelV y u)(rv:RelV v r)(h:∀s',Inv X pins σ H' s'->Q () s') :
 wpAny (model X.prog X.w) A (setItem (.ref a) u r) Q E s:=by
 rcases g with ⟨kvs,k,e,ey,l,eH⟩|⟨kvs,k,b,e,ey,eb,l,eH⟩
 ·subst ey eH;obtain⟨z,hd,vs,rel,dd⟩:=JiS I.hok e;have hz:vs.length<=sizeLine:=by rw[<- rel.length];exact z
  have hl:(Vo kvs k v).length<=sizeLine:=by have:=VS kvs k v;omega
  refine wpAny_setItem_pairs (hsz:=hz) (Jgs ry) dd fun h' dd' hs=>h _ ?_
  have he:∃q,h'.get? a=some q:=let ⟨q,_,_,hq,_⟩:=dd';⟨q,hq⟩
  exact Jbn I (by rw[e];exact True.intro) hs he (JgO hl hd (rel.put k rv) dd')
 ·subst ey eH;cases (show u=Value.ref b from ry);obtain⟨z,hd,xs,rel,dd⟩:=JiT I.hok e;have hz:xs.length<=sizeLine:=by rw[<- Paired.length rel];exact z
  have hl:(Vo kvs k v).length<=sizeLine:=by have:=VS kvs k v;omega
  refine wpAny_setItem_heap (hsz:=hz) (tupleKind_room_in1 hu) (Jdp I.hok eb) dd fun h' dd' hs=>h _ ?_
  obtain⟨q,es,ep,hq,h2,h3,h4,_,h5⟩:=dd';refine Jbn I (by rw[e];exact True.intro) hs ⟨q,hq⟩ ⟨hl,hd,_,(rel.put k eb rv).keeps fun c ys ec=>?_,q,es,ep,hq,h2,h3,h4,h5⟩;rw[Jo (Jdz ec e (fun z=>nomatch z))];exact ec
end

section
variable{X:Cx}{pins:List (Addr×Obj)}{σ:St}{H:Hp}{s:Shared}{a:Addr}{kvs:List (Key×V)}{k:Key}{u:Value}{A:Around}{E:Value->Shared->Prop}
end

noncomputable def JgE(i:Expr):Prop:=∀ov iv,subscripted i false ov iv=operate [ov,iv] (getItem ov iv)
theorem Jf1{prog:Program}{w:World}{A:Around}{E:Value->Shared->Prop}{s:Shared}{env:Env}{value slice:Expr}{pos:Pos}{T id:String}{Q:Value->Shared->Prop}
 (hl:typeLookup (.type T) "__getitem__"=pure (some (.builtin id))) (hs:JgE slice)
 (h:wpAny (model prog w) A (eval value env) (fun o s₁=>wpAny (model prog w) A (eval slice env) (fun i s₂=>s₂.TypeIs o T/\wpAny (model prog w) A (getItem o i) Q E s₂) E s₁) E s) :
 wpAny (model prog w) A (eval (.Subscript value slice pos) env) Q E s:=by
 refine Subscript_ (wpAny_mono h (fun o s₁ h₁=>wpAny_mono h₁ (fun i s₂ h₂=>?_) fun _ _ x=>x) fun _ _ x=>x);obtain⟨hT,h₂⟩:=h₂;unfold subscriptTail;refine wpAny_bind ?_;rw[getitemInPython_of_ne hT.not_modules];refine wpAny_bind (wpAny_specialOf hT hl ?_)
 have fin:wpAny (model prog w) A (subscripted slice false o i) (fun r s₃=>wpAny (model prog w) A (letTemporaryGo value o r >>= fun _=>pure r) Q E s₃) E s₂:=by rw[hs o i];exact wpAny_operating (wpAny_mono h₂ (fun r s₃ h₃=>wpAny_bind (wpAny_letTemporaryGo (wpAny_pure h₃))) fun _ _ x=>x)
 first
  | exact wpAny_pure (wpAny_bind fin)
  | exact wpAny_bind (wpAny_pure (wpAny_bind fin))
  | exact wpAny_bind fin

noncomputable def Jgx(td ty tv:TE):TS:=fun D σ H=>tv σ H fun v H1=>td σ H1 fun x H2=>ty σ H2 fun y H3=>∃a H4,x=.ref a/\DPut H3 a y v H4/\D.nx σ H4
section
variable{X:Cx}{o i e value:Expr}{pos pos' tpos:Pos}{td ty tv:TE}
theorem Jfv(hu:X.A.units+1<cLine)(ho:PE X o td)(hi:PE X i ty)(hv:PE X value tv)(hs:swapsWith value (some (.Subscript o i pos')) pos.line X.env=pure false) :
 PS X (.Assign [.Subscript o i pos'] value pos) (Jgx td ty tv):=by
 intro pins s σ H D I h;refine wpAny_Assign_Subscript (thn (hv pins s σ H _ I h) fun r s1 ⟨v,H1,I1,rv,q1⟩=>thn (ho pins s1 σ H1 _ I1 q1) fun u s2 ⟨x,H2,I2,rx,q2⟩=>thn (hi pins s2 σ H2 _ I2 q2) fun iv s3 ⟨y,H3,I3,ry,a,H4,ex,g,q3⟩=>?_) hs;subst ex;obtain rfl:u=Value.ref a:=rx;exact Jb8 hu I3 g ry rv fun s4 I4=>⟨σ,H4,I4,q3⟩
end

theorem Jc4{P:Program}{w:World}{H:Hp}(h:Heap)(hb:sysModules<h.objs.size):ObjOk P w H (h.push { cls:=.type "dict",data:=.dict #[] }) h.objs.size (.dT []) :=
 ⟨Nat.zero_le _,beq_eq_false_iff_ne.mpr (Ne.symm (Nat.ne_of_lt hb)),[],.nil,_,#[],0,Heap.get?_push_size _ rfl,⟨rfl,rfl,rfl⟩,rfl,rfl,List.nodup_nil⟩
noncomputable def Jef:TE:=fun _ H Q=>∀p,H p=none->Q (.ref p) (upd H p (.dT []))
section
variable{X:Cx}{pos:Pos}
theorem JdH:PE X (.Dict [] [] pos) Jef:=fun pins s σ H Q I h=>wpAny_Dict_empty ⟨.ref s.heap.objs.size,_,I.laid (a:=s.heap.objs.size) (o:=.dT []) (t':=s.toks) (fun _ _ q=>Heap.get?_push_of_some _ q) (Nat.le_refl _) (Jc4 s.heap I.big),rfl,h _ (I.hok.fresh (Nat.le_refl _))⟩
end

structure M1 (X:Cx) (o:Expr) (m:Str) (apos:Pos) (e:Expr) (cpos:Pos):Prop where
 base:attributeBase o m X.env (eval o X.env)=eval o X.env
 few:((backTo cpos (starEach [e] X.env)).all (fun x=>!x.1) && (backToKw cpos (keywordEach [] X.env)).all (fun x=>x.1.isSome)
  && decide (([e]:List Expr).length+([]:List Keyword).length+(if ([]:List Keyword).isEmpty then 0 else 1)<30))=true
 line:(apos.endLine == cpos.line)=true
 trees:backTo cpos (starEach [e] X.env)=[(false,eval e X.env)]
structure M2 (X:Cx) (o:Expr) (m:Str) (apos:Pos) (e f:Expr) (cpos:Pos):Prop where
 base:attributeBase o m X.env (eval o X.env)=eval o X.env
 few:((backTo cpos (starEach [e,f] X.env)).all (fun x=>!x.1) && (backToKw cpos (keywordEach [] X.env)).all (fun x=>x.1.isSome)
  && decide (([e,f]:List Expr).length+([]:List Keyword).length+(if ([]:List Keyword).isEmpty then 0 else 1)<30))=true
 line:(apos.endLine == cpos.line)=true
 trees:backTo cpos (starEach [e,f] X.env)=[(false,eval e X.env),(false,eval f X.env)]

noncomputable def IsD(H:Hp)(a:Addr):Prop:=(∃kvs,Rd H a (.dK kvs))\/∃kvs,Rd H a (.dT kvs)
theorem Jhe{X:Cx}{pins:List (Addr×Obj)}{σ:St}{H:Hp}{s:Shared}{a:Addr}(I:Inv X pins σ H s)(d:IsD H a) :
 s.TypeIs (.ref a) "dict"/\(∀b,Value.ref a=.ref b->∃ob,s.heap.get? b=some ob/\ob.dict=none)/\(a == sysModules)=false:=by
 rcases d with ⟨kvs,e⟩|⟨kvs,e⟩
 ·obtain⟨_,hd,vs,_,dd⟩:=Jgl I.hok e;refine⟨dd.typeIs,fun b q=>?_,hd⟩;cases q;obtain⟨ob,_,_,h1,h2,_⟩:=dd;exact⟨ob,h1,h2.2.1⟩
 ·obtain⟨_,hd,xs,_,dd⟩:=Jbu I.hok e;refine⟨dd.typeIs,fun b q=>?_,hd⟩;cases q;obtain⟨ob,_,_,h1,h2,_⟩:=dd;exact⟨ob,h1,h2.2.1⟩

section
variable{X:Cx}{pins:List (Addr×Obj)}{σ:St}{H:Hp}{s:Shared}{a:Addr}{y d:V}{u r:Value}{o:Option V}{A:Around}{E:Value->Shared->Prop}
end

section
variable{X:Cx}{o e f:Expr}{apos cpos:Pos}{td ty tx:TE}
end

section
variable{X:Cx}{pins:List (Addr×Obj)}{σ:St}{H:Hp}{s:Shared}{a:Addr}{kvs:List (Key×V)}{A:Around}{E:Value->Shared->Prop}
end

section
variable{X:Cx}{pins:List (Addr×Obj)}{σ:St}{H:Hp}{s:Shared}{a:Addr}{y:V}{u:Value}{A:Around}{E:Value->Shared->Prop}
end
end L2
namespace L2
open PySem PySem.Spec PyProof.Rows

noncomputable def JgH(X:Cx)(ifs:List Expr)(t:TT):Prop :=
 ∀(pins:List (Addr×Obj)) (s:Shared) (σ:St) (H:Hp) (Q:Bool->Hp->Prop),Inv X pins σ H s->t σ H Q ->
  wpAny (model X.prog X.w) X.A (forIn ifs true fun c r=>if r=true then do let ok <- isTrue c X.env (eval c X.env);pure (ForInStep.yield ok) else pure (ForInStep.yield r)) (TP X pins σ Q) X.xe s
noncomputable def Jiv:TT:=fun _ H Q=>Q true H
theorem Uf{X:Cx}:JgH X [] Jiv:=fun _ _ _ H _ I h=>wpAny_tests_nil ⟨H,I,h⟩
noncomputable def blk(X:Cx)(sc:Scope)(cl:List (Str×Addr))(N':List Str)(C:Addr)(s:Shared)(H:Hp)(fp:List Addr):Cx where
 prog:=X.prog
 w:=X.w
 K:=X.K
 mg:=X.mg
 base:=X.base
 A:=X.A
 N:=N'
 s₀:=s
 H₀:=H
 env:=compEnvC sc cl C X.env
 outer:=X.stack
 stack:=X.stack
 ex:=fp
 fn:=fun _=>false
 calm:=X.calm
 pn:=[]
 xe:=fun _ _=>False

noncomputable def Jah(imp:List (Option Nat))(σ:St):St:=imp.map fun o=>match o with
 | none=>none
 | some k=>(σ[k]?).join

structure Blk (X:Cx) (sc:Scope) (cl:List (Str×Addr)) (N':List Str) (imp:List (Option Nat)):Prop where
 clos:closureFor sc X.env=pure cl
 kind:sc.kind=.function
 nocell:∀y∈sc.names,y.2≠.cell
 names:∀y∈sc.names,y.2=.local->sc.names.lookup y.1=some .local
 sub:∀p∈cl,X.env.cells.lookup p.1=some p.2
 has:∀y∈(relabel sc X.env).names,(y.2=.cell\/y.2=.free)->(cl.lookup y.1).isSome=true
 len:imp.length=N'.length
 im:∀p∈imp.zip N',∀k,p.1=some k->X.N[k]?=some p.2/\(X.env.scope.names.lookup p.2=some .cell\/X.env.scope.names.lookup p.2=some .free)/\((relabel sc X.env).names.lookup p.2=some .cell\/(relabel sc X.env).names.lookup p.2=some .free)

noncomputable def Jgz(wi:TI)(g:TG)(tt:TT)(te:TE)(imp:List (Option Nat)):TE:=fun σ H Q=>wi σ H fun J H1=>∃W:Nat->Nat->List V->St->Hp->Prop,(∃m,W 0 m [] (Jah imp σ) H1)/\∀i m ys σ' H',W i m ys σ' H' ->
 (J.stop i H'/\ys.length<=sizeLine/\∀D,H' D=none->Q (.ref D) (upd H' D (.lst ys))) ∨
 (J.go i H'/\ys.length<sizeLine/\∃N:List V->St->Hp->Prop,(∀ys' σ2 H2,N ys' σ2 H2->∃m',m'<m/\W (i+1) m' ys' σ2 H2) ∧
  ∀x H2,J.yld i H' x H2->g x σ' H2 fun σ2 H3=>tt σ2 H3 fun b H4=>if b=true then te σ2 H4 fun y H5=>N (ys++[y]) σ2 H5 else N ys σ2 H4)

section
variable{P:Program}{w:World}{H:Hp}{h h':Heap}
theorem HOk.sameBut{C:Addr}(x:HOk P w H h)(hC:H C=none)(k:∀b o,b≠C->h.get? b=some o->h'.get? b=some o):HOk P w H h':=fun a o e =>
 (x a o e).stay (fun b u hb q=>k b u (by
  rintro rfl;rcases hb with z|z
  ·rw[<- z,hC] at e;cases e
  ·rw[hC] at z;cases z) q) (fun _ q=>q) fun _ _ q=>q
theorem HOk.track{D:Addr}{o:HO}(x:HOk P w H h)(hD:H D=none)(new:ObjOk P w (upd H D o) h D o):HOk P w (upd H D o) h:=fun b u e=>by
 by_cases hb:b=D
 ·subst hb;rw[JR] at e;cases e;exact new
 ·rw[Jo hb] at e;exact(x b u e).stay (fun c v _ q=>q) (fun c q=>by rw[Jo (JA q hD)];exact q) fun c xs q=>by rw[Jo (JA q hD)];exact q
end

theorem Uw{α:Type}{x:Str}{c:α}:∀{l:List (Str×α)},l.lookup x=some c->(x,c)∈l:=fun h=>PySem.mem_of_lookup h

section
variable{X:Cx}{tg iter elt:Expr}{ifs:List Expr}{sc:Scope}{cl:List (Str×Addr)}{N':List Str}{imp:List (Option Nat)}{pos:Pos}{wi:TI}{g:TG}{tt:TT}{te:TE}

theorem Blk.subL(B:Blk X sc cl N' imp):∀x c,cl.lookup x=some c->X.env.cells.lookup x=some c:=fun x c e=>B.sub (x,c) (Uw e)

theorem Jex{pins:List (Addr×Obj)}{σ:St}{H:Hp}{s:Shared}{fp:List Addr}{h₁:Heap}{C:Addr}(B:Blk X sc cl N' imp)(I:Inv X pins σ H s)(hf:∀b∈fp,FpOk X pins H b)(hfo:∀b∈fp,∃o,s.heap.get? b=some o)
 (hC:s.heap.objs.size<C) (old:∀b o,s.heap.get? b=some o->h₁.get? b=some o) (ns:h₁.Ns C fun _=>none) :
 Inv (blk X sc cl N' C s H fp) [] (Jah imp σ) H { s with heap:=h₁,toks:=s.toks }:=by
 have hlt:∀b∈fp,b<s.heap.objs.size:=fun b hb=>let ⟨_,e⟩:=hfo b hb;Heap.lt_size e
 have clt:∀x c,X.env.cells.lookup x=some c->c<s.heap.objs.size:=fun x c e=>let ⟨_,q⟩:=I.cell x c e;q.lt
 have ok:(blk X sc cl N' C s H fp).Ok:={
  mod:=I.ok.mod
  kind:=B.kind
  glob:=I.ok.glob
  blt:=I.ok.blt
  above:=Nat.le_of_lt hC
  inj:=fun x y c h1 h2=>I.ok.inj x y c (B.subL x c h1) (B.subL y c h2)
  has:=fun x hx=>by
   have hx':(relabel sc X.env).names.lookup x=some .cell\/(relabel sc X.env).names.lookup x=some .free:=hx
   have:(cl.lookup x).isSome=true:=by
    rcases hx' with z|z
    ·exact B.has (x,.cell) (Uw z) (.inl rfl)
    ·exact B.has (x,.free) (Uw z) (.inr rfl)
   exact Option.isSome_iff_exists.mp this
  cab:=fun x c z=>nomatch z
  hd:=I.ok.hd
  frames:=I.ok.frames
  stk:=.inl rfl
  exf:=fun b hb=>⟨Nat.ne_of_lt (Nat.lt_trans (hlt b hb) hC),fun x c e=>(hf b hb).2.2.2.2.1 x c (B.subL x c e)⟩
  bs:=I.bs
  bsz:=Nat.le_trans I.ok.bsz I.sz
  noex:=fun b o e hb=>by
   rcases(hf b hb).2.2.2.1 with z|z
   ·exact I.ok.noex b o e z
   ·exact absurd (Nat.lt_of_lt_of_le (Heap.lt_size e) (Nat.le_trans I.ok.bsz z)) (Nat.lt_irrefl _)
  exfs:=fun b hb z=>by
   rcases List.mem_cons.mp (I.stkSub b z) with q|q
   ·exact(hf b hb).2.1 q
   ·exact(hf b hb).2.2.1 q
  funs:=I.stack
  frf:=I.stkFree }
 refine⟨ok,rfl,I.bare,Un.kept old,⟨_,ns,fun i x v h1 h2 h3=>?_⟩,fun x c e=>?_,I.hok.fresh (Nat.le_of_lt hC),fun x c e=>I.freeC x c (B.subL x c e),fun p hp=>absurd (show p∈([]:List (Addr×Obj)) from hp) (by simp),I.hok.kept old,?_⟩
 ·have h1':N'[i]?=some x:=h1
  have h2':(imp.map fun o=>match o with|none=>none|some k=>(σ[k]?).join)[i]?=some (some v):=h2;rw[List.getElem?_map] at h2'
  cases e:imp[i]? with
  | none=>rw[e] at h2';cases h2'
  | some q =>
   rw[e] at h2'
   cases q with
   | none=>cases h2'
   | some k =>
    have h2'':(σ[k]?).join=some v:=Option.some.inj h2'
    have hk:σ[k]?=some (some v):=by
     cases e':σ[k]? with
     | none=>rw[e'] at h2'';cases h2''
     | some z=>rw[e'] at h2'';cases z with
      | none=>cases h2''
      | some z=>cases h2'';rfl
    have hm:(some k,x)∈imp.zip N':=by refine List.mem_of_getElem? (i:=i) ?_;rw[List.getElem?_zip_eq_some];exact⟨e,h1'⟩
    obtain⟨b1,b2,b3⟩:=B.im _ hm k rfl;obtain⟨m,hn,hl⟩:=I.loc;obtain⟨u,r,l⟩:=hl k x v b1 hk (b2.elim (fun z=>.inr (.inl z)) fun z=>.inr (.inr z));refine⟨u,r,.inr ⟨b3,?_⟩⟩
    have hc:∃c,X.env.cells.lookup x=some c/\s.heap.IsCell c (some u):=by
     rcases l with ⟨z,_⟩|⟨_,z⟩
     ·have z':X.env.scope.names.lookup x=some .local:=z;rcases b2 with y|y <;> rw[y] at z' <;> cases z'
     ·exact z
    obtain⟨c,hc,oc,ho,hd⟩:=hc;obtain⟨c',hc'⟩:=ok.has x b3;have e2:=B.subL x c' hc';rw[hc] at e2;cases e2;exact⟨c,hc',oc,old c oc ho,hd⟩
 ·obtain⟨v,o,ho,hd⟩:=I.cell x c (B.subL x c e);exact⟨v,o,old c o ho,hd⟩
 ·show(imp.map _).length=N'.length;rw[List.length_map];exact B.len

theorem Jew{pins pn:List (Addr×Obj)}{σ σ':St}{H2 H':Hp}{s2 s4:Shared}{fp:List Addr}{C D:Addr}{Cs:Addr}{ys:List V}{its:List Value}{k:Nat}{h':Heap}(I2:Inv X pins σ H2 s2)(f2:∀b∈fp,FpOk X pins H2 b)
 (I5:Inv (blk X sc cl N' C s2 H2 fp) pn σ' H' s4) (hC:s2.heap.objs.size<C) (hD:H' D=none) (hDs:s2.heap.objs.size<=D) (hDC:D≠C) (eD:s4.heap.get? D=some { cls:=.type "list",data:=.seq its.toArray k })
 (rv:Vals ys its) (hz:ys.length<=sizeLine) (hsb:Heap.SameBut C s4.heap h'):Inv X pins σ (upd H' D (.lst ys)) { s4 with heap:=h' }:=by
 have U:Un (frs X.stack) fp H2 H' s2.heap s4.heap:=I5.base
 have kk:∀b o,b≠C->s4.heap.get? b=some o->h'.get? b=some o:=hsb.extBut
 have hC':H' C=none:=I5.free
 have ok1:HOk X.prog X.w H' h':=HOk.sameBut (C:=C) I5.hok hC' kk
 have ok2:HOk X.prog X.w (upd H' D (.lst ys)) h':=ok1.track hD ⟨hz,its,k,rv,kk _ _ hDC eD⟩
 have lt:∀b o,s2.heap.get? b=some o->b≠C/\b≠D:=fun b o e=>⟨Nat.ne_of_lt (Nat.lt_trans (Heap.lt_size e) hC),Nat.ne_of_lt (Nat.lt_of_lt_of_le (Heap.lt_size e) hDs)⟩
 refine I2.call' (s':={ s4 with heap:=h' }) (ch:=fp) I5.os ⟨fun b o e n hb hx=>kk b o (lt b o e).1 (U.keep b o e n hb hx),fun b o e n hb hx=>?_,fun b o e n hx=>?_,fun b o e hx=>?_,fun b xs e=>?_,fun b o u e=>?_,fun b ps e=>?_⟩ ok2 I5.bare
  fun b hb=>⟨(f2 b hb).2.2.2.1,(f2 b hb).2.1,(f2 b hb).2.2.2.2.1,(f2 b hb).2.2.2.2.2⟩
 ·obtain⟨sl,q⟩:=U.slot b o e n hb hx;exact⟨sl,kk b _ (lt b o e).1 q⟩
 ·rw[Jo (lt b o e).2];exact U.free b o e n hx
 ·obtain⟨o',q⟩:=U.there b o e hx;exact⟨o',kk b o' (lt b o e).1 q⟩
 ·have q:=U.tups b xs e;rw[Jo (JA q hD)];exact q
 ·have q:=U.frzs b o u e;rw[Jo (JA q hD)];exact q
 ·obtain⟨more,q⟩:=U.tbls b ps e;exact⟨more,by rw[Jo (JA q hD)];exact q⟩

noncomputable def JiI(g:TG)(tt:TT)(te:TE)(imp:List (Option Nat))(σ:St)(Q:VK)(J:It)(H1:Hp):Prop:=∃W:Nat->Nat->List V->St->Hp->Prop,(∃m,W 0 m [] (Jah imp σ) H1)/\∀i m ys σ' H',W i m ys σ' H' ->
 (J.stop i H'/\ys.length<=sizeLine/\∀D,H' D=none->Q (.ref D) (upd H' D (.lst ys))) ∨
 (J.go i H'/\ys.length<sizeLine/\∃N:List V->St->Hp->Prop,(∀ys' σ2 H2,N ys' σ2 H2->∃m',m'<m/\W (i+1) m' ys' σ2 H2) ∧
  ∀x H2,J.yld i H' x H2->g x σ' H2 fun σ2 H3=>tt σ2 H3 fun b H4=>if b=true then te σ2 H4 fun y H5=>N (ys++[y]) σ2 H5 else N ys σ2 H4)
theorem Jb7{pins:List (Addr×Obj)}{σ:St}{Q:VK}{itv:Value}{s2:Shared}{RR:Value->Addr->Result->Shared->Prop}{E:Value->Shared->Prop}(hc:X.calm=true)(B:Blk X sc cl N' imp)
 (hg:∀C s H fp,PG (blk X sc cl N' C s H fp) tg g) (ht:∀C s H fp,JgH (blk X sc cl N' C s H fp) ifs tt) (he:∀C s H fp,PE (blk X sc cl N' C s H fp) elt te)
 (h2:PIE X pins σ tg (JiI g tt te imp σ Q) itv s2)
 (fin:∀(C D:Addr) (s4:Shared) (H':Hp) (ys:List V) (m:Str->Option Value),s2.heap.objs.size<C->s4.heap.Ns C m->H' C=none->(∀h',Heap.SameBut C s4.heap h'->Inv X pins σ H' { s4 with heap:=h' })->Q (.ref D) H'->RR (.ref D) C (.ok .next) s4) :
 wpAny (model X.prog X.w) X.A (newList []) (fun acc s₃=>wpAny (model X.prog X.w) X.A (newFunctionEnv sc X.env.globals cl [] X.env.qual none .none (some X.env)) (fun cenv s₄=>codeAny (model X.prog X.w) X.A (.compStart (.ListComp elt [⟨tg,iter,ifs,0⟩] sc pos) 0 itv acc { cenv with scope:=relabel sc X.env }) (RR acc cenv.locals) s₄) E s₃) E s2:=by
 obtain⟨it,fp,tn,J,H2,e,I2,T,st2,f2,W,⟨m0,w0⟩,turn⟩:=h2;subst e;refine wpAny_newObj_type (wpAny_newFunctionEnv B.nocell (by intro y hy;simp at hy) (fun h₁ hns₁ hsb₁=>?_) B.kind);dsimp only at hns₁ hsb₁ ⊢
 generalize hG:s2.heap.push { cls:=.type "list",dict:=none,data:=.seq ([]:List Value).toArray }=G at hns₁ hsb₁ ⊢
 have hCs:G.objs.size=s2.heap.objs.size+1:=by rw[<- hG,Heap.size_push]
 have hC:s2.heap.objs.size<G.objs.size:=by rw[hCs];exact Nat.lt_succ_self _
 have V9:∀b,b<s2.heap.objs.size->b≠G.objs.size:=fun b hb=>Nat.ne_of_lt (Nat.lt_trans hb hC)
 have old:∀b o,s2.heap.get? b=some o->h₁.get? b=some o:=fun b o e=>hsb₁.extBut b o (V9 b (Heap.lt_size e)) (Heap.get?_push_of_some _ (hG▸Heap.get?_push_of_some _ e))
 have hD1:h₁.get? s2.heap.objs.size=some { cls:=.type "list",data:=.seq ([]:List Value).toArray }:=hsb₁.extBut _ _ (Nat.ne_of_lt hC) (Heap.get?_push_of_some _ (hG▸Heap.get?_push_size _ rfl))
 have fpo:∀b∈fp,∃o,s2.heap.get? b=some o:=fun b hb=>let ⟨o,e,_⟩:=T.obj 0 _ st2 b hb;⟨o,e⟩
 have I4:=Jex B I2 f2 fpo hC old (show h₁.Ns G.objs.size fun _=>none from hns₁)
 -- the records of the block: the list that grows,the iterator's
 have stD:∀{H':Hp} {pn:List (Addr×Obj)},(∀b∈s2.heap.objs.size::fp,H' b=none)->(∀p∈pn,p.1∉s2.heap.objs.size::fp)->∀b∈s2.heap.objs.size::fp,FpOk (blk X sc cl N' G.objs.size s2 H2 fp) pn H' b:=fun {H' pn} hn hp b hb=>by
  have hp':∀p∈([]++pn:List (Addr×Obj)),p.1≠b:=fun p z q=>hp p (by simpa using z) (q▸hb)
  rcases List.mem_cons.mp hb with z|z
  ·subst z;refine⟨hn _ hb,Nat.ne_of_lt hC,fun q=>?_,.inr (Nat.le_refl _),fun x c e q=>?_,hp'⟩
   ·rcases List.mem_cons.mp (I2.stkSub _ q) with q|q
    ·exact absurd I2.lt (by rw[<- q];exact Nat.lt_irrefl _)
    ·exact I2.nofs (Nat.le_refl _) q
   ·obtain⟨v,qc⟩:=I2.cell x c (B.subL x c e);exact absurd qc.lt (by rw[q];exact Nat.lt_irrefl _)
  ·refine⟨hn _ hb,V9 b (let ⟨_,e⟩:=fpo b z;Heap.lt_size e),fun q=>?_,.inl z,fun x c e=>(f2 b z).2.2.2.2.1 x c (B.subL x c e),hp'⟩;rcases List.mem_cons.mp (I2.stkSub b q) with q|q
   ·exact(f2 b z).2.1 q
   ·exact(f2 b z).2.2.1 q
 have nDf:s2.heap.objs.size∉fp:=fun z=>let ⟨_,e⟩:=fpo _ z;absurd (Heap.lt_size e) (Nat.lt_irrefl _)
 have loop:codeAny (model X.prog X.w) X.A (.compLoop (.ListComp elt [⟨tg,iter,ifs,0⟩] sc pos) 0 (.ref it) (.ref s2.heap.objs.size) (compEnvC sc cl G.objs.size X.env))
  (RR (.ref s2.heap.objs.size) G.objs.size) { s2 with heap:=h₁,toks:=s2.toks }:=by
  refine codeAny_loop rfl (fun n s'=>∃i ys its k σ' H',Inv (blk X sc cl N' G.objs.size s2 H2 fp) [] σ' H' s'/\tn i s'.heap/\(∀b∈s2.heap.objs.size::fp,H' b=none)/\Vals ys its/\s'.heap.get? s2.heap.objs.size=some { cls:=.type "list",data:=.seq its.toArray k }/\W i n ys σ' H') ?_ m0
   ⟨0,[],[],0,_,H2,I4,T.keep _ _ _ st2 (fun b _ o e=>old b o e),fun b hb=>?_,.nil,hD1,w0⟩
  ·rintro n s3 ⟨i,ys,its,k,σ3,H3,I3,st3,fr3,rv3,hD3,w3⟩;have fr3':∀b∈fp,FpOk (blk X sc cl N' G.objs.size s2 H2 fp) [] H3 b:=fun b hb=>stD (pn:=[]) fr3 (fun p z=>nomatch z) b (List.mem_cons_of_mem _ hb)
   show wpAny _ X.A ((compTurn (.ListComp elt [⟨tg,iter,ifs,0⟩] sc pos) 0 (.ref it) (.ref s2.heap.objs.size) (compEnvC sc cl G.objs.size X.env)).onRaise (fun x=>do noteFrame x (compEnvC sc cl G.objs.size X.env);theTreesLotGoes x)) _ _ s3;refine wpAny_noted (wpAny_noRaise ?_);rw[compTurn_list];refine wpAny_bind (wpAny_standAt (wpAny_bind ?_))
   have fD:=stD (pn:=[]) fr3 (fun p z=>nomatch z) s2.heap.objs.size List.mem_cons_self
   have hDH:H3 s2.heap.objs.size=none:=fr3 _ List.mem_cons_self
   have I3p:Inv (blk X sc cl N' G.objs.size s2 H2 fp) [(s2.heap.objs.size,{ cls:=.type "list",data:=.seq its.toArray k })] σ3 H3 s3:=I3.pins_of fun p hp=>by
    have e:p=(s2.heap.objs.size,{ cls:=.type "list",data:=.seq its.toArray k }):=by simpa using hp
    subst e;exact⟨hD3,hDH,fD.2.1,fD.2.2.1,fun v z=>by cases z⟩
   have pfp:∀p∈[(s2.heap.objs.size,({ cls:=.type "list",data:=.seq its.toArray k }:Obj))],p.1∉fp:=fun p hp=>by
    have e:p=(s2.heap.objs.size,{ cls:=.type "list",data:=.seq its.toArray k }):=by simpa using hp
    subst e;exact nDf
   have fpP:∀{H':Hp},(∀b∈fp,H' b=none)->∀b∈fp,FpOk (blk X sc cl N' G.objs.size s2 H2 fp) [(s2.heap.objs.size,({ cls:=.type "list",data:=.seq its.toArray k }:Obj))] H' b:=fun {H'} hn b hb =>
    have f:=stD (pn:=[]) fr3 (fun p z=>nomatch z) b (List.mem_cons_of_mem _ hb)
    ⟨hn b hb,f.2.1,f.2.2.1,f.2.2.2.1,f.2.2.2.2.1,fun p hp q=>pfp p ((List.mem_append.mp hp).elim (fun z=>nomatch (show p∈([]:List (Addr×Obj)) from z)) id) (q▸hb)⟩
   rcases turn i n ys σ3 H3 w3 with ⟨stop,hz,q⟩|⟨go,hz,N,hN,step⟩
   ·refine thn (T.done (blk X sc cl N' G.objs.size s2 H2 fp) rfl rfl rfl hc i _ s3 σ3 H3 _ I3p (fpP fun b hb=>fr3 b (List.mem_cons_of_mem _ hb)) st3 stop) fun r s4 ⟨hr,I5⟩=>?_
    subst hr;refine wpAny_pure ?_;obtain⟨m,hn,_⟩:=I5.loc;have eD:=(I5.pin (s2.heap.objs.size,{ cls:=.type "list",data:=.seq its.toArray k }) (by simp)).1;have hCf:H3 G.objs.size=none:=I5.free;exact fin G.objs.size s2.heap.objs.size s4 _ ys m hC hn (by rw[Jo (Nat.ne_of_gt hC)];exact hCf) (fun h' hsb=>Jew (Cs:=0) I2 f2 I5 hC hDH (Nat.le_refl _) (Nat.ne_of_lt hC) eD rv3 hz hsb) (q _ hDH)
   ·refine thn (T.item (blk X sc cl N' G.objs.size s2 H2 fp) rfl rfl rfl hc i _ s3 σ3 H3 _ I3p (fpP fun b hb=>fr3 b (List.mem_cons_of_mem _ hb)) st3 go) fun r s4 ⟨u,hr,h4⟩=>?_
    subst hr;refine wpAny_bind (thn h4 fun _ s5 ⟨x,H5,I5,r5,y5,st5,fr5⟩=>?_);have I5':=I5.pinned (fpP fr5) (T.obj _ _ st5);refine wpAny_bind (thn (hg G.objs.size s2 H2 fp _ s5 σ3 H5 x u _ I5' r5 (step x H5 y5)) fun _ s6 ⟨σ6,H6,I6,q6⟩=>?_);refine wpAny_bind (thn (ht G.objs.size s2 H2 fp _ s6 σ6 H6 _ I6 q6) fun ok s7 ⟨H7,I7,q7⟩=>?_)
    -- what stays of the records
    have recs:∀{σ':St} {H':Hp} {s':Shared},Inv (blk X sc cl N' G.objs.size s2 H2 fp) ([(s2.heap.objs.size,({ cls:=.type "list",data:=.seq its.toArray k }:Obj))]++WD fp s5.heap) σ' H' s' ->
     tn (i+1) s'.heap/\(∀b∈s2.heap.objs.size::fp,H' b=none)/\s'.heap.get? s2.heap.objs.size=some { cls:=.type "list",data:=.seq its.toArray k }:=fun {σ' H' s'} I'=>by
     have pd:=I'.pin (s2.heap.objs.size,{ cls:=.type "list",data:=.seq its.toArray k }) (by simp)
     have pf:∀b∈fp,∀o,s5.heap.get? b=some o->s'.heap.get? b=some o/\H' b=none:=fun b hb o e=>by have z:=I'.pin (b,o) (List.mem_append_right _ (List.mem_append_right _ (U8 hb e)));exact⟨z.1,z.2.1⟩
     refine⟨T.keep _ _ _ st5 fun b hb o e=>(pf b hb o e).1,fun b hb=>?_,pd.1⟩;rcases List.mem_cons.mp hb with z|z
     ·subst z;exact pd.2.1
     ·obtain⟨o,e,d⟩:=T.obj _ _ st5 b z;exact(pf b z o e).2
    cases ok with
    | false=>obtain⟨m',hm,w7⟩:=hN _ _ _ (show N ys σ6 H7 from by simpa using q7);obtain⟨r1,r2,r3⟩:=recs I7;exact wpAny_pure ⟨rfl,m',hm,i+1,ys,its,k,σ6,H7,I7.pins_of (fun p hp=>nomatch hp),r1,r2,rv3,r3,w7⟩
    | true =>
     have q7':te σ6 H7 fun y H5=>N (ys++[y]) σ6 H5:=by simpa using q7
     refine wpAny_bind (wpAny_bind (thn (he G.objs.size s2 H2 fp _ s7 σ6 H7 _ I7 q7') fun y s8 ⟨y8,H8,I8,ry,q8⟩=>wpAny_bind ?_));obtain⟨r1,r2,r3⟩:=recs I8;have hl:=rv3.length;refine wpAny_list_append_plain (hsz:=by rw[List.size_toArray];omega) ⟨k,r3⟩ fun h9 ⟨k9,hl9⟩ hs9=>wpAny_pure (wpAny_pure ?_)
     have hD8:H8 s2.heap.objs.size=none:=r2 _ List.mem_cons_self
     have f8:=stD (pn:=[]) r2 (fun p z=>nomatch z) s2.heap.objs.size List.mem_cons_self
     have I8':Inv (blk X sc cl N' G.objs.size s2 H2 fp) [] σ6 H8 s8:=I8.pins_of (fun p hp=>nomatch hp)
     have I9:Inv (blk X sc cl N' G.objs.size s2 H2 fp) [] σ6 H8 { s8 with heap:=h9 }:=I8'.turned (t':=s8.toks) (it:=s2.heap.objs.size) (fun b o hb e=>hs9.extBut b o hb e) hD8 f8.2.1 f8.2.2.2.1 f8.2.2.2.2.1 f8.2.2.2.2.2;obtain⟨m',hm,w8⟩:=hN _ _ _ q8;refine⟨rfl,m',hm,i+1,ys++[y8],its++[y],k9,σ6,H8,I9,?_,r2,rv3.append (.cons ry .nil),?_,w8⟩
     ·exact T.keep _ _ _ r1 fun b hb o e=>hs9.extBut b o (fun z=>nDf (z▸hb)) e
     ·rw[hl9];simp
  ·rcases List.mem_cons.mp hb with z|z
   ·subst z;exact I2.hok.fresh (Nat.le_refl _)
   ·exact(f2 b z).1
 exact codeAny_compStart_list loop (T.self _ 0 _ _ _ (T.keep _ _ _ st2 fun b _ o e=>old b o e) loop)

theorem Uy(hc:X.calm=true)(hi:PI X tg iter wi)(B:Blk X sc cl N' imp)
 (hg:∀C s H fp,PG (blk X sc cl N' C s H fp) tg g) (ht:∀C s H fp,JgH (blk X sc cl N' C s H fp) ifs tt) (he:∀C s H fp,PE (blk X sc cl N' C s H fp) elt te)
 (hs:∀x,foldedSetIterable iter X.env x=pure x:=by intro _;rfl):PE X (.ListComp elt [⟨tg,iter,ifs,0⟩] sc pos) (Jgz wi g tt te imp):=by
 intro pins s σ H Q I h;rw[eval_ListComp];refine wpAny_comprehension_free (use:=none) rfl hs B.clos B.kind B.names (thn (hi pins s σ H _ I h) fun v s1 h1=>thn h1 fun itv s2 h2=>?_);refine Jb7 (RR:=fun acc C=>compPost (model X.prog X.w) X.A X.xe none (EP X pins σ Q) acc C) hc B hg ht he h2 fun C D s4 H' ys m hC hn hCf hI q=>?_
 exact⟨m,hn,fun h' hsb=>⟨.ref D,H',hI h' hsb,rfl,q⟩⟩
end
end L2

namespace L2
open PySem PySem.Spec PyProof.Rows

inductive Rep (K:Frag) (H:Hp):V->PyData->Prop
 | non:Rep K H .non .none
 | bl (b:Bool):Rep K H (.bl b) (.bool b)
 | int (i:Int):Rep K H (.int i) (.int i)
 | str (x:Str):Rep K H (.str x) (.str x)
 | tup {a:Addr} {xs:List V} {ds:List PyData}:SqT K H a xs->xs.length=ds.length->(∀(i:Nat) (x:V) (d:PyData),xs[i]?=some x->ds[i]?=some d->Rep K H x d)->Rep K H (.ref a) (.tuple ds)
 | lst {a:Addr} {xs:List V} {ds:List PyData}:SqL K H a xs->xs.length=ds.length->(∀(i:Nat) (x:V) (d:PyData),xs[i]?=some x->ds[i]?=some d->Rep K H x d)->Rep K H (.ref a) (.list ds)

noncomputable def RepL(K:Frag)(H:Hp)(xs:List V)(ds:List PyData):Prop :=
 xs.length=ds.length/\∀(i:Nat) (x:V) (d:PyData),xs[i]?=some x->ds[i]?=some d->Rep K H x d

section
variable{K:Frag}{H H':Hp}
theorem RepL.nil:RepL K H [] []:=⟨rfl,fun i x d e=>by simp at e⟩
theorem RepL.cons{x:V}{d:PyData}{xs:List V}{ds:List PyData}(h:Rep K H x d)(r:RepL K H xs ds):RepL K H (x::xs) (d::ds):=by
 refine⟨by simp[r.1],fun i y e h1 h2=>?_⟩
 cases i with
 | zero=>simp at h1 h2;subst h1 h2;exact h
 | succ i=>exact r.2 i y e (by simpa using h1) (by simpa using h2)
theorem RepL.append{xs ys:List V}{ds es:List PyData}(r:RepL K H xs ds)(q:RepL K H ys es):RepL K H (xs++ys) (ds++es):=by
 refine⟨by simp[r.1,q.1],fun i x d h1 h2=>?_⟩
 by_cases hi:i<xs.length
 ·rw[List.getElem?_append_left hi] at h1;rw[List.getElem?_append_left (by rw[<- r.1];exact hi)] at h2;exact r.2 i x d h1 h2
 ·rw[List.getElem?_append_right (by omega)] at h1;rw[List.getElem?_append_right (by rw[<- r.1];omega)] at h2;rw[<- r.1] at h2;exact q.2 _ x d h1 h2
theorem RepL.snoc{xs:List V}{ds:List PyData}{x:V}{d:PyData}(r:RepL K H xs ds)(h:Rep K H x d):RepL K H (xs++[x]) (ds++[d]):=r.append (.cons h .nil)
theorem RepL.get{xs:List V}{ds:List PyData}{i:Nat}{d:PyData}(r:RepL K H xs ds)(e:ds[i]?=some d):∃x,xs[i]?=some x/\Rep K H x d:=by
 have hi:=(List.getElem?_eq_some_iff.mp e).1
 have hx:i<xs.length:=by rw[r.1];exact hi
 exact⟨xs[i],by simp[hx],r.2 i _ d (by simp[hx]) e⟩
theorem RepL.get'{xs:List V}{ds:List PyData}{i:Nat}{x:V}(r:RepL K H xs ds)(e:xs[i]?=some x):∃d,ds[i]?=some d/\Rep K H x d:=by
 have hi:=(List.getElem?_eq_some_iff.mp e).1
 have hx:i<ds.length:=by rw[<- r.1];exact hi
 exact⟨ds[i],by simp[hx],r.2 i x _ e (by simp[hx])⟩
theorem Rep.tupL{a:Addr}{xs:List V}{ds:List PyData}(h:SqT K H a xs)(r:RepL K H xs ds):Rep K H (.ref a) (.tuple ds):=.tup h r.1 r.2
theorem Rep.lstL{a:Addr}{xs:List V}{ds:List PyData}(h:SqL K H a xs)(r:RepL K H xs ds):Rep K H (.ref a) (.list ds):=.lst h r.1 r.2
theorem Rep.tupI{v:V}{ds:List PyData}(r:Rep K H v (.tuple ds)):∃a xs,v=.ref a/\SqT K H a xs/\RepL K H xs ds:=by
 cases r with
 | tup h l q=>exact⟨_,_,rfl,h,l,q⟩
theorem Rep.lstI{v:V}{ds:List PyData}(r:Rep K H v (.list ds)):∃a xs,v=.ref a/\SqL K H a xs/\RepL K H xs ds:=by
 cases r with
 | lst h l q=>exact⟨_,_,rfl,h,l,q⟩
theorem Rep.intI{v:V}{i:Int}(r:Rep K H v (.int i)):v=.int i:=by cases r;rfl
theorem Rep.strI{v:V}{i:Str}(r:Rep K H v (.str i)):v=.str i:=by cases r;rfl
theorem Rep.blI{v:V}{i:Bool}(r:Rep K H v (.bool i)):v=.bl i:=by cases r;rfl
theorem Same.seqT{a:Addr}{xs:List V}(e:Same H H')(h:SqT K H a xs):SqT K H' a xs:=by
 rcases h with (h|⟨o,h⟩)|h
 ·exact .inl (.inl (e _ _ h))
 ·exact .inl (.inr ⟨o,e _ _ h⟩)
 ·exact .inr h
theorem Rep.mono{v:V}{d:PyData}(e:Same H H')(r:Rep K H v d):Rep K H' v d:=by
 induction r with
 | non=>exact .non
 | bl b=>exact .bl b
 | int i=>exact .int i
 | str x=>exact .str x
 | tup h l _ ih=>exact .tup (e.seqT h) l ih
 | lst h l _ ih=>exact .lst (e.seq h) l ih
theorem RepL.mono{xs:List V}{ds:List PyData}(e:Same H H')(r:RepL K H xs ds):RepL K H' xs ds:=⟨r.1,fun i x d h1 h2=>(r.2 i x d h1 h2).mono e⟩

noncomputable def SameEx(l:Addr)(H H':Hp):Prop:=∀b o,b≠l->H b=some o->H' b=some o
theorem SameEx.upd{l:Addr}{o:HO}:SameEx l H (upd H l o):=fun b o' hb e=>by rw[Jo hb];exact e
theorem Same.ex{H0:Hp}{l:Addr}(s:Same H0 H)(hn:H0 l=none)(e:SameEx l H H'):Same H0 H':=fun b o h=>e b o (JA h hn) (s b o h)
theorem Same.new{p:Addr}{o:HO}(hn:H p=none):Same H (upd H p o):=fun b o' e=>by rw[Jo (JA e hn)];exact e
theorem SameEx.sqT{l a:Addr}{ys xs:List V}(e:SameEx l H H')(hl:H l=some (.lst ys))(h:SqT K H a xs):SqT K H' a xs:=by
 rcases h with (h|⟨o,h⟩)|h
 ·exact .inl (.inl (e _ _ (Jdz h hl (by intro z;cases z)) h))
 ·exact .inl (.inr ⟨o,e _ _ (Jdz h hl (by intro z;cases z)) h⟩)
 ·exact .inr h
inductive NoLst:PyData->Prop
 | non:NoLst .none
 | bl (b:Bool):NoLst (.bool b)
 | int (i:Int):NoLst (.int i)
 | str (x:Str):NoLst (.str x)
 | tup {ds:List PyData}:(∀d∈ds,NoLst d)->NoLst (.tuple ds)
end

theorem Vals.get':∀{xs:List V} {us:List Value} {i:Nat} {u:Value},Vals xs us->us[i]?=some u->∃x,xs[i]?=some x/\RelV x u
 | _,_,_,_,.nil,e=>by simp at e
 | _,_,0,_,.cons r _,e=>by simp at e;subst e;exact⟨_,rfl,r⟩
 | _,_,i+1,u,.cons _ t,e=>by obtain⟨x,h1,h2⟩:=Vals.get' (i:=i) (u:=u) t (by simpa using e);exact⟨x,by simpa using h1,h2⟩
theorem UQ{h:Heap}:∀(us:List Value) (ds:List PyData),us.length=ds.length->(∀(i:Nat) (u:Value) (d:PyData),us[i]?=some u->ds[i]?=some d->∃as,Reads h u d as)->∃as,ReadsAll h us ds as
 | [],[],_,_=>⟨_,.nil⟩
 | [],_::_,e,_=>by simp at e
 | _::_,[],e,_=>by simp at e
 | u::us,d::ds,e,f=>by
  obtain⟨as,h1⟩:=f 0 u d rfl rfl;obtain⟨bs,h2⟩:=UQ us ds (by simpa using e) fun i v c q1 q2=>f (i+1) v c (by simpa using q1) (by simpa using q2)
  exact⟨_,.cons h1 h2⟩
section
variable{X:Cx}{pins:List (Addr×Obj)}{σ:St}{H:Hp}{s:Shared}
theorem Rep.reads{v:V}{d:PyData}(I:Inv X pins σ H s)(r:Rep X.K H v d):∀u,RelV v u->∃as,Reads s.heap u d as:=by
 induction r with
 | non=>intro u r;cases r;exact⟨_,.none⟩
 | bl b=>intro u r;cases r;exact⟨_,.bool b⟩
 | int i=>intro u r;obtain⟨t,rfl⟩:=r;exact⟨_,.int i t⟩
 | str x=>intro u r;obtain⟨t,rfl⟩:=r;exact⟨_,.str x t⟩
 | tup h l _ ih =>
  intro u r;cases r;obtain⟨its,rv,p,hz⟩:=I.tuple h;obtain⟨o,ho,hc,n,hd⟩:=p
  obtain⟨as,q⟩:=UQ (h:=s.heap) its _ (rv.length.symm.trans l) fun i u d h1 h2=>by obtain⟨x,e1,e2⟩:=rv.get' h1;exact ih i x d e1 h2 u e2
  exact⟨_,.tuple ho hc hd q⟩
 | lst h l _ ih =>
  intro u r;cases r;obtain⟨its,rv,p,hz⟩:=I.list h;obtain⟨o,ho,hc,n,hd⟩:=p.isList
  obtain⟨as,q⟩:=UQ (h:=s.heap) its _ (rv.length.symm.trans l) fun i u d h1 h2=>by obtain⟨x,e1,e2⟩:=rv.get' h1;exact ih i x d e1 h2 u e2
  exact⟨_,.list ho hc hd q⟩
end

section
variable{X:Cx}
noncomputable def JbH(K:Frag):R2:=fun x y H Q=>rI0 (fun i j=>.int (i+j)) x y H Q\/(∃i j,x=.str i/\y=.str j/\i.length+j.length<=sizeLine/\Q (.str (i++j)) H)\/Jjo x y H Q
theorem Jfm:OpR X (binaryOp .Add) (JbH X.K):=op_add.or (op_add_str.or Jhz)
noncomputable def Jjp(K:Frag):R2:=fun x y H Q=>∃d e,Rep K H x d/\Rep K H y e/\d.canLay0=true/\e.canLay0=true/\min d.depth e.depth<=60/\Q (.bl (PyData.eqv d e)) H
noncomputable def Jjv(K:Frag):R2:=fun x y H Q=>∃d e,Rep K H x d/\Rep K H y e/\d.canLay0=true/\e.canLay0=true/\min d.depth e.depth<=60/\Q (.bl (!PyData.eqv d e)) H
theorem JhB(hu:X.A.units+64<cLine):OpR X (compareOp .Eq) (Jjp X.K):=by intro pins s σ H x y v u Q I rx ry h;obtain⟨d,e,h1,h2,c1,c2,hd,q⟩:=h;obtain⟨as,r1⟩:=h1.reads I v rx;obtain⟨bs,r2⟩:=h2.reads I u ry;exact SeqAt.compareEq_reads r1 r2 c1 c2 (by omega) ⟨.bl _,H,I,rfl,q⟩
theorem JhG(hu:X.A.units+64<cLine):OpR X (compareOp .NotEq) (Jjv X.K):=by intro pins s σ H x y v u Q I rx ry h;obtain⟨d,e,h1,h2,c1,c2,hd,q⟩:=h;obtain⟨as,r1⟩:=h1.reads I v rx;obtain⟨bs,r2⟩:=h2.reads I u ry;exact SeqAt.compareNe_reads r1 r2 c1 c2 (by omega) ⟨.bl _,H,I,rfl,q⟩
noncomputable def JdU(K:Frag):R2:=fun x y H Q=>rEq x y H Q\/Jjp K x y H Q
noncomputable def JdV(K:Frag):R2:=fun x y H Q=>rNe x y H Q\/Jjv K x y H Q
theorem JhA(hu:X.A.units+64<cLine):OpR X (compareOp .Eq) (JdU X.K):=op_eq.or (JhB hu)
theorem JhF(hu:X.A.units+64<cLine):OpR X (compareOp .NotEq) (JdV X.K):=op_ne.or (JhG hu)
noncomputable def Ja2(K:Frag):List V->Hp->VK->Prop:=fun xs H Q=>∃x n,xs=[x]/\JiJ K x H n/\Q (.int n) H
theorem Jb3:CallR X (.builtin "len") (Ja2 X.K):=JcV
noncomputable def ZP(K:Frag):List V->Hp->VK->Prop:=fun xs H Q=>∃p ys,xs=[.ref p]/\(SqL K H p ys\/SqT K H p ys)/\∀l,H l=none->Q (.ref l) (upd H l (.lst ys))
theorem JaI:CallR X (.type "list") (ZP X.K):=Zv
inductive TyS (K:Frag) (H:Hp):V->Value->Prop where
 | of {x:V} {t:Value} (h:TyOf K H x t):TyS K H x t
 | sqT {a:Addr} {xs:List V} (h:SqT K H a xs):TyS K H (.ref a) (.type "tuple")
 | sqL {a:Addr} {xs:List V} (h:SqL K H a xs):TyS K H (.ref a) (.type "list")
theorem Wp{pins:List (Addr×Obj)}{σ:St}{H:Hp}{s:Shared}{A:Around}{E:Value->Shared->Prop}{Q:Value->Shared->Prop}{c:Value}{b:Bool}{x:V}{u t:Value}(I:Inv X pins σ H s)(rx:RelV x u)(ty:TyS X.K H x t)(e:kitOne X.K t c=some b)(h:∀tk,Q (.bool b) { s with toks:=tk }) :
 wpAny (model X.prog X.w) A (call (.builtin "isinstance") [u,c]) Q E s:=by
 cases ty with
 | of z=>exact Jco I rx z e h
 | @sqT a xs z=>cases (show u=Value.ref a from rx);obtain⟨its,_,p,_⟩:=I.tuple z;obtain⟨o,h1,h2,_⟩:=p;exact kia_one PySem.W.kitx_tuple I.kIn ⟨o,h1,h2⟩ e (fun z=>nomatch z) h
 | @sqL a xs z=>cases (show u=Value.ref a from rx);obtain⟨its,_,p,_⟩:=I.list z;obtain⟨o,h1,h2,_⟩:=p.isList;exact kia_one kitx_list I.kIn ⟨o,h1,h2⟩ e (fun z=>nomatch z) h
noncomputable def JfA(K:Frag):List V->Hp->VK->Prop:=fun vs H Q=>∃x c t tc b,vs=[x,c]/\TyS K H x t/\(∀u,RelV c u->u=tc)/\kitOne K t tc=some b/\Q (.bl b) H
theorem JcU:CallR X (.builtin "isinstance") (JfA X.K):=by intro pins s σ H xs us Q I r h;obtain⟨x,c,t,tc,b,rfl,ty,hc,e,q⟩:=h;obtain⟨u,w',rfl,r1,r2⟩:=Jel r;cases hc w' r2;exact Wp I r1 ty e fun tk=>⟨.bl b,H,I.tok tk,rfl,q⟩
noncomputable def JhQ:R2:=fun x y H Q=>y=.non/\Q (.bl (decide (x=.non))) H
noncomputable def JdW:R2:=fun x y H Q=>y=.non/\Q (.bl (!decide (x=.non))) H
theorem Jfp:OpR X (compareOp .Is) JhQ:=JhD
theorem Wy:OpR X (compareOp .IsNot) JdW:=Jfq
noncomputable def Jj6:List V->Hp->VK->Prop:=fun xs H Q=>∃i j,xs=[.int i,.int j]/\Q (.int (if j>i then j else i)) H
noncomputable def JhR:List V->Hp->VK->Prop:=fun xs H Q=>∃i j,xs=[.int i,.int j]/\Q (.int (if j<i then j else i)) H
theorem W8(hc:X.calm=true):CallR X (.builtin "min") JhR:=Jb4 hc
noncomputable def Jf5(K:Frag)(ta:TE):TT:=fun σ H Q=>ta σ H fun x H1=>∃k,JbV K x H1 k/\Q k H1
theorem JhO{a:Expr}{ta:TE}(ha:PE X a ta)(he:∀whole,isTrue a X.env whole=(do let v <- whole;standAt a.pos;holding [v] (truthy v))):PT X a (Jf5 X.K ta):=JdQ ha he
noncomputable def GV(mg:Str->Option Value)(x:Str)(v:V):Prop:=∃u,mg x=some u/\RelV v u
theorem JdI{x:Str}{v:V}{pos:Pos}(hg:Gl X x)(hm:GV X.mg x v)(hd:(x == ("__debug__":Str))=false:=by decide):PE X (.Name x pos) (tC v):=by obtain⟨u,h1,h2⟩:=hm;exact Yq hg h1 h2 hd
end
theorem UI:bootBuiltins "len"=some (.builtin "len"):=by decide +kernel
theorem Jq:bootBuiltins "isinstance"=some (.builtin "isinstance"):=by decide +kernel
theorem JcQ:bootBuiltins "min"=some (.builtin "min"):=by decide +kernel
theorem Zu:bootBuiltins "sum"=some (.builtin "sum"):=by decide +kernel
theorem JgL:bootBuiltins "all"=some (.builtin "all"):=by decide +kernel
theorem Jb0:bootBuiltins "sorted"=some (.builtin "sorted"):=by decide +kernel
theorem JgM:bootBuiltins "int"=some (.type "int"):=by decide +kernel
theorem Jey:bootBuiltins "bool"=some (.type "bool"):=by decide +kernel
theorem JgN:bootBuiltins "str"=some (.type "str"):=by decide +kernel
theorem Zt:bootBuiltins "list"=some (.type "list"):=by decide +kernel
theorem JcR:bootBuiltins "tuple"=some (.type "tuple"):=by decide +kernel
structure Cal (P:Program) (w:World) (K:Frag) (mg:Str->Option Value) (base:Heap) (x:Str) (k:Nat) (ps:List Str) (sp:Sp):Prop where
 ex:∃(f:Addr) (fd:FuncData),FnOk P w K mg base CX0 k f fd ps sp/\mg x=some (.ref f)/\keepIn K (.ref f)=true/\Binds K fd ps []
structure CalM (P:Program) (w:World) (K:Frag) (mg:Str->Option Value) (base:Heap) (x:Str) (C:Addr) (k:Nat) (ps:List Str) (sp:Sp):Prop where
 ex:∃(f:Addr) (fd:FuncData),Mk K C f/\FnOk P w K mg base CX0 k f fd ps sp/\mg x=some (.ref C)/\Binds K fd ps []
section
variable{X:Cx}{k:Nat}{C:Addr}{ps:List Str}{sp:Sp}{x:Str}{p pos:Pos}{e:Expr}{es:List Expr}{t:TA}
theorem JQ(c:Cal X.prog X.w X.K X.mg X.base x k ps sp)(hr:Room k X.A)(hg:Gl X x)(ha:PA X (e::es) t)(hdb:(x == ("__debug__":Str))=false:=by decide)
 (he:starEach (e::es) X.env=(false,eval e X.env)::starEach es X.env:=by rfl) (hpl:(backTo pos (starEach es X.env)).any (·.1)=false:=by rfl):PE X (.Call (.Name x p) (e::es) [] pos) (Vr sp [] E0 t):=by
 obtain⟨f,fd,F,h1,h2,h3⟩:=c.ex;exact JbE F hr hg h1 h2 h3 .nil Jjl ha hdb he hpl
end

noncomputable def Je9(K:Frag)(tl:TE):TI:=fun σ H R=>Jgq K tl σ H R\/Ji5 K tl σ H R
theorem JhK{X:Cx}{tg l:Expr}{tl:TE}(hl:PE X l tl):PI X tg l (Je9 X.K tl):=by
 intro pins s σ H R I h;rcases h with h|h
 ·exact Jfs hl pins s σ H R I h
 ·exact JhL hl pins s σ H R I h

theorem JcP{X:Cx}{sc:Scope}{N':List Str}{imp:List (Option Nat)}(h1:sc.kind=.function)
 (h2:(sc.names.all (fun y=>y.2 != .free && y.2 != .cell && (y.2 != .local || sc.names.lookup y.1 == some .local)) && imp.all (·.isNone) && (imp.length == N'.length))=true):Blk X sc [] N' imp:=by
 simp only[Bool.and_eq_true,List.all_eq_true] at h2;obtain⟨⟨h2,h3⟩,h4⟩:=h2
 have nofree:∀y∈sc.names,y.2≠.free:=fun y hy=>by
  have:=(h2 y hy).1.1
  simpa using this
 have nocell:∀y∈sc.names,y.2≠.cell:=fun y hy=>by
  have:=(h2 y hy).1.2
  simpa using this
 refine⟨closureFor_none nofree,h1,nocell,fun y hy hl=>?_,(fun p hp=>nomatch hp),fun y hy hk=>?_,by simpa using h4,fun p hp k e=>?_⟩
 ·have:=(h2 y hy).2;rw[hl] at this
  simpa using this
 ·have:(relabel sc X.env).names=sc.names:=by
   unfold relabel;refine map_eq_self fun x hx=>?_
   obtain⟨n,q⟩:=x;have:(q == NameKind.free)=false:=by simpa using nofree _ hx
   simp[this]
  rw[this] at hy;rcases hk with z|z
  ·exact absurd z (nocell y hy)
  ·exact absurd z (nofree y hy)
 ·have:=h3 p.1 (List.of_mem_zip hp).1;rw[e] at this;cases this

section
variable{K:Frag}{σ:St}{H H1:Hp}{Q:VK}{i:Nat}{v:V}{ta tb te:TE}{r:R2}{D:Ends}{t u:TS}{c:TT}
theorem Jii(h:σ[i]?=some (some v))(q:Q v H):WM i σ H Q:=⟨v,h,q⟩
theorem Jj7(q:Q v H):tC v σ H Q:=q
theorem JjC(q:ta σ H fun x H1=>tb σ H1 fun y H2=>r x y H2 Q):tOp r ta tb σ H Q:=q
theorem JjF{r:V->Hp->VK->Prop}(q:ta σ H fun x H1=>r x H1 Q):tUn r ta σ H Q:=q
theorem JjA{g:Int->Int->V}{a b:Int}(q:Q (g a b) H):rI0 g (.int a) (.int b) H Q:=⟨a,b,rfl,rfl,q⟩
theorem Jj8{C:Int->Int->Prop}{g:Int->Int->V}{a b:Int}(h:C a b)(q:Q (g a b) H):rI C g (.int a) (.int b) H Q:=⟨a,b,rfl,rfl,h,q⟩
theorem Jj9{g:Int->V}{a:Int}(q:Q (g a) H):rU g (.int a) H Q:=⟨a,rfl,q⟩
theorem JfC{a b:Int}(q:Q (.int (a+b)) H):JbH K (.int a) (.int b) H Q:=.inl ⟨a,b,rfl,rfl,q⟩
theorem JhX{a b:Int}(q:Q (.bl (decide (a=b))) H):JdU K (.int a) (.int b) H Q:=.inl ⟨rfl,by
 have:decide (V.int a=V.int b)=decide (a=b):=by simp
 rw[this];exact q⟩
theorem Jh9{a b:Int}(q:Q (.bl (!decide (a=b))) H):JdV K (.int a) (.int b) H Q:=.inl ⟨rfl,by
 have:decide (V.int a=V.int b)=decide (a=b):=by simp
 rw[this];exact q⟩
theorem JhY{a b:Str}(q:Q (.bl (decide (a=b))) H):JdU K (.str a) (.str b) H Q:=.inl ⟨rfl,by
 have:decide (V.str a=V.str b)=decide (a=b):=by simp
 rw[this];exact q⟩
theorem Jia{a b:Str}(q:Q (.bl (!decide (a=b))) H):JdV K (.str a) (.str b) H Q:=.inl ⟨rfl,by
 have:decide (V.str a=V.str b)=decide (a=b):=by simp
 rw[this];exact q⟩
theorem Jh2{x:V}(q:Q (.bl (decide (x=.non))) H):JhQ x .non H Q:=⟨rfl,q⟩
theorem JfN{x:V}(q:Q (.bl (!decide (x=.non))) H):JdW x .non H Q:=⟨rfl,q⟩
theorem Jh8{a b:Int}(q:Q (.int (max a b)) H):Jj6 [.int a,.int b] H Q:=⟨a,b,rfl,by
 have e:(if b>a then b else a)=max a b:=by rw[Int.max_def];split <;> split <;> omega
 rw[e];exact q⟩
theorem Jd7{a b:Int}(q:Q (.int (min a b)) H):JhR [.int a,.int b] H Q:=⟨a,b,rfl,by
 have e:(if b<a then b else a)=min a b:=by rw[Int.min_def];split <;> split <;> omega
 rw[e];exact q⟩
theorem JfR{Qb:Bool->Hp->Prop}(q:ta σ H fun x H1=>∃k,JbV K x H1 k/\Qb k H1):Jf5 K ta σ H Qb:=q
theorem JhZ{f:Str}(q:ta σ H fun x H1=>∃a C dx fs v,x=.ref a/\H1 a=some (.ins C dx fs)/\Cls K C/\V8 K C f/\fs.lookup f=some v/\Q v H1):Jkc K ta f σ H Q:=q
theorem JfQ{Qb:Bool->Hp->Prop}(q:te σ H fun x H'=>∃k,x=.bl k/\Qb k H'):Jei te σ H Qb:=q
theorem JjE{Qb:Bool->Hp->Prop}(q:te σ H fun x H'=>∃k,x=.bl k/\Qb k H'):tB te σ H Qb:=q
theorem JhV{c':TT}{Qb:Bool->Hp->Prop}(q:c σ H fun b H1=>if b=true then c' σ H1 Qb else Qb false H1):Jip c c' σ H Qb:=q
theorem JjD{c':TT}{Qb:Bool->Hp->Prop}(q:c σ H fun b H1=>if b=true then Qb true H1 else c' σ H1 Qb):tOr c c' σ H Qb:=q
theorem Jic{Qb:Bool->Hp->Prop}(q:c σ H fun b H1=>Qb (!b) H1):Jit c σ H Qb:=q
theorem JfO(q:te σ H fun x H1=>∃b,x=.bl b/\Q (.bl (!b)) H1):JjO te σ H Q:=q
theorem JfD(q:ta σ H fun x H1=>∃b,x=.bl b/\if b=true then tb σ H1 Q else Q (.bl false) H1):Jee ta tb σ H Q:=q
theorem Jid(q:ta σ H fun x H1=>∃b,x=.bl b/\if b=true then Q (.bl true) H1 else tb σ H1 Q):Jkd ta tb σ H Q:=q
theorem Jh0(q:c σ H fun b H1=>if b=true then ta σ H1 Q else tb σ H1 Q):tIf c ta tb σ H Q:=q
theorem Jif(q:t { D with nx:=u D } σ H):Jf4 t u D σ H:=q
theorem JhW{g:TG}(q:te σ H fun x H1=>g x σ H1 D.nx):Ja7 te g D σ H:=q
theorem Jd5{Qs:St->Hp->Prop}(q:Qs (σ.set i (some v)) H):Zb i v σ H Qs:=q
theorem Jh1(q:c σ H fun b H1=>if b=true then t D σ H1 else u D σ H1):Jf2 c t u D σ H:=q
theorem Jie(q:te σ H D.rt):Jf3 te D σ H:=q
theorem JfF(q:te σ H fun _ H1=>D.nx σ H1):WL te D σ H:=q
theorem JfM(q:D.nx σ H):Jeh D σ H:=q
theorem JfE{tr:TA}{Ql:List V->Hp->Prop}(q:ta σ H fun x H1=>tr σ H1 fun xs H2=>Ql (x::xs) H2):Y4 ta tr σ H Ql:=q
theorem Jib{Ql:List V->Hp->Prop}(q:Ql [] H):V3 σ H Ql:=q
theorem Jjz{r:List V->Hp->VK->Prop}{ts:TA}(q:ts σ H fun vs H1=>r vs H1 Q):tCB r ts σ H Q:=q
theorem V6{sp:Sp}{E:XK}{ts:TA}(q:ts σ H fun vs H1=>sp vs H1 Q E):Vr sp [] E ts σ H Q:=by
 have e:(fun vs H1=>sp (vs++[]) H1 Q E)=fun vs H1=>sp vs H1 Q E:=by funext vs H1;rw[List.append_nil]
 show ts σ H fun vs H1=>sp (vs++[]) H1 Q E
 rw[e];exact q
noncomputable def JgD(xs:List V)(H:Hp)(Q:VK):Prop:=xs.length<=sizeLine/\∀p,H p=none->Q (.ref p) (upd H p (.tup xs))
noncomputable def JgC(xs:List V)(H:Hp)(Q:VK):Prop:=xs.length<=sizeLine/\∀p,H p=none->Q (.ref p) (upd H p (.lst xs))
theorem Jih{ts:TA}(q:ts σ H fun xs H1=>JgD xs H1 Q):Jf6 ts σ H Q:=q
theorem Jh7{ts:TA}(q:ts σ H fun xs H1=>JgC xs H1 Q):Jis ts σ H Q:=q
theorem JfI{a:Addr}{xs:List V}(h:SqL K H a xs)(q:Q (.int xs.length) H):Ja2 K [.ref a] H Q:=⟨_,_,rfl,.inl ⟨xs,h,rfl⟩,q⟩
theorem JfK{a:Addr}{xs:List V}(h:SqT K H a xs)(q:Q (.int xs.length) H):Ja2 K [.ref a] H Q:=⟨_,_,rfl,.inr ⟨xs,h,rfl⟩,q⟩
theorem JfJ{x:Str}(h:x.length<=sizeLine)(q:Q (.int x.length) H):Ja2 K [.str x] H Q:=⟨_,_,rfl,⟨h,rfl⟩,q⟩
theorem Jh4{a:Addr}{xs:List V}{j:Int}{v:V}(h:SqL K H a xs)(e:atI xs j=some v)(q:Q v H):rIx K (.ref a) (.int j) H Q:=.inl ⟨a,xs,j,v,rfl,rfl,h,e,q⟩
theorem Jh6{a:Addr}{xs:List V}{j:Int}{v:V}(h:SqT K H a xs)(e:atI xs j=some v)(q:Q v H):rIx K (.ref a) (.int j) H Q:=.inr (.inl ⟨a,xs,j,v,rfl,rfl,h,e,q⟩)
theorem Jh5{z:Str}{j:Int}{c:Nat}(hz:z.length<=sizeLine)(e:atI z.cps.toList j=some c)(q:Q (.str ⟨#[c]⟩) H):rIx K (.str z) (.int j) H Q:=.inr (.inr ⟨z,j,c,rfl,rfl,hz,e,q⟩)
theorem Jh3{x:V}{n:String}{t:Value}{b:Bool}(ty:TyS K H x t)(e:kitOne K t (.type n)=some b)(q:Q (.bl b) H):JfA K [x,.ty n] H Q:=⟨x,_,t,_,b,rfl,ty,fun _ r=>r,e,q⟩
theorem JjB{T:String}{rm:V->List V->Hp->VK->Prop}{to:TE}{ts:TA}(q:to σ H fun x H1=>tyV K T x H1/\ts σ H1 fun xs H2=>rm x xs H2 Q):tBM K T rm to ts σ H Q:=q
theorem JfH{to ti:TE}{ts:Jeu}{Qs:St->Hp->Prop}(q:to σ H fun o H1=>ti σ H1 fun i H2=>ts o i v H2 fun H3=>Qs σ H3):Jg8 to ti ts v σ H Qs:=q
theorem Jd4{t:TG}{u:TGs}{x:V}{xs:List V}{Qs:St->Hp->Prop}(q:t x σ H fun σ' H'=>u xs σ' H' Qs):Jdh t u (x::xs) σ H Qs:=⟨x,xs,rfl,q⟩
theorem JfG{Qs:St->Hp->Prop}(q:Qs σ H):Jg7 [] σ H Qs:=⟨rfl,q⟩
theorem JfP{f:Str}{tv:TE}(q:tv σ H fun y H1=>ta σ H1 fun x H2=>∃a C dx fs,x=.ref a/\H2 a=some (.ins C dx fs)/\Cls K C/\V8 K C f/\fs.length<1000/\D.nx σ (upd H2 a (.ins C dx (putF f y fs)))):Jka K ta tv f D σ H:=q
theorem Jd3{r':R2}{tc:TE}(q:ta σ H fun x H1=>tb σ H1 fun y H2=>r x y H2 fun z H3=>∃k,z=.bl k/\(if k=true then tc σ H3 fun w' H4=>r' y w' H4 Q else Q (.bl false) H3)):Jiq r r' ta tb tc σ H Q:=q
theorem Jij{Qb:Bool->Hp->Prop}(q:Qb true H):Jiv σ H Qb:=q
end
end L2
namespace L2
open PySem PySem.Spec PyProof.Rows
section
variable{X:Cx}{K:Frag}{pos:Pos}
theorem Jfn(hK:X.K=K):OpR X (binaryOp .Add) (JbH K):=hK▸Jfm
theorem YJ(hK:X.K=K)(hu:X.A.units+64<cLine):OpR X (compareOp .Eq) (JdU K):=hK▸JhA hu
theorem JdC(hK:X.K=K)(hu:X.A.units+64<cLine):OpR X (compareOp .NotEq) (JdV K):=hK▸JhF hu
theorem YC(hK:X.K=K):CallR X (.builtin "len") (Ja2 K):=hK▸Jb3
theorem Wc(hK:X.K=K):CallR X (.type "list") (ZP K):=hK▸JaI
theorem UT(hK:X.K=K):CallR X (.builtin "isinstance") (JfA K):=hK▸JcU
theorem JB(hK:X.K=K):IxR X (rIx K):=hK▸Jhi
theorem YT{tg l:Expr}{tl:TE}(hK:X.K=K)(hl:PE X l tl):PI X tg l (Je9 K tl):=hK▸JhK hl
theorem Vm{es:List Expr}{k:Nat}{t:TGs}{n:Nat}(hK:X.K=K)(hc:X.calm=true)(h:PGs X es t)(hn:(assignEach es X.env).length=n)(hst:(assignEach es X.env).findIdx? (·.1)=none):PG X (.Tuple es k pos) (Je7 K n t):=hK▸JhJ hc h hn hst
theorem V5{a:Expr}{ta:TE}(hK:X.K=K)(ha:PE X a ta)(he:∀whole,isTrue a X.env whole=(do let v <- whole;standAt a.pos;holding [v] (truthy v))):PT X a (Jf5 K ta):=hK▸JhO ha he
theorem VG{o e:Expr}{es:List Expr}{to:TE}{t:TA}{name:Str}{apos cpos:Pos}{T id:String}{r:V->List V->Hp->VK->Prop}(hK:X.K=K)(pa:PlainAttrs T)(slot:Slot T name id)(hty:typeOf (.builtin id)=pure (.type "method_descriptor"))(hm:MtR X id r)(ho:PE X o to)(ha:PA X (e::es) t)
 (hbase:attributeBase o name X.env (eval o X.env)=eval o X.env:=by rfl)
 (hfew:((backTo cpos (starEach (e::es) X.env)).all (fun x=>!x.1) && (backToKw cpos (keywordEach [] X.env)).all (fun x=>x.1.isSome)
  && decide ((e::es).length+([]:List Keyword).length+(if ([]:List Keyword).isEmpty then 0 else 1)<30))=true:=by rfl)
 (hline:(apos.endLine == cpos.line)=true:=by rfl) (hs:starEach (e::es) X.env=(false,eval e X.env)::starEach es X.env:=by rfl) (hplain:(backTo cpos (starEach es X.env)).any (·.1)=false:=by rfl) :
 PE X (.Call (.Attribute o name apos) (e::es) [] cpos) (tBM K T r to t):=hK▸Jjn pa slot hty hm ho ha hbase hfew hline hs hplain
end
end L2

namespace LR
open PySem L2

theorem Jiz(K:Frag)(H:Hp)(k:Bool):JbV K (.bl k) H k:=rfl
noncomputable abbrev Pr:=Int×Int
noncomputable def prD(p:Pr):PyData:=.tuple [.int p.1,.int p.2]
section
variable{K:Frag}{H H':Hp}
theorem Jft{v:V}{p:Pr}(r:Rep K H v (prD p)):∃a,v=.ref a/\SqT K H a [.int p.1,.int p.2]:=by
 obtain⟨a,xs,rfl,h,l,q⟩:=r.tupI
 match xs,l,q,h with
 | [x,y],_,q,h =>
  have e1:=(q 0 x (.int p.1) rfl rfl).intI
  have e2:=(q 1 y (.int p.2) rfl rfl).intI;subst e1 e2;exact⟨a,rfl,h⟩
noncomputable abbrev Prs(K:Frag)(H:Hp)(vs:List V)(ps:List Pr):Prop:=RepL K H vs (ps.map prD)
theorem Prs.len{vs:List V}{ps:List Pr}(r:Prs K H vs ps):vs.length=ps.length:=by have:=r.1;rwa [List.length_map] at this
theorem Prs.at{vs:List V}{ps:List Pr}{i:Nat}{v:V}(r:Prs K H vs ps)(e:vs[i]?=some v):∃p a,ps[i]?=some p/\v=.ref a/\SqT K H a [.int p.1,.int p.2]:=by
 obtain⟨d,h1,h2⟩:=r.get' e;rw[List.getElem?_map] at h1
 cases hp:ps[i]? with
 | none=>rw[hp] at h1;cases h1
 | some p=>rw[hp] at h1;cases h1;obtain⟨a,e1,e2⟩:=Jft h2;exact⟨p,a,rfl,e1,e2⟩
theorem Prs.snoc{vs:List V}{ps:List Pr}{v:V}{p:Pr}(r:Prs K H vs ps)(h:Rep K H v (prD p)):Prs K H (vs++[v]) (ps++[p]):=by show RepL K H _ _;rw[List.map_append];exact RepL.snoc r h
end

structure Good (ps:List Pr):Prop where
 one:∀(i:Nat) (p:Pr),ps[i]?=some p->1<=p.2
 gap:∀(i:Nat) (p q:Pr),ps[i]?=some p->ps[i+1]?=some q->p.1+p.2<q.1
theorem Good.nil:Good []:=⟨fun i p e=>by simp at e,fun i p q e=>by simp at e⟩
theorem Good.snoc{ps:List Pr}{p:Pr}(g:Good ps)(h1:1<=p.2)(h2:∀q,ps[ps.length-1]?=some q->q.1+q.2<p.1):Good (ps++[p]):=by
 refine⟨fun i q e=>?_,fun i q r e1 e2=>?_⟩
 ·by_cases hi:i<ps.length
  ·rw[List.getElem?_append_left hi] at e;exact g.one i q e
  ·rw[List.getElem?_append_right (by omega)] at e;obtain⟨h3,h4⟩:=List.getElem?_eq_some_iff.mp e;have:i-ps.length=0:=by simp at h3;omega
   rw[this] at e;simp at e;subst e;exact h1
 ·by_cases hi:i+1<ps.length
  ·rw[List.getElem?_append_left (by omega)] at e1;rw[List.getElem?_append_left hi] at e2;exact g.gap i q r e1 e2
  ·rw[List.getElem?_append_right (by omega)] at e2;obtain⟨h3,h4⟩:=List.getElem?_eq_some_iff.mp e2;have h5:i+1-ps.length=0:=by simp at h3;omega
   rw[h5] at e2;simp at e2;subst e2;have h6:i=ps.length-1:=by omega
   have h7:i<ps.length:=by omega
   rw[List.getElem?_append_left h7] at e1;rw[h6] at e1;exact h2 q e1

noncomputable def JjH(t:Addr):List (Str×V):=[("stretches",.ref t)]
noncomputable def RowAt(C:Addr)(K:Frag)(H:Hp)(v:V)(ps:List Pr):Prop :=
 ∃x dx t ts,v=.ref x/\H x=some (.ins C dx (JjH t))/\H t=some (.tup ts)/\Prs K H ts ps
theorem RowAt.mono{C:Addr}{K:Frag}{H H':Hp}{v:V}{ps:List Pr}(e:Same H H')(r:RowAt C K H v ps):RowAt C K H' v ps:=by obtain⟨x,dx,t,ts,h0,h1,h2,h3⟩:=r;exact⟨x,dx,t,ts,h0,e _ _ h1,e _ _ h2,RepL.mono e h3⟩
structure RowC (K:Frag) (C:Addr):Prop where
 cl:Cls K C
 ns:V8 K C "stretches"
noncomputable def Jgj(C:Addr)(sp:Sp)(E:XK)(vs:List V)(H1:Hp)(Q:VK):Prop:=∀x dx,H1 x=none->H1 dx=none->dx≠x ->
 sp (.ref x::vs) (upd (upd H1 dx (.own x)) x (.ins C dx [])) (fun v H2=>v=.non/\Q (.ref x) H2) E
theorem JfL{C:Addr}{sp:Sp}{E:XK}{ts:TA}{σ:St}{H:Hp}{Q:VK}(q:ts σ H fun vs H1=>Jgj C sp E vs H1 Q):JjN C sp [] E ts σ H Q:=by
 have e:(fun vs H1=>Jgj C sp E vs H1 Q)=fun vs H1=>∀x dx,H1 x=none->H1 dx=none->dx≠x->sp (.ref x::(vs++[])) (upd (upd H1 dx (.own x)) x (.ins C dx [])) (fun v H2=>v=.non/\Q (.ref x) H2) E:=by funext vs H1;rw[List.append_nil];rfl
 show ts σ H _;rw[<- e];exact q
noncomputable def cell(ns:List Int)(k:Int):Int:=ns.getD k.toNat 0
end LR

namespace LR
open PySem L2

theorem JcW{ns:List Int}{k:Int}(h:¬k<(ns.length:Int)):cell ns k=0:=by unfold cell;rw[List.getD_eq_getElem?_getD,List.getElem?_eq_none (by omega)];rfl
noncomputable def JaZ(l:List Int)(k:Int):Int:=l.getD k.toNat 0
theorem UP{l:List Int}{k:Int}{P:Int->Prop}(h0:0<=k)(h1:k<(l.length:Int))(h:∀x∈l,P x):P (JaZ l k):=by
 unfold JaZ;have:k.toNat<l.length:=by omega
 rw[List.getD_eq_getElem?_getD,List.getElem?_eq_getElem this];exact h _ (List.getElem_mem this)
theorem Jd6{K:Frag}{a:Addr}{xs:List V}{H:Hp}{Q:VK}(h:SqL K H a xs\/SqT K H a xs)(q:Q (.int xs.length) H):Ja2 K [.ref a] H Q:=by
 rcases h with h|h
 ·exact JfI h q
 ·exact JfK h q
noncomputable def JbP(K:Frag):Sp:=fun vs H Q _=>∃(a:Addr) (ns:List Int),vs=[.ref a]/\SqL K H a (ns.map V.int)/\ns.length<=63/\∀H',Q (.bl true) H'
end LR
namespace LR
open PySem L2
end LR

namespace L2
open PySem PySem.Spec PyProof.Rows

section
variable{X:Cx}{pins:List (Addr×Obj)}{σ:St}{H:Hp}{s:Shared}
theorem Zd{A':Around}{E:Value->Shared->Prop}{Q:Value->Shared->Prop}{a:Addr}{vs:List V}(hh:A'.handled=none)(I:Inv X pins σ H s)(hq:SqL X.K H a vs\/SqT X.K H a vs)
 (h:∀(its:List Value) (J:Addr) (fp wr:List Addr) (Sx:Nat->Heap->Prop) (s2:Shared),Vals vs its->Walks X.prog X.w A' J fp wr its.toArray.size (fun i v=>its.toArray[i]?=some v) Sx->Sx 0 s2.heap->(∀b∈fp,b<s2.heap.objs.size) ->
  (∀h' tk,(∀b o,b∉wr->s2.heap.get? b=some o->h'.get? b=some o)->Inv X pins σ H { s2 with heap:=h',toks:=tk })->Q (.ref J) s2):wpAny (model X.prog X.w) A' (pyIter (.ref a)) Q E s:=by
 have nin:∀b o,s.heap.get? b=some o->b∉[s.heap.objs.size]:=fun b o e z=>by
  have:b=s.heap.objs.size:=by simpa using z
  exact absurd (Heap.lt_size e) (by rw[this];exact Nat.lt_irrefl _)
 rcases hq with hq|hq
 ·obtain⟨its,rv,p,hz⟩:=I.list hq;have hlt:a<s.heap.objs.size:=by obtain⟨_,e,_⟩:=p.isList;exact Heap.lt_size e
  refine wpAny_pyIter_list p.isList ?_;refine h its _ _ _ _ _ rv (Walks.list hh _ a (Nat.ne_of_lt hlt) its.toArray) ⟨⟨_,Heap.get?_push_size _ rfl,rfl,rfl⟩,p.isList.push _⟩ (fun b hb=>?_) fun h' tk hk=>I.kept fun b o e=>hk b o (nin b o e) (Heap.get?_push_of_some _ e)
  show b<(s.heap.push _).objs.size;rw[Heap.size_push];rcases List.mem_cons.mp hb with z|z
  ·rw[z];exact Nat.lt_succ_self _
  ·have:b=a:=by simpa using z
   rw[this];exact Nat.lt_succ_of_lt hlt
 ·obtain⟨its,rv,p,hz⟩:=I.tuple hq;have ht:s.heap.IsTuple a its.toArray:=p;have hlt:a<s.heap.objs.size:=by obtain⟨_,e,_⟩:=ht;exact Heap.lt_size e
  refine wpAny_pyIter_tuple ht ?_;refine h its _ _ _ _ _ rv (Walks.tuple hh _ a (Nat.ne_of_lt hlt) its.toArray) ⟨⟨_,Heap.get?_push_size _ rfl,rfl,rfl⟩,?_⟩ (fun b hb=>?_) fun h' tk hk=>I.kept fun b o e=>hk b o (nin b o e) (Heap.get?_push_of_some _ e)
  ·obtain⟨o,e,c⟩:=ht;exact⟨o,Heap.get?_push_of_some _ e,c⟩
  ·show b<(s.heap.push _).objs.size;rw[Heap.size_push];rcases List.mem_cons.mp hb with z|z
   ·rw[z];exact Nat.lt_succ_self _
   ·have:b=a:=by simpa using z
    rw[this];exact Nat.lt_succ_of_lt hlt
end

theorem VW(l:List Int):∀j,j<=l.length->preSum (fun i=>l.getD i 0) j=(l.take j).sum
 | 0,_=>by simp[preSum]
 | j+1,h=>by
  rw[preSum,VW l j (by omega)];have hj:j<l.length:=by omega
  rw[List.take_add_one,List.sum_append];simp[hj]
section
variable{X:Cx}
noncomputable def JhU(K:Frag):List V->Hp->VK->Prop:=fun xs H Q=>∃(a:Addr) (ns:List Int),xs=[.ref a]/\(SqL K H a (ns.map V.int)\/SqT K H a (ns.map V.int))/\Q (.int ns.sum) H
theorem Jb6(hc:X.calm=true):CallR X (.builtin "sum") (JhU X.K):=by
 intro pins s σ H xs us Q I r h;obtain⟨a,ns,rfl,hq,q⟩:=h;obtain⟨u,rfl,rx⟩:=Zn r;cases rx;refine call_sum_walkG (Zd (A':=X.A.in1) (I.ok.hd hc) I hq fun its J fp wr Sx s2 rv W st hfp hI=>?_);have hi:=Uc rv;have hl:=rv.length;rw[List.length_map] at hl;refine⟨J,fp,wr,_,_,Sx,fun i=>ns.getD i 0,rfl,W,st,hfp,fun i v e=>?_,fun h' tk t' hk=>?_⟩
 ·have e':its[i]?=some v:=by simpa using e
  obtain⟨x,e1,e2⟩:=rv.get' e';rw[List.getElem?_map] at e1
  cases hn:ns[i]? with
  | none=>rw[hn] at e1;cases e1
  | some n=>rw[hn] at e1;cases e1;obtain⟨t,rfl⟩:=e2;exact⟨t,by simp[List.getD_eq_getElem?_getD,hn]⟩
 ·refine⟨.int ns.sum,H,hI h' tk hk,⟨t',?_⟩,q⟩;rw[show its.toArray.size=ns.length by simp[hl],VW ns _ (Nat.le_refl _),List.take_length]
noncomputable def JhP(K:Frag):List V->Hp->VK->Prop:=fun xs H Q=>∃(a:Addr) (bs:List Bool),xs=[.ref a]/\(SqL K H a (bs.map V.bl)\/SqT K H a (bs.map V.bl))/\Q (.bl (bs.all id)) H
theorem JcD(bs:List Bool):(List.range bs.length).all (fun i=>bs.getD i false)=bs.all id:=by
 rw[Bool.eq_iff_iff];simp only[List.all_eq_true,List.mem_range,id];constructor
 ·intro h b hb;obtain⟨i,hi,e⟩:=List.mem_iff_getElem.mp hb;have:=h i hi;simp[List.getD_eq_getElem?_getD,hi] at this;rw[<- e];exact this
 ·intro h i hi;simp[List.getD_eq_getElem?_getD,hi];exact h _ (List.getElem_mem hi)
theorem JaD{A:Around}{bs:List Bool}{its:List Value}(rv:Vals (bs.map V.bl) its):TruthOf X.prog X.w A (fun i v=>its.toArray[i]?=some v) (fun i=>bs.getD i false):=by
 intro i v s Q E e q;have e':its[i]?=some v:=by simpa using e
 obtain⟨x,e1,e2⟩:=rv.get' e';rw[List.getElem?_map] at e1
 cases hn:bs[i]? with
 | none=>rw[hn] at e1;cases e1
 | some n =>
  rw[hn] at e1;cases e1;cases e2;have:bs.getD i false=n:=by simp[List.getD_eq_getElem?_getD,hn]
  have q':Q (bs.getD i false) s:=q;rw[this] at q';exact wpAny_truthy_bool q'
theorem Jb2(hc:X.calm=true):CallR X (.builtin "all") (JhP X.K):=by intro pins s σ H xs us Q I r h;obtain⟨a,bs,rfl,hq,q⟩:=h;obtain⟨u,rfl,rx⟩:=Zn r;cases rx;refine call_all_walk (Zd (A':=X.A.in1) (I.ok.hd hc) I hq fun its J fp wr Sx s2 rv W st hfp hI=>?_);have hl:=rv.length;rw[List.length_map] at hl;refine⟨J,fp,wr,_,_,Sx,_,rfl,W,st,JaD rv,fun h' tk hk=>⟨.bl _,H,hI h' tk hk,rfl,?_⟩⟩;rw[show its.toArray.size=bs.length by simp[hl],JcD];exact q
noncomputable def strI(i:Int):Str:=(toString i:String)
noncomputable def JhT:List V->Hp->VK->Prop:=fun xs H Q=>∃i,xs=[.int i]/\i.natAbs.log2<1920/\Q (.str (strI i)) H
theorem Jb5:CallR X (.type "str") JhT:=Zw
end
section
variable{X:Cx}{K:Frag}
theorem UU(hK:X.K=K)(hc:X.calm=true):CallR X (.builtin "sum") (JhU K):=hK▸Jb6 hc
theorem Jb1(hK:X.K=K)(hc:X.calm=true):CallR X (.builtin "all") (JhP K):=hK▸Jb2 hc
end
section
variable{K:Frag}{H:Hp}{Q:VK}
theorem Jig{i:Int}(h:i.natAbs.log2<1920)(q:Q (.str (strI i)) H):JhT [.int i] H Q:=⟨i,rfl,h,q⟩
end
end L2
namespace L2
open PySem PySem.Spec PyProof.Rows
noncomputable def AllP{α:Type}(P:α->Prop):List α->Prop
 | []=>True
 | x::xs=>P x/\AllP P xs
theorem AllP.mem{α:Type}{P:α->Prop}:∀{l:List α},AllP P l->∀x∈l,P x
 | [],_,x,hx=>nomatch hx
 | y::l,h,x,hx=>by
  rcases List.mem_cons.mp hx with z|z
  ·rw[z];exact h.1
  ·exact AllP.mem h.2 x z
theorem U7{cl:List (Str×Addr)}{x:Str}(h:cl.any (fun p=>p.1 == x)=true):(cl.lookup x).isSome=true:=by
 induction cl with
 | nil=>simp at h
 | cons p cl ih =>
  obtain⟨n,a⟩:=p;rw[List.lookup_cons]
  by_cases e:x == n
  ·rw[e];rfl
  ·have e':(x == n)=false:=by simpa using e
   rw[e'];rw[List.any_cons] at h;rcases Bool.or_eq_true_iff.mp h with z|z
   ·have:n=x:=eq_of_beq z;rw[this] at e';simp at e'
   ·exact ih z
theorem JiP{X:Cx}{sc:Scope}{cl:List (Str×Addr)}{own:List Str}{fr:List (Str×Nat)}(h1:sc.kind=.function)(h2:closureFor sc X.env=pure cl)
 (h3:(sc.names.all fun y=>y.2 != .cell && (y.2 != .local || sc.names.lookup y.1 == some .local))=true) (h4:AllP (fun p=>X.env.cells.lookup p.1=some p.2) cl)
 (h5:((relabel sc X.env).names.all fun y=>(y.2 != .cell && y.2 != .free) || cl.any (fun p=>p.1 == y.1))=true)
 (h6:AllP (fun p=>X.N[p.2]?=some p.1/\X.env.scope.names.lookup p.1=some .cell/\(relabel sc X.env).names.lookup p.1=some .cell) fr) :
 Blk X sc cl (own++fr.map (·.1)) (own.map (fun _=>none)++fr.map (fun p=>some p.2)):=by
 simp only[List.all_eq_true,Bool.and_eq_true] at h3;simp only[List.all_eq_true] at h5;refine⟨h2,h1,fun y hy=>?_,fun y hy hl=>?_,AllP.mem h4,fun y hy hk=>?_,by simp,fun p hp k e=>?_⟩
 ·have:=(h3 y hy).1
  simpa using this
 ·have:=(h3 y hy).2;rw[hl] at this
  simpa using this
 ·have:=h5 y hy;rcases Bool.or_eq_true_iff.mp this with z|z
  ·rcases hk with q|q
   ·rw[q] at z;simp at z
   ·rw[q] at z;simp at z
  ·exact U7 z
 ·rw[List.zip_append (by simp)] at hp;rcases List.mem_append.mp hp with z|z
  ·have:=(List.of_mem_zip z).1;obtain⟨_,_,q⟩:=List.mem_map.mp this;rw[<- q] at e;cases e
  ·rw[List.zip_map_left] at z;obtain⟨q,hq,eq⟩:=List.mem_map.mp z
   have hz:q.1∈fr/\q.1.1=q.2:=by
    clear h6 e eq z hp;rw[List.zip_map_right] at hq;obtain⟨q',hq',eq'⟩:=List.mem_map.mp hq
    have:q'.1=q'.2:=by
     clear eq' hq
     induction fr with
     | nil=>cases hq'
     | cons x fr ih =>
      rcases List.mem_cons.mp hq' with z|z
      ·rw[z]
      ·exact ih z
    rw[<- eq'];exact⟨(List.of_mem_zip hq').1,by show q'.1.1=q'.2.1;rw[this]⟩
   obtain⟨a1,a2,a3⟩:=AllP.mem h6 q.1 hz.1;rw[<- eq] at e ⊢;have ek:q.1.2=k:=by simpa using e
   subst ek;rw[hz.2] at a1 a2 a3;exact⟨a1,.inl a2,.inl a3⟩
end L2

namespace LR
open PySem L2

noncomputable def Small(i:Int):Prop:=i.natAbs.log2<1920
theorem Small.of{i:Int}(h:i.natAbs<2 ^ 1920):Small i:=by
 unfold Small
 by_cases h0:i.natAbs=0
 ·rw[h0];decide
 ·exact(Nat.log2_lt h0).mpr h
end LR

namespace LE
open PySem L2 LR

inductive D where
 | non|bl (b:Bool)|int (i:Int)|str (x:Str)|tup (l:List D)|lst (l:List D)|fz (l:List D)|row (l:List D)|dct (ks:List Int) (l:List D)|dfz (ks:List Int) (l:List D)|exc (n:Str)
noncomputable def dkO(ks:List Int)(xs:List V):HO:=.dK ((ks.map Sum.inl).zip xs)
noncomputable def dtK(p:Int×Int):List Key:=[Sum.inl p.1,Sum.inl p.2]
noncomputable def dtO(ps:List (Int×Int))(xs:List V):HO:=.dT ((ps.map dtK).zip xs)
noncomputable def XO(a:Addr)(c:Value):HO:=.ext fun h=>∃o,h.get? a=some o/\o.cls=c/\notCls o=true/\o.dict=none

section
variable(K:Frag)(C:Addr)
inductive RD (H:Hp):V->D->Prop
 | non:RD H .non .non
 | bl (b:Bool):RD H (.bl b) (.bl b)
 | int (i:Int):RD H (.int i) (.int i)
 | str (x:Str):RD H (.str x) (.str x)
 | tup {a:Addr} {xs:List V} {ds:List D}:SqT K H a xs->xs.length=ds.length->(∀(i:Nat) (x:V) (d:D),xs[i]?=some x->ds[i]?=some d->RD H x d)->RD H (.ref a) (.tup ds)
 | lst {a:Addr} {xs:List V} {ds:List D}:H a=some (.lst xs)->xs.length=ds.length->(∀(i:Nat) (x:V) (d:D),xs[i]?=some x->ds[i]?=some d->RD H x d)->RD H (.ref a) (.lst ds)
 | fz {a:Addr} {xs:List V} {ds:List D}:SqL K H a xs->xs.length=ds.length->(∀(i:Nat) (x:V) (d:D),xs[i]?=some x->ds[i]?=some d->RD H x d)->RD H (.ref a) (.fz ds)
 | row {x dx t:Addr} {ts:List V} {ds:List D}:H x=some (.ins C dx (JjH t))->SqT K H t ts->ts.length=ds.length->(∀(i:Nat) (x:V) (d:D),ts[i]?=some x->ds[i]?=some d->RD H x d)->RD H (.ref x) (.row ds)
 | dct {a:Addr} {ks:List Int} {xs:List V} {ds:List D}:H a=some (dkO ks xs)->ks.length=ds.length->xs.length=ds.length->(∀(i:Nat) (x:V) (d:D),xs[i]?=some x->ds[i]?=some d->RD H x d)->RD H (.ref a) (.dct ks ds)
 | dfz {a:Addr} {ks:List Int} {xs:List V} {ds:List D} {o:Obj}:H a=some (.frz o (dkO ks xs))->ks.length=ds.length->xs.length=ds.length->(∀(i:Nat) (x:V) (d:D),xs[i]?=some x->ds[i]?=some d->RD H x d)->RD H (.ref a) (.dfz ks ds)
 | exc {a c:Addr} {n:Str}:H a=some (XO a (.ref c))->nsIn K mainGlobals n=some (some (.ref c))->RD H (.ref a) (.exc n)
noncomputable def RDL(H:Hp)(xs:List V)(ds:List D):Prop:=xs.length=ds.length/\∀(i:Nat) (x:V) (d:D),xs[i]?=some x->ds[i]?=some d->RD K C H x d
end

section
variable{K:Frag}{C:Addr}{H H':Hp}
theorem RD.mono{v:V}{d:D}(e:Same H H')(r:RD K C H v d):RD K C H' v d:=by
 induction r with
 | non=>exact .non
 | bl b=>exact .bl b
 | int i=>exact .int i
 | str x=>exact .str x
 | tup h l _ ih=>exact .tup (e.seqT h) l ih
 | lst h l _ ih=>exact .lst (e _ _ h) l ih
 | fz h l _ ih=>exact .fz (e.seq h) l ih
 | row h1 h2 l _ ih=>exact .row (e _ _ h1) (e.seqT h2) l ih
 | dct h1 h2 l _ ih=>exact .dct (e _ _ h1) h2 l ih
 | dfz h1 h2 l _ ih=>exact .dfz (e _ _ h1) h2 l ih
 | exc h1 h2=>exact .exc (e _ _ h1) h2
theorem RDL.mono{xs:List V}{ds:List D}(e:Same H H')(r:RDL K C H xs ds):RDL K C H' xs ds:=⟨r.1,fun i x d h1 h2=>(r.2 i x d h1 h2).mono e⟩
theorem RDL.nil:RDL K C H [] []:=⟨rfl,fun i x d e=>by simp at e⟩
theorem RDL.cons{x:V}{d:D}{xs:List V}{ds:List D}(h:RD K C H x d)(r:RDL K C H xs ds):RDL K C H (x::xs) (d::ds):=by
 refine⟨by simp[r.1],fun i y e h1 h2=>?_⟩
 cases i with
 | zero=>simp at h1 h2;subst h1 h2;exact h
 | succ i=>exact r.2 i y e (by simpa using h1) (by simpa using h2)
theorem RDL.append{xs ys:List V}{ds es:List D}(r:RDL K C H xs ds)(q:RDL K C H ys es):RDL K C H (xs++ys) (ds++es):=by
 refine⟨by simp[r.1,q.1],fun i x d h1 h2=>?_⟩
 by_cases hi:i<xs.length
 ·rw[List.getElem?_append_left hi] at h1;rw[List.getElem?_append_left (by rw[<- r.1];exact hi)] at h2;exact r.2 i x d h1 h2
 ·rw[List.getElem?_append_right (by omega)] at h1;rw[List.getElem?_append_right (by rw[<- r.1];omega)] at h2;rw[<- r.1] at h2;exact q.2 _ x d h1 h2
theorem RDL.snoc{xs:List V}{ds:List D}{x:V}{d:D}(r:RDL K C H xs ds)(h:RD K C H x d):RDL K C H (xs++[x]) (ds++[d]):=r.append (.cons h .nil)
theorem RDL.get{xs:List V}{ds:List D}{i:Nat}{d:D}(r:RDL K C H xs ds)(e:ds[i]?=some d):∃x,xs[i]?=some x/\RD K C H x d:=by
 have hi:=(List.getElem?_eq_some_iff.mp e).1
 have hx:i<xs.length:=by rw[r.1];exact hi
 exact⟨xs[i],by simp[hx],r.2 i _ d (by simp[hx]) e⟩
theorem RDL.get'{xs:List V}{ds:List D}{i:Nat}{x:V}(r:RDL K C H xs ds)(e:xs[i]?=some x):∃d,ds[i]?=some d/\RD K C H x d:=by
 have hi:=(List.getElem?_eq_some_iff.mp e).1
 have hx:i<ds.length:=by rw[<- r.1];exact hi
 exact⟨ds[i],by simp[hx],r.2 i x _ e (by simp[hx])⟩
theorem RDL.head{x:V}{xs:List V}{d:D}{ds:List D}(r:RDL K C H (x::xs) (d::ds)):RD K C H x d:=r.2 0 x d rfl rfl
theorem RDL.tail{x:V}{xs:List V}{d:D}{ds:List D}(r:RDL K C H (x::xs) (d::ds)):RDL K C H xs ds:=⟨by have:=r.1;simpa using this,fun i y e h1 h2=>r.2 (i+1) y e (by simpa using h1) (by simpa using h2)⟩
theorem RDL.take{xs:List V}{ds:List D}(n:Nat)(r:RDL K C H xs ds):RDL K C H (xs.take n) (ds.take n):=by
 refine⟨by simp[r.1],fun i x d h1 h2=>?_⟩;rw[List.getElem?_take] at h1 h2;split at h1
 ·rw[if_pos (by assumption)] at h2;exact r.2 i x d h1 h2
 ·cases h1
theorem RDL.drop{xs:List V}{ds:List D}(n:Nat)(r:RDL K C H xs ds):RDL K C H (xs.drop n) (ds.drop n):=by refine⟨by simp[r.1],fun i x d h1 h2=>?_⟩;rw[List.getElem?_drop] at h1 h2;exact r.2 _ x d h1 h2
theorem RDL.set{xs:List V}{ds:List D}{v:V}{e:D}(n:Nat)(r:RDL K C H xs ds)(h:RD K C H v e):RDL K C H (xs.set n v) (ds.set n e):=by
 refine⟨by simp[r.1],fun i x d h1 h2=>?_⟩;rw[List.getElem?_set] at h1 h2;split at h1
 ·rw[if_pos (by assumption)] at h2;split at h1
  ·rw[if_pos (by rw[<- r.1];assumption)] at h2;cases h1;cases h2;exact h
  ·cases h1
 ·rw[if_neg (by assumption)] at h2;exact r.2 i x d h1 h2
theorem RDL.ints:∀{xs:List V} {ns:List Int},RDL K C H xs (ns.map D.int)->xs=ns.map V.int
 | [],[],_=>rfl
 | [],_::_,r=>by have:=r.1;simp at this
 | _::_,[],r=>by have:=r.1;simp at this
 | x::xs,n::ns,r=>by have h:=r.head;cases h;rw[RDL.ints r.tail];rfl
theorem RDL.ofInts:∀(ns:List Int),RDL K C H (ns.map V.int) (ns.map D.int)
 | []=>.nil
 | n::ns=>.cons (.int n) (RDL.ofInts ns)
theorem RDL.bls:∀{xs:List V} {ns:List Bool},RDL K C H xs (ns.map D.bl)->xs=ns.map V.bl
 | [],[],_=>rfl
 | [],_::_,r=>by have:=r.1;simp at this
 | _::_,[],r=>by have:=r.1;simp at this
 | x::xs,n::ns,r=>by have h:=r.head;cases h;rw[RDL.bls r.tail];rfl
theorem RDL.strs:∀{xs:List V} {ns:List Str},RDL K C H xs (ns.map D.str)->xs=ns.map V.str
 | [],[],_=>rfl
 | [],_::_,r=>by have:=r.1;simp at this
 | _::_,[],r=>by have:=r.1;simp at this
 | x::xs,n::ns,r=>by have h:=r.head;cases h;rw[RDL.strs r.tail];rfl
theorem RD.mkT{a:Addr}{xs:List V}{ds:List D}(h:SqT K H a xs)(r:RDL K C H xs ds):RD K C H (.ref a) (.tup ds):=.tup h r.1 r.2
theorem RD.mkL{a:Addr}{xs:List V}{ds:List D}(h:H a=some (.lst xs))(r:RDL K C H xs ds):RD K C H (.ref a) (.lst ds):=.lst h r.1 r.2
theorem RD.mkF{a:Addr}{xs:List V}{ds:List D}(h:SqL K H a xs)(r:RDL K C H xs ds):RD K C H (.ref a) (.fz ds):=.fz h r.1 r.2
theorem RD.tupI{v:V}{ds:List D}(r:RD K C H v (.tup ds)):∃a xs,v=.ref a/\SqT K H a xs/\RDL K C H xs ds:=by
 cases r with
 | tup h l q=>exact⟨_,_,rfl,h,l,q⟩
theorem RD.lstI{v:V}{ds:List D}(r:RD K C H v (.lst ds)):∃a xs,v=.ref a/\H a=some (.lst xs)/\RDL K C H xs ds:=by
 cases r with
 | lst h l q=>exact⟨_,_,rfl,h,l,q⟩
theorem RD.fzI{v:V}{ds:List D}(r:RD K C H v (.fz ds)):∃a xs,v=.ref a/\SqL K H a xs/\RDL K C H xs ds:=by
 cases r with
 | fz h l q=>exact⟨_,_,rfl,h,l,q⟩
theorem RD.mkD{a:Addr}{ks:List Int}{xs:List V}{ds:List D}(h:H a=some (dkO ks xs))(hk:ks.length=ds.length)(r:RDL K C H xs ds):RD K C H (.ref a) (.dct ks ds):=.dct h hk r.1 r.2
theorem RD.dctI{v:V}{ks:List Int}{ds:List D}(r:RD K C H v (.dct ks ds)):∃a xs,v=.ref a/\H a=some (dkO ks xs)/\ks.length=ds.length/\RDL K C H xs ds:=by
 cases r with
 | dct h hk l q=>exact⟨_,_,rfl,h,hk,l,q⟩
theorem RD.dfzI{v:V}{ks:List Int}{ds:List D}(r:RD K C H v (.dfz ks ds)):∃a xs o,v=.ref a/\H a=some (.frz o (dkO ks xs))/\ks.length=ds.length/\RDL K C H xs ds:=by
 cases r with
 | dfz h hk l q=>exact⟨_,_,_,rfl,h,hk,l,q⟩
theorem RD.excI{v:V}{n:Str}(r:RD K C H v (.exc n)):∃a c,v=.ref a/\H a=some (XO a (.ref c))/\nsIn K mainGlobals n=some (some (.ref c)):=by
 cases r with
 | exc h1 h2=>exact⟨_,_,rfl,h1,h2⟩
theorem RD.intI{v:V}{i:Int}(r:RD K C H v (.int i)):v=.int i:=by cases r;rfl
theorem RD.strI{v:V}{i:Str}(r:RD K C H v (.str i)):v=.str i:=by cases r;rfl
theorem RD.blI{v:V}{i:Bool}(r:RD K C H v (.bl i)):v=.bl i:=by cases r;rfl
theorem RD.nonI{v:V}(r:RD K C H v .non):v=.non:=by cases r;rfl
end

mutual
noncomputable def D.py:D->PyData
 | .non=>.none
 | .bl b=>.bool b
 | .int i=>.int i
 | .str x=>.str x
 | .tup l=>.tuple (D.pyL l)
 | .lst l=>.list (D.pyL l)
 | .fz l=>.list (D.pyL l)
 | .row _=>.dict []
 | .dct _ _=>.dict []
 | .dfz _ _=>.dict []
 | .exc _=>.dict []
noncomputable def D.pyL:List D->List PyData
 | []=>[]
 | d::ds=>d.py::D.pyL ds
end
theorem JbG:∀ds:List D,D.pyL ds=ds.map D.py
 | []=>rfl
 | d::ds=>by rw[D.pyL,JbG ds];rfl
theorem Ws:∀{ds:List PyData},PyData.canLayAll0 ds=true->∀d∈ds,d.canLay0=true
 | [],_,d,hd=>nomatch hd
 | x::ds,h,d,hd=>by
  have h':(PyData.canLay0 x && PyData.canLayAll0 ds)=true:=h;rw[Bool.and_eq_true] at h';rcases List.mem_cons.mp hd with z|z
  ·rw[z];exact h'.1
  ·exact Ws h'.2 d z
theorem RD.rep{K:Frag}{C:Addr}{H:Hp}{v:V}{d:D}(r:RD K C H v d):d.py.canLay0=true->Rep K H v d.py:=by
 have all:∀{xs:List V} {ds:List D},xs.length=ds.length->(∀(i:Nat) (x:V) (d:D),xs[i]?=some x->ds[i]?=some d->d.py.canLay0=true->Rep K H x d.py)->PyData.canLayAll0 (D.pyL ds)=true->RepL K H xs (D.pyL ds):=by
  intro xs ds l ih hc;rw[JbG] at hc ⊢;refine⟨by simpa using l,fun i x d h1 h2=>?_⟩;rw[List.getElem?_map] at h2
  cases e:ds[i]? with
  | none=>rw[e] at h2;cases h2
  | some q=>rw[e] at h2;cases h2;exact ih i x q h1 e (Ws hc _ (List.mem_map.mpr ⟨q,List.mem_of_getElem? e,rfl⟩))
 induction r with
 | non=>intro _;exact .non
 | bl b=>intro _;exact .bl b
 | int i=>intro _;exact .int i
 | str x=>intro _;exact .str x
 | tup h l _ ih=>intro hc;exact .tupL h (all l ih hc)
 | lst h l _ ih=>intro hc;exact .lstL (.of h) (all l ih hc)
 | fz h l _ ih=>intro hc;exact .lstL h (all l ih hc)
 | row h1 h2 l _ ih=>intro hc;cases hc
 | dct h1 h2 l _ ih=>intro hc;cases hc
 | dfz h1 h2 l _ ih=>intro hc;cases hc
 | exc h1 h2=>intro hc;cases hc

inductive Sl where
 | no|sh (d:D)|bo (ds:List D)|own (ds:List D)|bd (ks:List Int) (ds:List D)|od (ks:List Int) (ds:List D)|bt (ps:List (Int×Int)) (ds:List D)|ot (ps:List (Int×Int)) (ds:List D)
noncomputable def JM:Sl->Bool
 | .own _=>true
 | .od _ _=>true
 | .ot _ _=>true
 | _=>false
noncomputable def Jhd:Sl->Bool
 | .bo _=>true
 | .bd _ _=>true
 | .bt _ _=>true
 | _=>false

section
variable(K:Frag)(C:Addr)
noncomputable def RR(Hs H0 H:Hp)(v:V):Sl->Prop
 | .no=>False
 | .sh d=>RD K C H0 v d
 | .bo ds=>∃l xs,v=.ref l/\H l=some (.lst xs)/\RDL K C H0 xs ds
 | .own ds=>∃l xs,v=.ref l/\H l=some (.lst xs)/\H0 l=none/\Hs l=none/\RDL K C H0 xs ds
 | .bd ks ds=>∃l xs,v=.ref l/\H l=some (dkO ks xs)/\ks.length=ds.length/\RDL K C H0 xs ds
 | .bt ks ds=>∃l xs,v=.ref l/\H l=some (dtO ks xs)/\ks.length=ds.length/\RDL K C H0 xs ds
 | .od ks ds=>∃l xs,v=.ref l/\H l=some (dkO ks xs)/\H0 l=none/\Hs l=none/\ks.length=ds.length/\RDL K C H0 xs ds
 | .ot ks ds=>∃l xs,v=.ref l/\H l=some (dtO ks xs)/\H0 l=none/\Hs l=none/\ks.length=ds.length/\RDL K C H0 xs ds
noncomputable def RSl(B H0 H:Hp)(v:V):Sl->Prop
 | .no=>True
 | .sh d=>RD K C H0 v d
 | .bo ds=>∃l xs,v=.ref l/\B l=some (.lst xs)/\RDL K C H0 xs ds
 | .own ds=>∃l xs,v=.ref l/\H l=some (.lst xs)/\H0 l=none/\B l=none/\RDL K C H0 xs ds
 | .bd ks ds=>∃l xs,v=.ref l/\B l=some (dkO ks xs)/\ks.length=ds.length/\RDL K C H0 xs ds
 | .bt ks ds=>∃l xs,v=.ref l/\B l=some (dtO ks xs)/\ks.length=ds.length/\RDL K C H0 xs ds
 | .od ks ds=>∃l xs,v=.ref l/\H l=some (dkO ks xs)/\H0 l=none/\B l=none/\ks.length=ds.length/\RDL K C H0 xs ds
 | .ot ks ds=>∃l xs,v=.ref l/\H l=some (dtO ks xs)/\H0 l=none/\B l=none/\ks.length=ds.length/\RDL K C H0 xs ds
structure EnvR (B H0 H:Hp) (σ:St) (E:List Sl):Prop where
 b:Same B H
 h:Same H0 H
 len:σ.length=E.length
 at':∀(i:Nat) (s:Sl),E[i]?=some s->s=.no\/∃v,σ[i]?=some (some v)/\RSl K C B H0 H v s
 sep:∀(i j:Nat) (s t:Sl) (v:V),i≠j->E[i]?=some s->E[j]?=some t->JM s=true->JM t=true->σ[i]?=some (some v)->σ[j]?≠some (some v)
end
noncomputable def isT:HO->Bool
 | .tup _=>true
 | .frz _ (.tup _)=>true
 | _=>false
structure Step (Hs H0 H H0' H':Hp):Prop where
 h:Same H H'
 z:Same H0 H0'
 n:∀a o,H0' a=some o->H0 a=some o\/Hs a=none\/isT o=true
 i:Same H0' H'
structure SStep (B H0 H0' H':Hp):Prop where
 b:Same B H'
 z:Same H0 H0'
 n:∀a o,H0' a=some o->H0 a=some o\/B a=none\/isT o=true
 i:Same H0' H'

section
variable{K:Frag}{C:Addr}{B Hs H0 H H0' H' H0'' H'':Hp}{σ:St}{E:List Sl}{v:V}{s:Sl}
theorem Step.refl(i:Same H0 H):Step Hs H0 H H0 H:=⟨Same.refl _,Same.refl _,fun _ _ e=>.inl e,i⟩
theorem Step.comp{Hs':Hp}(s1:Step Hs H0 H H0' H')(s2:Step Hs' H0' H' H0'' H'')(w:∀a,Hs' a=none->Hs a=none):Step Hs H0 H H0'' H'' :=
 ⟨s1.h.trans s2.h,s1.z.trans s2.z,fun a o e=>(s2.n a o e).elim (fun q=>s1.n a o q) fun q=>.inr (q.imp (w a) id),s2.i⟩
theorem Step.trans(s1:Step H H0 H H0' H')(s2:Step H' H0' H' H0'' H''):Step H H0 H H0'' H'':=s1.comp s2 fun _ q=>Same.free s1.h q
theorem Step.ss(b:Same B H)(s:Step H H0 H H0' H'):SStep B H0 H0' H':=⟨b.trans s.h,s.z,fun a o e=>(s.n a o e).imp id fun q=>q.imp (fun q=>Same.free b q) id,s.i⟩
theorem SStep.refl(b:Same B H)(i:Same H0 H):SStep B H0 H0 H:=⟨b,Same.refl _,fun _ _ e=>.inl e,i⟩
theorem SStep.trans(s1:SStep B H0 H0' H')(s2:SStep B H0' H0'' H''):SStep B H0 H0'' H'':=⟨s2.b,s1.z.trans s2.z,fun a o e=>(s2.n a o e).elim (fun q=>s1.n a o q) .inr,s2.i⟩
theorem RR.step(r:RR K C Hs H0 H v s)(st:Step H H0 H H0' H'):RR K C Hs H0' H' v s:=by
 cases s with
 | no=>exact r
 | sh d=>exact RD.mono st.z r
 | bo ds=>obtain⟨l,xs,e,h,q⟩:=r;exact⟨l,xs,e,st.h _ _ h,q.mono st.z⟩
 | bd ks ds=>obtain⟨l,xs,e,h,hk,q⟩:=r;exact⟨l,xs,e,st.h _ _ h,hk,q.mono st.z⟩
 | bt ks ds=>obtain⟨l,xs,e,h,hk,q⟩:=r;exact⟨l,xs,e,st.h _ _ h,hk,q.mono st.z⟩
 | own ds =>
  obtain⟨l,xs,e,h,n,m,q⟩:=r;refine⟨l,xs,e,st.h _ _ h,?_,m,q.mono st.z⟩
  cases z:H0' l with
  | none=>rfl
  | some o =>
   rcases st.n l o z with y|y|y
   ·rw[n] at y;cases y
   ·rw[h] at y;cases y
   ·have:=st.i l o z;rw[st.h _ _ h] at this;cases this;cases y
 | od ks ds =>
  obtain⟨l,xs,e,h,n,m,hk,q⟩:=r;refine⟨l,xs,e,st.h _ _ h,?_,m,hk,q.mono st.z⟩
  cases z:H0' l with
  | none=>rfl
  | some o =>
   rcases st.n l o z with y|y|y
   ·rw[n] at y;cases y
   ·rw[h] at y;cases y
   ·have:=st.i l o z;rw[st.h _ _ h] at this;cases this;cases y
 | ot ks ds =>
  obtain⟨l,xs,e,h,n,m,hk,q⟩:=r;refine⟨l,xs,e,st.h _ _ h,?_,m,hk,q.mono st.z⟩
  cases z:H0' l with
  | none=>rfl
  | some o =>
   rcases st.n l o z with y|y|y
   ·rw[n] at y;cases y
   ·rw[h] at y;cases y
   ·have:=st.i l o z;rw[st.h _ _ h] at this;cases this;cases y
theorem RR.weak{Hs':Hp}(r:RR K C Hs' H0 H v s)(w:∀a,Hs' a=none->Hs a=none):RR K C Hs H0 H v s:=by
 cases s with
 | own ds=>obtain⟨l,xs,e,h,n,m,q⟩:=r;exact⟨l,xs,e,h,n,w _ m,q⟩
 | od ks ds=>obtain⟨l,xs,e,h,n,m,q⟩:=r;exact⟨l,xs,e,h,n,w _ m,q⟩
 | ot ks ds=>obtain⟨l,xs,e,h,n,m,q⟩:=r;exact⟨l,xs,e,h,n,w _ m,q⟩
 | _=>exact r
theorem RSl.owned(r:RSl K C B H0 H v s)(o:JM s=true):∃l,v=.ref l/\H l≠none/\H0 l=none/\B l=none:=by
 cases s with
 | own ds=>obtain⟨l,xs,e,h,n,m,q⟩:=r;exact⟨l,e,(by rw[h];intro z;cases z),n,m⟩
 | od ks ds=>obtain⟨l,xs,e,h,n,m,q⟩:=r;exact⟨l,e,(by rw[h];intro z;cases z),n,m⟩
 | ot ks ds=>obtain⟨l,xs,e,h,n,m,q⟩:=r;exact⟨l,e,(by rw[h];intro z;cases z),n,m⟩
 | _=>cases o
theorem RR.owned(r:RR K C Hs H0 H v s)(o:JM s=true):∃l,v=.ref l/\H l≠none/\H0 l=none/\Hs l=none:=by
 cases s with
 | own ds=>obtain⟨l,xs,e,h,n,m,q⟩:=r;exact⟨l,e,(by rw[h];intro z;cases z),n,m⟩
 | od ks ds=>obtain⟨l,xs,e,h,n,m,q⟩:=r;exact⟨l,e,(by rw[h];intro z;cases z),n,m⟩
 | ot ks ds=>obtain⟨l,xs,e,h,n,m,q⟩:=r;exact⟨l,e,(by rw[h];intro z;cases z),n,m⟩
 | _=>cases o
theorem EnvR.step(I:EnvR K C B H0 H σ E)(st:Step H H0 H H0' H'):EnvR K C B H0' H' σ E:=by
 refine⟨I.b.trans st.h,st.i,I.len,fun i s e=>?_,I.sep⟩;rcases I.at' i s e with z|⟨v,h1,h2⟩
 ·exact .inl z
 ·refine .inr ⟨v,h1,?_⟩
  cases s with
  | no=>trivial
  | sh d=>exact RD.mono st.z h2
  | bo ds=>obtain⟨l,xs,e,h,q⟩:=h2;exact⟨l,xs,e,h,q.mono st.z⟩
  | own ds=>exact RR.step (Hs:=B) (s:=.own ds) h2 st
  | bd ks ds=>obtain⟨l,xs,e,h,hk,q⟩:=h2;exact⟨l,xs,e,h,hk,q.mono st.z⟩
  | bt ks ds=>obtain⟨l,xs,e,h,hk,q⟩:=h2;exact⟨l,xs,e,h,hk,q.mono st.z⟩
  | od ks ds=>exact RR.step (Hs:=B) (s:=.od ks ds) h2 st
  | ot ks ds=>exact RR.step (Hs:=B) (s:=.ot ks ds) h2 st
theorem EnvR.sub{E':List Sl}(I:EnvR K C B H0 H σ E)(hl:E'.length=E.length)(h:∀(i:Nat) (s:Sl),E'[i]?=some s->s=.no\/E[i]?=some s):EnvR K C B H0 H σ E':=by
 refine⟨I.b,I.h,I.len.trans hl.symm,fun i s e=>?_,fun i j s t v hij e1 e2 o1 o2=>?_⟩
 ·rcases h i s e with z|z
  ·exact .inl z
  ·exact I.at' i s z
 ·rcases h i _ e1 with z|z
  ·subst z;cases o1
  ·rcases h j _ e2 with y|y
   ·subst y;cases o2
   ·exact I.sep i j s t v hij z y o1 o2
theorem EnvR.put(I:EnvR K C B H0 H σ E){i:Nat}(hi:i<E.length){Hs:Hp}(hB:∀a,Hs a=none->B a=none)(hf:∀(j:Nat) (t:Sl) (l:Addr),E[j]?=some t->JM t=true->σ[j]?=some (some (.ref l))->Hs l≠none)(r:RR K C Hs H0 H v s)(hb:Jhd s=false):EnvR K C B H0 H (σ.set i (some v)) (E.set i s):=by
 refine⟨I.b,I.h,by simp[I.len],fun j t e=>?_,fun j k s1 s2 u hjk e1 e2 o1 o2 e3 e4=>?_⟩
 ·rw[List.getElem?_set] at e
  by_cases hj:i=j
  ·subst hj;rw[if_pos rfl,if_pos hi] at e;cases e;refine .inr ⟨v,by rw[List.getElem?_set];simp[I.len,hi],?_⟩
   cases s with
   | no=>trivial
   | sh d=>exact r
   | bo ds=>cases hb
   | own ds=>obtain⟨l,xs,e,h,n,m,q⟩:=r;exact⟨l,xs,e,h,n,hB _ m,q⟩
   | bd ks ds=>cases hb
   | bt ks ds=>cases hb
   | od ks ds=>obtain⟨l,xs,e,h,n,m,q⟩:=r;exact⟨l,xs,e,h,n,hB _ m,q⟩
   | ot ks ds=>obtain⟨l,xs,e,h,n,m,q⟩:=r;exact⟨l,xs,e,h,n,hB _ m,q⟩
  ·rw[if_neg hj] at e;rcases I.at' j t e with z|⟨u,h1,h2⟩
   ·exact .inl z
   ·exact .inr ⟨u,by rw[List.getElem?_set,if_neg hj];exact h1,h2⟩
 ·rw[List.getElem?_set] at e1 e2 e3 e4
  by_cases hj:i=j
  ·subst hj;rw[if_neg hjk] at e2 e4;rw[if_pos rfl,if_pos hi] at e1;rw[if_pos rfl,if_pos (by rw[I.len];exact hi)] at e3;cases e3;cases e1;obtain⟨l,e,_,_,m⟩:=r.owned o1;subst e;exact hf k _ l e2 o2 e4 m
  ·rw[if_neg hj] at e1 e3
   by_cases hk:i=k
   ·subst hk;rw[if_pos rfl,if_pos hi] at e2;rw[if_pos rfl,if_pos (by rw[I.len];exact hi)] at e4;cases e2;have e4':v=u:=Option.some.inj (Option.some.inj e4);subst e4';obtain⟨l,e,_,_,m⟩:=r.owned o2;subst e;exact hf j _ l e1 o1 e3 m
   ·rw[if_neg hk] at e2 e4;exact I.sep j k _ _ u hjk e1 e2 o1 o2 e3 e4
theorem EnvR.ownG(I:EnvR K C B H0 H σ E){j:Nat}{t:Sl}{l:Addr}(e1:E[j]?=some t)(ho:JM t=true)(e2:σ[j]?=some (some (.ref l))):H l≠none/\H0 l=none/\B l=none:=by
 rcases I.at' j _ e1 with z|⟨v,h1,h2⟩
 ·subst z;cases ho
 ·rw[e2] at h1;cases h1;obtain⟨l',e,h⟩:=h2.owned ho;cases e;exact h
theorem EnvR.put'{H1 H01:Hp}(I:EnvR K C B H0 H σ E)(st:Step H H0 H H01 H1){i:Nat}(hi:i<E.length)(r:RR K C H H01 H1 v s)(hb:Jhd s=false):EnvR K C B H01 H1 (σ.set i (some v)) (E.set i s) :=
 (I.step st).put hi (fun a q=>Same.free I.b q) (fun j t l e1 o1 e2=>(I.ownG e1 o1 e2).1) r hb
noncomputable def JbB:Option HO->Option HO
 | some o=>if isT o=true then some o else none
 | none=>none
noncomputable def Ui(Hs H0 H:Hp):Hp:=fun a=>match H0 a with
 | some o=>some o
 | none=>match Hs a with
  | none=>H a
  | some _=>JbB (H a)
theorem Wq{o:Option HO}{u:HO}(e:JbB o=some u):o=some u/\isT u=true:=by
 cases o with
 | none=>cases e
 | some w =>
  unfold JbB at e;dsimp only at e;split at e
  ·cases e;exact⟨rfl,by assumption⟩
  ·cases e
theorem JW(i:Same H0 H):Step Hs H0 H (Ui Hs H0 H) H:=by
 refine⟨Same.refl _,fun a o e=>by unfold Ui;rw[e],fun a o e=>?_,fun a o e=>?_⟩
 ·unfold Ui at e
  cases h:H0 a with
  | some u=>rw[h] at e;exact .inl e
  | none =>
   rw[h] at e
   cases h2:Hs a with
   | none=>exact .inr (.inl rfl)
   | some u=>rw[h2] at e;exact .inr (.inr (Wq e).2)
 ·unfold Ui at e
  cases h:H0 a with
  | some u=>rw[h] at e;cases e;exact i a _ h
  | none =>
   rw[h] at e
   cases h2:Hs a with
   | none=>rw[h2] at e;exact e
   | some u=>rw[h2] at e;exact(Wq e).1
theorem Jbx{a:Addr}{o:HO}(i:Same H0 H)(n:Hs a=none)(h:H a=some o):Ui Hs H0 H a=some o:=by
 unfold Ui
 cases z:H0 a with
 | some u=>rw[i a u z] at h;exact h
 | none=>dsimp only;rw[n];exact h
theorem Je6{a:Addr}{o:HO}(i:Same H0 H)(n:isT o=true)(h:H a=some o):Ui Hs H0 H a=some o:=by
 unfold Ui
 cases z:H0 a with
 | some u=>rw[i a u z] at h;exact h
 | none =>
  dsimp only
  cases y:Hs a with
  | none=>exact h
  | some u=>dsimp only;rw[h];unfold JbB;dsimp only;rw[if_pos n]
noncomputable def Sl.frz:Sl->Option D
 | .sh d=>some d
 | .own ds=>some (.lst ds)
 | .od ks ds=>some (.dct ks ds)
 | _=>none
theorem RR.frz{d:D}(i:Same H0 H)(r:RR K C Hs H0 H v s)(e:s.frz=some d):RD K C (Ui Hs H0 H) v d:=by
 have st:Step Hs H0 H (Ui Hs H0 H) H:=JW i
 cases s with
 | no=>cases e
 | sh d'=>cases e;exact RD.mono st.z r
 | bo ds=>cases e
 | own ds=>cases e;obtain⟨l,xs,e,h,n,m,q⟩:=r;subst e;exact .mkL (Jbx i m h) (q.mono st.z)
 | bd ks ds=>cases e
 | bt ks ds=>cases e
 | od ks ds=>cases e;obtain⟨l,xs,e,h,n,m,hk,q⟩:=r;subst e;exact .mkD (Jbx i m h) hk (q.mono st.z)
 | ot ks ds=>cases e
end
end LE

namespace LE
open PySem L2 LR

noncomputable abbrev En:=List Sl
noncomputable abbrev Ev:=En->Option Sl
section
variable(K:Frag)(C:Addr)
noncomputable def SE(te:TE)(ev:Ev):Prop:=∀(B H0 H:Hp) (σ:St) (E:En) (r:Sl) (Q:VK),EnvR K C B H0 H σ E->ev E=some r ->
 (∀v H0' H',Step H H0 H H0' H'->RR K C H H0' H' v r->Q v H')->te σ H Q
noncomputable def ST(t:TT)(ev:En->Option Bool):Prop:=∀(B H0 H:Hp) (σ:St) (E:En) (r:Bool) (Q:Bool->Hp->Prop),EnvR K C B H0 H σ E->ev E=some r ->
 (∀H0' H',Step H H0 H H0' H'->Q r H')->t σ H Q
inductive RRL (Hs H0 H:Hp):List V->List Sl->Prop
 | nil:RRL Hs H0 H [] []
 | cons {v:V} {s:Sl} {vs:List V} {ss:List Sl}:RR K C Hs H0 H v s->RRL Hs H0 H vs ss->RRL Hs H0 H (v::vs) (s::ss)
noncomputable def SA(t:TA)(ev:En->Option (List Sl)):Prop:=∀(B H0 H:Hp) (σ:St) (E:En) (r:List Sl) (Q:List V->Hp->Prop),EnvR K C B H0 H σ E->ev E=some r ->
 (∀vs H0' H',Step H H0 H H0' H'->RRL K C H H0' H' vs r->Q vs H')->t σ H Q
noncomputable def OpS(r:R2)(f:Sl->Sl->Option Sl):Prop:=∀(Hs H0 H:Hp) (x y:V) (a b c:Sl) (Q:VK),Same H0 H->Same Hs H->RR K C Hs H0 H x a->RR K C Hs H0 H y b->f a b=some c ->
 (∀v H0' H',Step Hs H0 H H0' H'->RR K C Hs H0' H' v c->Q v H')->r x y H Q
noncomputable def UnS(r:V->Hp->VK->Prop)(f:Sl->Option Sl):Prop:=∀(Hs H0 H:Hp) (x:V) (a c:Sl) (Q:VK),Same H0 H->Same Hs H->RR K C Hs H0 H x a->f a=some c ->
 (∀v H0' H',Step Hs H0 H H0' H'->RR K C Hs H0' H' v c->Q v H')->r x H Q
noncomputable def V7(r:List V->Hp->VK->Prop)(f:List Sl->Option Sl):Prop:=∀(Hs H0 H:Hp) (xs:List V) (as:List Sl) (c:Sl) (Q:VK),Same H0 H->Same Hs H->RRL K C Hs H0 H xs as->f as=some c ->
 (∀v H0' H',Step Hs H0 H H0' H'->RR K C Hs H0' H' v c->Q v H')->r xs H Q
end

noncomputable def Jc(i:Nat):Ev:=fun E=>match E[i]? with
 | some (.sh d)=>some (.sh d)
 | some (.bo ds)=>some (.bo ds)
 | some (.own ds)=>some (.bo ds)
 | some (.bd ks ds)=>some (.bd ks ds)
 | some (.od ks ds)=>some (.bd ks ds)
 | some (.bt ks ds)=>some (.bt ks ds)
 | some (.ot ks ds)=>some (.bt ks ds)
 | _=>none
noncomputable def eC(d:D):Ev:=fun _=>some (.sh d)
noncomputable def e2(f:Sl->Sl->Option Sl)(a b:Ev):Ev:=fun E=>(a E).bind fun x=>(b E).bind fun y=>f x y
noncomputable def e1(f:Sl->Option Sl)(a:Ev):Ev:=fun E=>(a E).bind f
noncomputable def a0:En->Option (List Sl):=fun _=>some []
noncomputable def aC(a:Ev)(as:En->Option (List Sl)):En->Option (List Sl):=fun E=>(a E).bind fun x=>(as E).bind fun xs=>some (x::xs)
noncomputable def eF(f:List Sl->Option Sl)(as:En->Option (List Sl)):Ev:=fun E=>(as E).bind f
noncomputable def bool?:Sl->Option Bool
 | .sh (.bl b)=>some b
 | _=>none
noncomputable def Jb9(a b:Ev):Ev:=fun E=>((a E).bind bool?).bind fun k=>if k=true then b E else some (.sh (.bl false))
noncomputable def eIf(c:En->Option Bool)(a b:Ev):Ev:=fun E=>(c E).bind fun k=>if k=true then a E else b E
noncomputable def sh?:Sl->Option D
 | .sh d=>some d
 | _=>none
noncomputable def tB?(a:Ev):En->Option Bool:=fun E=>(a E).bind bool?
noncomputable def tAnd?(a b:En->Option Bool):En->Option Bool:=fun E=>(a E).bind fun k=>if k=true then b E else some false
noncomputable def tOr?(a b:En->Option Bool):En->Option Bool:=fun E=>(a E).bind fun k=>if k=true then some true else b E
noncomputable def tNot?(a:En->Option Bool):En->Option Bool:=fun E=>(a E).bind fun k=>some (!k)

section
variable{K:Frag}{C:Addr}
theorem bind_some{α β:Type}{x:Option α}{f:α->Option β}{b:β}(e:x.bind f=some b):∃a,x=some a/\f a=some b:=by
 cases x with
 | none=>cases e
 | some a=>exact⟨a,rfl,e⟩
theorem Vx{s:Sl}{b:Bool}(e:bool? s=some b):s=.sh (.bl b):=by
 cases s with
 | sh d=>cases d with
  | bl x=>cases e;rfl
  | _=>cases e
 | _=>cases e
variable{ta tb tc te:TE}{ea eb ec:Ev}
theorem Jb(i:Nat):SE K C (WM i) (Jc i):=by
 intro B H0 H σ E r Q I e q;unfold Jc at e
 cases h:E[i]? with
 | none=>rw[h] at e;cases e
 | some s =>
  rw[h] at e;rcases I.at' i s h with z|⟨v,h1,h2⟩
  ·subst z;cases e
  ·refine⟨v,h1,q v H0 H (.refl I.h) ?_⟩
   cases s with
   | no=>cases e
   | sh d=>cases e;exact h2
   | bo ds=>cases e;obtain⟨l,xs,e,hl,r⟩:=h2;exact⟨l,xs,e,I.b _ _ hl,r⟩
   | own ds=>cases e;obtain⟨l,xs,e,hl,_,_,r⟩:=h2;exact⟨l,xs,e,hl,r⟩
   | bd ks ds=>cases e;obtain⟨l,xs,e,hl,r⟩:=h2;exact⟨l,xs,e,I.b _ _ hl,r⟩
   | bt ks ds=>cases e;obtain⟨l,xs,e,hl,r⟩:=h2;exact⟨l,xs,e,I.b _ _ hl,r⟩
   | od ks ds=>cases e;obtain⟨l,xs,e,hl,_,_,r⟩:=h2;exact⟨l,xs,e,hl,r⟩
   | ot ks ds=>cases e;obtain⟨l,xs,e,hl,_,_,r⟩:=h2;exact⟨l,xs,e,hl,r⟩
theorem UF:SE K C (tC .non) (eC .non):=fun _ _ _ _ _ _ _ I e q=>by cases e;exact q _ _ _ (.refl I.h) .non
theorem U3{b:Bool}:SE K C (tC (.bl b)) (eC (.bl b)):=fun _ _ _ _ _ _ _ I e q=>by cases e;exact q _ _ _ (.refl I.h) (.bl b)
theorem Jf{i:Int}:SE K C (tC (.int i)) (eC (.int i)):=fun _ _ _ _ _ _ _ I e q=>by cases e;exact q _ _ _ (.refl I.h) (.int i)
theorem Uq{x:Str}:SE K C (tC (.str x)) (eC (.str x)):=fun _ _ _ _ _ _ _ I e q=>by cases e;exact q _ _ _ (.refl I.h) (.str x)
theorem Ji{r:R2}{f:Sl->Sl->Option Sl}(ho:OpS K C r f)(ha:SE K C ta ea)(hb:SE K C tb eb):SE K C (tOp r ta tb) (e2 f ea eb):=by
 intro B H0 H σ E c Q I e q;obtain⟨a,e1,e⟩:=bind_some e;obtain⟨b,e2,e⟩:=bind_some e;exact ha B H0 H σ E a _ I e1 fun x H1 H1' s1 r1=>hb B H1 H1' σ E b _ (I.step s1) e2 fun y H2 H2' s2 r2=>ho H H2 H2' x y a b c Q s2.i (s1.h.trans s2.h) (r1.step s2) (r2.weak fun a q=>Same.free s1.h q) e fun v H3 H3' s3 r3=>q v H3 H3' ((s1.trans s2).comp s3 fun _ z=>z) r3
theorem JjL{r:V->Hp->VK->Prop}{f:Sl->Option Sl}(ho:UnS K C r f)(ha:SE K C ta ea):SE K C (tUn r ta) (e1 f ea):=by intro B H0 H σ E c Q I e q;obtain⟨a,e1,e⟩:=bind_some e;exact ha B H0 H σ E a _ I e1 fun x H1 H1' s1 r1=>ho H H1 H1' x a c Q s1.i s1.h r1 e fun v H3 H3' s3 r3=>q v H3 H3' (s1.comp s3 fun _ z=>z) r3
theorem Jm:SA K C V3 a0:=fun _ _ _ _ _ _ _ I e q=>by cases e;exact q _ _ _ (.refl I.h) .nil
theorem RRL.step{Hs H0 H H0' H':Hp}{vs:List V}{ss:List Sl}(r:RRL K C Hs H0 H vs ss)(st:Step H H0 H H0' H'):RRL K C Hs H0' H' vs ss:=by
 induction r with
 | nil=>exact .nil
 | cons h _ ih=>exact .cons (h.step st) ih
theorem RRL.weak{Hs Hs' H0 H:Hp}{vs:List V}{ss:List Sl}(r:RRL K C Hs' H0 H vs ss)(w:∀a,Hs' a=none->Hs a=none):RRL K C Hs H0 H vs ss:=by
 induction r with
 | nil=>exact .nil
 | cons h _ ih=>exact .cons (h.weak w) ih
theorem Jd{tr:TA}{er:En->Option (List Sl)}(ha:SE K C ta ea)(hr:SA K C tr er):SA K C (Y4 ta tr) (aC ea er):=by
 intro B H0 H σ E c Q I e q;obtain⟨a,e1,e⟩:=bind_some e;obtain⟨b,e2,e⟩:=bind_some e;cases e;exact ha B H0 H σ E a _ I e1 fun x H1 H1' s1 r1=>hr B H1 H1' σ E b _ (I.step s1) e2 fun y H2 H2' s2 r2=>q _ H2 H2' (s1.trans s2) (.cons (r1.step s2) (r2.weak fun a q=>Same.free s1.h q))
theorem UA{r:List V->Hp->VK->Prop}{t:TA}{ev:En->Option (List Sl)}{f:List Sl->Option Sl}(hc:V7 K C r f)(ha:SA K C t ev):SE K C (tCB r t) (eF f ev):=by intro B H0 H σ E c Q I e q;obtain⟨a,e1,e⟩:=bind_some e;exact ha B H0 H σ E a _ I e1 fun x H1 H1' s1 r1=>hc H H1 H1' x a c Q s1.i s1.h r1 e fun v H3 H3' s3 r3=>q v H3 H3' (s1.comp s3 fun _ z=>z) r3
theorem Jd8(ha:SE K C ta ea)(hb:SE K C tb eb):SE K C (Jee ta tb) (Jb9 ea eb):=by
 intro B H0 H σ E c Q I e q;obtain⟨k,e1,e⟩:=bind_some e;obtain⟨a,e0,e1⟩:=bind_some e1;refine ha B H0 H σ E a _ I e0 fun x H1 H1' s1 r1=>?_
 rw[Vx e1] at r1;refine⟨k,RD.blI r1,?_⟩
 cases k with
 | true=>exact hb B H1 H1' σ E c Q (I.step s1) e fun y H2 H2' s2 r2=>q y H2 H2' (s1.trans s2) (r2.weak fun a q=>Same.free s1.h q)
 | false=>cases e;exact q _ _ _ s1 (RD.bl false)
theorem JjI{c:TT}{cv:En->Option Bool}(hc:ST K C c cv)(ha:SE K C ta ea)(hb:SE K C tb eb):SE K C (tIf c ta tb) (eIf cv ea eb):=by
 intro B H0 H σ E r Q I e q;obtain⟨k,e1,e⟩:=bind_some e;refine hc B H0 H σ E k _ I e1 fun H1 H1' s1=>?_
 cases k with
 | true=>exact ha B H1 H1' σ E r Q (I.step s1) e fun y H2 H2' s2 r2=>q y H2 H2' (s1.trans s2) (r2.weak fun a q=>Same.free s1.h q)
 | false=>exact hb B H1 H1' σ E r Q (I.step s1) e fun y H2 H2' s2 r2=>q y H2 H2' (s1.trans s2) (r2.weak fun a q=>Same.free s1.h q)
theorem Jn(ha:SE K C te ea):ST K C (Jei te) (tB? ea):=by
 intro B H0 H σ E k Q I e q;obtain⟨a,e1,e⟩:=bind_some e;refine ha B H0 H σ E a _ I e1 fun x H1 H1' s1 r1=>?_
 rw[Vx e] at r1;exact⟨k,RD.blI r1,q _ _ s1⟩
theorem Ug{c d:TT}{ev ew:En->Option Bool}(hc:ST K C c ev)(hd:ST K C d ew):ST K C (Jip c d) (tAnd? ev ew):=by
 intro B H0 H σ E k Q I e q;obtain⟨a,e1,e⟩:=bind_some e;refine hc B H0 H σ E a _ I e1 fun H1 H1' s1=>?_
 cases a with
 | true=>exact hd B H1 H1' σ E k Q (I.step s1) e fun H2 H2' s2=>q H2 H2' (s1.trans s2)
 | false=>cases e;exact q _ _ s1
theorem VX{c d:TT}{ev ew:En->Option Bool}(hc:ST K C c ev)(hd:ST K C d ew):ST K C (tOr c d) (tOr? ev ew):=by
 intro B H0 H σ E k Q I e q;obtain⟨a,e1,e⟩:=bind_some e;refine hc B H0 H σ E a _ I e1 fun H1 H1' s1=>?_
 cases a with
 | false=>exact hd B H1 H1' σ E k Q (I.step s1) e fun H2 H2' s2=>q H2 H2' (s1.trans s2)
 | true=>cases e;exact q _ _ s1
theorem Ja3{c:TT}{ev:En->Option Bool}(hc:ST K C c ev):ST K C (Jit c) (tNot? ev):=by intro B H0 H σ E k Q I e q;obtain⟨a,e1,e⟩:=bind_some e;cases e;exact hc B H0 H σ E a _ I e1 fun H1 H1' s1=>q _ _ s1
end

noncomputable def Sl.m:Sl->Option (List D)
 | .sh (.lst ds)=>some ds
 | .bo ds=>some ds
 | .own ds=>some ds
 | _=>none
noncomputable def Sl.r:Sl->Option (List D)
 | .sh (.lst ds)=>some ds
 | .sh (.fz ds)=>some ds
 | .bo ds=>some ds
 | .own ds=>some ds
 | _=>none
noncomputable def Sl.q:Sl->Option (List D)
 | .sh (.lst ds)=>some ds
 | .sh (.fz ds)=>some ds
 | .sh (.tup ds)=>some ds
 | .bo ds=>some ds
 | .own ds=>some ds
 | _=>none
noncomputable def Sl.d:Sl->Option D
 | .sh d=>some d
 | .bo ds=>some (.lst ds)
 | .own ds=>some (.lst ds)
 | .bd ks ds=>some (.dct ks ds)
 | .od ks ds=>some (.dct ks ds)
 | .bt _ _=>none
 | .ot _ _=>none
 | .no=>none
section
variable{K:Frag}{C:Addr}{Hs H0 H:Hp}{v:V}{s:Sl}{ds:List D}{d:D}
theorem RR.m(r:RR K C Hs H0 H v s)(i:Same H0 H)(e:s.m=some ds):∃l xs,v=.ref l/\H l=some (.lst xs)/\RDL K C H0 xs ds:=by
 cases s with
 | no=>cases e
 | bo es=>cases e;exact r
 | own es=>cases e;obtain⟨l,xs,h1,h2,_,_,h3⟩:=r;exact⟨l,xs,h1,h2,h3⟩
 | bd _ _=>cases e
 | bt _ _=>cases e
 | od _ _=>cases e
 | ot _ _=>cases e
 | sh d=>cases d with
  | lst es=>cases e;obtain⟨l,xs,h1,h2,h3⟩:=RD.lstI r;exact⟨l,xs,h1,i _ _ h2,h3⟩
  | _=>cases e
theorem RR.r(r:RR K C Hs H0 H v s)(i:Same H0 H)(e:s.r=some ds):∃l xs,v=.ref l/\SqL K H l xs/\RDL K C H0 xs ds:=by
 cases s with
 | no=>cases e
 | bo es=>cases e;obtain⟨l,xs,h1,h2,h3⟩:=r;exact⟨l,xs,h1,.of h2,h3⟩
 | own es=>cases e;obtain⟨l,xs,h1,h2,_,_,h3⟩:=r;exact⟨l,xs,h1,.of h2,h3⟩
 | bd _ _=>cases e
 | bt _ _=>cases e
 | od _ _=>cases e
 | ot _ _=>cases e
 | sh d=>cases d with
  | lst es=>cases e;obtain⟨l,xs,h1,h2,h3⟩:=RD.lstI r;exact⟨l,xs,h1,.of (i _ _ h2),h3⟩
  | fz es=>cases e;obtain⟨l,xs,h1,h2,h3⟩:=RD.fzI r;exact⟨l,xs,h1,i.seq h2,h3⟩
  | _=>cases e
theorem RR.q(r:RR K C Hs H0 H v s)(i:Same H0 H)(e:s.q=some ds):∃l xs,v=.ref l/\(SqL K H l xs\/SqT K H l xs)/\RDL K C H0 xs ds:=by
 cases s with
 | no=>cases e
 | bo es=>cases e;obtain⟨l,xs,h1,h2,h3⟩:=r;exact⟨l,xs,h1,.inl (.of h2),h3⟩
 | own es=>cases e;obtain⟨l,xs,h1,h2,_,_,h3⟩:=r;exact⟨l,xs,h1,.inl (.of h2),h3⟩
 | bd _ _=>cases e
 | bt _ _=>cases e
 | od _ _=>cases e
 | ot _ _=>cases e
 | sh d=>cases d with
  | lst es=>cases e;obtain⟨l,xs,h1,h2,h3⟩:=RD.lstI r;exact⟨l,xs,h1,.inl (.of (i _ _ h2)),h3⟩
  | fz es=>cases e;obtain⟨l,xs,h1,h2,h3⟩:=RD.fzI r;exact⟨l,xs,h1,.inl (i.seq h2),h3⟩
  | tup es=>cases e;obtain⟨l,xs,h1,h2,h3⟩:=RD.tupI r;exact⟨l,xs,h1,.inr (i.seqT h2),h3⟩
  | _=>cases e
theorem RR.dat(r:RR K C Hs H0 H v s)(i:Same H0 H)(e:s.d=some d):RD K C H v d:=by
 cases s with
 | no=>cases e
 | bo es=>cases e;obtain⟨l,xs,h1,h2,h3⟩:=r;subst h1;exact .mkL h2 (h3.mono i)
 | own es=>cases e;obtain⟨l,xs,h1,h2,_,_,h3⟩:=r;subst h1;exact .mkL h2 (h3.mono i)
 | bd _ _=>cases e;obtain⟨l,xs,h1,h2,hk,h3⟩:=r;subst h1;exact .mkD h2 hk (h3.mono i)
 | bt _ _=>cases e
 | od _ _=>cases e;obtain⟨l,xs,h1,h2,_,_,hk,h3⟩:=r;subst h1;exact .mkD h2 hk (h3.mono i)
 | ot _ _=>cases e
 | sh d'=>cases e;exact RD.mono i r
theorem UX{p:Addr}{xs:List V}{Q:VK}(i:Same H0 H)(hs:Same Hs H)(hp:H p=none)(r:RDL K C H0 xs ds)(q:∀v H0' H',Step Hs H0 H H0' H'->RR K C Hs H0' H' v (.own ds)->Q v H'):Q (.ref p) (upd H p (.lst xs)) :=
 q _ H0 _ ⟨.new hp,Same.refl _,fun _ _ e=>.inl e,i.trans (.new hp)⟩ ⟨p,xs,rfl,JR,Same.free i hp,Same.free hs hp,r⟩
theorem ZX{p:Addr}{xs:List V}{Q:VK}(i:Same H0 H)(hs:Same Hs H)(hp:H p=none)(r:RDL K C H0 xs ds)(q:∀v H0' H',Step Hs H0 H H0' H'->RR K C Hs H0' H' v (.sh (.tup ds))->Q v H'):Q (.ref p) (upd H p (.tup xs)):=by
 have h0:H0 p=none:=Same.free i hp;refine q _ (upd H0 p (.tup xs)) _ ⟨.new hp,.new h0,fun a o e=>?_,fun a o e=>?_⟩ ?_
 ·by_cases h:a=p
  ·subst h;exact .inr (.inl (Same.free hs hp))
  ·rw[Jo h] at e;exact .inl e
 ·by_cases h:a=p
  ·subst h;rw[JR] at e ⊢;exact e
  ·rw[Jo h] at e ⊢;exact i a o e
 ·exact RD.mkT (.of JR) (r.mono (.new h0))
end

noncomputable def fI(g:Int->Int->D):Sl->Sl->Option Sl
 | .sh (.int a),.sh (.int b)=>some (.sh (g a b))
 | _,_=>none
noncomputable def fIc(c:Int->Int->Bool)(g:Int->Int->D):Sl->Sl->Option Sl
 | .sh (.int a),.sh (.int b)=>if c a b=true then some (.sh (g a b)) else none
 | _,_=>none
noncomputable def Jcd(x y:Sl):Option Sl:=x.m.bind fun a=>y.m.bind fun b=>if a.length+b.length<=sizeLine then some (.own (a++b)) else none
noncomputable def Yt:Sl->Sl->Option Sl
 | .sh (.int a),.sh (.int b)=>some (.sh (.int (a+b)))
 | .sh (.str a),.sh (.str b)=>if a.length+b.length<=sizeLine then some (.sh (.str (a++b))) else none
 | .sh (.tup a),.sh (.tup b)=>if a.isEmpty=false/\b.isEmpty=false/\a.length+b.length<=sizeLine then some (.sh (.tup (a++b))) else none
 | .sh (.lst a),y=>Jcd (.sh (.lst a)) y
 | .bo a,y=>Jcd (.bo a) y
 | .own a,y=>Jcd (.own a) y
 | _,_=>none
noncomputable abbrev UK:=fI fun a b=>.int (a-b)
noncomputable abbrev fLt:=fI fun a b=>.bl (decide (a<b))
noncomputable abbrev fGt:=fI fun a b=>.bl (decide (b<a))
noncomputable def Vq(a:Int):Bool:=Nat.ble a.natAbs 18446744073709551615
theorem UB{a:Int}:Vq a=true↔-18446744073709551616<a/\a<18446744073709551616:=by unfold Vq;rw[Nat.ble_eq];omega
noncomputable def ZV(a:Int):Bool:=Nat.ble a.natAbs 1073741823 && decide (0<a)
theorem smallP_ok{a:Int}:ZV a=true↔0<a/\a<1073741824:=by unfold ZV;rw[Bool.and_eq_true,Nat.ble_eq,decide_eq_true_eq];omega
noncomputable abbrev Wh:=fIc (fun a b=>Vq a || Vq b) fun a b=>.int (a*b)
noncomputable abbrev J8:=fIc (fun _ b=>decide (0<b)) fun a b=>.int (a % b)
noncomputable abbrev Yo:=fIc (fun _ b=>ZV b) fun a b=>.int (a / b)
noncomputable abbrev Up:=fIc (fun a b=>decide (0<=b) && Nat.ble b.natAbs 1000000 && Vq a) fun a b=>.int (a ^ b.toNat)
noncomputable def Jdf:Sl->Option Sl
 | .sh (.int a)=>some (.sh (.int (-a)))
 | _=>none
noncomputable def eqD(d e:D):Option Bool:=if (d.py.canLay0 && e.py.canLay0 && decide (min d.py.depth e.py.depth<=60))=true then some (PyData.eqv d.py e.py) else none
noncomputable def eqA:D->D->Option Bool
 | .int a,.int b=>some (decide (a=b))
 | .str a,.str b=>some (decide (a=b))
 | .bl a,.bl b=>some (decide (a=b))
 | .non,.non=>some true
 | .non,.int _=>some false
 | .int _,.non=>some false
 | .non,.str _=>some false
 | .str _,.non=>some false
 | .non,.bl _=>some false
 | .bl _,.non=>some false
 | .int _,.str _=>some false
 | .str _,.int _=>some false
 | d,e=>eqD d e
noncomputable def fEq(x y:Sl):Option Sl:=x.d.bind fun d=>y.d.bind fun e=>(eqA d e).map fun k=>.sh (.bl k)
noncomputable def fNe(x y:Sl):Option Sl:=x.d.bind fun d=>y.d.bind fun e=>(eqA d e).map fun k=>.sh (.bl (!k))
noncomputable def D.isNon:D->Bool
 | .non=>true
 | _=>false
noncomputable def fIs:Sl->Sl->Option Sl
 | x,.sh .non=>x.d.map fun d=>.sh (.bl d.isNon)
 | _,_=>none
noncomputable def Yz:Sl->Sl->Option Sl
 | x,.sh .non=>x.d.map fun d=>.sh (.bl (!d.isNon))
 | _,_=>none
noncomputable def fIx:Sl->Sl->Option Sl
 | .sh (.str z),.sh (.int i)=>if z.length<=sizeLine then(atI z.cps.toList i).map fun c=>.sh (.str ⟨#[c]⟩) else none
 | x,.sh (.int i)=>x.q.bind fun ds=>(atI ds i).map .sh
 | _,_=>none
section
variable{K:Frag}{C:Addr}
theorem o_I{g:Int->Int->V}{g':Int->Int->D}(h:∀i j H,RD K C H (g i j) (g' i j)):OpS K C (rI0 g) (fI g'):=by
 intro Hs H0 H x y a b c Q i hs ra rb e q;unfold fI at e;split at e
 ·cases e;exact⟨_,_,RD.intI ra,RD.intI rb,q _ _ _ (.refl i) (h _ _ _)⟩
 ·cases e
theorem JdA{P:Int->Int->Prop}{c':Int->Int->Bool}{g:Int->Int->V}{g':Int->Int->D}(hp:∀i j,c' i j=true->P i j)(h:∀i j H,RD K C H (g i j) (g' i j)):OpS K C (rI P g) (fIc c' g'):=by
 intro Hs H0 H x y a b c Q i hs ra rb e q;unfold fIc at e;split at e
 ·split at e
  ·cases e;exact⟨_,_,RD.intI ra,RD.intI rb,hp _ _ (by assumption),q _ _ _ (.refl i) (h _ _ _)⟩
  ·cases e
 ·cases e
theorem UN:OpS K C (rI0 fun i j=>.int (i-j)) UK:=o_I fun _ _ _=>.int _
theorem UM:OpS K C (rI0 fun i j=>.bl (decide (i<j))) fLt:=o_I fun _ _ _=>.bl _
theorem ZJ:OpS K C (rI0 fun i j=>.bl (decide (j<i))) fGt:=o_I fun _ _ _=>.bl _
theorem VT:OpS K C (rI CMul fun i j=>.int (i*j)) Wh:=JdA (fun i j h=>by simp only[Bool.or_eq_true,UB] at h;exact h) fun _ _ _=>.int _
theorem Ye:OpS K C (rI (fun _ j=>0<j) fun i j=>.int (i % j)) J8:=JdA (fun i j h=>by simpa using h) fun _ _ _=>.int _
theorem YL:OpS K C (rI JiG fun i j=>.int (i / j)) Yo:=JdA (fun i j h=>smallP_ok.mp h) fun _ _ _=>.int _
theorem Vi:OpS K C (rI JiH fun i j=>.int (i ^ j.toNat)) Up:=JdA (fun i j h=>by simp only[Bool.and_eq_true,decide_eq_true_eq,Nat.ble_eq,UB] at h;refine⟨h.1.1,by omega,?_⟩;show i.natAbs<18446744073709551616;omega) fun _ _ _=>.int _
theorem JgB:UnS K C (rU fun i=>.int (-i)) Jdf:=by
 intro Hs H0 H x a c Q i hs ra e q;unfold Jdf at e;split at e
 ·cases e;exact⟨_,RD.intI ra,q _ _ _ (.refl i) (RD.int _)⟩
 ·cases e
noncomputable def JdT(K:Frag):R2:=fun x y H Q=>JbH K x y H Q\/Jgu K x y H Q
theorem J9{X:Cx}(hK:X.K=K):OpR X (binaryOp .Add) (JdT K):=(Jfn hK).or (hK▸Jfo)
theorem Y1:OpS K C (JdT K) Yt:=by
 intro Hs H0 H x y a b c Q i hs ra rb e q
 have cat:∀{a b:Sl},RR K C Hs H0 H x a->RR K C Hs H0 H y b->Jcd a b=some c->JdT K x y H Q:=by
  intro a b ra rb e;obtain⟨xs,e1,e⟩:=bind_some e;obtain⟨ys,e2,e⟩:=bind_some e;split at e
  ·next hz=>cases e;obtain⟨l,us,rfl,h1,r1⟩:=ra.m i e1;obtain⟨l',ws,rfl,h2,r2⟩:=rb.m i e2;exact .inl (.inr (.inr ⟨l,l',us,ws,rfl,rfl,h1,h2,by rw[r1.1,r2.1];exact hz,fun p hp=>UX i hs hp (r1.append r2) q⟩))
  ·cases e
 unfold Yt at e;split at e
 ·cases e;exact .inl (.inl ⟨_,_,RD.intI ra,RD.intI rb,q _ _ _ (.refl i) (RD.int _)⟩)
 ·split at e
  ·cases e;exact .inl (.inr (.inl ⟨_,_,RD.strI ra,RD.strI rb,by assumption,q _ _ _ (.refl i) (RD.str _)⟩))
  ·cases e
 ·split at e
  ·next hz =>
   cases e;obtain⟨l,us,rfl,h1,r1⟩:=RD.tupI ra;obtain⟨l',ws,rfl,h2,r2⟩:=RD.tupI rb;have n1:us≠[]:=by rintro rfl;have:=r1.1;have z:=hz.1;simp at this;rw[List.eq_nil_of_length_eq_zero this.symm] at z;cases z
   have n2:ws≠[]:=by rintro rfl;have:=r2.1;have z:=hz.2.1;simp at this;rw[List.eq_nil_of_length_eq_zero this.symm] at z;cases z
   exact .inr ⟨l,l',us,ws,rfl,rfl,i.seqT h1,i.seqT h2,n1,by rw[r1.1,r2.1];exact hz.2.2,fun z=>absurd z n2,fun _ p hp=>ZX i hs hp (r1.append r2) q⟩
  ·cases e
 ·exact cat ra rb e
 ·exact cat ra rb e
 ·exact cat ra rb e
 ·cases e
theorem Jaf{d e:D}{k:Bool}(h:eqD d e=some k):d.py.canLay0=true/\e.py.canLay0=true/\min d.py.depth e.py.depth<=60/\k=PyData.eqv d.py e.py:=by
 unfold eqD at h;split at h
 ·next z=>cases h;simp only[Bool.and_eq_true,decide_eq_true_eq] at z;exact⟨z.1.1,z.1.2,z.2,rfl⟩
 ·cases h
theorem map_some{α β:Type}{x:Option α}{f:α->β}{b:β}(e:x.map f=some b):∃a,x=some a/\f a=b:=by
 cases x with
 | none=>cases e
 | some a=>cases e;exact⟨a,rfl,rfl⟩
theorem Jad{H:Hp}{x y:V}{d e:D}{k:Bool}(h:eqA d e=some k)(rx:RD K C H x d)(ry:RD K C H y e):(Jin x y=true/\decide (x=y)=k)\/eqD d e=some k:=by
 unfold eqA at h;split at h
 ·cases h;rw[RD.intI rx,RD.intI ry];exact .inl ⟨rfl,by simp⟩
 ·cases h;rw[RD.strI rx,RD.strI ry];exact .inl ⟨rfl,by simp⟩
 ·cases h;rw[RD.blI rx,RD.blI ry];exact .inl ⟨rfl,by simp⟩
 ·cases h;rw[RD.nonI rx,RD.nonI ry];exact .inl ⟨rfl,by simp⟩
 ·cases h;rw[RD.nonI rx,RD.intI ry];exact .inl ⟨rfl,by simp⟩
 ·cases h;rw[RD.intI rx,RD.nonI ry];exact .inl ⟨rfl,by simp⟩
 ·cases h;rw[RD.nonI rx,RD.strI ry];exact .inl ⟨rfl,by simp⟩
 ·cases h;rw[RD.strI rx,RD.nonI ry];exact .inl ⟨rfl,by simp⟩
 ·cases h;rw[RD.nonI rx,RD.blI ry];exact .inl ⟨rfl,by simp⟩
 ·cases h;rw[RD.blI rx,RD.nonI ry];exact .inl ⟨rfl,by simp⟩
 ·cases h;rw[RD.intI rx,RD.strI ry];exact .inl ⟨rfl,by simp⟩
 ·cases h;rw[RD.strI rx,RD.intI ry];exact .inl ⟨rfl,by simp⟩
 ·exact .inr h
theorem Vh:OpS K C (JdU K) fEq:=by
 intro Hs H0 H x y a b c Q i hs ra rb e q;obtain⟨d,e1,e⟩:=bind_some e;obtain⟨d',e2,e⟩:=bind_some e;obtain⟨k,e3,rfl⟩:=map_some e;have r1:=ra.dat i e1;have r2:=rb.dat i e2;rcases Jad e3 r1 r2 with ⟨h1,h2⟩|h
 ·exact .inl ⟨h1,by rw[h2];exact q _ _ _ (.refl i) (RD.bl _)⟩
 ·obtain⟨h1,h2,h3,rfl⟩:=Jaf h;exact .inr ⟨_,_,r1.rep h1,r2.rep h2,h1,h2,h3,q _ _ _ (.refl i) (RD.bl _)⟩
theorem Jji:OpS K C (JdV K) fNe:=by
 intro Hs H0 H x y a b c Q i hs ra rb e q;obtain⟨d,e1,e⟩:=bind_some e;obtain⟨d',e2,e⟩:=bind_some e;obtain⟨k,e3,rfl⟩:=map_some e;have r1:=ra.dat i e1;have r2:=rb.dat i e2;rcases Jad e3 r1 r2 with ⟨h1,h2⟩|h
 ·exact .inl ⟨h1,by rw[h2];exact q _ _ _ (.refl i) (RD.bl _)⟩
 ·obtain⟨h1,h2,h3,rfl⟩:=Jaf h;exact .inr ⟨_,_,r1.rep h1,r2.rep h2,h1,h2,h3,q _ _ _ (.refl i) (RD.bl _)⟩
theorem Jak{H:Hp}{x:V}{d:D}(r:RD K C H x d):decide (x=.non)=d.isNon:=by cases r <;> simp[D.isNon]
theorem Jj5:OpS K C JhQ fIs:=by
 intro Hs H0 H x y a b c Q i hs ra rb e q;unfold fIs at e;split at e
 ·obtain⟨d,e1,rfl⟩:=map_some e;refine⟨RD.nonI rb,?_⟩;rw[Jak (ra.dat i e1)];exact q _ _ _ (.refl i) (RD.bl _)
 ·cases e
theorem Uk:OpS K C JdW Yz:=by
 intro Hs H0 H x y a b c Q i hs ra rb e q;unfold Yz at e;split at e
 ·obtain⟨d,e1,rfl⟩:=map_some e;refine⟨RD.nonI rb,?_⟩;rw[Jak (ra.dat i e1)];exact q _ _ _ (.refl i) (RD.bl _)
 ·cases e
theorem RDL.atI{H:Hp}{xs:List V}{ds:List D}{i:Int}{d:D}(r:RDL K C H xs ds)(e:L2.atI ds i=some d):∃x,L2.atI xs i=some x/\RD K C H x d:=by unfold L2.atI at e ⊢;rw[r.1];obtain⟨j,e1,e⟩:=bind_some e;obtain⟨x,e2,r2⟩:=r.get e;exact⟨x,by rw[e1];exact e2,r2⟩
theorem YM:OpS K C (rIx K) fIx:=by
 intro Hs H0 H x y a b c Q i hs ra rb e q;unfold fIx at e;split at e
 ·split at e
  ·obtain⟨z,e1,rfl⟩:=map_some e;rw[RD.strI ra,RD.intI rb];exact Jh5 (by assumption) e1 (q _ _ _ (.refl i) (RD.str _))
  ·cases e
 ·obtain⟨ds,e1,e⟩:=bind_some e;obtain⟨d,e2,rfl⟩:=map_some e;obtain⟨l,xs,rfl,h,r⟩:=ra.q i e1;obtain⟨v,e3,r3⟩:=r.atI e2;rw[RD.intI rb];rcases h with h|h
  ·exact Jh4 h e3 (q _ _ _ (.refl i) r3)
  ·exact Jh6 h e3 (q _ _ _ (.refl i) r3)
 ·cases e
end
end LE

namespace LE
open PySem L2 LR

noncomputable def Wk:List Sl->Option (List D)
 | []=>some []
 | s::ss=>s.frz.bind fun d=>(Wk ss).bind fun ds=>some (d::ds)
noncomputable def YV(as:En->Option (List Sl)):Ev:=fun E=>(as E).bind fun ss=>(Wk ss).bind fun ds=>if ds.length<=100 then some (.sh (.tup ds)) else none
noncomputable def Ut(as:En->Option (List Sl)):Ev:=fun E=>(as E).bind fun ss=>(Wk ss).bind fun ds=>if ds.length<=100 then some (.own ds) else none
section
variable{K:Frag}{C:Addr}{t:TA}{ev:En->Option (List Sl)}{Hs H0 H:Hp}{ta te:TE}{ea:Ev}
theorem RRL.frz{vs:List V}{ss:List Sl}(i:Same H0 H)(r:RRL K C Hs H0 H vs ss):∀{ds:List D},Wk ss=some ds->RDL K C (Ui Hs H0 H) vs ds:=by
 induction r with
 | nil=>intro ds e;cases e;exact .nil
 | cons h _ ih=>intro ds e;obtain⟨d,e1,e⟩:=bind_some e;obtain⟨ds',e2,e⟩:=bind_some e;cases e;exact .cons (h.frz i e1) (ih e2)
theorem YW(ha:SA K C t ev):SE K C (Jf6 t) (YV ev):=by
 intro B H0 H σ E c Q I e q;obtain⟨ss,e1,e⟩:=bind_some e;obtain⟨ds,e2,e⟩:=bind_some e;split at e
 ·next hl =>
  cases e;refine ha B H0 H σ E ss _ I e1 fun vs H1 H1' s1 r1=>?_
  have f:=JW (Hs:=H) s1.i
  have r2:=r1.frz s1.i e2;exact⟨by rw[r2.1];exact Nat.le_trans hl (by decide),fun p hp=>ZX f.i s1.h hp r2 fun v H2 H2' s2 r2=>q v H2 H2' ((s1.comp f fun _ z=>z).comp s2 fun _ z=>z) r2⟩
 ·cases e
theorem UE(ha:SA K C t ev):SE K C (Jis t) (Ut ev):=by
 intro B H0 H σ E c Q I e q;obtain⟨ss,e1,e⟩:=bind_some e;obtain⟨ds,e2,e⟩:=bind_some e;split at e
 ·next hl =>
  cases e;refine ha B H0 H σ E ss _ I e1 fun vs H1 H1' s1 r1=>?_
  have f:=JW (Hs:=H) s1.i
  have r2:=r1.frz s1.i e2;exact⟨by rw[r2.1];exact Nat.le_trans hl (by decide),fun p hp=>UX f.i s1.h hp r2 fun v H2 H2' s2 r2=>q v H2 H2' ((s1.comp f fun _ z=>z).comp s2 fun _ z=>z) r2⟩
 ·cases e

noncomputable def Sl.pass:Sl->Option Sl
 | .sh d=>some (.sh d)
 | .own ds=>some (.sh (.lst ds))
 | .bo ds=>some (.bo ds)
 | .bd ks ds=>some (.bd ks ds)
 | .od ks ds=>some (.sh (.dct ks ds))
 | .bt _ _=>none
 | .ot _ _=>none
 | .no=>none
end
noncomputable def Vk:List Sl->Option (List Sl)
 | []=>some []
 | s::ss=>s.pass.bind fun d=>(Vk ss).bind fun ds=>some (d::ds)
noncomputable def spE(K:Frag)(C:Addr)(n:Nat)(f:List Sl->Option Sl):Sp:=fun vs H Q _=>∃H0 as r,Same H0 H/\RRL K C H H0 H vs as/\as.all (fun s=>!JM s)=true/\as.length=n/\f as=some r ∧
 ∀v H0' H',Step H H0 H H0' H'->RR K C H H0' H' v r->Q v H'
noncomputable def eU(n:Nat)(f:List Sl->Option Sl)(as:En->Option (List Sl)):Ev:=fun E=>(as E).bind fun ss=>(Vk ss).bind fun bs=>if bs.length=n then f bs else none
section
variable{K:Frag}{C:Addr}{t:TA}{ev:En->Option (List Sl)}{Hs H0 H:Hp}{ta te:TE}{ea:Ev}
theorem RRL.len{vs:List V}{ss:List Sl}(r:RRL K C Hs H0 H vs ss):vs.length=ss.length:=by
 induction r with
 | nil=>rfl
 | cons _ _ ih=>simp[ih]
theorem Yx{n:Nat}{f:List Sl->Option Sl}{vs:List V}{Q:VK}{E:XK}(h:spE K C n f vs H Q E):vs.length=n:=by obtain⟨H0,as,r,_,h1,_,h2,_⟩:=h;rw[h1.len];exact h2
theorem RR.pass{v:V}{s s':Sl}(i:Same H0 H)(r:RR K C Hs H0 H v s)(e:s.pass=some s'):RR K C H (Ui Hs H0 H) H v s'/\JM s'=false:=by
 have st:Step Hs H0 H (Ui Hs H0 H) H:=JW i
 cases s with
 | no=>cases e
 | sh d=>cases e;exact⟨RD.mono st.z r,rfl⟩
 | own ds=>cases e;exact⟨RR.frz (s:=.own ds) i r rfl,rfl⟩
 | bo ds=>cases e;obtain⟨l,xs,h1,h2,h3⟩:=r;exact⟨⟨l,xs,h1,h2,h3.mono st.z⟩,rfl⟩
 | od ks ds=>cases e;exact⟨RR.frz (s:=.od ks ds) i r rfl,rfl⟩
 | ot ks ds=>cases e
 | bd ks ds=>cases e;obtain⟨l,xs,h1,h2,hk,h3⟩:=r;exact⟨⟨l,xs,h1,h2,hk,h3.mono st.z⟩,rfl⟩
 | bt ks ds=>cases e
theorem RRL.pass{vs:List V}{ss:List Sl}(i:Same H0 H)(r:RRL K C Hs H0 H vs ss):∀{bs:List Sl},Vk ss=some bs->RRL K C H (Ui Hs H0 H) H vs bs/\bs.all (fun s=>!JM s)=true:=by
 induction r with
 | nil=>intro bs e;cases e;exact⟨.nil,rfl⟩
 | cons h _ ih=>intro bs e;obtain⟨d,e1,e⟩:=bind_some e;obtain⟨ds',e2,e⟩:=bind_some e;cases e;obtain⟨h1,h2⟩:=h.pass i e1;obtain⟨h3,h4⟩:=ih e2;exact⟨.cons h1 h3,by rw[List.all_cons,h2,h4];rfl⟩
theorem Yk{n:Nat}{f:List Sl->Option Sl}{X:XK}(ha:SA K C t ev):SE K C (Vr (spE K C n f) [] X t) (eU n f ev):=by
 intro B H0 H σ E c Q I e q;obtain⟨ss,e1,e⟩:=bind_some e;obtain⟨bs,e2,e⟩:=bind_some e;split at e
 ·next hl=>refine V6 (ha B H0 H σ E ss _ I e1 fun vs H1 H1' s1 r1=>?_);obtain⟨h1,h2⟩:=r1.pass s1.i e2;have f:=JW (Hs:=H) s1.i;exact⟨_,bs,c,f.i,h1,h2,hl,e,fun v H2 H2' s2 r2=>q v H2 H2' ((s1.comp f fun _ z=>z).comp s2 fun a z=>Same.free s1.h z) (r2.weak fun a z=>Same.free s1.h z)⟩
 ·cases e

noncomputable def prE(p:Pr):D:=.tup [.int p.1,.int p.2]
end
noncomputable def Jj1:Sl->Option Sl
 | .sh (.row ds)=>some (.sh (.tup ds))
 | _=>none
section
variable{K:Frag}{C:Addr}{t:TA}{ev:En->Option (List Sl)}{Hs H0 H:Hp}{ta te:TE}{ea:Ev}
noncomputable def ints?:List D->Option (List Int)
 | []=>some []
 | .int i::ds=>(ints? ds).map (i::·)
 | _::_=>none
noncomputable def bls?:List D->Option (List Bool)
 | []=>some []
 | .bl i::ds=>(bls? ds).map (i::·)
 | _::_=>none
end
theorem Wn:∀ns:List Int,ints? (ns.map .int)=some ns
 | []=>rfl
 | n::ns=>by rw[List.map_cons,ints?,Wn ns];rfl
theorem Jbk:∀ns:List Bool,bls? (ns.map .bl)=some ns
 | []=>rfl
 | n::ns=>by rw[List.map_cons,bls?,Jbk ns];rfl
theorem Y7:∀{ds:List D} {ns:List Int},ints? ds=some ns->ds=ns.map .int
 | [],_,e=>by cases e;rfl
 | .int i::ds,_,e=>by obtain⟨ns,e1,e2⟩:=map_some (show(ints? ds).map (i::·)=_ from e);rw[<- e2,Y7 e1];rfl
 | .non::_,_,e|.bl _::_,_,e|.str _::_,_,e|.tup _::_,_,e|.lst _::_,_,e|.fz _::_,_,e|.row _::_,_,e=>by cases e
theorem Wb:∀{ds:List D} {ns:List Bool},bls? ds=some ns->ds=ns.map .bl
 | [],_,e=>by cases e;rfl
 | .bl i::ds,_,e=>by obtain⟨ns,e1,e2⟩:=map_some (show(bls? ds).map (i::·)=_ from e);rw[<- e2,Wb e1];rfl
 | .non::_,_,e|.int _::_,_,e|.str _::_,_,e|.tup _::_,_,e|.lst _::_,_,e|.fz _::_,_,e|.row _::_,_,e=>by cases e
noncomputable def Uu:List Sl->Option Sl
 | [.sh (.str x)]=>if x.length<=sizeLine then some (.sh (.int x.length)) else none
 | [s]=>s.q.map fun ds=>.sh (.int ds.length)
 | _=>none
noncomputable def Za:List Sl->Option Sl
 | [s]=>s.q.map fun ds=>.own ds
 | _=>none
noncomputable def Wi:List Sl->Option Sl
 | [s]=>s.q.bind fun ds=>(ints? ds).map fun ns=>.sh (.int ns.sum)
 | _=>none
noncomputable def JeV:List Sl->Option Sl
 | [s]=>s.q.bind fun ds=>(bls? ds).map fun ns=>.sh (.bl (ns.all id))
 | _=>none
noncomputable def Jce:List Sl->Option Sl
 | [.sh (.int a),.sh (.int b)]=>some (.sh (.int (min a b)))
 | _=>none
section
variable{K:Frag}{C:Addr}{Hs H0 H:Hp}
theorem RRL.one{vs:List V}{s:Sl}(r:RRL K C Hs H0 H vs [s]):∃v,vs=[v]/\RR K C Hs H0 H v s:=by
 cases r with
 | cons h t=>cases t;exact⟨_,rfl,h⟩
theorem RRL.two{vs:List V}{s t:Sl}(r:RRL K C Hs H0 H vs [s,t]):∃v w,vs=[v,w]/\RR K C Hs H0 H v s/\RR K C Hs H0 H w t:=by
 cases r with
 | cons h r=>cases r with
  | cons h' r=>cases r;exact⟨_,_,rfl,h,h'⟩
theorem VN:V7 K C (Ja2 K) Uu:=by
 intro Hs H0 H xs as c Q i hs r e q;unfold Uu at e;split at e
 ·split at e
  ·cases e;obtain⟨v,rfl,r0⟩:=r.one;rw[RD.strI r0];exact JfJ (by assumption) (q _ _ _ (.refl i) (RD.int _))
  ·cases e
 ·obtain⟨v,rfl,r0⟩:=r.one;obtain⟨ds,e1,rfl⟩:=map_some e;obtain⟨l,xs,rfl,h,r1⟩:=r0.q i e1;have z:=q (.int ds.length) _ _ (.refl i) (RD.int _);rw[<- r1.1] at z;exact Jd6 h z
 ·cases e
theorem JcS:V7 K C (ZP K) Za:=by
 intro Hs H0 H xs as c Q i hs r e q;unfold Za at e;split at e
 ·obtain⟨v,rfl,r0⟩:=r.one;obtain⟨ds,e1,rfl⟩:=map_some e;obtain⟨l,ys,rfl,h,r1⟩:=r0.q i e1;exact⟨l,ys,rfl,h,fun p hp=>UX i hs hp r1 q⟩
 ·cases e
theorem Z8:V7 K C (JhU K) Wi:=by
 intro Hs H0 H xs as c Q i hs r e q;unfold Wi at e;split at e
 ·obtain⟨v,rfl,r0⟩:=r.one;obtain⟨ds,e1,e⟩:=bind_some e;obtain⟨ns,e2,rfl⟩:=map_some e;obtain⟨l,ys,rfl,h,r1⟩:=r0.q i e1;rw[Y7 e2] at r1;have:=r1.ints;subst this;exact⟨l,ns,rfl,h,q _ _ _ (.refl i) (RD.int _)⟩
 ·cases e
theorem JiQ:V7 K C (JhP K) JeV:=by
 intro Hs H0 H xs as c Q i hs r e q;unfold JeV at e;split at e
 ·obtain⟨v,rfl,r0⟩:=r.one;obtain⟨ds,e1,e⟩:=bind_some e;obtain⟨ns,e2,rfl⟩:=map_some e;obtain⟨l,ys,rfl,h,r1⟩:=r0.q i e1;rw[Wb e2] at r1;have:=r1.bls;subst this;exact⟨l,ns,rfl,h,q _ _ _ (.refl i) (RD.bl _)⟩
 ·cases e
theorem Jgk:V7 K C JhR Jce:=by
 intro Hs H0 H xs as c Q i hs r e q;unfold Jce at e;split at e
 ·cases e;obtain⟨v,w,rfl,r1,r2⟩:=r.two;rw[RD.intI r1,RD.intI r2];exact Jd7 (q _ _ _ (.refl i) (RD.int _))
 ·cases e
end

noncomputable def Jiy:Sl->Option Bool
 | .sh .non=>some false
 | .sh (.bl b)=>some b
 | .sh (.int i)=>some (i != 0)
 | .sh (.str y)=>if y.length<=sizeLine then some ((y.length:Int) != 0) else none
 | s=>s.q.map fun ds=>!ds.isEmpty
noncomputable def tTru?(a:Ev):En->Option Bool:=fun E=>(a E).bind Jiy
noncomputable def tyN:D->Option String
 | .non=>some "NoneType"
 | .bl _=>some "bool"
 | .int _=>some "int"
 | .str _=>some "str"
 | .tup _=>some "tuple"
 | .lst _=>some "list"
 | .fz _=>some "list"
 | .row _=>none
 | .dct _ _=>none
 | .dfz _ _=>none
 | .exc _=>none
noncomputable def Jal(t n:String):Bool:=t == n || (t == "bool" && n == "int")
noncomputable def Jca(n:String)(a:Ev):Ev:=fun E=>(a E).bind fun s=>s.d.bind fun d=>(tyN d).map fun t=>.sh (.bl (Jal t n))
noncomputable def D.isRow:D->Bool
 | .row _=>true
 | _=>false
section
variable{K:Frag}{C:Addr}{Hs H0 H:Hp}{te:TE}{ea:Ev}
theorem RDL.empty{xs:List V}{ds:List D}(r:RDL K C H xs ds):xs.isEmpty=ds.isEmpty:=by cases xs <;> cases ds <;> first|rfl|(have:=r.1;simp at this)
theorem JbN(ha:SE K C te ea):ST K C (Jf5 K te) (tTru? ea):=by
 intro B H0 H σ E k Q I e q;obtain⟨a,e1,e⟩:=bind_some e;refine ha B H0 H σ E a _ I e1 fun x H1 H1' s1 r1=>?_
 have seq:∀{a:Sl},RR K C H H1 H1' x a->a.q.map (fun ds=>!ds.isEmpty)=some k->∃k',JbV K x H1' k'/\Q k' H1':=fun {a} r1 e=>by
  obtain⟨ds,e2,rfl⟩:=map_some e;obtain⟨l,xs,rfl,h,r⟩:=r1.q s1.i e2;have z:=q _ _ s1;rw[<- r.empty] at z;rcases h with h|h
  ·exact⟨_,.inl ⟨xs,h,rfl⟩,z⟩
  ·exact⟨_,.inr (.inl ⟨xs,h,rfl⟩),z⟩
 unfold Jiy at e;split at e
 ·cases e;rw[RD.nonI r1];exact⟨_,rfl,q _ _ s1⟩
 ·cases e;rw[RD.blI r1];exact⟨_,rfl,q _ _ s1⟩
 ·cases e;rw[RD.intI r1];exact⟨_,rfl,q _ _ s1⟩
 ·split at e
  ·cases e;rw[RD.strI r1];exact⟨_,⟨by assumption,rfl⟩,q _ _ s1⟩
  ·cases e
 ·exact seq r1 e
theorem RD.ty{x:V}{d:D}{t:String}(r:RD K C H x d)(e:tyN d=some t):TyS K H x (.type t):=by
 cases r with
 | non=>cases e;exact .of .non
 | bl b=>cases e;exact .of (.bl b)
 | int i=>cases e;exact .of (.int i)
 | str i=>cases e;exact .of (.str i)
 | tup h _ _=>cases e;exact .sqT h
 | lst h _ _=>cases e;exact .sqL (.of h)
 | fz h _ _=>cases e;exact .sqL h
 | row _ _ _ _=>cases e
 | dct _ _ _ _=>cases e
 | dfz _ _ _ _=>cases e
 | exc _ _=>cases e
noncomputable def Z0(K:Frag)(n:String):Prop:=∀t∈["NoneType","bool","int","str","tuple","list"],kitOne K (.type t) (.type n)=some (Jal t n)
theorem Jf8{d:D}{t:String}(e:tyN d=some t):t∈["NoneType","bool","int","str","tuple","list"]:=by cases d <;> cases e <;> simp
theorem JbM{n:String}(hk:Z0 K n)(ha:SE K C te ea):SE K C (tCB (JfA K) (Y4 te (Y4 (tC (.ty n)) V3))) (Jca n ea):=by
 intro B H0 H σ E c Q I e q;obtain⟨a,e1,e⟩:=bind_some e;obtain⟨d,e2,e⟩:=bind_some e;obtain⟨t,e3,rfl⟩:=map_some e;refine ha B H0 H σ E a _ I e1 fun x H1 H1' s1 r1=>?_
 exact Jh3 (RD.ty (r1.dat s1.i e2) e3) (hk t (Jf8 e3)) (q _ _ _ s1 (RD.bl _))
end
theorem Jfd{K:Frag}:Z0 K "int":=fun t ht=>by simp only[List.mem_cons,List.mem_nil_iff,or_false] at ht;rcases ht with rfl | rfl | rfl | rfl | rfl | rfl <;> kernel_rfl
theorem Jdq{K:Frag}:Z0 K "bool":=fun t ht=>by simp only[List.mem_cons,List.mem_nil_iff,or_false] at ht;rcases ht with rfl | rfl | rfl | rfl | rfl | rfl <;> kernel_rfl
theorem Jcr{K:Frag}:Z0 K "tuple":=fun t ht=>by simp only[List.mem_cons,List.mem_nil_iff,or_false] at ht;rcases ht with rfl | rfl | rfl | rfl | rfl | rfl <;> kernel_rfl
theorem Jdr{K:Frag}:Z0 K "list":=fun t ht=>by simp only[List.mem_cons,List.mem_nil_iff,or_false] at ht;rcases ht with rfl | rfl | rfl | rfl | rfl | rfl <;> kernel_rfl
end LE

namespace LE
open PySem L2 LR

mutual
inductive Pt where
 | nm (i:Nat)
 | tp (l:Pts)
inductive Pts where
 | nil
 | cons (p:Pt) (l:Pts)
end
mutual
noncomputable def Pt.bind:Pt->D->En->Option En
 | .nm i,d,E=>if i<E.length then some (E.set i (.sh d)) else none
 | .tp l,.tup ds,E=>l.bind ds E
 | .tp _,_,_=>none
noncomputable def Pts.bind:Pts->List D->En->Option En
 | .nil,[],E=>some E
 | .cons p l,d::ds,E=>(p.bind d E).bind fun E'=>l.bind ds E'
 | _,_,_=>none
end
mutual
noncomputable def Pt.slots:Pt->List Nat
 | .nm i=>[i]
 | .tp l=>l.slots
noncomputable def Pts.slots:Pts->List Nat
 | .nil=>[]
 | .cons p l=>p.slots++l.slots
end
mutual
theorem Pt.keep:∀{p:Pt} {d:D} {E E':En},p.bind d E=some E'->E'.length=E.length/\∀i,i∉p.slots->E'[i]?=E[i]?
 | .nm i,d,E,E',e=>by
  unfold Pt.bind at e;split at e
  ·cases e;refine⟨by simp,fun j hj=>?_⟩;rw[List.getElem?_set,if_neg];intro z;exact hj (by simp[Pt.slots,z])
  ·cases e
 | .tp l,d,E,E',e=>by
  cases d with
  | tup ds=>exact Pts.keep (p:=l) (ds:=ds) (by simpa [Pt.bind] using e)
  | _=>simp[Pt.bind] at e
theorem Pts.keep:∀{p:Pts} {ds:List D} {E E':En},p.bind ds E=some E'->E'.length=E.length/\∀i,i∉p.slots->E'[i]?=E[i]?
 | .nil,[],E,E',e=>by simp[Pts.bind] at e;subst e;exact⟨rfl,fun _ _=>rfl⟩
 | .nil,_::_,_,_,e=>by simp[Pts.bind] at e
 | .cons _ _,[],_,_,e=>by simp[Pts.bind] at e
 | .cons p l,d::ds,E,E',e=>by rw[Pts.bind] at e;obtain⟨E1,e1,e2⟩:=bind_some e;obtain⟨h1,h2⟩:=Pt.keep e1;obtain⟨h3,h4⟩:=Pts.keep e2;refine⟨h3.trans h1,fun i hi=>?_⟩;simp[Pts.slots] at hi;rw[h4 i hi.2,h2 i hi.1]
end
section
variable(K:Frag)(C:Addr)
noncomputable def SG(g:TG)(p:Pt):Prop:=∀(B H0 H:Hp) (σ:St) (E E':En) (x:V) (d:D) (Q:St->Hp->Prop),EnvR K C B H0 H σ E->RD K C H0 x d->p.bind d E=some E'->(∀σ',EnvR K C B H0 H σ' E'->Q σ' H)->g x σ H Q
noncomputable def SGs(g:TGs)(p:Pts):Prop:=∀(B H0 H:Hp) (σ:St) (E E':En) (xs:List V) (ds:List D) (Q:St->Hp->Prop),EnvR K C B H0 H σ E->RDL K C H0 xs ds->p.bind ds E=some E'->(∀σ',EnvR K C B H0 H σ' E'->Q σ' H)->g xs σ H Q
end
section
variable{K:Frag}{C:Addr}
theorem EnvR.setSh{B H0 H:Hp}{σ:St}{E:En}{i:Nat}{v:V}{d:D}(I:EnvR K C B H0 H σ E)(hi:i<E.length)(r:RD K C H0 v d):EnvR K C B H0 H (σ.set i (some v)) (E.set i (.sh d)) :=
 I.put' (s:=.sh d) (.refl I.h) hi r rfl
theorem Yu(i:Nat):SG K C (Zb i) (.nm i):=by
 intro B H0 H σ E E' x d Q I r e q;rw[Pt.bind] at e;split at e
 ·cases e;exact q _ (I.setSh (by assumption) r)
 ·cases e
theorem VQ:SGs K C Jg7 .nil:=by
 intro B H0 H σ E E' xs ds Q I r e q
 cases ds with
 | nil =>
  cases xs with
  | nil=>rw[Pts.bind] at e;cases e;exact⟨rfl,q σ I⟩
  | cons _ _=>have:=r.1;simp at this
 | cons _ _=>simp[Pts.bind] at e
theorem JX{g:TG}{gs:TGs}{p:Pt}{ps:Pts}(h:SG K C g p)(hs:SGs K C gs ps):SGs K C (Jdh g gs) (.cons p ps):=by
 intro B H0 H σ E E' xs ds Q I r e q
 cases ds with
 | nil=>simp[Pts.bind] at e
 | cons d ds =>
  cases xs with
  | nil=>have:=r.1;simp at this
  | cons x xs=>rw[Pts.bind] at e;obtain⟨E1,e1,e2⟩:=bind_some e;exact⟨x,xs,rfl,h B H0 H σ E E1 x d _ I r.head e1 fun σ1 I1=>hs B H0 H σ1 E1 E' xs ds Q I1 r.tail e2 q⟩
theorem Jj2{n:Nat}{gs:TGs}{ps:Pts}(hn:∀(ds:List D) (E E':En),ps.bind ds E=some E'->ds.length=n)(hs:SGs K C gs ps):SG K C (Je7 K n gs) (.tp ps):=by
 intro B H0 H σ E E' x d Q I r e q
 cases d with
 | tup ds=>rw[Pt.bind] at e;obtain⟨a,xs,rfl,h,r⟩:=RD.tupI r;exact⟨a,xs,rfl,I.h.seqT h,by rw[r.1];exact hn ds E E' e,hs B H0 H σ E E' xs ds Q I r e q⟩
 | _=>simp[Pt.bind] at e
noncomputable def Pts.len:Pts->Nat
 | .nil=>0
 | .cons _ l=>l.len+1
theorem Pts.bind_len:∀{ps:Pts} {ds:List D} {E E':En},ps.bind ds E=some E'->ds.length=ps.len
 | .nil,[],_,_,_=>rfl
 | .nil,_::_,_,_,e=>by simp[Pts.bind] at e
 | .cons _ _,[],_,_,e=>by simp[Pts.bind] at e
 | .cons p l,d::ds,E,E',e=>by rw[Pts.bind] at e;obtain⟨E1,e1,e2⟩:=bind_some e;rw[List.length_cons,Pts.bind_len e2];rfl
theorem VR{n:Nat}{gs:TGs}{ps:Pts}(hs:SGs K C gs ps)(hn:ps.len=n):SG K C (Je7 K n gs) (.tp ps):=Jj2 (fun _ _ _ e=>(Pts.bind_len e).trans hn) hs
end

section
variable(K:Frag)(C:Addr)
noncomputable def Jer(A:Hp)(J:It)(ds:List D)(H0:Hp):Prop:=∀H0' H',SStep A H0 H0' H'->(∀(i:Nat) (d:D),ds[i]?=some d->J.go i H'/\∀x H2,J.yld i H' x H2->∃H02,Step H' H0' H' H02 H2/\RD K C H02 x d)/\J.stop ds.length H'
noncomputable def SI(m:Bool)(wi:TI)(ev:En->Option (List D)):Prop:=∀(B H0 H:Hp) (σ:St) (E:En) (ds:List D) (R:It->Hp->Prop),EnvR K C B H0 H σ E->ev E=some ds ->
 (∀J H0' H',Step H H0 H H0' H'->Jer K C (if m=true then H' else B) J ds H0'->R J H')->wi σ H R
end
noncomputable def Sl.it(m:Bool):Sl->Option (List D)
 | .bo ds=>if m=true then some ds else none
 | s=>s.q
noncomputable def iE(m:Bool)(a:Ev):En->Option (List D):=fun E=>(a E).bind (Sl.it m)
noncomputable def iV(i:Nat):En->Option (List D):=fun E=>match E[i]? with
 | some (.bo ds)=>some ds
 | some (.sh d)=>(Sl.sh d).q
 | _=>none
noncomputable def rng(lo:Int)(n:Nat):List D:=(List.range n).map fun(i:Nat)=>.int (lo+(i:Int))
noncomputable def Jdk(a:Int):Bool:=Nat.ble a.natAbs 4611686018427387903
noncomputable def iR1(as:En->Option (List Sl)):En->Option (List D):=fun E=>(as E).bind fun ss=>match ss with
 | [.sh (.int n)]=>if Jdk n=true then some (rng 0 n.toNat) else none
 | _=>none
section
variable{K:Frag}{C:Addr}{te:TE}{ea:Ev}{m:Bool}
theorem Vg{A H0:Hp}{a:Addr}{xs:List V}{ds:List D}(hd:∀H0' H',SStep A H0 H0' H'->SqL K H' a xs)(r:RDL K C H0 xs ds):Jer K C A (Itl K a) ds H0:=by intro H0' H' st;have hq:=hd H0' H' st;refine⟨fun i d e=>?_,⟨xs,hq,by rw[r.1];exact Nat.le_refl _⟩⟩;obtain⟨x,e1,r1⟩:=r.get e;refine⟨⟨xs,x,hq,e1⟩,fun y H2 ⟨e2,e3⟩=>?_⟩;subst e2;have:=e3 xs hq;rw[e1] at this;cases this;exact⟨H0',.refl st.i,r1.mono st.z⟩
theorem Jhg{A H0:Hp}{a:Addr}{xs:List V}{ds:List D}(hd:∀H0' H',SStep A H0 H0' H'->SqT K H' a xs)(r:RDL K C H0 xs ds):Jer K C A (Itt K a) ds H0:=by intro H0' H' st;have hq:=hd H0' H' st;refine⟨fun i d e=>?_,⟨xs,hq,by rw[r.1];exact Nat.le_refl _⟩⟩;obtain⟨x,e1,r1⟩:=r.get e;refine⟨⟨xs,x,hq,e1⟩,fun y H2 ⟨e2,e3⟩=>?_⟩;subst e2;have:=e3 xs hq;rw[e1] at this;cases this;exact⟨H0',.refl st.i,r1.mono st.z⟩
theorem ZQ(ha:SE K C te ea):SI K C m (Je9 K te) (iE m ea):=by
 intro B H0 H σ E ds R I e q;obtain⟨s,e1,e⟩:=bind_some e
 cases s with
 | no=>cases e
 | bd _ _=>cases e
 | bt _ _=>cases e
 | od _ _=>cases e
 | ot _ _=>cases e
 | bo es =>
  unfold Sl.it at e;dsimp only at e;split at e
  ·next hm=>cases e;refine .inl (ha B H0 H σ E _ _ I e1 fun x H1 H1' s1 r1=>?_);obtain⟨l,xs,rfl,h,r⟩:=r1;refine⟨l,rfl,⟨xs,.of h⟩,q _ _ _ s1 ?_⟩;rw[if_pos hm];exact Vg (fun H0' H' st=>.of (st.b _ _ h)) r
  ·cases e
 | own es=>cases (show some es=some ds from e);refine .inl (ha B H0 H σ E _ _ I e1 fun x H1 H1' s1 r1=>?_);have f:=JW (Hs:=H) s1.i;have r2:=RR.frz s1.i r1 rfl;obtain⟨l,xs,rfl,h,r⟩:=RD.lstI r2;exact⟨l,rfl,⟨xs,.of (f.i _ _ h)⟩,q _ _ _ (s1.comp f fun _ z=>z) (Vg (fun H0' H' st=>.of (st.i _ _ (st.z _ _ h))) r)⟩
 | sh d =>
  cases d with
  | lst es=>cases (show some es=some ds from e);refine .inl (ha B H0 H σ E _ _ I e1 fun x H1 H1' s1 r1=>?_);obtain⟨l,xs,rfl,h,r⟩:=RD.lstI r1;exact⟨l,rfl,⟨xs,.of (s1.i _ _ h)⟩,q _ _ _ s1 (Vg (fun H0' H' st=>.of (st.i _ _ (st.z _ _ h))) r)⟩
  | fz es=>cases (show some es=some ds from e);refine .inl (ha B H0 H σ E _ _ I e1 fun x H1 H1' s1 r1=>?_);obtain⟨l,xs,rfl,h,r⟩:=RD.fzI r1;exact⟨l,rfl,⟨xs,s1.i.seq h⟩,q _ _ _ s1 (Vg (fun H0' H' st=>(st.z.trans st.i).seq h) r)⟩
  | tup es=>cases (show some es=some ds from e);refine .inr (ha B H0 H σ E _ _ I e1 fun x H1 H1' s1 r1=>?_);obtain⟨l,xs,rfl,h,r⟩:=RD.tupI r1;exact⟨l,rfl,⟨xs,s1.i.seqT h⟩,q _ _ _ s1 (Jhg (fun H0' H' st=>(st.z.trans st.i).seqT h) r)⟩
  | _=>cases (show none=some ds from e)
theorem Jd9(i:Nat):SI K C false (Je9 K (WM i)) (iV i):=by
 intro B H0 H σ E ds R I e q;unfold iV at e;split at e
 ·next es h =>
  cases e;rcases I.at' i _ h with z|⟨v,h1,h2⟩
  ·cases z
  ·obtain⟨l,xs,rfl,hl,r⟩:=h2;refine .inl ⟨_,h1,l,rfl,⟨xs,.of (I.b _ _ hl)⟩,q _ _ _ (.refl I.h) (Vg (fun H0' H' st=>.of (st.b _ _ hl)) r)⟩
 ·next d h=>refine ZQ (m:=false) (ea:=Jc i) (Jb i) B H0 H σ E ds R I ?_ q;show(Jc i E).bind _=_;unfold Jc;rw[h];exact e
 ·cases e
theorem JfT{lo:Int}{n i:Nat}{d:D}(e:(rng lo n)[i]?=some d):i<n/\d=.int (lo+(i:Int)):=by
 unfold rng at e;rw[List.getElem?_map] at e
 cases h:(List.range n)[i]? with
 | none=>rw[h] at e;cases e
 | some j=>rw[h] at e;cases e;obtain⟨h1,h2⟩:=List.getElem?_eq_some_iff.mp h;simp at h1 h2;subst h2;exact⟨h1,rfl⟩
theorem Jhf{A H0:Hp}{lo:Int}{n:Nat}:Jer K C A (Itr lo n) (rng lo n) H0:=by intro H0' H' st;refine⟨fun i d e=>?_,by show n<=_;simp[rng]⟩;obtain⟨h1,rfl⟩:=JfT e;refine⟨h1,fun x H2 ⟨e1,e2⟩=>?_⟩;subst e1 e2;exact⟨H0',.refl st.i,.int _⟩
theorem Jby{a:Int}(h:Jdk a=true):-(2 ^ 62)<=a/\a<2 ^ 62:=by unfold Jdk at h;rw[Nat.ble_eq] at h;omega
theorem Jgy{t:TA}{ev:En->Option (List Sl)}(ha:SA K C t ev):SI K C m (Jgr t) (iR1 ev):=by
 intro B H0 H σ E ds R I e q;obtain⟨ss,e1,e⟩:=bind_some e;split at e
 ·split at e
  ·next hn =>
   cases e;refine ha B H0 H σ E _ _ I e1 fun vs H1 H1' s1 r1=>?_
   obtain⟨v,rfl,r⟩:=r1.one;rw[RD.intI r];exact⟨_,rfl,(Jby hn).1,(Jby hn).2,q _ _ _ s1 Jhf⟩
  ·cases e
 ·cases e
end

noncomputable def yes?:En->Option Bool:=fun _=>some true
noncomputable def Vf(imp:List (Option Nat))(E:En):En:=imp.map fun o=>match o with
 | none=>.no
 | some k=>match E[k]? with
  | some (.own ds)=>.bo ds
  | some (.od ks ds)=>.bd ks ds
  | some (.ot ks ds)=>.bt ks ds
  | some s=>s
  | none=>.no
noncomputable def UJ(p:Pt)(c:En->Option Bool)(a:Ev)(E1:En):List D->Option (List D)
 | []=>some []
 | d::ds=>(p.bind d E1).bind fun E2=>(c E2).bind fun k=>if k=true then(a E2).bind fun s=>s.frz.bind fun y=>(UJ p c a E1 ds).bind fun ys=>some (y::ys) else UJ p c a E1 ds
noncomputable def Uo(it:En->Option (List D))(p:Pt)(c:En->Option Bool)(a:Ev)(imp:List (Option Nat)):Ev:=fun E=>(it E).bind fun ds=>if ds.length<=sizeLine then(UJ p c a (Vf imp E) ds).map .own else none
section
variable{K:Frag}{C:Addr}
theorem VY:ST K C Jiv yes?:=fun _ _ _ _ _ _ _ I e q=>by cases e;exact q _ _ (.refl I.h)
theorem JeE{B H0 H:Hp}{σ:St}{E:En}{imp:List (Option Nat)}(I:EnvR K C B H0 H σ E):EnvR K C H H0 H (Jah imp σ) (Vf imp E):=by
 have get:∀(i:Nat) (s:Sl),(Vf imp E)[i]?=some s->s=.no\/∃v,(Jah imp σ)[i]?=some (some v)/\RSl K C H H0 H v s/\JM s=false:=fun i s e=>by
  unfold Vf at e;unfold Jah;rw[List.getElem?_map] at e ⊢
  cases h:imp[i]? with
  | none=>rw[h] at e;cases e
  | some o =>
   rw[h] at e
   cases o with
   | none=>cases e;exact .inl rfl
   | some k =>
    have e':(match E[k]? with|some (.own ds)=>Sl.bo ds|some (.od ks ds)=>Sl.bd ks ds|some (.ot ks ds)=>Sl.bt ks ds|some s=>s|none=>.no)=s:=Option.some.inj e
    cases hE:E[k]? with
    | none=>rw[hE] at e';exact .inl e'.symm
    | some s' =>
     rw[hE] at e';rcases I.at' k s' hE with z|⟨v,h1,h2⟩
     ·subst z;exact .inl e'.symm
     ·have g:(σ[k]?).join=some v:=by rw[h1];rfl
      cases s' with
      | no=>exact .inl e'.symm
      | sh d=>dsimp only at e';subst e';exact .inr ⟨v,by show some ((σ[k]?).join)=_;rw[g],h2,rfl⟩
      | bo ds=>dsimp only at e';subst e';obtain⟨l,xs,q1,q2,q3⟩:=h2;exact .inr ⟨v,by show some ((σ[k]?).join)=_;rw[g],⟨l,xs,q1,I.b _ _ q2,q3⟩,rfl⟩
      | own ds=>dsimp only at e';subst e';obtain⟨l,xs,q1,q2,_,_,q3⟩:=h2;exact .inr ⟨v,by show some ((σ[k]?).join)=_;rw[g],⟨l,xs,q1,q2,q3⟩,rfl⟩
      | bd ks ds=>dsimp only at e';subst e';obtain⟨l,xs,q1,q2,q3⟩:=h2;exact .inr ⟨v,by show some ((σ[k]?).join)=_;rw[g],⟨l,xs,q1,I.b _ _ q2,q3⟩,rfl⟩
      | bt ks ds=>dsimp only at e';subst e';obtain⟨l,xs,q1,q2,q3⟩:=h2;exact .inr ⟨v,by show some ((σ[k]?).join)=_;rw[g],⟨l,xs,q1,I.b _ _ q2,q3⟩,rfl⟩
      | od ks ds=>dsimp only at e';subst e';obtain⟨l,xs,q1,q2,_,_,q3⟩:=h2;exact .inr ⟨v,by show some ((σ[k]?).join)=_;rw[g],⟨l,xs,q1,q2,q3⟩,rfl⟩
      | ot ks ds=>dsimp only at e';subst e';obtain⟨l,xs,q1,q2,_,_,q3⟩:=h2;exact .inr ⟨v,by show some ((σ[k]?).join)=_;rw[g],⟨l,xs,q1,q2,q3⟩,rfl⟩
 refine⟨Same.refl _,I.h,by simp[Jah,Vf],fun i s e=>?_,fun i j s t v hij e1 e2 o1 o2=>?_⟩
 ·rcases get i s e with z|⟨v,h1,h2,_⟩
  ·exact .inl z
  ·exact .inr ⟨v,h1,h2⟩
 ·rcases get i _ e1 with z|⟨v,h1,h2,h3⟩
  ·subst z;cases o1
  ·rw[h3] at o1;cases o1
theorem UR{wi:TI}{g:TG}{tt:TT}{te:TE}{imp:List (Option Nat)}{it:En->Option (List D)}{p:Pt}{c:En->Option Bool}{a:Ev}(hi:SI K C true wi it)(hg:SG K C g p)(hc:ST K C tt c)(ha:SE K C te a)
 (hp:(p.slots.all fun i=>match imp[i]? with|some none=>true|_=>false)=true):SE K C (Jgz wi g tt te imp) (Uo it p c a imp):=by
 intro B H0 H σ E r Q I e q;obtain⟨ds,e1,e⟩:=bind_some e;split at e
 ·next hl =>
  obtain⟨es,e2,rfl⟩:=map_some e;refine hi B H0 H σ E ds _ I e1 fun J H1 H1' s1 ok=>?_
  rw[if_pos rfl] at ok;have I1:EnvR K C H1' H1 H1' (Jah imp σ) (Vf imp E):=JeE (I.step s1)
  -- the loop: what was gathered,what comes
  refine⟨fun i m ys σ' H'=>m=ds.length-i/\i<=ds.length/\∃H0' gs rs,EnvR K C H1' H0' H' σ' (Vf imp E)/\Step H1' H1 H1' H0' H'/\RDL K C H0' ys gs/\UJ p c a (Vf imp E) (ds.drop i)=some rs/\es=gs++rs/\gs.length<=i,
   ⟨ds.length,by simp,Nat.zero_le _,H1,[],es,I1,.refl s1.i,.nil,e2,rfl,Nat.le_refl _⟩,?_⟩
  rintro i m ys σ' H' ⟨rfl,hi',H0',gs,rs,I',st,rys,er,ees,hgl⟩;have stop:=ok H0' H' ⟨st.h,st.z,st.n,st.i⟩
  by_cases hlt:i<ds.length
  ·have hd:ds[i]?=some ds[i]:=by simp[hlt]
   obtain⟨go,yl⟩:=stop.1 i _ hd;refine .inr ⟨go,by rw[rys.1];omega,fun ys' σ2 H2=>∃H02 gs rs,EnvR K C H1' H02 H2 σ2 (Vf imp E)/\Step H1' H1 H1' H02 H2/\RDL K C H02 ys' gs/\UJ p c a (Vf imp E) (ds.drop (i+1))=some rs/\es=gs++rs/\gs.length<=i+1,
    fun ys' σ2 H2 h=>⟨ds.length-(i+1),by omega,rfl,hlt,h⟩,fun x H2 y=>?_⟩
   obtain⟨H02,st2,rx⟩:=yl x H2 y;rw[List.drop_eq_getElem_cons hlt,UJ] at er;obtain⟨E2,b1,er⟩:=bind_some er;obtain⟨k,b2,er⟩:=bind_some er;refine hg H1' H02 H2 σ' (Vf imp E) E2 x _ _ (I'.step st2) rx b1 fun σ2 I2=>?_
   have back:∀{H03 H3:Hp},EnvR K C H1' H03 H3 σ2 E2->EnvR K C H1' H03 H3 σ2 (Vf imp E):=fun {H03 H3} J=>by
    obtain⟨k1,k2⟩:=Pt.keep b1;refine J.sub k1.symm fun j s ej=>?_
    by_cases hj:j∈p.slots
    ·have:=List.all_eq_true.mp hp j hj
     have ej':=ej;unfold Vf at ej';rw[List.getElem?_map] at ej'
     cases hm:imp[j]? with
     | none=>rw[hm] at this;cases this
     | some o =>
      rw[hm] at this ej'
      cases o with
      | none=>cases ej';exact .inl rfl
      | some _=>cases this
    ·exact .inr (by rw[k2 j hj];exact ej)
   refine hc H1' H02 H2 σ2 E2 k _ I2 b2 fun H03 H3 st3=>?_
   have st13:Step H1' H1 H1' H03 H3:=(st.trans st2).trans st3
   cases k with
   | false=>rw[if_neg (by simp)];rw[if_neg (by simp)] at er;exact⟨H03,gs,rs,back (I2.step st3),st13,rys.mono (st2.z.trans st3.z),er,ees,by omega⟩
   | true =>
    rw[if_pos rfl];rw[if_pos rfl] at er;obtain⟨s,b3,er⟩:=bind_some er;obtain⟨y',b4,er⟩:=bind_some er;obtain⟨ws,b5,er⟩:=bind_some er;cases er;refine ha H1' H03 H3 σ2 E2 s _ (I2.step st3) b3 fun v H04 H4 st4 r4=>?_
    have f:=JW (Hs:=H3) st4.i
    have st5:Step H3 H03 H3 (Ui H3 H04 H4) H4:=st4.comp f fun _ z=>z
    exact⟨_,gs++[y'],ws,back ((I2.step st3).step st5),st13.trans st5,(rys.mono ((st2.z.trans st3.z).trans st5.z)).snoc (RR.frz st4.i r4 b4),b5,by rw[ees,List.append_assoc];rfl,by rw[List.length_append];simp;exact hgl⟩
  ·have e3:i=ds.length:=by omega
   subst e3;refine .inl ⟨stop.2,by rw[rys.1];omega,fun p hp=>?_⟩;rw[List.drop_length,UJ] at er;cases er;rw[List.append_nil] at ees;subst ees;exact UX (Hs:=H) st.i (s1.h.trans st.h) hp rys fun v H2 H2' s2 r2=>q v H2 H2' ((s1.trans st).comp s2 fun _ z=>z) r2
 ·cases e
end
end LE

namespace LE
open PySem L2 LR

inductive Out where
 | nx (E:En)|rt (r:Sl)|bk (E:En)|ct (E:En)
noncomputable abbrev Es:=En->Option Out
section
variable(K:Frag)(C:Addr)
noncomputable def Fin(B H0:Hp)(D:Ends):Out->Prop
 | .nx E=>∀σ' H0' H',SStep B H0 H0' H'->EnvR K C B H0' H' σ' E->D.nx σ' H'
 | .bk E=>∀σ' H0' H',SStep B H0 H0' H'->EnvR K C B H0' H' σ' E->D.bk σ' H'
 | .ct E=>∀σ' H0' H',SStep B H0 H0' H'->EnvR K C B H0' H' σ' E->D.ct σ' H'
 | .rt r=>∀v H0' H',SStep B H0 H0' H'->RR K C B H0' H' v r->D.rt v H'
noncomputable def SS(ts:TS)(ev:Es):Prop:=∀(B H0 H:Hp) (σ:St) (E:En) (o:Out) (D:Ends),EnvR K C B H0 H σ E->ev E=some o->Fin K C B H0 D o->ts D σ H
end
noncomputable def JE:Es:=fun E=>some (.nx E)
noncomputable def Jeb(b:Es):Out->Option Out
 | .nx E=>b E
 | .rt r=>some (.rt r)
 | .bk E=>some (.bk E)
 | .ct E=>some (.ct E)
noncomputable def Jt(a b:Es):Es:=fun E=>(a E).bind (Jeb b)
noncomputable def xIf(c:En->Option Bool)(a b:Es):Es:=fun E=>(c E).bind fun k=>if k=true then a E else b E
noncomputable def keep?:Sl->Option Sl
 | .sh d=>some (.sh d)
 | .own ds=>some (.own ds)
 | .od ks ds=>some (.od ks ds)
 | .ot ks ds=>some (.ot ks ds)
 | _=>none
noncomputable def WQ(i:Nat)(a:Ev):Es:=fun E=>(a E).bind fun s=>(keep? s).bind fun s=>if i<E.length then some (.nx (E.set i s)) else none
noncomputable def Jy(i:Nat)(a:Ev):Es:=fun E=>(a E).bind fun s=>s.frz.bind fun d=>if i<E.length then some (.nx (E.set i (.sh d))) else none
noncomputable def JiD(p:Pt)(a:Ev):Es:=fun E=>(a E).bind fun s=>s.frz.bind fun d=>(p.bind d E).map .nx
noncomputable def VZ(a:Ev):Es:=fun E=>(a E).map fun _=>.nx E
noncomputable def YH(a:Ev):Es:=fun E=>(a E).bind fun s=>(keep? s).map .rt
noncomputable def JaG(i:Nat):Es:=fun E=>match E[i]? with
 | some (.sh d)=>some (.rt (.sh d))
 | some (.own ds)=>some (.rt (.own ds))
 | some (.od ks ds)=>some (.rt (.od ks ds))
 | _=>none
noncomputable def YB:Es:=fun _=>none
noncomputable def JaF(i:Nat)(a:Ev):Es:=fun E=>match E[i]? with
 | some (.own ds)=>(a E).bind fun s=>s.frz.bind fun d=>if ds.length<sizeLine then some (.nx (E.set i (.own (ds++[d])))) else none
 | _=>none
noncomputable def UC(i:Nat)(k a:Ev):Es:=fun E=>match E[i]? with
 | some (.own ds)=>(a E).bind fun s=>s.frz.bind fun d=>(k E).bind fun t=>match t with
  | .sh (.int z)=>(ixN ds.length z).map fun j=>.nx (E.set i (.own (ds.set j d)))
  | _=>none
 | _=>none
noncomputable def Jg6(i:Nat)(E:En):En:=match E[i]? with
 | some (.own ds)=>E.set i (.sh (.lst ds))
 | some (.od ks ds)=>E.set i (.sh (.dct ks ds))
 | _=>E
noncomputable def J5(p:Pt)(b:Es):List D->Es
 | [],E=>some (.nx E)
 | d::ds,E=>(p.bind d E).bind fun E1=>(b E1).bind fun o=>match o with
  | .nx E2=>J5 p b ds E2
  | .ct E2=>J5 p b ds E2
  | .bk E2=>some (.nx E2)
  | .rt r=>some (.rt r)
noncomputable def W1(it:En->Option (List D))(p:Pt)(b:Es):Es:=fun E=>(it E).bind fun ds=>J5 p b ds E
noncomputable def Uh(c:En->Option Bool)(b:Es):Nat->Es
 | 0,_=>none
 | n+1,E=>(c E).bind fun k=>if k=true then(b E).bind fun o=>match o with
  | .nx E2=>Uh c b n E2
  | .ct E2=>Uh c b n E2
  | .bk E2=>some (.nx E2)
  | .rt r=>some (.rt r)
  else some (.nx E)
section
variable{K:Frag}{C:Addr}{B H0 H H0' H':Hp}{σ:St}{E:En}{D:Ends}{o:Out}{te:TE}{ea:Ev}{t u:TS}{et eu:Es}
theorem Fin.step(st:SStep B H0 H0' H')(f:Fin K C B H0 D o):Fin K C B H0' D o:=by
 cases o with
 | nx E=>exact fun σ' H1 H1' s1 I=>f σ' H1 H1' (st.trans s1) I
 | bk E=>exact fun σ' H1 H1' s1 I=>f σ' H1 H1' (st.trans s1) I
 | ct E=>exact fun σ' H1 H1' s1 I=>f σ' H1 H1' (st.trans s1) I
 | rt r=>exact fun v H1 H1' s1 I=>f v H1 H1' (st.trans s1) I
theorem EnvR.ss(I:EnvR K C B H0 H σ E):SStep B H0 H0 H:=.refl I.b I.h
theorem JK:SS K C Jeh JE:=fun _ _ _ _ _ _ _ I e f=>by cases e;exact f _ _ _ I.ss I
theorem Js(ht:SS K C t et)(hu:SS K C u eu):SS K C (Jf4 t u) (Jt et eu):=by
 intro B H0 H σ E o D I e f;obtain⟨o1,e1,e⟩:=bind_some e;refine ht B H0 H σ E o1 _ I e1 ?_
 cases o1 with
 | nx E1=>exact fun σ1 H1 H1' s1 I1=>hu B H1 H1' σ1 E1 o D I1 e (f.step s1)
 | bk E1=>cases e;exact f
 | ct E1=>cases e;exact f
 | rt r=>cases e;exact f
theorem Yv{c:TT}{ec:En->Option Bool}(hc:ST K C c ec)(ht:SS K C t et)(hu:SS K C u eu):SS K C (Jf2 c t u) (xIf ec et eu):=by
 intro B H0 H σ E o D I e f;obtain⟨k,e1,e⟩:=bind_some e;refine hc B H0 H σ E k _ I e1 fun H1 H1' s1=>?_
 cases k with
 | true=>rw[if_pos rfl];exact ht B H1 H1' σ E o D (I.step s1) e (f.step (s1.ss I.b))
 | false=>rw[if_neg (by simp)];exact hu B H1 H1' σ E o D (I.step s1) e (f.step (s1.ss I.b))
theorem Ze{s r:Sl}(e:keep? s=some r):s=r/\Jhd r=false:=by cases s <;> cases e <;> exact⟨rfl,rfl⟩
theorem Zr{i:Nat}(ha:SE K C te ea):SS K C (Ja7 te (Zb i)) (WQ i ea):=by
 intro B H0 H σ E o D I e f;obtain⟨s,e1,e⟩:=bind_some e;obtain⟨s',e2,e⟩:=bind_some e;obtain⟨rfl,hb⟩:=Ze e2;split at e
 ·cases e;exact ha B H0 H σ E _ _ I e1 fun v H1 H1' s1 r1=>f _ _ _ (s1.ss I.b) (I.put' s1 (by assumption) r1 hb)
 ·cases e
theorem JG{i:Nat}(ha:SE K C te ea):SS K C (Ja7 te (Zb i)) (Jy i ea):=by
 intro B H0 H σ E o D I e f;obtain⟨s,e1,e⟩:=bind_some e;obtain⟨d,e2,e⟩:=bind_some e;split at e
 ·cases e;refine ha B H0 H σ E _ _ I e1 fun v H1 H1' s1 r1=>?_
  have s2:Step H H0 H (Ui H H1 H1') H1':=s1.comp (JW s1.i) fun _ z=>z
  exact f _ _ _ (s2.ss I.b) ((I.step s2).setSh (by assumption) (RR.frz s1.i r1 e2))
 ·cases e
theorem JjP{g:TG}{p:Pt}(ha:SE K C te ea)(hg:SG K C g p):SS K C (Ja7 te g) (JiD p ea):=by
 intro B H0 H σ E o D I e f;obtain⟨s,e1,e⟩:=bind_some e;obtain⟨d,e2,e⟩:=bind_some e;obtain⟨E',e3,rfl⟩:=map_some e;refine ha B H0 H σ E _ _ I e1 fun v H1 H1' s1 r1=>?_
 have s2:Step H H0 H (Ui H H1 H1') H1':=s1.comp (JW s1.i) fun _ z=>z
 exact hg B _ H1' σ E E' v d _ (I.step s2) (RR.frz s1.i r1 e2) e3 fun σ' I'=>f _ _ _ (s2.ss I.b) I'
theorem WR(ha:SE K C te ea):SS K C (WL te) (VZ ea):=by intro B H0 H σ E o D I e f;obtain⟨s,e1,rfl⟩:=map_some e;exact ha B H0 H σ E _ _ I e1 fun v H1 H1' s1 r1=>f _ _ _ (s1.ss I.b) (I.step s1)
theorem Yn(ha:SE K C te ea):SS K C (Jf3 te) (YH ea):=by intro B H0 H σ E o D I e f;obtain⟨s,e1,e⟩:=bind_some e;obtain⟨s',e2,rfl⟩:=map_some e;obtain⟨rfl,hb⟩:=Ze e2;exact ha B H0 H σ E _ _ I e1 fun v H1 H1' s1 r1=>f _ _ _ (s1.ss I.b) (r1.weak fun a z=>Same.free I.b z)
theorem Jep{i:Nat}:SS K C (Jf3 (WM i)) (JaG i):=by
 intro B H0 H σ E o D I e f;unfold JaG at e;split at e
 ·next d h =>
  cases e;rcases I.at' i _ h with z|⟨v,h1,h2⟩
  ·cases z
  ·exact⟨v,h1,f _ _ _ I.ss h2⟩
 ·next d h =>
  cases e;rcases I.at' i _ h with z|⟨v,h1,h2⟩
  ·cases z
  ·exact⟨v,h1,f _ _ _ I.ss h2⟩
 ·next d h =>
  cases e;rcases I.at' i _ h with z|⟨v,h1,h2⟩
  ·cases z
  ·exact⟨v,h1,f _ _ _ I.ss h2⟩
 ·cases e
theorem EnvR.mutG{i:Nat}{l:Addr}{t t':Sl}{o':HO}(I:EnvR K C B H0 H σ E)(e1:E[i]?=some t)(ho:JM t=true)(ho':JM t'=true)(e2:σ[i]?=some (some (.ref l)))(r:RSl K C B H0 (upd H l o') (.ref l) t') :
 EnvR K C B H0 (upd H l o') σ (E.set i t'):=by
 obtain⟨h1,h2,h3⟩:=I.ownG e1 ho e2;have hi:i<E.length:=(List.getElem?_eq_some_iff.mp e1).1;have nb:∀{A:Hp},A l=none->Same A H->Same A (upd H l o'):=fun {A} n s a o e=>by rw[Jo (JA e n)];exact s a o e
 refine⟨nb h3 I.b,nb h2 I.h,by simp[I.len],fun j s e=>?_,fun j k s1 s2 v hjk a1 a2 p1 p2 a3=>?_⟩
 ·rw[List.getElem?_set] at e
  by_cases hj:i=j
  ·subst hj;rw[if_pos rfl,if_pos hi] at e;cases e;exact .inr ⟨_,e2,r⟩
  ·rw[if_neg hj] at e;rcases I.at' j s e with z|⟨v,q1,q2⟩
   ·exact .inl z
   ·refine .inr ⟨v,q1,?_⟩
    cases s with
    | no=>trivial
    | sh d=>exact q2
    | bo es=>exact q2
    | bd ks es=>exact q2
    | bt ks es=>exact q2
    | own es =>
     obtain⟨l',ys,p1,p2,p3,p4,p5⟩:=q2;subst p1;have:l'≠l:=fun z=>by subst z;exact I.sep i j t _ (.ref l') hj e1 e ho rfl e2 q1
     exact⟨l',ys,rfl,by rw[Jo this];exact p2,p3,p4,p5⟩
    | od ks es =>
     obtain⟨l',ys,p1,p2,p3,p4,p5⟩:=q2;subst p1;have:l'≠l:=fun z=>by subst z;exact I.sep i j t _ (.ref l') hj e1 e ho rfl e2 q1
     exact⟨l',ys,rfl,by rw[Jo this];exact p2,p3,p4,p5⟩
    | ot ks es =>
     obtain⟨l',ys,p1,p2,p3,p4,p5⟩:=q2;subst p1;have:l'≠l:=fun z=>by subst z;exact I.sep i j t _ (.ref l') hj e1 e ho rfl e2 q1
     exact⟨l',ys,rfl,by rw[Jo this];exact p2,p3,p4,p5⟩
 ·have own:∀{j:Nat} {u:Sl},(E.set i t')[j]?=some u->JM u=true->∃g,E[j]?=some g/\JM g=true:=fun {j u} a w=>by
   rw[List.getElem?_set] at a
   by_cases hj:i=j
   ·subst hj;exact⟨t,e1,ho⟩
   ·rw[if_neg hj] at a;exact⟨_,a,w⟩
  obtain⟨g1,b1,c1⟩:=own a1 p1;obtain⟨g2,b2,c2⟩:=own a2 p2;exact I.sep j k g1 g2 v hjk b1 b2 c1 c2 a3
theorem EnvR.mut{i:Nat}{l:Addr}{ds ds':List LE.D}{xs xs':List V}(I:EnvR K C B H0 H σ E)(e1:E[i]?=some (.own ds))(e2:σ[i]?=some (some (.ref l)))(r:RDL K C H0 xs' ds') :
 EnvR K C B H0 (upd H l (.lst xs')) σ (E.set i (.own ds')):=by
 obtain⟨_,h2,h3⟩:=I.ownG e1 rfl e2;exact I.mutG (t':=.own ds') e1 rfl rfl e2 ⟨l,xs',rfl,JR,h2,h3,r⟩
theorem EnvR.slot{i:Nat}{ds:List LE.D}(I:EnvR K C B H0 H σ E)(e1:E[i]?=some (.own ds)):∃l xs,σ[i]?=some (some (.ref l))/\H l=some (.lst xs)/\H0 l=none/\B l=none/\RDL K C H0 xs ds:=by
 rcases I.at' i _ e1 with z|⟨v,h1,l,xs,rfl,h2,h3,h4,h5⟩
 ·cases z
 ·exact⟨l,xs,h1,h2,h3,h4,h5⟩
theorem Jeo{i:Nat}(ha:SE K C te ea):SS K C (WL (tBM K "list" JbI (WM i) (Y4 te V3))) (JaF i ea):=by
 intro B H0 H σ E o D I e f;unfold JaF at e;split at e
 ·next ds h =>
  obtain⟨s,e1,e⟩:=bind_some e;obtain⟨d,e2,e⟩:=bind_some e;split at e
  ·next hz =>
   cases e;obtain⟨l,xs,g1,g2,g3,g4,g5⟩:=I.slot h;refine⟨_,g1,.inl ⟨rfl,_,.of g2⟩,?_⟩;refine ha B H0 H σ E _ _ I e1 fun v H1 H1' s1 r1=>?_
   have s2:Step H H0 H (Ui H H1 H1') H1':=s1.comp (JW s1.i) fun _ z=>z
   have I2:=I.step s2
   have m:=I2.mut (xs:=xs) h g1 ((g5.mono s2.z).snoc (RR.frz s1.i r1 e2));exact⟨l,xs,v,rfl,rfl,s2.h _ _ g2,by rw[g5.1];exact hz,f _ _ _ ⟨m.b,s2.z,(s2.ss I.b).n,m.h⟩ m⟩
  ·cases e
 ·cases e
theorem Vu{i:Nat}{ti:TE}{ei:Ev}(ha:SE K C te ea)(hi:SE K C ti ei):SS K C (Ja7 te (Jg8 (WM i) ti Jgv)) (UC i ei ea):=by
 intro B H0 H σ E o D I e f;unfold UC at e;split at e
 ·next ds h =>
  obtain⟨s,e1,e⟩:=bind_some e;obtain⟨d,e2,e⟩:=bind_some e;obtain⟨k,e3,e⟩:=bind_some e;split at e
  ·next z =>
   obtain⟨j,e4,rfl⟩:=map_some e;obtain⟨l,xs,g1,g2,g3,g4,g5⟩:=I.slot h;refine ha B H0 H σ E _ _ I e1 fun v H1 H1' s1 r1=>?_
   have s2:Step H H0 H (Ui H H1 H1') H1':=s1.comp (JW s1.i) fun _ z=>z
   have rv:=RR.frz s1.i r1 e2;refine⟨_,g1,?_⟩;refine hi B _ H1' σ E _ _ (I.step s2) e3 fun w H3 H3' s3 r3=>?_
   have s4:=s2.trans s3
   have m:=(I.step s4).mut (xs:=xs) h g1 ((g5.mono s4.z).set j (rv.mono s3.z));rw[RD.intI r3];exact⟨l,xs,z,j,rfl,rfl,s4.h _ _ g2,by rw[g5.1];exact e4,f _ _ _ ⟨m.b,s4.z,(s4.ss I.b).n,m.h⟩ m⟩
  ·cases e
 ·cases e
theorem EnvR.slotD{i:Nat}{ks:List Int}{ds:List LE.D}(I:EnvR K C B H0 H σ E)(e1:E[i]?=some (.od ks ds)):∃l xs,σ[i]?=some (some (.ref l))/\H l=some (dkO ks xs)/\H0 l=none/\B l=none/\ks.length=ds.length/\RDL K C H0 xs ds:=by
 rcases I.at' i _ e1 with z|⟨v,h1,l,xs,rfl,h2,h3,h4,h5⟩
 ·cases z
 ·exact⟨l,xs,h1,h2,h3,h4,h5⟩
theorem EnvR.frzG(I:EnvR K C B H0 H σ E){i:Nat}{t:Sl}{l:Addr}{o:HO}{d:LE.D}(h:E[i]?=some t)(ho:JM t=true)(g1:σ[i]?=some (some (.ref l)))(g2:H l=some o)(g5:∀H1,Same H0 H1->H1 l=some o->RD K C H1 (.ref l) d):∃H0',SStep B H0 H0' H/\EnvR K C B H0' H σ (E.set i (.sh d)):=by
 obtain⟨_,g3,g4⟩:=I.ownG h ho g1;have hi:i<E.length:=(List.getElem?_eq_some_iff.mp h).1;have s0:Same H0 (upd H0 l o):=.new g3
 have s1:Same (upd H0 l o) H:=fun a o e=>by
  by_cases ha:a=l
  ·subst ha;rw[JR] at e;cases e;exact g2
  ·rw[Jo ha] at e;exact I.h a o e
 refine⟨upd H0 l o,⟨I.b,s0,fun a o e=>?_,s1⟩,I.b,s1,by simp[I.len],fun j s e=>?_,fun j k u1 u2 v hjk a1 a2 w1 w2 a3=>?_⟩
 ·by_cases ha:a=l
  ·subst ha;exact .inr (.inl g4)
  ·rw[Jo ha] at e;exact .inl e
 ·rw[List.getElem?_set] at e
  by_cases hj:i=j
  ·subst hj;rw[if_pos rfl,if_pos hi] at e;cases e;exact .inr ⟨_,g1,g5 _ s0 JR⟩
  ·rw[if_neg hj] at e;rcases I.at' j s e with z|⟨v,q1,q2⟩
   ·exact .inl z
   ·refine .inr ⟨v,q1,?_⟩
    cases s with
    | no=>trivial
    | sh d=>exact RD.mono s0 q2
    | bo es=>obtain⟨l',ys,p1,p2,p3⟩:=q2;exact⟨l',ys,p1,p2,p3.mono s0⟩
    | bd ks es=>obtain⟨l',ys,p1,p2,hk,p3⟩:=q2;exact⟨l',ys,p1,p2,hk,p3.mono s0⟩
    | bt ks es=>obtain⟨l',ys,p1,p2,hk,p3⟩:=q2;exact⟨l',ys,p1,p2,hk,p3.mono s0⟩
    | own es =>
     obtain⟨l',ys,p1,p2,p3,p4,p5⟩:=q2;subst p1;have:l'≠l:=fun z=>by subst z;exact I.sep i j t _ (.ref l') hj h e ho rfl g1 q1
     exact⟨l',ys,rfl,p2,by rw[Jo this];exact p3,p4,p5.mono s0⟩
    | od ks es =>
     obtain⟨l',ys,p1,p2,p3,p4,hk,p5⟩:=q2;subst p1;have:l'≠l:=fun z=>by subst z;exact I.sep i j t _ (.ref l') hj h e ho rfl g1 q1
     exact⟨l',ys,rfl,p2,by rw[Jo this];exact p3,p4,hk,p5.mono s0⟩
    | ot ks es =>
     obtain⟨l',ys,p1,p2,p3,p4,hk,p5⟩:=q2;subst p1;have:l'≠l:=fun z=>by subst z;exact I.sep i j t _ (.ref l') hj h e ho rfl g1 q1
     exact⟨l',ys,rfl,p2,by rw[Jo this];exact p3,p4,hk,p5.mono s0⟩
 ·have own:∀{j:Nat} {u:Sl},(E.set i (.sh d))[j]?=some u->JM u=true->E[j]?=some u:=fun {j u} a w=>by
   rw[List.getElem?_set] at a
   by_cases hj:i=j
   ·subst hj;rw[if_pos rfl,if_pos hi] at a;cases a;cases w
   ·rw[if_neg hj] at a;exact a
  exact I.sep j k u1 u2 v hjk (own a1 w1) (own a2 w2) w1 w2 a3
theorem EnvR.frz(I:EnvR K C B H0 H σ E)(i:Nat):∃H0',SStep B H0 H0' H/\EnvR K C B H0' H σ (Jg6 i E):=by
 unfold Jg6;split
 ·next ds h=>obtain⟨l,xs,g1,g2,g3,g4,g5⟩:=I.slot h;exact I.frzG h rfl g1 g2 fun H1 s0 hl=>.mkL hl (g5.mono s0)
 ·next ks ds h=>obtain⟨l,xs,g1,g2,g3,g4,hk,g5⟩:=I.slotD h;exact I.frzG h rfl g1 g2 fun H1 s0 hl=>.mkD hl hk (g5.mono s0)
 ·exact⟨H0,I.ss,I⟩
theorem Zq{wi:TI}{g:TG}{it:En->Option (List LE.D)}{p:Pt}(hi:SI K C false wi it)(hg:SG K C g p)(ht:SS K C t et):SS K C (Jir wi g t) (W1 it p et):=by
 intro B H0 H σ E o D I e f;obtain⟨ds,e1,e⟩:=bind_some e;refine hi B H0 H σ E ds _ I e1 fun J H1 H1' s1 ok=>?_
 rw[if_neg (by simp)] at ok;refine⟨fun i m σ' H'=>m=ds.length-i/\i<=ds.length/\∃H0' E',EnvR K C B H0' H' σ' E'/\SStep B H1 H0' H'/\J5 p et (ds.drop i) E'=some o,
  ⟨ds.length,by simp,Nat.zero_le _,H1,E,I.step s1,.refl (I.b.trans s1.h) s1.i,e⟩,?_⟩
 rintro i m σ' H' ⟨rfl,hi',H0',E',I',st,er⟩;have stop:=ok H0' H' st;have f':Fin K C B H0' D o:=(f.step (s1.ss I.b)).step st
 by_cases hlt:i<ds.length
 ·have hd:ds[i]?=some ds[i]:=by simp[hlt]
  obtain⟨go,yl⟩:=stop.1 i _ hd;refine .inr ⟨go,fun σ2 H2=>∃H02 E2,EnvR K C B H02 H2 σ2 E2/\SStep B H1 H02 H2/\J5 p et (ds.drop (i+1)) E2=some o,fun σ2 H2 h=>⟨ds.length-(i+1),by omega,rfl,hlt,h⟩,fun x H2 y=>?_⟩;obtain⟨H02,st2,rx⟩:=yl x H2 y;rw[List.drop_eq_getElem_cons hlt,J5] at er;obtain⟨E1,b1,er⟩:=bind_some er;obtain⟨o1,b2,er⟩:=bind_some er;have ss2:SStep B H0' H02 H2:=st2.ss I'.b;refine hg B H02 H2 σ' E' E1 x _ _ (I'.step st2) rx b1 fun σ2 I2=>?_
  refine ht B H02 H2 σ2 E1 o1 _ I2 b2 ?_
  cases o1 with
  | nx E2=>exact fun σ3 H3 H3' s3 I3=>⟨H3,E2,I3,(st.trans ss2).trans s3,er⟩
  | ct E2=>exact fun σ3 H3 H3' s3 I3=>⟨H3,E2,I3,(st.trans ss2).trans s3,er⟩
  | bk E2=>cases er;exact f'.step ss2
  | rt r=>cases er;exact f'.step ss2
 ·have e3:i=ds.length:=by omega
  subst e3;rw[List.drop_length,J5] at er;cases er;exact .inl ⟨stop.2,f' _ _ _ I'.ss I'⟩
theorem Jge{c:TT}{ec:En->Option Bool}{n:Nat}(hc:ST K C c ec)(ht:SS K C t et):SS K C (Jej c t) (Uh ec et n):=by
 intro B H0 H σ E o D I e f;refine⟨fun m σ' H'=>∃H0' E',EnvR K C B H0' H' σ' E'/\SStep B H0 H0' H'/\Uh ec et m E'=some o,⟨n,H0,E,I,I.ss,e⟩,?_⟩;rintro m σ' H' ⟨H0',E',I',st,er⟩
 cases m with
 | zero=>cases er
 | succ m =>
  rw[Uh] at er;obtain⟨k,b1,er⟩:=bind_some er;refine hc B H0' H' σ' E' k _ I' b1 fun H1 H1' s1=>?_
  have f':Fin K C B H1 D o:=(f.step st).step (s1.ss I'.b)
  cases k with
  | false=>rw[if_neg (by simp)] at er ⊢;cases er;exact f' _ _ _ (I'.step s1).ss (I'.step s1)
  | true =>
   rw[if_pos rfl] at er ⊢;obtain⟨o1,b2,er⟩:=bind_some er;refine⟨fun σ2 H2=>∃H02 E2,EnvR K C B H02 H2 σ2 E2/\SStep B H0 H02 H2/\Uh ec et m E2=some o,fun σ2 H2 h=>⟨m,Nat.lt_succ_self _,h⟩,?_⟩;have st1:=st.trans (s1.ss I'.b);refine ht B H1 H1' σ' E' o1 _ (I'.step s1) b2 ?_
   cases o1 with
   | nx E2=>exact fun σ3 H3 H3' s3 I3=>⟨H3,E2,I3,st1.trans s3,er⟩
   | ct E2=>exact fun σ3 H3 H3' s3 I3=>⟨H3,E2,I3,st1.trans s3,er⟩
   | bk E2=>cases er;exact f'
   | rt r=>cases er;exact f'
end

noncomputable def ZC:Out->Option Sl
 | .nx _=>some (.sh .non)
 | .rt r=>some r
 | .bk _=>none
 | .ct _=>none
noncomputable def UG(N:Nat)(b:Es):List Sl->Option Sl:=fun as=>(b (as++List.replicate (N-as.length) .no)).bind ZC
section
variable{K:Frag}{C:Addr}
theorem RRL.get{Hs H0 H:Hp}:∀{vs:List V} {ss:List Sl} {i:Nat} {s:Sl},RRL K C Hs H0 H vs ss->ss[i]?=some s->∃v,vs[i]?=some v/\RR K C Hs H0 H v s
 | _,_,_,_,.nil,e=>by simp at e
 | _,_,0,_,.cons h _,e=>by simp at e;subst e;exact⟨_,rfl,h⟩
 | _,_,i+1,s,.cons _ t,e=>by obtain⟨v,h1,h2⟩:=RRL.get (i:=i) (s:=s) t (by simpa using e);exact⟨v,by simpa using h1,h2⟩
theorem Yp{N:List Str}{n:Nat}{b:Es}{ts:TS}{vs:List V}{H:Hp}{Q:VK}{E:XK}(hb:SS K C ts b)(h:spE K C n (UG N.length b) vs H Q E):ts { nx:=fun _ H'=>Q .non H',rt:=Q } (L2.Ys N vs) H:=by
 obtain⟨H0,as,r,i,ra,ho,hl,e,q⟩:=h;have lens:=ra.len
 have noOwn:∀(j:Nat) (s:Sl),as[j]?=some s->JM s=false:=fun j s e=>by
  have:=List.all_eq_true.mp ho s (List.mem_of_getElem? e)
  simpa using this
 have get:∀(j:Nat) (s:Sl),(as++List.replicate (N.length-as.length) Sl.no)[j]?=some s->s=.no\/as[j]?=some s:=fun j s e=>by
  by_cases hj:j<as.length
  ·rw[List.getElem?_append_left hj] at e;exact .inr e
  ·rw[List.getElem?_append_right (by omega),List.getElem?_replicate] at e;split at e
   ·cases e;exact .inl rfl
   ·cases e
 have I:EnvR K C H H0 H (L2.Ys N vs) (as++List.replicate (N.length-as.length) .no):=by
  refine⟨Same.refl _,i,by simp[L2.Ys,lens],fun j s e=>?_,fun j k s1 s2 v hjk e1 e2 w1 w2=>?_⟩
  ·rcases get j s e with z|z
   ·exact .inl z
   ·obtain⟨v,h1,h2⟩:=ra.get z;refine .inr ⟨v,?_,?_⟩
    ·unfold L2.Ys;rw[List.getElem?_append_left (by have:=(List.getElem?_eq_some_iff.mp h1).1;simpa using this),List.getElem?_map,h1];rfl
    ·cases s with
     | no=>trivial
     | sh d=>exact h2
     | bo ds=>exact h2
     | own ds=>exact absurd (noOwn j _ z) (by simp[JM])
     | bd ks ds=>exact h2
     | bt ks ds=>exact h2
     | od ks ds=>exact absurd (noOwn j _ z) (by simp[JM])
     | ot ks ds=>exact absurd (noOwn j _ z) (by simp[JM])
  ·rcases get j _ e1 with z|z
   ·subst z;cases w1
   ·rw[noOwn j _ z] at w1;cases w1
 obtain⟨o,e1,e⟩:=bind_some e;refine hb H H0 H _ _ o _ I e1 ?_
 cases o with
 | nx E1=>cases e;exact fun σ' H1 H1' s1 I1=>q _ H1 H1' ⟨s1.b,s1.z,s1.n,s1.i⟩ RD.non
 | rt r'=>cases e;exact fun v H1 H1' s1 r1=>q v H1 H1' ⟨s1.b,s1.z,s1.n,s1.i⟩ r1
 | bk _=>cases e
 | ct _=>cases e
theorem Jff{P:Program}{w:World}{mg:Str->Option Value}{base:Heap}{k:Nat}{f:Addr}{fd:FuncData}{ps:List Str}{ev:List Sl->Option Sl}(F:FnOk P w K mg base CX0 k f fd ps (spE K C 1 ev))
 (h:∀ns:List Int,ns.length<=63->ev [.sh (.fz (ns.map .int))]=some (.sh (.bl true))):FnOk P w K mg base CX0 k f fd ps (JbP K) :=
 F.imp fun vs H Q E ⟨a,ns,e,hS,hl,q⟩=>by subst e;exact⟨H,[.sh (.fz (ns.map .int))],_,Same.refl _,.cons (show RD K C H _ _ from RD.mkF hS (RDL.ofInts ns)) .nil,rfl,rfl,h ns hl,fun v H0' H' _ r=>by rw[RD.blI r];exact q H'⟩
structure RowK (K:Frag) (C:Addr):Prop where
 t:RowC K C
 k1:findIn K (.ref C) "__class__"=some (some (.builtin "object.__class__"))
 k2:specialIn K (.builtin "object.__class__") "__get__"=some (some (.builtin "getset_descriptor.__get__"))
 k3:takesIn K (.builtin "object.__class__")=some true
 k4:mroIn K C (.type "object")=some true
end
end LE

namespace L2
open PySem PySem.Spec PyProof.Rows
end L2
namespace LE
open PySem L2 LR
noncomputable def Jha(a:Int):Bool:=Nat.ble a.natAbs 1152921504606846975
theorem in60_ok{a:Int}:Jha a=true↔-1152921504606846976<a/\a<1152921504606846976:=by unfold Jha;rw[Nat.ble_eq];omega
section
variable{K:Frag}{C:Addr}{m:Bool}
noncomputable def Je4:List Sl->Option Sl
 | [.sh (.int i)]=>if i.natAbs.log2<1920 then some (.sh (.str (strI i))) else none
 | _=>none
theorem JiR:V7 K C JhT Je4:=by
 intro Hs H0 H xs as c Q i hs r e q;unfold Je4 at e;split at e
 ·split at e
  ·next hl=>cases e;obtain⟨v,rfl,r0⟩:=r.one;rw[RD.intI r0];exact Jig hl (q _ _ _ (.refl i) (RD.str _))
  ·cases e
 ·cases e
noncomputable def str?:Sl->Option Str
 | .sh (.str z)=>some z
 | _=>none
end
end LE

namespace LE
open PySem L2 LR
noncomputable def okS(P:En->Prop):Option Out->Prop
 | some (.nx E)=>P E
 | some (.ct E)=>P E
 | _=>False
theorem Jhx{P:En->Prop}{E:En}:okS P (some (.nx E))=P E:=rfl
theorem Jhw{P:En->Prop}{E:En}:okS P (some (.ct E))=P E:=rfl
theorem Wu{P:En->Prop}{o:Option Out}(h:okS P o):∃E,(o=some (.nx E)\/o=some (.ct E))/\P E:=by
 unfold okS at h;split at h
 ·exact⟨_,.inl rfl,h⟩
 ·exact⟨_,.inr rfl,h⟩
 ·exact h.elim
theorem Jam{γ α β:Type}{p:Pt}{b:Es}{f:α->D}{k:Out->Option γ}{r:Option γ}(R:List α->β->En->Prop)(g:β->α->β):∀{as:List α} {E:En} (s:β) (h0:R as s E)
 (h:∀a as s E,R (a::as) s E->okS (R as (g s a)) ((p.bind (f a) E).bind b)) (fin:∀E',R [] (as.foldl g s) E'->k (.nx E')=r),(J5 p b (as.map f) E).bind k=r
 | [],E,s,h0,_,fin=>fin E h0
 | a::as,E,s,h0,h,fin=>by
  obtain⟨E2,e2,r2⟩:=Wu (h a as s E h0);have ih:=Jam (k:=k) (r:=r) R g (as:=as) (E:=E2) (g s a) r2 h fin;rw[List.map_cons,J5]
  cases hp:p.bind (f a) E with
  | none=>rw[hp] at e2;rcases e2 with e2|e2 <;> cases e2
  | some E1=>rw[hp,Option.bind_some] at e2;rw[Option.bind_some];rcases e2 with e2|e2 <;> (rw[e2,Option.bind_some];exact ih)
theorem Jdw{γ:Type}{p:Pt}{b:Es}{f:Nat->D}{n:Nat}{E:En}{k:Out->Option γ}{r:Option γ}(R:Nat->En->Prop)(h0:R 0 E)
 (h:∀i E,i<n->R i E->okS (R (i+1)) ((p.bind (f i) E).bind b)) (fin:∀E',R n E'->k (.nx E')=r):(J5 p b ((List.range n).map f) E).bind k=r:=by
 refine Jam (fun(as:List Nat) (i:Nat) E=>i+as.length=n/\as=List.range' i as.length/\R i E) (fun i _=>i+1) 0 ⟨by simp,by simp[List.range_eq_range'],h0⟩ (fun a as i E ⟨hk,e,q⟩=>?_) fun E' ⟨hk,_,q⟩=>?_
 ·rw[List.length_cons,List.range'_succ] at e;have e1:a=i:=(List.cons.inj e).1;subst e1;obtain⟨E2,e2,r2⟩:=Wu (h a E (by rw[List.length_cons] at hk;omega) q);have fin2:(a+1)+as.length=n/\as=List.range' (a+1) as.length/\R (a+1) E2:=⟨by rw[List.length_cons] at hk;omega,(List.cons.inj e).2,r2⟩
  rcases e2 with e2|e2 <;> (rw[e2];exact fin2)
 ·have e3:(List.range n).foldl (fun i _=>i+1) 0=n:=by simpa using hk
  rw[e3] at q;exact fin E' q
theorem Ua{α:Type}{p:Pt}{a:Ev}{E1:En}{f g:α->D}:∀{xs:List α},(∀x∈xs,((p.bind (f x) E1).bind a).bind Sl.frz=some (g x))->UJ p yes? a E1 (xs.map f)=some (xs.map g)
 | [],_=>rfl
 | x::xs,h=>by have h1:=h x List.mem_cons_self;obtain⟨s,e1,e2⟩:=bind_some h1;obtain⟨E2,e3,e4⟩:=bind_some e1;rw[List.map_cons,UJ,e3];simp only[Option.bind_some,yes?,if_true,e4,e2];rw[Ua fun y hy=>h y (List.mem_cons_of_mem _ hy)];rfl
theorem JjG(n:Nat):rng 0 n=(List.range n).map fun i=>.int (i:Int):=by unfold rng;exact List.map_congr_left fun i _=>by rw[Int.zero_add]
theorem Jf0:sizeLine=16777216:=rfl
theorem Uj{α β:Type}(f:α->β)(xs:List α)(i:Int):atI (xs.map f) i=(atI xs i).map f:=by
 unfold atI;rw[List.length_map]
 cases ixN xs.length i with
 | none=>rfl
 | some j=>simp
theorem Z5{α:Type}{xs:List α}{k:Nat}(h:k<xs.length):atI xs (k:Int)=some xs[k]:=by unfold atI ixN;rw[if_pos (by omega),if_pos (by omega)];simp[h]
theorem Z4{ns:List Int}{k:Int}(h0:0<=k)(h:k<(ns.length:Int)):atI ns k=some (cell ns k):=by
 obtain⟨j,rfl⟩:=Int.eq_ofNat_of_zero_le h0;have hj:j<ns.length:=by omega
 rw[Z5 hj];simp[cell,hj]
theorem Z6{l:List Int}{k:Int}(h0:0<=k)(h1:k<(l.length:Int)):atI (l.map D.int) k=some (.int (JaZ l k)):=by rw[Uj,Z4 h0 h1];rfl
structure Kd {α:Type} (f:α->D) (n:Nat):Prop where
 lay:∀a,(f a).py.canLay0=true
 dep:∀a,(f a).py.depth<=n
 eqv:∀a b,PyData.eqv (f a).py (f b).py=true↔a=b
theorem Kd.eq{α:Type}[DecidableEq α]{f:α->D}{n:Nat}(k:Kd f n)(h:n<=60)(a b:α):eqD (f a) (f b)=some (decide (a=b)):=by unfold eqD;have:=k.dep a;rw[k.lay a,k.lay b,if_pos (by simp;omega)];congr 1;rw[Bool.eq_iff_iff,k.eqv];simp
theorem Jhk:Kd D.int 1:=⟨fun _=>rfl,fun _=>by simp[D.py,PyData.depth],fun a b=>by show(a == b)=true↔_;simp⟩
theorem VB{α:Type}{f:α->D}{n:Nat}(k:Kd f n):(∀xs:List α,PyData.canLayAll0 (D.pyL (xs.map f))=true)/\(∀xs:List α,PyData.depthAll (D.pyL (xs.map f))<=n)/\∀xs ys:List α,PyData.eqvAll (D.pyL (xs.map f)) (D.pyL (ys.map f))=true↔xs=ys:=by
 refine⟨fun xs=>?_,fun xs=>?_,fun xs=>?_⟩
 ·induction xs with
  | nil=>rfl
  | cons x xs ih=>show(PyData.canLay0 _ && PyData.canLayAll0 _)=true;rw[k.lay,ih];rfl
 ·induction xs with
  | nil=>simp[D.pyL,PyData.depthAll]
  | cons x xs ih=>have:=k.dep x;simp only[List.map_cons,D.pyL,PyData.depthAll];omega
 ·induction xs with
  | nil=>intro ys;cases ys with
   | nil=>simp[D.pyL,PyData.eqvAll]
   | cons y ys=>simp[D.pyL,PyData.eqvAll]
  | cons x xs ih=>intro ys;cases ys with
   | nil=>simp[D.pyL,PyData.eqvAll]
   | cons y ys=>simp only[List.map_cons,D.pyL,PyData.eqvAll,Bool.and_eq_true,k.eqv,ih,List.cons.injEq]
theorem JaQ{α:Type}{f:α->D}{n:Nat}(k:Kd f n):Kd (fun xs:List α=>D.lst (xs.map f)) (n+1) :=
 ⟨fun xs=>(VB k).1 xs,fun xs=>by have:=(VB k).2.1 xs;simp only[D.py,PyData.depth];omega,fun xs ys=>by simp only[D.py,PyData.eqv];exact(VB k).2.2 xs ys⟩
theorem Jhl{α:Type}{f:α->D}{n:Nat}(k:Kd f n):Kd (fun xs:List α=>D.tup (xs.map f)) (n+1) :=
 ⟨fun xs=>(VB k).1 xs,fun xs=>by have:=(VB k).2.1 xs;simp only[D.py,PyData.depth];omega,fun xs ys=>by simp only[D.py,PyData.eqv];exact(VB k).2.2 xs ys⟩
theorem kd_pr:Kd prE 2:=⟨fun _=>rfl,fun _=>by simp[prE,D.py,D.pyL,PyData.depth,PyData.depthAll],fun a b=>by obtain⟨a1,a2⟩:=a;obtain⟨b1,b2⟩:=b;simp[prE,D.py,D.pyL,PyData.eqv,PyData.eqvAll]⟩
theorem JgY(a b:Pr):eqD (prE a) (prE b)=some (decide (a=b)):=kd_pr.eq (by decide) a b
theorem JeF(a b:List Pr):eqD (.lst (a.map prE)) (.lst (b.map prE))=some (decide (a=b)):=(JaQ kd_pr).eq (by decide) a b
theorem JeG(a b:List Pr):eqD (.tup (a.map prE)) (.tup (b.map prE))=some (decide (a=b)):=(Jhl kd_pr).eq (by decide) a b
theorem Jc8(a b:List Int):eqD (.lst (a.map .int)) (.lst (b.map .int))=some (decide (a=b)):=(JaQ Jhk).eq (by decide) a b
section
variable{a b:Int}{xs ys:List D}{d:D}{x y:Str}{E:En}{B:Es}{r:Sl}
theorem JbO:Jeb B (.nx E)=B E:=rfl
theorem JfZ:Jeb B (.rt r)=some (.rt r):=rfl
theorem JfX:Jeb B (.bk E)=some (.bk E):=rfl
theorem JfY:Jeb B (.ct E)=some (.ct E):=rfl
theorem JeC:ZC (.nx E)=some (.sh .non):=rfl
theorem JeD:ZC (.rt r)=some r:=rfl
theorem JiY{g:Int->Int->D}:fI g (.sh (.int a)) (.sh (.int b))=some (.sh (g a b)):=rfl
theorem Je1(h:(-18446744073709551616<a/\a<18446744073709551616)\/(-18446744073709551616<b/\b<18446744073709551616)):Wh (.sh (.int a)) (.sh (.int b))=some (.sh (.int (a*b))):=by show(if _ then _ else _)=_;rw[if_pos];simp only[Bool.or_eq_true,UB];exact h
theorem Je0(h:0<b):J8 (.sh (.int a)) (.sh (.int b))=some (.sh (.int (a % b))):=by show(if _ then _ else _)=_;rw[if_pos (by simpa using h)]
theorem JeX(h:0<b/\b<1073741824):Yo (.sh (.int a)) (.sh (.int b))=some (.sh (.int (a / b))):=by show(if _ then _ else _)=_;rw[if_pos (smallP_ok.mpr h)]
theorem Je3(h:0<=b/\b<=1000000/\-1000<a/\a<1000):Up (.sh (.int a)) (.sh (.int b))=some (.sh (.int (a ^ b.toNat))):=by show(if _ then _ else _)=_;rw[if_pos];simp only[Bool.and_eq_true,decide_eq_true_eq,Nat.ble_eq,UB];omega
theorem Je2:Jdf (.sh (.int a))=some (.sh (.int (-a))):=rfl
theorem JeN:Yt (.sh (.int a)) (.sh (.int b))=some (.sh (.int (a+b))):=rfl
theorem JeU(h:x.length+y.length<=16777216):Yt (.sh (.str x)) (.sh (.str y))=some (.sh (.str (x++y))):=if_pos h
theorem Us{p q:Sl}(h1:p.m=some xs)(h2:q.m=some ys)(h:xs.length+ys.length<=16777216):Jcd p q=some (.own (xs++ys)):=by unfold Jcd;rw[h1,h2];exact if_pos h
theorem JeR(h:xs.length+ys.length<=16777216):Yt (.own xs) (.own ys)=some (.own (xs++ys)):=Us rfl rfl h
theorem JeQ(h:xs.length+ys.length<=16777216):Yt (.own xs) (.bo ys)=some (.own (xs++ys)):=Us rfl rfl h
theorem JeL(h:xs.length+ys.length<=16777216):Yt (.bo xs) (.own ys)=some (.own (xs++ys)):=Us rfl rfl h
theorem JeK(h:xs.length+ys.length<=16777216):Yt (.bo xs) (.bo ys)=some (.own (xs++ys)):=Us rfl rfl h
theorem JeS(h:xs.length+ys.length<=16777216):Yt (.own xs) (.sh (.lst ys))=some (.own (xs++ys)):=Us rfl rfl h
theorem JeT(h:xs.length+ys.length<=16777216):Yt (.sh (.lst xs)) (.own ys)=some (.own (xs++ys)):=Us rfl rfl h
theorem JeO(h:xs.length+ys.length<=16777216):Yt (.sh (.lst xs)) (.bo ys)=some (.own (xs++ys)):=Us rfl rfl h
theorem JeM(h:xs.length+ys.length<=16777216):Yt (.bo xs) (.sh (.lst ys))=some (.own (xs++ys)):=Us rfl rfl h
theorem JeP(h:xs.length+ys.length<=16777216):Yt (.sh (.lst xs)) (.sh (.lst ys))=some (.own (xs++ys)):=Us rfl rfl h
theorem Jg3(h:x.length<=16777216):Uu [.sh (.str x)]=some (.sh (.int x.length)):=if_pos h
theorem Jg1:Uu [.sh (.lst xs)]=some (.sh (.int xs.length)):=rfl
theorem Jg0:Uu [.sh (.fz xs)]=some (.sh (.int xs.length)):=rfl
theorem Jg4:Uu [.sh (.tup xs)]=some (.sh (.int xs.length)):=rfl
theorem JgZ:Uu [.bo xs]=some (.sh (.int xs.length)):=rfl
theorem Jg2:Uu [.own xs]=some (.sh (.int xs.length)):=rfl
theorem Ji1:fIx (.sh (.lst xs)) (.sh (.int a))=(atI xs a).map .sh:=rfl
theorem Ji0:fIx (.sh (.fz xs)) (.sh (.int a))=(atI xs a).map .sh:=rfl
theorem Ji3:fIx (.sh (.tup xs)) (.sh (.int a))=(atI xs a).map .sh:=rfl
theorem JiZ:fIx (.bo xs) (.sh (.int a))=(atI xs a).map .sh:=rfl
theorem Ji2:fIx (.own xs) (.sh (.int a))=(atI xs a).map .sh:=rfl
theorem Je5(h:a.natAbs.log2<1920):Je4 [.sh (.int a)]=some (.sh (.str (strI a))):=if_pos h
theorem JgV:eqA (.int a) (.int b)=some (decide (a=b)):=rfl
theorem JgX:eqA (.str x) (.str y)=some (decide (x=y)):=rfl
theorem JgU{p q:Bool}:eqA (.bl p) (.bl q)=some (decide (p=q)):=rfl
theorem JgW(p q:Pr):eqA (prE p) (prE q)=some (decide (p=q)):=JgY p q
theorem JgS(p q:List Pr):eqA (.lst (p.map prE)) (.lst (q.map prE))=some (decide (p=q)):=JeF p q
theorem JgT(p q:List Pr):eqA (.tup (p.map prE)) (.tup (q.map prE))=some (decide (p=q)):=JeG p q
theorem JgR(p q:List Int):eqA (.lst (p.map .int)) (.lst (q.map .int))=some (decide (p=q)):=Jc8 p q
theorem Jhc(h:-4611686018427387904<a/\a<4611686018427387904):Jdk a=true:=by unfold Jdk;rw[Nat.ble_eq];omega
theorem Jhb(h:-1152921504606846976<a/\a<1152921504606846976):Jha a=true:=in60_ok.mpr h
theorem Jed(h:0<a/\a<1073741824):ZV a=true:=smallP_ok.mpr h
theorem UV{s:Sl}{ns:List Int}(e:s.q=some (ns.map .int)):Wi [s]=some (.sh (.int ns.sum)):=by show(s.q.bind _)=_;rw[e,Option.bind_some,Wn];rfl
theorem JeW{s:Sl}{ns:List Bool}(e:s.q=some (ns.map .bl)):JeV [s]=some (.sh (.bl (ns.all id))):=by show(s.q.bind _)=_;rw[e,Option.bind_some,Jbk];rfl
theorem JiM{i:Nat}:(Pt.nm i).bind d E=if i<E.length then some (E.set i (.sh d)) else none:=by rw[Pt.bind]
theorem JiN{l:Pts}:(Pt.tp l).bind (.tup xs) E=l.bind xs E:=by rw[Pt.bind]
theorem Jet:Pts.nil.bind [] E=some E:=by rw[Pts.bind]
theorem JcJ{q:Pt}{l:Pts}:(Pts.cons q l).bind (d::xs) E=(q.bind d E).bind fun E'=>l.bind xs E':=by rw[Pts.bind]
theorem JjU:((0:Nat):Int)=0:=rfl
theorem JjV:((1:Nat):Int)=1:=rfl
theorem JjW:((2:Nat):Int)=2:=rfl
theorem JjX:((3:Nat):Int)=3:=rfl
theorem JjY:((4:Nat):Int)=4:=rfl
theorem Jck:D.isNon .non=true:=rfl
theorem Jci:D.isNon (.int a)=false:=rfl
theorem Jdl{k:Bool}:D.isNon (.bl k)=false:=rfl
theorem Jcm:D.isNon (.str x)=false:=rfl
theorem Jcn:D.isNon (.tup xs)=false:=rfl
theorem Jcj:D.isNon (.lst xs)=false:=rfl
theorem Jdm:D.isNon (.fz xs)=false:=rfl
theorem Jcl:D.isNon (.row xs)=false:=rfl
theorem Jhr:Jal "int" "int"=true:=by decide
theorem Jfc:Jal "int" "bool"=false:=by decide
theorem Jhq:Jal "bool" "bool"=true:=by decide
theorem Jhu:Jal "tuple" "tuple"=true:=by decide
theorem Jhs:Jal "list" "list"=true:=by decide
theorem Jht:Jal "str" "str"=true:=by decide
end
end LE

namespace HT
open PySem PySem.Spec PyProof.Rows
section
variable{prog:Program}{w:World}{A:Around}{E:Value->Shared->Prop}{s:Shared}
theorem Vd{t sl:Addr}{items:Array Value}{vl vu:Value}{lo hi:Option Int}{Q:Value->Shared->Prop}(ht:IsTup s.heap t items)(hs:s.heap.IsSliceOf sl vl vu .none)(pl:IsPart vl lo)(pu:IsPart vu hi)
 (hw:sIx items.size 0 lo=0/\sIx items.size items.size hi=items.size) (h:Q (.ref t) s):wpAny (model prog w) A (getItem (.ref t) (.ref sl)) Q E s:=by
 obtain⟨os,hos,hcs,hds⟩:=id hs;have hTs:s.TypeIs (.ref sl) "slice":=⟨os,hos,hcs⟩
 unfold getItem
 try with_reducible refine wpAny_holding ?_
 first|refine wpAny_bind (wpAny_pure ?_)|skip
 refine wpAny_bind (wpAny_sequenceKey ht.typeIs (by decide) ?_);refine wpAny_bind (wpAny_callSpecial?_slot (name:=Str.ofString "__getitem__") ht.typeIs PyProof.Rows.slot_tuple_getitem
  (wpAny_call_entry PyProof.Rows.slot_tuple_getitem ht.typeIs entry_tuple_getitem ?_ (args_tuple_getitem _ _)))
 show wpAny _ _ (Builtin.Tuple.tupleItemsOf (.ref t) >>= _) _ _ s;refine wpAny_bind (tupleItemsOf_ ht ?_);refine wpAny_bind (wpAny_typeOf hTs ?_);rw[if_pos (by decide)];refine wpAny_bind (Ur hs pl pu ?_)
 have yes:(((sIx items.size 0 lo:Nat):Int) == 0 && (1:Int) == 1 && (sIx items.size items.size hi-sIx items.size 0 lo) == items.size)=true:=by rw[hw.1,hw.2];simp
 show wpAny _ _ (if (((sIx items.size 0 lo:Nat):Int) == 0 && (1:Int) == 1 && (sIx items.size items.size hi-sIx items.size 0 lo) == items.size)=true then _ else _) _ _ s;rw[if_pos yes];unfold Builtin.Tuple.tupleIsExact;refine wpAny_bind (wpAny_bind (wpAny_typeOf ht.typeIs (wpAny_pure ?_)));rw[if_pos (by decide)];refine wpAny_bind (wpAny_rule ?_);exact wpAny_pure ⟨_,rfl,wpAny_pure h⟩
end
end HT
namespace L2
open PySem PySem.Spec PyProof.Rows
section
variable{X:Cx}{K:Frag}
noncomputable def Jjy(K:Frag):V->Option Int->Option Int->Hp->VK->Prop:=fun x lo hi H Q=>∃a xs,x=.ref a/\SqT K H a xs/\(HT.sIx xs.length 0 lo=0/\HT.sIx xs.length xs.length hi=xs.length)/\Q (.ref a) H
theorem Jec:SlR X (Jjy X.K):=by
 intro pins s σ H x v vl vu lo hi sl Q I rx hs pl pu h;obtain⟨a,xs,rfl,hx,hw,q⟩:=h;cases rx;obtain⟨its,r,ht,hz⟩:=I.tuple hx;have hlen:its.toArray.size=xs.length:=by rw[List.size_toArray];exact r.length.symm
 refine⟨"tuple",_,PyProof.Rows.slot_tuple_getitem.lookup,ht.typeIs,?_⟩;exact HT.Vd ht hs pl pu (by rw[hlen];exact hw) ⟨.ref a,H,I,rfl,q⟩
noncomputable def JhS(K:Frag):V->Option Int->Option Int->Hp->VK->Prop:=fun x lo hi H Q=>Jjw K x lo hi H Q\/Jjx K x lo hi H Q\/Jjy K x lo hi H Q
theorem ZT(hK:X.K=K):SlR X (JhS K):=by subst hK;exact sl_list.or (sl_tup.or Jec)
end
end L2
namespace LE
open PySem L2 LR
noncomputable def Zy{α:Type}(xs:List α)(lo hi:Option Int):List α:=(xs.drop (HT.sIx xs.length 0 lo)).take (HT.sIx xs.length xs.length hi-HT.sIx xs.length 0 lo)
noncomputable def fSl(s:Sl)(lo hi:Option Int):Option Sl:=match s with
 | .sh (.tup ds)=>some (.sh (.tup (Zy ds lo hi)))
 | s=>s.r.map fun ds=>.own (Zy ds lo hi)
noncomputable def We(o:Option Ev):En->Option (Option Int):=fun E=>match o with
 | none=>some none
 | some a=>(a E).bind fun s=>match s with
  | .sh (.int i)=>some (some i)
  | _=>none
noncomputable def eSl(a:Ev)(lo hi:Option Ev):Ev:=fun E=>(a E).bind fun s=>(We lo E).bind fun l=>(We hi E).bind fun h=>fSl s l h
section
variable{K:Frag}{C:Addr}{te:TE}{ea:Ev}{tl th:TO}{el eh:Option Ev}
noncomputable def SP'(K:Frag)(C:Addr)(t:TO)(ev:En->Option (Option Int)):Prop:=∀(B H0 H:Hp) (σ:St) (E:En) (r:Option Int) (Q:Option Int->Hp->Prop),EnvR K C B H0 H σ E->ev E=some r ->
 (∀H0' H',Step H H0 H H0' H'->Q r H')->t σ H Q
theorem JaW:SP' K C JbQ (We none):=fun _ _ _ _ _ _ _ I e q=>by cases e;exact q _ _ (.refl I.h)
theorem JaX(ha:SE K C te ea):SP' K C (JgA te) (We (some ea)):=by
 intro B H0 H σ E r Q I e q;obtain⟨s,e1,e⟩:=bind_some e;split at e
 ·cases e;exact ha B H0 H σ E _ _ I e1 fun x H1 H1' s1 r1=>⟨_,RD.intI r1,q _ _ s1⟩
 ·cases e
theorem RDL.cut{H:Hp}{xs:List V}{ds:List D}{lo hi:Option Int}(r:RDL K C H xs ds):RDL K C H (WU xs lo hi) (Zy ds lo hi):=by unfold WU Zy;rw[r.1];exact(r.drop _).take _
theorem Jim(ha:SE K C te ea)(hl:SP' K C tl (We el))(hh:SP' K C th (We eh)):SE K C (tSl (JhS K) te tl th) (eSl ea el eh):=by
 intro B H0 H σ E c Q I e q;obtain⟨s,e1,e⟩:=bind_some e;obtain⟨l,e2,e⟩:=bind_some e;obtain⟨h,e3,e⟩:=bind_some e;refine ha B H0 H σ E _ _ I e1 fun x H1 H1' s1 r1=>hl B H1 H1' σ E l _ (I.step s1) e2 fun H2 H2' s2=>hh B H2 H2' σ E h _ (I.step (s1.trans s2)) e3 fun H3 H3' s3=>?_
 have s13:=(s1.trans s2).trans s3
 have r3:=(r1.step s2).step s3
 have lst:∀{ds:List D},s.r=some ds->c=.own (Zy ds l h)->JhS K x l h H3' Q:=fun {ds} er ec=>by subst ec;obtain⟨a,xs,rfl,hq,r⟩:=r3.r s13.i er;exact .inl ⟨a,xs,rfl,hq,fun p hp=>UX s13.i s13.h hp r.cut fun v H4 H4' s4 r4=>q v H4 H4' (s13.comp s4 fun _ z=>z) r4⟩
 unfold fSl at e;split at e
 ·cases e;obtain⟨a,xs,rfl,hq,r⟩:=RD.tupI r3
  by_cases hw:HT.sIx xs.length 0 l=0/\HT.sIx xs.length xs.length h=xs.length
  ·refine .inr (.inr ⟨a,xs,rfl,s13.i.seqT hq,hw,q _ _ _ s13 ?_⟩);have e5:WU xs l h=xs:=by unfold WU;rw[hw.1,hw.2];simp
   have r5:=r.cut (lo:=l) (hi:=h);rw[e5] at r5;exact RD.mkT hq r5
  ·exact .inr (.inl ⟨a,xs,rfl,s13.i.seqT hq,hw,fun p hp=>ZX s13.i s13.h hp r.cut fun v H4 H4' s4 r4=>q v H4 H4' (s13.comp s4 fun _ z=>z) r4⟩)
 ·obtain⟨ds,e4,e5⟩:=map_some e;exact lst e4 e5.symm
end
end LE

namespace PySem
section
variable{prog:Program}{w:World}{A:Around}
theorem Draws.tup(hh:A.handled=none)(j a:Addr)(ne:a≠j)(xs:Array Value):Draws prog w A j [j,a] xs.size (fun i v=>xs[i]?=some v) (fun i h=>h.IsTupleIter j a i/\h.IsTuple a xs) where
 live:=fun _ _ q=>let ⟨o,ho,_⟩:=q.1;⟨o,ho⟩
 frame:=fun _ _ _ q k=>⟨q.1.at fun o e=>k j (by simp) o e,q.2.at fun o e=>k a (by simp) o e⟩
 item:=fun i s Q E hi q hQ=>by
  obtain⟨o,ho,hc,hd⟩:=id q.1;obtain⟨ol,hol,_,nl,hdl⟩:=id q.2;have hx:xs[i]?=some xs[i]:=by simp[hi]
  unfold Builtin.SmallTypes.nextOf;refine wpAny_bind (wpAny_callSpecial?_slot (name:=Str.ofString "__next__") q.1.typeIs F.slot_tuple_iterator_next (wpAny_call_entry F.slot_tuple_iterator_next q.1.typeIs F.entry_tuple_iterator_next ?_ (F.args_tuple_iterator_next_1 _)));show wpAny _ _ (field (.ref j) 0 >>= _) _ _ s;refine wpAny_bind (wpAny_field ho hd (x:=.ref a) rfl ?_);show wpAny _ _ (if (Value.ref a == Value.none)=true then _ else _) _ _ s;rw[if_neg (show ¬((Value.ref a == Value.none)=true) from Bool.false_ne_true)]
  show wpAny _ _ (field (.ref j) 1 >>= _) _ _ s;refine wpAny_bind (wpAny_field ho hd (x:=.int i 0) rfl (show wpAny _ _ (seqItems? (.ref a) >>= _) _ _ s from wpAny_bind (wpAny_seqItems hol hdl ?_)));simp only[Int.toNat_natCast,hx];refine wpAny_bind (wpAny_setField ho hd (by simp) (wpAny_pure ⟨xs[i],rfl,wpAny_pure (hQ _ _ s.toks hx ⟨⟨_,Heap.get?_update_self _ ho (Obj.isFreed_of_fields (Obj.data_mapFields hd _)),(Obj.cls_mapFields ..).trans hc,?_⟩,q.2.extBut (Heap.SameBut.update ..).extBut ne⟩ (Heap.SameBut.update ..))⟩))
  rw[Obj.data_mapFields hd];simp[rawInt]
 done:=fun s Q E q hE=>by
  obtain⟨o,ho,hc,hd⟩:=id q.1;obtain⟨ol,hol,_,nl,hdl⟩:=id q.2;have hx:xs[xs.size]?=none:=by simp
  unfold Builtin.SmallTypes.nextOf;refine wpAny_bind (wpAny_callSpecial?_slot (name:=Str.ofString "__next__") q.1.typeIs F.slot_tuple_iterator_next (wpAny_call_entry F.slot_tuple_iterator_next q.1.typeIs F.entry_tuple_iterator_next ?_ (F.args_tuple_iterator_next_1 _)));show wpAny _ _ (field (.ref j) 0 >>= _) _ _ s;refine wpAny_bind (wpAny_field ho hd (x:=.ref a) rfl ?_);show wpAny _ _ (if (Value.ref a == Value.none)=true then _ else _) _ _ s;rw[if_neg (show ¬((Value.ref a == Value.none)=true) from Bool.false_ne_true)]
  show wpAny _ _ (field (.ref j) 1 >>= _) _ _ s;refine wpAny_bind (wpAny_field ho hd (x:=.int xs.size 0) rfl (show wpAny _ _ (seqItems? (.ref a) >>= _) _ _ s from wpAny_bind (wpAny_seqItems hol hdl ?_)));simp only[Int.toNat_natCast,hx];refine wpAny_bind (wpAny_rule (wpAny_bind (wpAny_setField ho hd (by simp) (show wpAny _ _ (newExc (.type "StopIteration") [] >>= _) _ _ _ from wpAny_bind ?_))));simp only[newExc,newTuple];refine wpAny_bind (wpAny_newObj_type (wpAny_bind (m:=firstArgMember _ _) (wpAny_of_eq (a:=Value.none) (by first | rfl | (simp only[firstArgMember];rfl)) (wpAny_newObj_type ?_ (by size_fits)))) (by size_fits))
  simp only[raiseNew];refine wpAny_bind (wpAny_handled ?_)
  first|rw[show A.in1.handled=none from hh]|rw[hh]
  refine wpAny_bind (wpAny_pure (wpAny_throw ?_));exact hE _ _ (((Heap.SameBut.update ..).extBut.push _).push _) ⟨_,Heap.get?_push_size _ rfl,rfl⟩
end

structure ZA (z TI TO i1 i2:Addr) (p1 p2:List Addr):Prop where
 a1:TI≠z
 a2:TO≠z
 a3:TI≠TO
 m1:i1∈p1
 m2:i2∈p2
 z1:z∉p1
 z2:z∉p2
 t1:TI∉p1
 t2:TI∉p2
 o1:TO∉p1
 o2:TO∉p2
 x1:i1∉p2
 x2:i2∉p1
section
variable{prog:Program}{w:World}{A:Around}{E:Value->Shared->Prop}{s:Shared}{z TI TO i1 i2:Addr}{p1 p2:List Addr}{n1 n2 k:Nat}{P1 P2:Nat->Value->Prop}{S1 S2:Nat->Heap->Prop}
end
end PySem

namespace PySem
def IsSq(b:Bool)(h:Heap)(a:Addr)(xs:Array Value):Prop:=match b with
 | true=>h.IsTuple a xs
 | false=>h.IsList a xs
def IsItr(b:Bool)(h:Heap)(j a:Addr)(i:Nat):Prop:=match b with
 | true=>h.IsTupleIter j a i
 | false=>h.IsListIter j a i
def itO(b:Bool)(a:Addr):Obj:=match b with
 | true=>{ cls:=.type "tuple_iterator",data:=.fields #[.ref a,.int 0 0] }
 | false=>{ cls:=.type "list_iterator",data:=.fields #[.ref a,.int 0 0] }
section
variable{prog:Program}{w:World}{A:Around}{E:Value->Shared->Prop}{s:Shared}{b b1 b2:Bool}{a a1 a2:Addr}{xs ys:Array Value}
theorem IsSq.push{h:Heap}(q:IsSq b h a xs)(o:Obj):IsSq b (h.push o) a xs:=by
 cases b with
 | true=>exact Heap.IsTuple.push q o
 | false=>exact Heap.IsList.push q o
theorem IsSq.lt{h:Heap}(q:IsSq b h a xs):a<h.objs.size:=by
 cases b with
 | true=>obtain⟨o,e,_⟩:=q;exact Heap.lt_size e
 | false=>obtain⟨o,e,_⟩:=q;exact Heap.lt_size e
theorem IsItr.new{h:Heap}(e:h.get? a1=some (itO b a)):IsItr b h a1 a 0:=by
 cases b with
 | true=>exact⟨_,e,rfl,rfl⟩
 | false=>exact⟨_,e,rfl,rfl⟩
end
end PySem

namespace L2
open PySem PySem.Spec PyProof.Rows
section
variable{X:Cx}{pins:List (Addr×Obj)}{σ:St}{H:Hp}{s:Shared}{h':Heap}
noncomputable def Sq(b:Bool)(K:Frag)(H:Hp)(a:Addr)(xs:List V):Prop:=match b with
 | true=>SqT K H a xs
 | false=>SqL K H a xs
theorem Sq.heap{b:Bool}{a:Addr}{xs:List V}(I:Inv X pins σ H s)(q:Sq b X.K H a xs):∃its:List Value,Vals xs its/\IsSq b s.heap a its.toArray:=by
 cases b with
 | true=>obtain⟨its,r,p,_⟩:=I.tuple q;exact⟨its,r,p⟩
 | false=>obtain⟨its,r,p,_⟩:=I.list q;exact⟨its,r,p.isList⟩
theorem Sq.inj{b:Bool}{a:Addr}{xs ys:List V}(I:Inv X pins σ H s)(q:Sq b X.K H a xs)(q':Sq b X.K H a ys):xs=ys:=by
 cases b with
 | true=>exact I.tuple_inj q q'
 | false=>exact I.list_inj q q'
theorem FpOk.off{b:Bool}{a c:Addr}{xs:List V}(I:Inv X pins σ H s)(q:Sq b X.K H a xs)(f:FpOk X pins H c):a≠c:=by
 intro e;subst e;have own:∀{o:HO},H a=some o->False:=fun h=>by rw[f.1] at h;cases h
 have mod:∀{o:Obj},X.K.lookup a=some o->False:=fun {o} h=>by
  have hb:=I.ok.mod.kin a o h;rcases f.2.2.2.1 with z|z
  ·exact I.ok.noex a o hb z
  ·exact absurd (Heap.lt_size hb) (Nat.not_lt.mpr (Nat.le_trans I.ok.bsz z))
 cases b with
 | true =>
  rcases q with (h|⟨o,h⟩)|⟨o,its,n,h,_⟩
  ·exact own h
  ·exact own h
  ·exact mod h
 | false =>
  rcases q with (h|⟨o,h⟩)|⟨o,its,n,h,_⟩
  ·exact own h
  ·exact own h
  ·exact mod h
theorem IsItr.keep{b:Bool}{h h':Heap}{j a:Addr}{i:Nat}(q:IsItr b h j a i)(k:∀o,h.get? j=some o->h'.get? j=some o):IsItr b h' j a i:=by
 cases b with
 | true=>obtain⟨o,e,r⟩:=q;exact⟨o,k o e,r⟩
 | false=>obtain⟨o,e,r⟩:=q;exact⟨o,k o e,r⟩
theorem IsItr.obj{b:Bool}{h:Heap}{j a:Addr}{i:Nat}(q:IsItr b h j a i):∃o,h.get? j=some o/\∀v,o.data≠.cell v:=by
 cases b with
 | true=>obtain⟨o,e,_,d⟩:=q;exact⟨o,e,fun v z=>by rw[d] at z;cases z⟩
 | false=>obtain⟨o,e,_,d⟩:=q;exact⟨o,e,fun v z=>by rw[d] at z;cases z⟩
end
end L2

namespace LE
open PySem L2 LR
section
variable{K:Frag}{C:Addr}{m:Bool}
end
end LE

namespace PySem
namespace F
end F
section
variable{prog:Program}{w:World}{A:Around}{E:Value->Shared->Prop}{s:Shared}{a r:Addr}{xs:Array Value}
end
end PySem
namespace L2
open PySem PySem.Spec PyProof.Rows
end L2
namespace LE
open PySem L2 LR
section
variable{K:Frag}{C:Addr}{m:Bool}
end
end LE

namespace PySem
open AutoSeq1 (wpAny_loadPart')
section
variable{prog:Program}{w:World}{A:Around}{E:Value->Shared->Prop}{s:Shared}{b:Bool}{a e it:Addr}{xs:Array Value}
end
end PySem
namespace L2
open PySem PySem.Spec PyProof.Rows
end L2
namespace LE
open PySem L2 LR
section
variable{K:Frag}{C:Addr}{m:Bool}
end
end LE

namespace L2
open PySem PySem.Spec PyProof.Rows
noncomputable def JjM(ns:List Int):List Int:=ns.mergeSort (fun a b=>decide (a<=b))
section
variable{X:Cx}
end
end L2
namespace LE
open PySem L2 LR
section
variable{K:Frag}{C:Addr}
end
end LE

namespace PySem
namespace F
end F
section
variable{prog:Program}{w:World}{A:Around}{E:Value->Shared->Prop}{s:Shared}{l:Addr}{lo hi:Int}{t u v:Tok}
end
end PySem
namespace L2
open PySem PySem.Spec PyProof.Rows
end L2
namespace LE
open PySem L2 LR
section
variable{K:Frag}{C:Addr}{m:Bool}
end
end LE

namespace PySem
namespace F
end F
structure ZB (z TI TO i1 i2 i3:Addr) (p1 p2 p3:List Addr):Prop where
 a1:TI≠z
 a2:TO≠z
 a3:TI≠TO
 m1:i1∈p1
 m2:i2∈p2
 m3:i3∈p3
 z1:z∉p1
 z2:z∉p2
 z3:z∉p3
 t1:TI∉p1
 t2:TI∉p2
 t3:TI∉p3
 o1:TO∉p1
 o2:TO∉p2
 o3:TO∉p3
 x12:i1∉p2
 x13:i1∉p3
 x21:i2∉p1
 x23:i2∉p3
 x31:i3∉p1
 x32:i3∉p2
section
variable{prog:Program}{w:World}{A:Around}{E:Value->Shared->Prop}{s:Shared}{z TI TO i1 i2 i3:Addr}{p1 p2 p3:List Addr}{n1 n2 n3 k:Nat}{P1 P2 P3:Nat->Value->Prop}{S1 S2 S3:Nat->Heap->Prop}
end
end PySem

namespace PySem
section
variable{prog:Program}{w:World}{A:Around}{E:Value->Shared->Prop}{s:Shared}{b1 b2 b3:Bool}{a1 a2 a3:Addr}{xs ys zs:Array Value}
end
end PySem
namespace L2
open PySem PySem.Spec PyProof.Rows
end L2
namespace LE
open PySem L2 LR
section
variable{K:Frag}{C:Addr}{m:Bool}
end
end LE

namespace L2
open PySem PySem.Spec PyProof.Rows
section
variable{X:Cx}
end
end L2
namespace LE
open PySem L2 LR
section
variable{K:Frag}{C:Addr}
end
end LE

namespace PySem

section
variable{prog:Program}{w:World}{A:Around}{R:Result->Shared->Prop}{I:Addr}{fp wr:List Addr}{n:Nat}{P:Nat->Value->Prop}{St:Nat->Heap->Prop}
end
section
variable{prog:Program}{w:World}{A:Around}{E:Value->Shared->Prop}{s:Shared}{l:Addr}{xs:Array (Int×Tok)}
end

section
variable{prog:Program}{w:World}{A:Around}{R:Result->Shared->Prop}{I:Addr}{fp wr:List Addr}{n:Nat}{P:Nat->Value->Prop}{St:Nat->Heap->Prop}
end
section
variable{prog:Program}{w:World}{A:Around}{E:Value->Shared->Prop}{s:Shared}{l:Addr}{xs:Array (Int×Tok)}
end

end PySem

namespace L2
open PySem PySem.Spec PyProof.Rows

section
variable{X:Cx}
end
section
variable{X:Cx}
end
end L2
namespace LE
open PySem L2 LR

end LE

namespace LE
open PySem L2 LR

noncomputable def look{α:Type}:List Int->List α->Int->Option α
 | k::ks,d::ds,n=>if k=n then some d else look ks ds n
 | _,_,_=>none
section
variable{K:Frag}{C:Addr}{Hs H0 H:Hp}
theorem RDL.look:∀{ks:List Int} {xs:List V} {ds:List D} {n:Int},RDL K C H xs ds->(LE.look ks xs n=none/\LE.look ks ds n=none)\/∃x d,LE.look ks xs n=some x/\LE.look ks ds n=some d/\RD K C H x d
 | [],_,_,_,_=>.inl ⟨rfl,rfl⟩
 | _::_,[],[],_,_=>.inl ⟨rfl,rfl⟩
 | _::_,[],_::_,_,h=>by have:=h.1;simp at this
 | _::_,_::_,[],_,h=>by have:=h.1;simp at this
 | k::ks,x::xs,d::ds,n,h=>by
  simp only[LE.look]
  by_cases e:k=n
  ·rw[if_pos e,if_pos e];exact .inr ⟨x,d,rfl,rfl,h.head⟩
  ·rw[if_neg e,if_neg e];exact RDL.look h.tail
end
noncomputable def Sl.dk:Sl->Option (List Int×List D)
 | .sh (.dct ks ds)=>some (ks,ds)
 | .sh (.dfz ks ds)=>some (ks,ds)
 | .bd ks ds=>some (ks,ds)
 | .od ks ds=>some (ks,ds)
 | _=>none
noncomputable def int?:Sl->Option Int
 | .sh (.int i)=>some i
 | _=>none
section
variable{K:Frag}{C:Addr}{Hs H0 H:Hp}{td ty tx te:TE}{ed ek ex ea:Ev}
theorem Jaj{s:Sl}{n:Int}(e:int? s=some n):s=.sh (.int n):=by
 cases s with
 | sh d=>cases d with
  | int i=>cases e;rfl
  | _=>cases e
 | _=>cases e
theorem RR.dk{v:V}{s:Sl}{p:List Int×List D}(r:RR K C Hs H0 H v s)(i:Same H0 H)(e:s.dk=some p):∃l xs,v=.ref l/\Rd H l (dkO p.1 xs)/\p.1.length=p.2.length/\RDL K C H0 xs p.2:=by
 cases s with
 | bd ks ds=>cases e;obtain⟨l,xs,h1,h2,h3⟩:=r;exact⟨l,xs,h1,.inl h2,h3⟩
 | od ks ds=>cases e;obtain⟨l,xs,h1,h2,_,_,h3⟩:=r;exact⟨l,xs,h1,.inl h2,h3⟩
 | bt _ _=>cases e
 | ot _ _=>cases e
 | sh d=>cases d with
  | dct ks ds=>cases e;obtain⟨l,xs,h1,h2,h3⟩:=RD.dctI r;exact⟨l,xs,h1,.inl (i _ _ h2),h3⟩
  | dfz ks ds=>cases e;obtain⟨l,xs,o,h1,h2,h3⟩:=RD.dfzI r;exact⟨l,xs,h1,.inr ⟨o,i _ _ h2⟩,h3⟩
  | _=>cases e
 | _=>cases e
end

section
variable{K:Frag}{C:Addr}{H:Hp}
theorem RDL.rep{xs:List V}{ds:List D}(r:RDL K C H xs ds):∀k:Nat,RDL K C H (List.replicate k xs).flatten (List.replicate k ds).flatten
 | 0=>.nil
 | k+1=>by rw[List.replicate_succ,List.replicate_succ,List.flatten_cons,List.flatten_cons];exact r.append (RDL.rep r k)
end
end LE

namespace L2
open PySem PySem.Spec PyProof.Rows
theorem KV.get{κ:Type}:∀{kvs:List (κ×V)} {vs:List (κ×Value)} {i:Nat} {p:κ×V},KV kvs vs->kvs[i]?=some p->∃u,vs[i]?=some (p.1,u)/\RelV p.2 u
 | _,_,0,p,.cons h _,e=>by simp at e;subst e;obtain⟨h1,h2⟩:=h;rename_i q _ _;exact⟨_,by simp;exact Prod.ext h1.symm rfl,h2⟩
 | _,_,i+1,p,.cons _ t,e=>by obtain⟨u,h1,h2⟩:=KV.get (i:=i) t (by simpa using e);exact⟨u,by simpa using h1,h2⟩
 | _,_,_,_,.nil,e=>by simp at e
end L2
namespace LE
open PySem L2 LR
noncomputable def Ji6:List Int->List D->List D:=List.zipWith fun k d=>.tup [.int k,d]
section
variable{K:Frag}{C:Addr}{m:Bool}{t:TS}{et:Es}{td:TE}{ed:Ev}
end
end LE

namespace L2
open PySem PySem.Spec PyProof.Rows
noncomputable def Zp(p a:Addr):HO:=.ext fun h=>KdlKeysView h p a
section
variable{prog:Program}{w:World}{A:Around}{E:Value->Shared->Prop}{s:Shared}{T:String}{r d:Addr}{n:Nat}{P:Nat->Value->Prop}{OK:Heap->Prop}
theorem Jab{R:List Value->Shared->Prop}(K:PySem.W.KdlSrc prog w T r d n P OK)(hh:A.handled=none)(hok:OK s.heap)(hn:n<=sizeLine)
 (h:∀(h':Heap) (tk:Nat) (acc:Array Value),(∀b o,s.heap.get? b=some o->h'.get? b=some o)->s.heap.objs.size<h'.objs.size->ItemsOf P acc n->R acc.toList { s with heap:=h',toks:=tk }):wpAny (model prog w) A (collect (.ref r)) R E s:=by
 obtain⟨k1,k2⟩:=K.there _ hok;have old:∀b o,s.heap.get? b=some o->(s.heap.push { cls:=.type "list",data:=.seq ([]:List Value).toArray }).get? b=some o:=fun b o e=>Heap.get?_push_of_some _ e
 unfold collect;refine wpAny_bind (wpAny_runValue (codeAny_builtin entry_proto_collect' ?_));rw[Around.under_plainId PySem.F.plain_proto_collect _];show wpAny _ A.in1 (newList [] >>= fun l=>again (.builtin "list.__iadd__" ⟨[l,.ref r],[]⟩)) _ _ s;refine wpAny_bind (wpAny_newObj_type (wpAny_pure ⟨plainId_quiet PySem.F.plain_list_iadd _,codeAny_builtin entry_list_iadd' ?_⟩));rw[Around.under_plainId PySem.F.plain_list_iadd _];have at0:(s.heap.push { cls:=.type "list",data:=.seq ([]:List Value).toArray }).get? s.heap.objs.size=some { cls:=.type "list",data:=.seq #[] }:=Heap.get?_push_size _ rfl
 have fin:∀(h':Heap) (tk:Nat) (acc:Array Value) (c:Nat),(∀b o,s.heap.get? b=some o->h'.get? b=some o)->h'.get? s.heap.objs.size=some { cls:=.type "list",dict:=none,data:=.seq acc c,slots:=#[] }->ItemsOf P acc n ->
  wpAny (model prog w) A (load s.heap.objs.size >>= fun o=>match o.data with | .seq xs _=>pure xs.toList | _=>unsupported "internal:collect") R E { s with heap:=h',toks:=tk }:=fun h' tk acc c hk hS hi=>wpAny_bind (wpAny_load hS (wpAny_pure (h h' tk acc hk (Heap.lt_size hS) hi)))
 have got:=PySem.W.kdl_extend (A:=A) (s:={ s with heap:=s.heap.push { cls:=.type "list",data:=.seq ([]:List Value).toArray } }) (R:=fun q s'=>∃h' tk acc c,q=.ok (.ret (.ref s.heap.objs.size))/\s'={ s with heap:=h',toks:=tk }/\(∀b o,s.heap.get? b=some o->h'.get? b=some o)/\h'.get? s.heap.objs.size=some { cls:=.type "list",dict:=none,data:=.seq acc c,slots:=#[] }/\ItemsOf P acc n) K hh (K.keep _ _ hok fun b _ o e=>old b o e) s.heap.objs.size (Nat.ne_of_gt k1) (Nat.ne_of_gt k2) (.ref s.heap.objs.size) 0 at0 (fun h' tk acc c hk hS hi=>⟨h',tk,acc,c,rfl,rfl,fun b o e=>hk b o (Nat.ne_of_lt (Heap.lt_size e)) (old b o e),hS,hi⟩) hn
 refine wpAny_mono got (fun f s' x=>?_) fun e s' ⟨_,_,_,_,z,_⟩=>nomatch z
 cases f with
 | done f=>obtain⟨h',tk,acc,c,e,rfl,hk,hS,hi⟩:=x;cases e;exact fin h' tk acc c hk hS hi
 | again c1=>exact⟨x.1,codeAny_mono x.2 fun q s2 ⟨h',tk,acc,c,e1,e2,hk,hS,hi⟩=>by subst e1;subst e2;exact fin h' tk acc c hk hS hi⟩
end
end L2
namespace LE
open PySem L2 LR
section
variable{K:Frag}{C:Addr}{td:TE}{ed:Ev}
theorem Rd.put{H:Hp}{l p:Addr}{o u:HO}(h:Rd H l o)(hp:H p=none):Rd (upd H p u) l o:=by
 rcases h with h|⟨ob,h⟩
 ·exact .inl (by rw[Jo (JA h hp)];exact h)
 ·exact .inr ⟨ob,by rw[Jo (JA h hp)];exact h⟩
end
end LE

namespace L2
open PySem PySem.Spec PyProof.Rows
theorem Inv.more{X:Cx}{pins:List (Addr×Obj)}{σ:St}{H H':Hp}{s:Shared}{h':Heap}{t':Nat}(I:Inv X pins σ H s)(k:∀b u,s.heap.get? b=some u->h'.get? b=some u)(hx:∀b,b<s.heap.objs.size->H' b=H b)
 (new:∀b o,s.heap.objs.size<=b->H' b=some o->ObjOk X.prog X.w H' h' b o):Inv X pins σ H' { s with heap:=h',toks:=t' }:=by
 have old:∀b o,H b=some o->H' b=some o:=fun b o e=>by rw[hx b (I.hok.lt e)];exact e
 refine I.un ⟨fun b u q _ _ _=>k b u q,fun b u q _ _ _=>⟨u.slots,k b u q⟩,fun b u q n _=>by rw[hx b (Heap.lt_size q)];exact n,fun b u q _=>⟨u,k b u q⟩,fun b xs q=>old b _ q,fun b u xs q=>old b _ q,fun b ps q=>⟨#[],by rw[old b _ q];simp⟩⟩ fun b o e=>?_
 rcases Nat.lt_or_ge b s.heap.objs.size with z|z
 ·rw[hx b z] at e;exact(I.hok b o e).stay (fun c u _ q=>k c u q) (fun c q=>old c _ q) fun c xs q=>old c _ q
 ·exact new b o z e
end L2
namespace LE
open PySem L2 LR
section
variable{K:Frag}{C:Addr}{td:TE}{ed:Ev}
theorem RDL.items:∀{ks:List Int} {xs:List V} {ds:List D} {as:List Addr} {H:Hp},ks.length=ds.length->as.length=ks.length->(∀(j:Nat) (a:Addr) (k:Int) (x:V),as[j]?=some a->ks[j]?=some k->xs[j]?=some x->H a=some (.tup [.int k,x]))->RDL K C H xs ds->RDL K C H (as.map V.ref) (Ji6 ks ds)
 | [],[],[],[],_,_,_,_,_=>.nil
 | [],_,_,a::as,_,_,h,_,_=>by simp at h
 | [],_,d::ds,_,_,h,_,_,_=>by simp at h
 | k::ks,_,[],_,_,h,_,_,_=>by simp at h
 | k::ks,_,_,[],_,_,h,_,_=>by simp at h
 | [],x::xs,[],[],_,_,_,_,h=>by have:=h.1;simp at this
 | k::ks,[],d::ds,a::as,_,_,_,_,h=>by have:=h.1;simp at this
 | k::ks,x::xs,d::ds,a::as,H,h1,h2,h3,h4=>by show RDL K C H (V.ref a::as.map V.ref) (.tup [.int k,d]::Ji6 ks ds);refine .cons (.mkT (.of (h3 0 a k x rfl rfl rfl)) (.cons (.int k) (.cons h4.head .nil))) (RDL.items (by simpa using h1) (by simpa using h2) (fun j a k x e1 e2 e3=>h3 (j+1) a k x (by simpa using e1) (by simpa using e2) (by simpa using e3)) h4.tail)
end
end LE

namespace L2
open PySem PySem.Spec PyProof.Rows
noncomputable def wo:List Addr->Heap->Heap
 | [],h=>h
 | a::l,h=>(wo l h).update a fun _=>{ cls:=.none,data:=.freed }
theorem JcH(h:Heap)(a:Addr):(h.update a fun _=>{ cls:=.none,data:=.freed }).get? a=none:=by
 cases q:(h.update a fun _=>({ cls:=.none,data:=.freed }:Obj)).get? a with
 | none=>rfl
 | some o =>
  obtain⟨e,f⟩:=Heap.get?_some_iff.mp q;obtain⟨os,l⟩:=h;simp only[Heap.update,Array.getElem?_modify,if_true] at e
  cases z:os[a]? with
  | none=>rw[z] at e;cases e
  | some u=>rw[z] at e;cases e;cases f
theorem JbR{h:Heap}{b:Addr}:∀{l:List Addr},b∈l->(wo l h).get? b=none
 | [],hb=>nomatch hb
 | a::l,hb=>by
  unfold wo
  by_cases e:a=b
  ·subst e;exact JcH _ _
  ·rw[Heap.get?_update_other _ _ e];exact JbR ((List.mem_cons.mp hb).resolve_left (Ne.symm e))
theorem ZY{h:Heap}{b:Addr}:∀{l:List Addr},b∉l->(wo l h).get? b=h.get? b
 | [],_=>rfl
 | a::l,hb=>by unfold wo;rw[Heap.get?_update_other _ _ (fun e=>hb (by rw[e];exact List.mem_cons_self))];exact ZY fun z=>hb (List.mem_cons_of_mem _ z)
theorem Jbv{h base base':Heap}:∀{l:List Env},h.FunFrames base l->(∀b∈frs l,base'.get? b=none)->h.FunFrames base' l
 | [],_,_=>trivial
 | env::l,⟨hk,⟨L,o,hf,hn,ho,hd⟩,hr⟩,n=>by
  have e:frs (env::l)=L::frs l:=by unfold frs;rw[List.filterMap_cons,hf]
  rw[e] at n;exact⟨hk,⟨L,o,hf,n L List.mem_cons_self,ho,hd⟩,Jbv hr fun b hb=>n b (List.mem_cons_of_mem _ hb)⟩
theorem ZE{h base:Heap}{l:List Env}(x:h.FunFrames base l){b:Addr}(hb:b∈frs l):base.get? b=none/\∃o,h.get? b=some o/\∀vs,o.data≠.fields vs:=x.mem hb
theorem ObjOk.there{P:Program}{w:World}{H:Hp}{h:Heap}{a:Addr}{o:HO}(x:ObjOk P w H h a o):∃u,h.get? a=some u:=by
 cases o with
 | lst xs=>obtain⟨_,_,_,_,e⟩:=x;exact⟨_,e⟩
 | tup xs=>obtain⟨_,_,_,p⟩:=x;obtain⟨o,e,_⟩:=p;exact⟨_,e⟩
 | dK kvs=>obtain⟨_,_,_,_,o,_,_,e,_⟩:=x;exact⟨_,e⟩
 | dT kvs=>obtain⟨_,_,_,_,o,_,_,e,_⟩:=x;exact⟨_,e⟩
 | set S n=>obtain⟨o,_,_,_,e,_⟩:=x;exact⟨_,e⟩
 | ins C dx fs=>obtain⟨_,_,_,e,_⟩:=x;exact⟨_,e⟩
 | own y=>obtain⟨_,e⟩:=x;exact⟨_,e⟩
 | xd fs=>obtain⟨_,⟨_,_,_,e,_⟩,_⟩:=x;exact⟨_,e⟩
 | rng lo hi=>obtain⟨_,_,_,e⟩:=x;exact⟨_,e⟩
 | frz ob u=>obtain⟨e,_⟩:=x;exact⟨_,e⟩
 | tbl ps=>exact⟨_,(show h.get? a=some _ from x)⟩
 | met f y=>exact⟨_,(show h.get? a=some _ from x)⟩
 | ext φ=>obtain⟨_,⟨_,e⟩,_⟩:=x;exact⟨_,e⟩

noncomputable def TrD(h base:Heap)(e:Addr)(cls:Value)(dct:Option Addr)(fl:Value):Prop :=
 ∃oe vs T oT ts,h.get? e=some oe/\(oe.cls=cls/\oe.dict=dct)/\oe.data=.fields vs/\vs[1]?=some (.ref T)/\base.get? T=none/\T≠e/\h.get? T=some oT/\oT.data=.fields ts/\ts[3]?=some fl
noncomputable def Fl(base:Heap)(l:List Env)(e:Addr)(cls:Value)(h:Heap):Prop :=
 base.StaysIn h/\base.get? e=none/\h.FunFrames base l/\(TrD h base e cls none .none\/∃oe vs,h.get? e=some oe/\(oe.cls=cls/\oe.dict=none)/\oe.data=.fields vs/\vs[1]?=some .none)
noncomputable def Cov(fs:List Addr)(H':Hp)(h h' base:Heap):Prop:=∀b o,(H' b≠none\/∃u,h.get? b=some u)->b∉fs->h'.get? b=some o->base.get? b=some o
structure XF (P:Program) (w:World) (l:List Env) (H:Hp) (h:Heap) (a:Addr) (cls:Value) (H':Hp) (base h':Heap):Prop where
 un:Un (frs l) [] H H' h h'
 hok:HOk P w H' h'
 fl:Fl base l a cls h'
 cov:Cov (frs l) H' h h' base
 free:H' a=none
 new:h.get? a=none
noncomputable def CX1(P:Program)(w:World):CXT:=fun l H s E e s'=>∃(a:Addr) (cls:Value) (H':Hp) (base:Heap),e=.ref a/\s'.os=s.os/\AllBare s'.gens/\XF P w l H s.heap a cls H' base s'.heap/\E cls (some a) H'
section
variable{P:Program}{w:World}{l:List Env}{H H':Hp}{h h1 h2 base base0:Heap}{a:Addr}{cls:Value}
theorem XF.on(x:XF P w l H h a cls H' base h1)(hf:h.FunFrames base0 l)(hn:∀b∈frs l,H b=none)(k:base.StaysIn h2)(us:h1.UpToSlots h2)(fl:Fl base l a cls h2):XF P w l H h a cls H' base h2:=by
 have ff:∀b∈frs l,∃o,h1.get? b=some o/\∀vs,o.data≠.fields vs:=fun b hb=>(ZE x.fl.2.2.1 hb).2
 have nfr:∀b u,H' b=some u->b∉frs l:=fun b u e hb=>by obtain⟨_,o,ho,_⟩:=ZE hf hb;rw[x.un.free b o ho (hn b hb) (by simp)] at e;cases e
 refine⟨⟨fun b o q n hb hx=>?_,fun b o q n hb hx=>?_,x.un.free,fun b o q hx=>?_,x.un.tups,x.un.frzs,x.un.tbls⟩,fun b u e=>?_,fl,fun b o hb hfr q=>?_,x.free,x.new⟩
 ·exact k b o (x.cov b o (.inr ⟨_,q⟩) hb (x.un.keep b o q n hb hx))
 ·obtain⟨sl,e1⟩:=x.un.slot b o q n hb hx;obtain⟨o',e2,nf⟩:=ff b hb;rw[e1] at e2;cases e2;obtain⟨sl',e3⟩:=us b _ e1 nf;exact⟨sl',e3⟩
 ·obtain⟨o',e1⟩:=x.un.there b o q hx
  by_cases hb:b∈frs l
  ·obtain⟨o2,e2,nf⟩:=ff b hb;obtain⟨sl',e3⟩:=us b _ e2 nf;exact⟨_,e3⟩
  ·exact⟨o',k b o' (x.cov b o' (.inr ⟨_,q⟩) hb e1)⟩
 ·refine(x.hok b u e).stay (fun c v hc q=>?_) (fun _ z=>z) fun _ _ z=>z
  have tr:∃u',H' c=some u':=by
   rcases hc with rfl|hc
   ·exact⟨_,e⟩
   ·exact⟨_,hc⟩
  obtain⟨u',e'⟩:=tr;exact k c v (x.cov c v (.inl (by rw[e'];intro z;cases z)) (nfr c u' e') q)
 ·have ex:∃o',h1.get? b=some o':=by
   rcases hb with hb|⟨u,hb⟩
   ·cases e:H' b with
    | none=>exact absurd e hb
    | some u=>exact(x.hok b u e).there
   ·exact x.un.there b u hb (by simp)
  obtain⟨o',e1⟩:=ex;have e2:=x.cov b o' hb hfr e1;have e3:=k b o' e2;rw[q] at e3;cases e3;exact e2
end
theorem Jfj(o:Obj)(f:Array Value->Array Value):(o.mapFields f).dict=o.dict:=by obtain⟨c,d,dt,sl⟩:=o;cases dt <;> rfl
section
variable{M:Model}{A:Around}{E:Value->Shared->Prop}{s:Shared}{base:Heap}{env:Env}{outer l:List Env}{L e:Addr}{cls fl:Value}{dct:Option Addr}{Q:Unit->Shared->Prop}
theorem Jc6{oe:Obj}{vs:Array Value}{head:Value}{had:Bool}(hfr:A.frames=some (env::outer))(hl:s.heap.FunFrames base (env::outer))(hf:env.frame=some L)
 (he:s.heap.get? e=some oe) (hkb:base.StaysIn s.heap) (hen:base.get? e=none) (hd:oe.data=.fields vs) (hsz:1<vs.size)
 (h:∀h',base.StaysIn h'->h'.FunFrames base (env::outer)->TrD h' base e oe.cls oe.dict (rawInt L)->s.heap.UpToSlots h'->Q () { s with heap:=h' }) :
 wpAny M A (do let a <- frameOf env;let pl <- entryPlaceOf L had;let b <- EntryCells.newEntry head a .none (rawInt L) .none pl;setField (.ref e) 1 b) Q E s:=by
 refine wpAny_bind (wpAny_frameOf_fun hfr hl hf fun h₁ hs₁=>wpAny_bind (wpAny_entryPlaceOf fun pl hpl=>?_));unfold EntryCells.newEntry newFields;refine wpAny_bind (wpAny_newObj_type ?_ (hpl.sizeOk5 _ _ _ _ _))
 have ne:e∉(env::outer).filterMap (·.frame):=fun hm=>by obtain⟨_,o,ho,nf⟩:=hl.mem hm;rw[he] at ho;cases ho;exact nf vs hd
 have e1:h₁.get? e=some oe:=(hs₁.2.1 e ne).trans he
 have b1:base.StaysIn h₁:=fun b o hb=>(hs₁.2.1 b fun hm=>by rw[(hl.mem hm).1] at hb;cases hb).trans (hkb b o hb)
 generalize hot:({ cls:=.type "traceback",dict:=none,data:=.fields ([head,.ref L,.none,rawInt L,.none]++(if pl.isEmpty then List.replicate 6 Value.none else pl)).toArray }:Obj)=ot
 have hotd:ot.data=.fields ([head,.ref L,.none,rawInt L,.none]++(if pl.isEmpty then List.replicate 6 Value.none else pl)).toArray:=by rw[<- hot]
 have hotf:ot.isFreed=false:=by rw[<- hot];rfl
 have e2:=Heap.get?_push_of_some (h:=h₁) ot e1;refine wpAny_setField e2 hd hsz ?_
 have d3:=Obj.data_mapFields hd (·.setIfInBounds 1 (Value.ref h₁.objs.size))
 have e3:=Heap.get?_update_self (Obj.mapFields (·.setIfInBounds 1 (Value.ref h₁.objs.size))) e2 (Obj.isFreed_of_fields d3)
 have tne:h₁.objs.size≠e:=Nat.ne_of_gt (Heap.lt_size e1)
 have t3:=(Heap.get?_update_other (h₁.push ot) (Obj.mapFields (·.setIfInBounds 1 (Value.ref h₁.objs.size))) (Ne.symm tne)).trans (Heap.get?_push_size h₁ hotf)
 have keep:∀b o,b≠e->h₁.get? b=some o->((h₁.push ot).update e (Obj.mapFields (·.setIfInBounds 1 (Value.ref h₁.objs.size)))).get? b=some o:=fun b o hb q=>by rw[Heap.get?_update_other _ _ (Ne.symm hb)];exact Heap.get?_push_of_some _ q
 have nrec:∀b o,s.heap.get? b=some o->(∀ws,o.data≠.fields ws)->b≠e:=fun b o hb nf z=>by rw[z,he] at hb;cases hb;exact nf vs hd
 refine h _ (fun b o hb=>keep b o (fun z=>by rw[z,hen] at hb;cases hb) (b1 b o hb)) (hl.of_keeps fun b o hb nf=>?_) ⟨_,_,h₁.objs.size,_,_,e3,⟨Obj.cls_mapFields _ _,Jfj _ _⟩,d3,by simp[hsz],b1.fresh,tne,t3,hotd,by first|(simp;done)|(rcases hpl with rfl|⟨_,_,_,_,_,_,_,rfl⟩ <;> simp)⟩ fun b o hb nf=>?_
 ·obtain⟨sl,hs⟩:=hs₁.2.2 b o hb;exact⟨_,keep b _ (nrec b o hb nf) hs,rfl⟩
 ·obtain⟨sl,hs⟩:=hs₁.2.2 b o hb;exact⟨sl,keep b _ (nrec b o hb nf) hs⟩
theorem ZF(hkb:base.StaysIn s.heap)(hl:s.heap.FunFrames base l)(ht:TrD s.heap base e cls dct fl)
 (h:∀h',base.StaysIn h'->h'.FunFrames base l->TrD h' base e cls dct .none->s.heap.UpToSlots h'->Q () { s with heap:=h' }):wpAny M A (setFlight (.ref e) none) Q E s:=by
 obtain⟨oe,vs,T,oT,ts,he,hc,hd,h1,nT,hTe,hT,dT,h3⟩:=ht;have sz:3<ts.size:=(Array.getElem?_eq_some_iff.mp h3).1;unfold setFlight;refine wpAny_bind (wpAny_field he hd h1 ?_);rw[if_pos (show(Value.ref T != Value.none)=true from by simp)];have other:∀b,b≠T->(s.heap.update T (Obj.mapFields (·.setIfInBounds 3 ((none:Option Addr).elim Value.none fun f=>rawInt f)))).get? b=s.heap.get? b:=fun b hb=>Heap.get?_update_other _ _ (Ne.symm hb)
 have nrec:∀b o,s.heap.get? b=some o->(∀ws,o.data≠.fields ws)->b≠T:=fun b o hb nf z=>by rw[z,hT] at hb;cases hb;exact nf ts dT
 refine wpAny_setField hT dT sz (h _ (fun b o hb=>(other b fun z=>by rw[z,nT] at hb;cases hb).trans (hkb b o hb)) (hl.of_keeps fun b o hb nf=>⟨o,(other b (nrec b o hb nf)).trans hb,rfl⟩) ?_ fun b o hb nf=>⟨o.slots,(other b (nrec b o hb nf)).trans hb⟩);exact⟨oe,vs,T,_,_,(other e (Ne.symm hTe)).trans he,hc,hd,h1,nT,hTe,Heap.get?_update_self _ hT (Obj.isFreed_of_fields (Obj.data_mapFields dT _)),Obj.data_mapFields dT _,by simp[sz]⟩
theorem Jbw(hfr:A.frames=some (env::outer))(hf:env.frame=some L)(x:Fl base (env::outer) e cls s.heap)
 (hQ:∀h',base.StaysIn h'->h'.FunFrames base (env::outer)->TrD h' base e cls none (rawInt L)->s.heap.UpToSlots h'->Q () { s with heap:=h' }):wpAny M A (noteFrame (.ref e) env) Q E s:=by
 obtain⟨k1,k2,k3,tr|⟨oe,vs,he,hc,hd,h1⟩⟩:=x
 ·obtain⟨oe,vs,T,oT,ts,he,hc,hd,h1,nT,hTe,hT,dT,h3⟩:=tr;unfold noteFrame;simp only[hf];refine wpAny_bind (wpAny_field he hd h1 ?_);rw[if_pos (show(Value.ref T != Value.none)=true from by simp)];refine wpAny_bind (wpAny_field hT dT h3 ?_);rw[if_neg (show ¬((Value.none == rawInt L)=true) from by simp[rawInt])];refine wpAny_bind (wpAny_setField hT dT (Array.getElem?_eq_some_iff.mp h3).1 ?_);have other:∀b,b≠T->(s.heap.update T (Obj.mapFields (·.setIfInBounds 3 Value.none))).get? b=s.heap.get? b:=fun b hb=>Heap.get?_update_other _ _ (Ne.symm hb)
  have nrec:∀b o,s.heap.get? b=some o->(∀ws,o.data≠.fields ws)->b≠T:=fun b o hb nf z=>by rw[z,hT] at hb;cases hb;exact nf ts dT
  refine Jc6 hfr (k3.of_keeps fun b o hb nf=>⟨o,(other b (nrec b o hb nf)).trans hb,rfl⟩) hf ((other e (Ne.symm hTe)).trans he)
   (fun b o hb=>(other b fun z=>by rw[z,nT] at hb;cases hb).trans (k1 b o hb)) k2 hd (Array.getElem?_eq_some_iff.mp h1).1 fun h' x1 x2 x3 x4=>?_
  rw[hc.1,hc.2] at x3;exact hQ h' x1 x2 x3 fun b o hb nf=>x4 b o ((other b (nrec b o hb nf)).trans hb) nf
 ·unfold noteFrame;simp only[hf];refine wpAny_bind (wpAny_field he hd h1 ?_);rw[if_neg (by decide)];refine Jc6 hfr k3 hf he k1 k2 hd (Array.getElem?_eq_some_iff.mp h1).1 fun h' x1 x2 x3 x4=>?_
  rw[hc.1,hc.2] at x3;exact hQ h' x1 x2 x3 x4
theorem Jdg(hfr:A.frames=some (env::outer))(hf:env.frame=some L)(x:Fl base (env::outer) e cls s.heap)
 (hQ:∀h',Fl base (env::outer) e cls h'->Fl base outer e cls h'->s.heap.UpToSlots h'->Q () { s with heap:=h' }):wpAny M A (leaving env (.ref e)) Q E s:=by
 have k2:=x.2.1;unfold leaving;refine wpAny_bind (Jbw hfr hf x fun h1 x1 x2 x3 x4=>?_);refine ZF (s:={ s with heap:=h1 }) x1 x2 x3 fun h2 y1 y2 y3 y4=>?_
 exact hQ h2 ⟨y1,k2,y2,.inl y3⟩ ⟨y1,k2,y2.2.2,.inl y3⟩ (x4.trans y4)
end

noncomputable def XP(X:Cx)(pins:List (Addr×Obj))(σ:St)(E:XK)(e:Value)(s':Shared):Prop:=∃H s,Inv X pins σ H s/\CX1 X.prog X.w X.stack H s E e s'
section
variable{X:Cx}{pins:List (Addr×Obj)}{σ:St}{H H':Hp}{s s':Shared}{base:Heap}{a:Addr}{cls:Value}{E:XK}{e:Value}
theorem Inv.fly(I:Inv X pins σ H s)(ho:s'.os=s.os)(hg:AllBare s'.gens)(x:XF X.prog X.w X.stack H s.heap a cls H' base s'.heap):Inv X pins σ H' s':=I.call' ho x.un x.hok hg fun b hb=>nomatch hb
theorem XP.made{args:List Value}{h':Heap}{ea:Addr}(I:Inv X pins σ H s)(m:Heap.MadeExcOf s.heap h' ea cls args)(q:E cls (some ea) H):XP X pins σ E (.ref ea) { s with heap:=h' }:=by
 have nf:∀b∈frs X.stack,∃o,s.heap.get? b=some o:=fun b hb=>by obtain⟨_,o,ho,_⟩:=ZE I.stack hb;exact⟨o,ho⟩
 obtain⟨t,ht,_,_⟩:=m.there;refine⟨H,s,I,ea,cls,H,wo (frs X.stack) s.heap,rfl,rfl,I.bare,⟨⟨fun b o q _ _ _=>m.keeps b o q,fun b o q _ _ _=>⟨o.slots,m.keeps b o q⟩,fun _ _ _ n _=>n,fun b o q _=>⟨o,m.keeps b o q⟩,fun _ _ z=>z,fun _ _ _ z=>z,fun b ps z=>⟨#[],by rw[z];simp⟩⟩,I.hok.kept m.keeps,⟨fun b o q=>?_,?_,?_,.inr ⟨_,_,ht,⟨rfl,rfl⟩,rfl,rfl⟩⟩,fun b o hb hfr q=>?_,?_,m.new⟩,q⟩
 ·by_cases hb:b∈frs X.stack
  ·rw[JbR hb] at q;cases q
  ·rw[ZY hb] at q;exact m.keeps b o q
 ·by_cases hb:ea∈frs X.stack
  ·exact JbR hb
  ·rw[ZY hb];exact m.new
 ·exact(Jbv I.stack fun b hb=>JbR hb).of_keeps fun b o q _=>⟨o,m.keeps b o q,rfl⟩
 ·rw[ZY hfr]
  have ex:∃u,s.heap.get? b=some u:=by
   rcases hb with hb|hb
   ·cases e:H b with
    | none=>exact absurd e hb
    | some u=>exact(I.hok b u e).there
   ·exact hb
  obtain⟨u,hu⟩:=ex;have:=m.keeps b u hu;have q':h'.get? b=some o:=q;rw[q'] at this;cases this;exact hu
 ·cases e:H ea with
  | none=>rfl
  | some u=>obtain⟨o,ho⟩:=(I.hok ea u e).there;rw[m.new] at ho;cases ho
theorem XP.leave{M:Model}{E':Value->Shared->Prop}{A:Around}(hA:A.frames=some X.stack)(hs:X.stack=X.env::X.outer)(hf:X.env.frame=some X.env.locals)(hx:X.ex=[])(x:XP X pins σ E e s') :
 wpAny M A (leaving X.env e) (fun _ s''=>CX1 X.prog X.w X.outer X.H₀ X.s₀ E e s'') E' s':=by
 obtain⟨H,s,I,a,cls,H',base,rfl,ho,hg,xf,q⟩:=x;have fl:=xf.fl;rw[hs] at fl hA;refine Jdg hA hf fl fun h' f1 f2 us=>?_
 have y:=xf.on I.stack I.stkFree f1.1 us (by rw[hs];exact f1)
 have J:Inv X pins σ H' { s' with heap:=h' }:=I.fly ho hg y
 have hfs:frs X.stack=X.env.locals::frs X.outer:=by rw[hs];unfold frs;rw[List.filterMap_cons,hf]
 have nl:∀b o,X.s₀.heap.get? b=some o->b≠X.env.locals:=fun b o q z=>by have h1:=Heap.lt_size q;rw[z] at h1;exact absurd h1 (Nat.not_lt.mpr I.ok.above)
 refine⟨a,cls,H',base,rfl,J.os,hg,⟨?_,J.hok,f2,fun b o hb hfr q=>?_,y.free,?_⟩,q⟩
 ·have:=J.base;rw[hx] at this;exact this
 ·refine y.cov b o ?_ ?_ q
  ·rcases hb with hb|⟨u,hb⟩
   ·exact .inl hb
   ·exact .inr (I.base.there b u hb (by rw[hx];simp))
  ·rw[hfs];intro z;rcases List.mem_cons.mp z with z|z
   ·rcases hb with hb|⟨u,hb⟩
    ·rw[z] at hb;exact hb J.free
    ·exact nl b u hb z
   ·exact hfr z
 ·cases z:X.s₀.heap.get? a with
  | none=>rfl
  | some u=>obtain⟨o,e⟩:=I.base.there a u z (by rw[hx];simp);rw[y.new] at e;cases e
end
end L2

namespace L2
open PySem PySem.Spec PyProof.Rows PySem.Calls
abbrev VEm:List Value:=[.type "ValueError",.type "Exception",.type "BaseException",.type "object"]
section
variable{P:Program}{w:World}{K:Frag}{mg:Str->Option Value}{base:Heap}{N:List Str}{qual:Str}{scope:Scope}{f:Addr}{cd:Value}{A:Around}{outer:List Env}{s:Shared}{H:Hp}{E:XK}
noncomputable def XOk(X:Cx)(E:XK):Prop:=∀(pins:List (Addr×Obj)) (σ:St) (e:Value) (s':Shared),XP X pins σ E e s'->X.xe e s'
theorem xok_cx:XOk (Wd (CX1 P w) P w K mg base N qual scope f cd A outer s H E) E:=fun pins σ e s' x=>by
 have hA:(A.deeper (envOfC qual scope s.heap.objs.size f cd)).frames=some (Wd (CX1 P w) P w K mg base N qual scope f cd A outer s H E).stack:=by obtain⟨H1,s1,I,_⟩:=x;exact I.ok.frames
 exact XP.leave hA rfl rfl rfl x
theorem XOk.passes{X:Cx}{E:XK}(h:XOk X E):Vw (CX1 X.prog X.w) X E:=fun pins σ H s e s' I cx=>h pins σ e s' ⟨H,s,I,cx⟩
noncomputable def EF:XK:=fun _ _ _=>False
theorem Jjm{X:Cx}:Vw (CX1 X.prog X.w) X EF:=fun _ _ _ _ _ _ _ ⟨_,_,_,_,_,_,_,_,q⟩=>q.elim
theorem Fun.okX{x qual:Str}{st:Stmt}{f:Addr}{fd:FuncData}{N ps:List Str}{k:Nat}{sp:Sp}(F:Fun K x qual st f fd)(S:FnScope N ps (Jj st))(len:∀vs H Q E,sp vs H Q E->vs.length=ps.length)
 (hbody:∀(cdv:Value) (A:Around) (outer:List Env) (s:Shared) (H:Hp) (vs:List V) (Q:VK) (E:XK),Room k (A.deeper (envOfC qual (Jj st) s.heap.objs.size f cdv))->sp vs H Q E ->
  ∃t,PSs (Wd (CX1 P w) P w K mg base N qual (Jj st) f cdv A outer s H E) (JH st) t/\t { nx:=fun _ H'=>Q .non H',rt:=Q } (Ys N vs) H):FnOk P w K mg base (CX1 P w) (k+1) f fd ps sp:=by
 obtain⟨oc,od,kV,doc,pm,an,cdv,ct,osl,rfl,lk,hcd⟩:=F.ex;exact Jgo lk hcd S len fun A outer s H vs Q E hr hsp=>hbody cdv A outer s H vs Q E hr hsp
end
noncomputable def Ja9(C:Addr)(E:XK)(t:TA):TS:=fun D σ H=>t σ H fun vs H1=>vs.length<=sizeLine/\∀a,E (.ref C) (some a) H1
section
variable{X:Cx}{x:Str}{np cpos pos:Pos}{C:Addr}{E:XK}{e:Expr}{es:List Expr}{t:TA}
theorem JeI{K:Frag}{h:Heap}{bmB:List Value}{newId:String}(X:K.In h)(q:excIn K C bmB newId=true):∃bm N nm q bs hdct sn sub ab col dd k0 k1 k2 k3 k5 mN,h.get? C=some (excClassObj nm q C N bs bm hdct sn sub ab col dd k0 k1 k2 k3 k5 newId)/\h.Ns N mN/\mN "__init__"=none/\OwnTail h bmB bm:=by
 unfold excIn at q;split at q
 ·rename_i dd cd sl ho;split at q
  ·rename_i C' bm k0 k1 k2 k3 n k5 hm hs;simp only[Bool.and_eq_true,beq_iff_eq,Bool.not_eq_true'] at q;obtain⟨⟨⟨⟨⟨rfl,rfl⟩,hdel⟩,ht⟩,hok⟩,hni⟩:=q;obtain⟨nm,bs,mro,ns,qn,hd,sn,sub,ab,col,del⟩:=cd;dsimp only at hm hdel hok hni;subst hm hdel
   have hsl:sl=#[k0,k1,k2,k3,some (.builtin n),k5]:=by obtain⟨l⟩:=sl;simp only at hs;rw[hs]
   subst hsl;exact⟨bm,ns,nm,qn,bs,hd,sn,sub,ab,col,dd,k0,k1,k2,k3,k5,_,X _ _ ho,.of_isNs (PySem.W.isNs_of_in X hok),PySem.W.nsMap_none_of_in X hok hni,PySem.W.tail_of_in X ht⟩
  ·cases q
 ·cases q
theorem JdO(ok:excIn X.K C VEm "ValueError.__new__"=true)(hg:Gl X x)(hm:X.mg x=some (.ref C))(hc:X.calm=true)(hx:XOk X E)(ha:PA X (e::es) t)(hdb:(x == ("__debug__":Str))=false:=by decide)
 (he:starEach (e::es) X.env=(false,eval e X.env)::starEach es X.env:=by rfl) (hpl:(backTo cpos (starEach es X.env)).any (·.1)=false:=by rfl) :
 PS X (.Raise (some (.Call (.Name x np) (e::es) [] cpos)) none pos) (Ja9 C E t):=by
 intro pins s σ H D I h;obtain⟨tl,N,nm,q,bs,hdct,sn,sub,ab,col,dd,k0,k1,k2,k3,k5,mN,hC,hN,hni,T⟩:=JeI (h:=X.base) I.ok.mod.kin ok;refine wpAny_Raise_call_subU (C:=C) (nm:=nm) (q:=q) (N:=N) (bs:=bs) (bm:=tl) (hdct:=hdct) (sn:=sn) (sub:=sub) (ab:=ab) (col:=col) (dd:=dd) (k0:=k0) (k1:=k1) (k2:=k2) (k3:=k3) (k5:=k5)
  PySem.F.excBase_ValueError (by decide) PySem.F.excBase_ValueError (mN:=mN) (T.hasType PySem.F.excBase_ValueError.hasBase) (I.ok.hd hc) (by rw[he];show(false || (backTo cpos (starEach es X.env)).any (·.1))=false;rw[hpl];rfl) hni (UW I hg hm ⟨rfl,?_⟩ hdb)
 have h1:=ha cpos pins s σ H _ I h;rw[he] at h1 ⊢;refine Calls.evalArgs_plain (wpAny_mono h1 (fun us s₂ ⟨vs,H1,I1,r,hl,q⟩=>⟨rfl,by rw[<- r.length];exact hl,I1.bk _ _ hC,hN.keeps I1.bk,T.keeps I1.bk,fun h' a m=>hx pins σ _ _ (XP.made I1 m (q a))⟩) fun _ _ y=>y)
end
end L2

namespace L2
open PySem PySem.Spec PyProof.Rows PySem.Calls
noncomputable def XS(X:Cx)(pins:List (Addr×Obj))(E:St->XK)(e:Value)(s':Shared):Prop:=∃σ',XP X pins σ' (E σ') e s'
noncomputable def PX(X:Cx)(e:Expr)(T:XK->TE):Prop :=
 ∀(pins:List (Addr×Obj)) (s:Shared) (σ:St) (H:Hp) (Q:VK) (E:XK),Inv X pins σ H s->T E σ H Q->wpAny (model X.prog X.w) X.A (eval e X.env) (EP X pins σ Q) (XP X pins σ E) s
noncomputable def PCS(X:Cx)(st:Stmt)(T:(St->XK)->TS):Prop :=
 ∀(pins:List (Addr×Obj)) (s:Shared) (σ:St) (H:Hp) (D:Ends) (E:St->XK),Inv X pins σ H s->T E D σ H->wpAny (model X.prog X.w) X.A (exec st X.env) (SP X pins D) (XS X pins E) s
noncomputable def JgG(X:Cx)(st:List Stmt)(T:(St->XK)->TS):Prop :=
 ∀(pins:List (Addr×Obj)) (s:Shared) (σ:St) (H:Hp) (D:Ends) (E:St->XK),Inv X pins σ H s->T E D σ H->wpAny (model X.prog X.w) X.A (execs st X.env) (SP X pins D) (XS X pins E) s
structure CalX (P:Program) (w:World) (K:Frag) (mg:Str->Option Value) (base:Heap) (x:Str) (k:Nat) (ps:List Str) (sp:Sp):Prop where
 ex:∃(f:Addr) (fd:FuncData),FnOk P w K mg base (CX1 P w) k f fd ps sp/\mg x=some (.ref f)/\keepIn K (.ref f)=true/\Binds K fd ps []
noncomputable def Jba(T:XK->TE):(St->XK)->TS:=fun E D σ H=>T (E σ) σ H fun _ H1=>D.nx σ H1
section
variable{X:Cx}{k:Nat}{C:Addr}{ps:List Str}{sp:Sp}{x:Str}{p pos:Pos}{e:Expr}{es:List Expr}{t:TA}{st:Stmt}{rest:List Stmt}{T:XK->TE}{TS1:(St->XK)->TS}{u:TS}
theorem WA{E:XK}(c:CalX X.prog X.w X.K X.mg X.base x k ps sp)(hr:Room k X.A)(hg:Gl X x)(hx:Vw (CX1 X.prog X.w) X E)(ha:PA X (e::es) t)(hdb:(x == ("__debug__":Str))=false:=by decide)
 (he:starEach (e::es) X.env=(false,eval e X.env)::starEach es X.env:=by rfl) (hpl:(backTo pos (starEach es X.env)).any (·.1)=false:=by rfl):PE X (.Call (.Name x p) (e::es) [] pos) (Vr sp [] E t):=by
 obtain⟨f,fd,F,h1,h2,h3⟩:=c.ex;exact JbE F hr hg h1 h2 h3 .nil hx ha hdb he hpl
theorem Jfy(c:CalX X.prog X.w X.K X.mg X.base x k ps sp)(hr:Room k X.A)(hg:Gl X x)(ha:PA X.nox (e::es) t)(hdb:(x == ("__debug__":Str))=false:=by decide)
 (he:starEach (e::es) X.env=(false,eval e X.env)::starEach es X.env:=by rfl) (hpl:(backTo pos (starEach es X.env)).any (·.1)=false:=by rfl):PX X (.Call (.Name x p) (e::es) [] pos) (fun E=>Vr sp [] E t):=by
 obtain⟨f,fd,F,h1,h2,h3⟩:=c.ex;intro pins s σ H Q E I h;refine wpAny_Call_Name_kw (UW I hg h1 ?_ hdb);refine callWith_K (h₀:=X.base) I.ok.mod.kin h2 (wpAny_mono (ha pos pins s σ H _ (I.wish _) h) (fun us s1 ⟨vs,H1,I1,r,q⟩=>⟨I1.unwish.kIn,?_⟩) fun _ _ z=>False.elim z) he hpl;have I1:=I1.unwish;have r2:Vals (vs++[]) (us++[]):=r.append .nil;have hl:(us++[]).length=ps.length:=by rw[<- r2.length];exact F.len _ _ _ _ q
 refine wpAny_call (codeAny_mono (F.run X.A X.stack s1 H1 ⟨us,[]⟩ (us++[]) (vs++[]) Q E hr I1.env0 (h3 s1 us I1.kIn hl) r2 q) fun r s' hq=>?_)
 cases r with
 | error e=>exact⟨H1,s1,I1,hq⟩
 | ok fl =>
  cases fl with
  | ret u=>exact I1.after hq
  | next=>exact False.elim hq
  | brk=>exact False.elim hq
  | cont=>exact False.elim hq
theorem JdE(h:PCS X st TS1):JgG X [st] TS1:=by
 intro pins s σ H D E I q;refine wpAny_execs_cons (thn (h pins s σ H D E I q) fun f s1 q=>?_)
 cases f with
 | next=>exact wpAny_execs_nil q
 | ret v=>exact q
 | brk=>exact q
 | cont=>exact q
theorem JdD(he:PX X e T)(hs:swapsWith e none pos.line X.env=pure false:=by rfl):PCS X (.Expr e pos) (Jba T):=by intro pins s σ H D E I h;exact wpAny_Expr_any (wpAny_mono (he pins s σ H _ _ I h) (fun v s1 ⟨x,H1,I1,r1,q1⟩=>⟨σ,H1,I1,q1⟩) fun _ _ z=>⟨σ,z⟩) I.quiet hs
end
end L2
namespace L2
open PySem PySem.Spec PyProof.Rows PySem.Calls LE
noncomputable abbrev Cx.hand(X:Cx)(a:Addr):Cx:={ X with A:=X.A.mark (some (.ref a)),calm:=false,xe:=fun _ _=>False }
noncomputable def Jiu(K:Frag)(CL:Addr)(i:Nat)(T:(St->XK)->TS)(th:TS):TS:=fun D σ H=>T (fun σ' c oa H'=>∃a,oa=some a/\exmOne K c (.ref CL)=some true ∧
 (H' a=none->th { nx:=fun σ2 H2=>D.nx (σ2.set i none) H2,rt:=D.rt,bk:=fun σ2 H2=>D.bk (σ2.set i none) H2,ct:=fun σ2 H2=>D.ct (σ2.set i none) H2 } (σ'.set i (some (.ref a))) (upd H' a (XO a c)))) D σ H
section
variable{X:Cx}{pins:List (Addr×Obj)}{σ:St}{H:Hp}{s:Shared}{a:Addr}
theorem Inv.hand(I:Inv X pins σ H s)(a:Addr):Inv (X.hand a) pins σ H s :=
 ⟨⟨I.ok.mod,I.ok.kind,I.ok.glob,I.ok.blt,I.ok.above,I.ok.inj,I.ok.has,I.ok.cab,(fun h=>nomatch h),I.ok.frames,I.ok.stk,I.ok.exf,I.ok.bs,I.ok.bsz,I.ok.noex,I.ok.exfs,I.ok.funs,I.ok.frf⟩,I.os,I.bare,I.base,I.loc,I.cell,I.free,I.freeC,I.pin,I.hok,I.len⟩
theorem Inv.unhand(hd:X.calm=true->X.A.handled=none)(I:Inv (X.hand a) pins σ H s):Inv X pins σ H s :=
 ⟨⟨I.ok.mod,I.ok.kind,I.ok.glob,I.ok.blt,I.ok.above,I.ok.inj,I.ok.has,I.ok.cab,hd,I.ok.frames,I.ok.stk,I.ok.exf,I.ok.bs,I.ok.bsz,I.ok.noex,I.ok.exfs,I.ok.funs,I.ok.frf⟩,I.os,I.bare,I.base,I.loc,I.cell,I.free,I.freeC,I.pin,I.hok,I.len⟩
theorem Inv.goes{i:Nat}{n:Str}{m:Str->Option Value}{v:Option Value}{h':Heap}{t':Nat}(I:Inv X pins σ H s)(hi:X.N[i]?=some n)(hn:s.heap.Ns X.env.locals m)
 (hl:∀(i:Nat) (x:Str) (v:V),X.N[i]?=some x->σ[i]?=some (some v)->Vis X.env.scope x->∃u,RelV v u/\JiK X.env s.heap m x u) (hN:X.N.Nodup) (hn':h'.Ns X.env.locals (fun x=>if x=n then v else m x)) (hs:Heap.SameBut X.env.locals s.heap h'):Inv X pins (σ.set i none) H { s with heap:=h',toks:=t' }:=by
 obtain⟨oL,_,_,hoL,_⟩:=id hn;have cne:=I.cne;have hiσ:i<σ.length:=by rw[I.len];exact(List.getElem?_eq_some_iff.mp hi).1
 refine⟨I.ok,I.os,I.bare,⟨fun b o e n hb hx=>?_,fun b o e n hb hx=>?_,I.base.free,fun b o e hx=>?_,I.base.tups,I.base.frzs,I.base.tbls⟩,⟨_,hn',fun j y v' e1 e2 e3=>?_⟩,fun y c e=>?_,I.free,I.freeC,fun p hp=>?_,fun b ob e=>?_,by simpa using I.len⟩
 ·exact(hs.2 b (Nat.ne_of_lt (Nat.lt_of_lt_of_le (Heap.lt_size e) I.ok.above))).trans (I.base.keep b o e n hb hx)
 ·obtain⟨sl,e1⟩:=I.base.slot b o e n hb hx;exact⟨sl,(hs.2 b (Nat.ne_of_lt (Nat.lt_of_lt_of_le (Heap.lt_size e) I.ok.above))).trans e1⟩
 ·obtain⟨o',e1⟩:=I.base.there b o e hx;exact⟨o',(hs.2 b (Nat.ne_of_lt (Nat.lt_of_lt_of_le (Heap.lt_size e) I.ok.above))).trans e1⟩
 ·by_cases hj:j=i
  ·subst hj;rw[List.getElem?_set_self hiσ] at e2;cases e2
  ·rw[List.getElem?_set_ne (Ne.symm hj)] at e2;obtain⟨u',r',q⟩:=hl j y v' e1 e2 e3;refine⟨u',r',?_⟩
   have hyn:y≠n:=fun z=>hj (by
    rw[z] at e1;have h1:=(List.getElem?_eq_some_iff.mp e1)
    have h2:=(List.getElem?_eq_some_iff.mp hi)
    exact(List.getElem_inj hN).mp (h1.2.trans h2.2.symm))
   rcases q with ⟨k1,k2⟩|⟨k1,c,k2,k3⟩
   ·exact .inl ⟨k1,by show(if y=n then v else m y)=some u';rw[if_neg hyn];exact k2⟩
   ·refine .inr ⟨k1,c,k2,?_⟩;obtain⟨oc,e4,e5⟩:=k3;exact⟨oc,(hs.2 c (cne y c k2)).trans e4,e5⟩
 ·obtain⟨v,oc,e4,e5⟩:=I.cell y c e;exact⟨v,oc,(hs.2 c (cne y c e)).trans e4,e5⟩
 ·obtain⟨h1,h2,h3,h4⟩:=I.pin p hp;exact⟨(hs.2 p.1 h3).trans h1,h2,h3,h4⟩
 ·refine(I.hok b ob e).stay (fun c w' hc q=>(hs.2 c ?_).trans q) (fun _ q=>q) fun _ _ q=>q
  rintro rfl;rcases hc with rfl|hc
  ·rw[I.free] at e;cases e
  ·rw[I.free] at hc;cases hc
theorem Inv.track{o:HO}(I:Inv X pins σ H s)(hx:X.ex=[])(ha:H a=none)(h0:X.s₀.heap.get? a=none)(hL:a≠X.env.locals)(hC:∀x c,X.env.cells.lookup x=some c->c≠a)(hP:∀p∈X.pn++pins,p.1≠a)(new:ObjOk X.prog X.w (upd H a o) s.heap a o):Inv X pins σ (upd H a o) s:=by
 have nt:∀b u,H b=some u->b≠a:=fun b u e z=>by rw[z,ha] at e;cases e
 refine⟨I.ok,I.os,I.bare,⟨I.base.keep,I.base.slot,fun b u e n hb=>?_,I.base.there,fun b xs e=>?_,fun b u xs e=>?_,fun b ps e=>?_⟩,I.loc,I.cell,?_,fun x c e=>?_,fun p hp=>?_,fun b u e=>?_,I.len⟩
 ·rw[Jo (fun z=>by rw[z,h0] at e;cases e)];exact I.base.free b u e n hb
 ·have:=I.base.tups b xs e;rw[Jo (nt _ _ this)];exact this
 ·have:=I.base.frzs b u xs e;rw[Jo (nt _ _ this)];exact this
 ·obtain⟨m,this⟩:=I.base.tbls b ps e;exact⟨m,by rw[Jo (nt _ _ this)];exact this⟩
 ·rw[Jo (Ne.symm hL)];exact I.free
 ·rw[Jo (hC x c e)];exact I.freeC x c e
 ·obtain⟨h1,h2,h3⟩:=I.pin p hp;exact⟨h1,by rw[Jo (hP p hp)];exact h2,h3⟩
 ·by_cases hb:b=a
  ·subst hb;rw[JR] at e;cases e;exact new
  ·rw[Jo hb] at e;exact(I.hok b u e).stay (fun _ _ _ q=>q) (fun c q=>by rw[Jo (nt _ _ q)];exact q) fun c xs q=>by rw[Jo (nt _ _ q)];exact q
end
section
variable{X:Cx}{body suite:List Stmt}{b₀:Stmt}{i:Nat}{n cn:Str}{np hpos pos:Pos}{CL:Addr}{T:(St->XK)->TS}{th:TS}
theorem JhN(hs:X.stack=X.env::X.outer)(hf:X.env.frame=some X.env.locals)(hx:X.ex=[])(hN:X.N.Nodup)(hi:X.N[i]?=some n)(hk:X.env.kindOf n=some .local)(hg:Gl X cn)(hm:X.mg cn=some (.ref CL))
 (hb:JgG X body T) (hh:∀a,PSs (X.hand a) (b₀::suite) th) (hdb:(cn == ("__debug__":Str))=false:=by decide) :
 PS X (.Try body [.ExceptHandler (some (.Name cn np)) (some n) (b₀::suite) hpos] [] [] pos) (Jiu X.K CL i T th):=by
 intro pins s σ H D I h;refine wpAny_Try_except (wpAny_mono (hb pins s σ H D _ I h) (fun f s1 q=>?_) fun e s1 ⟨σ',Hc,sc,Ic,a,cls,H',base,he,ho,hgn,xf,hE⟩=>?_)
 ·cases f with
  | next=>exact wpAny_execs_nil q
  | ret v=>exact q
  | brk=>exact q
  | cont=>exact q
 ·subst he;obtain⟨a',ea,hxm,hth⟩:=hE;cases ea;have fl:=xf.fl;rw[hs] at fl;have hfr:X.A.frames=some (X.env::X.outer):=by rw[<- hs];exact Ic.ok.frames
  refine Jbw hfr hf fl fun h1 x1 x2 x3 x4=>?_
  refine ZF (s:={ s1 with heap:=h1 }) x1 x2 x3 fun h2 y1 y2 y3 y4=>?_
  have J:Inv X pins σ' H' { s1 with heap:=h2 }:=Ic.fly ho hgn (xf.on Ic.stack Ic.stkFree y1 (x4.trans y4) (by rw[hs];exact⟨y1,fl.2.1,y2,.inl y3⟩))
  have LT:PySem.W.Looks (model X.prog X.w) h2 (typeOf (.ref a)) cls:=by obtain⟨oe,_,_,_,_,he,⟨hc,_⟩,_⟩:=y3;exact hc▸(PySem.W.Looks.ld he).andThen .now
  refine wpAny_handleBy_cons (codeAny_handlers_test (UW (X:=X.hand a) (J.hand a) hg hm ?_ hdb)) (by intro q;cases q);refine PySem.W.exm_one J.kIn LT hxm _ _ _ _ (fun _ _ q=>q) ?_;rw[if_pos rfl];refine codeAny_handlers_suite_as ?_;refine ZF (s:={ s1 with heap:=h2 }) y1 y2 y3 fun h3 z1 z2 z3 z4=>?_
  have Y3:=xf.on Ic.stack Ic.stkFree z1 ((x4.trans y4).trans z4) (by rw[hs];exact⟨z1,fl.2.1,z2,.inl z3⟩)
  have J3:Inv X pins σ' H' { s1 with heap:=h3 }:=Ic.fly ho hgn Y3;obtain⟨oe,vs,_,_,_,he,⟨hc,hdn⟩,hd,_⟩:=z3
  have ncl:notCls oe=true:=by unfold notCls;rw[hd]
  have was:∀b o,sc.heap.get? b=some o->b≠a:=fun b o q z=>by rw[z,xf.new] at q;cases q
  have J4:Inv X pins σ' (upd H' a (XO a cls)) { s1 with heap:=h3 }:=by
   refine J3.track hx xf.free ?_ ?_ (fun x c e=>?_) (fun p hp=>?_) ⟨⟨oe,he,hc,ncl,hdn⟩,⟨oe,he⟩,fun g1 g2 ⟨o,q,r⟩ k=>⟨o,k o q,r⟩⟩
   ·cases z:X.s₀.heap.get? a with
    | none=>rfl
    | some u=>obtain⟨o,e⟩:=Ic.base.there a u z (by rw[hx];simp);exact absurd rfl (was a o e)
   ·obtain⟨m,⟨o,_,_,e,_⟩,_⟩:=Ic.loc;exact Ne.symm (was _ o e)
   ·obtain⟨v,o,e,_⟩:=Ic.cell x c e;exact was c o e
   ·exact was _ _ (Ic.pin p hp).1
  refine WK (X:=X.hand a) (J4.hand a) hN hi (.inl hk) (show RelV (.ref a) (.ref a) from rfl) (fun s4 I4=>?_) (.inr hk);refine wpAny_mono (hh a pins s4 _ _ _ I4 (hth xf.free)) (fun f s5 q=>?_) fun _ _ z=>False.elim z
  have hp:(X.env.scope.kind == .class || (X.env.scope.kind == .module && X.env.locals != X.env.globals))=false:=by rw[I.ok.kind];rfl
  cases f with
  | next=>obtain⟨σ5,H5,I5,q5⟩:=q;have I5':=I5.unhand I.ok.hd;obtain⟨m,hn,hl⟩:=id I5'.loc;exact wpAny_nameGoes_keeps hk hn hp fun h6 v n6 s6=>⟨_,H5,I5'.goes hi hn hl hN n6 s6,q5⟩
  | brk=>obtain⟨σ5,H5,I5,q5⟩:=q;have I5':=I5.unhand I.ok.hd;obtain⟨m,hn,hl⟩:=id I5'.loc;exact wpAny_nameGoes_keeps hk hn hp fun h6 v n6 s6=>⟨_,H5,I5'.goes hi hn hl hN n6 s6,q5⟩
  | cont=>obtain⟨σ5,H5,I5,q5⟩:=q;have I5':=I5.unhand I.ok.hd;obtain⟨m,hn,hl⟩:=id I5'.loc;exact wpAny_nameGoes_keeps hk hn hp fun h6 v n6 s6=>⟨_,H5,I5'.goes hi hn hl hN n6 s6,q5⟩
  | ret u=>obtain⟨v5,σ5,H5,I5,r5,q5⟩:=q;have I5':=I5.unhand I.ok.hd;obtain⟨m,hn,hl⟩:=id I5'.loc;exact wpAny_nameGoes_keeps hk hn hp fun h6 v n6 s6=>⟨v5,_,H5,I5'.goes hi hn hl hN n6 s6,r5,q5⟩
end
end L2

namespace L2
open PySem PySem.Spec PyProof.Rows PySem.Calls LE
structure ExcN (K:Frag) (n:Str):Prop where
 ex:∃c,nsIn K mainGlobals n=some (some (.ref c))/\excIn K c VEm "ValueError.__new__"=true
 pl:∀c,nsIn K mainGlobals n=some (some (.ref c))->findIn K (.ref c) "__getattribute__"=some (some (.builtin "BaseException.__getattribute__"))/\findIn K (.ref c) "__getattr__"=some none/\mroIn K c (.type "BaseException")=some true/\hasDictIn K c=true/\findIn K (.ref c) "__class__"=some (some (.builtin "object.__class__"))/\mroIn K c (.type "object")=some true
structure ExcG (K:Frag):Prop where
 hn:specialIn K (.builtin "object.__class__") "__get__"=some (some (.builtin "getset_descriptor.__get__"))
 htk:takesIn K (.builtin "object.__class__")=some true
section
variable{prog:Program}{w:World}{A:Around}{E:Value->Shared->Prop}{s:Shared}{K:Frag}{x C D:Addr}{ox:Obj}
theorem Jcc{Q:Option Value->Shared->Prop}(X:K.In s.heap)(I:InstAt s.heap x ox D none)(hga:findIn K (.ref D) "__getattribute__"=some (some (.builtin "BaseException.__getattribute__")))
 (hgn:findIn K (.ref D) "__getattr__"=some none) (hmB:mroIn K D (.type "BaseException")=some true)
 (hf:findObj K D none "__class__"=some (.bind (.builtin "getset_descriptor.__get__") (.builtin "object.__class__"))) (hm:mroIn K D (.type "object")=some true)
 (h:Q (some (.ref D)) { s with toks:=s.toks+1 }):wpAny (model prog w) A (getAttr? (.ref x) "__class__") Q E s:=by
 obtain⟨hh,g,d,t,os⟩:=s;have L0:=I.type (M:=model prog w);have L1:=PySem.W.looks_findIn (M:=model prog w) X hga;have L2:=PySem.W.looks_findIn (M:=model prog w) X hgn;have f3:=PySem.F.attrBase_ValueError.ga.bind (.ref x);unfold getAttr? getAttrBy? getAttrBy;refine wpAny_bind (wpAny_mkText (wpAny_bind (wpAny_attempt (wpAny_holding (wpAny_bind (L0.at (wpAny_bind (L1.at ?_))))))));have hx2:(Value.builtin "BaseException.__getattribute__" == Value.builtin "object.__getattribute__")=false:=by decide +kernel
 have hx1:(onTheHeap (Value.ref D) && Value.builtin "BaseException.__getattribute__" == Value.builtin "object.__getattribute__")=false:=by rw[hx2];rfl
 repeat (any_goals (first|assumption|(with_reducible refine L0.at ?_)|(with_reducible refine L1.at ?_)|(with_reducible refine L2.at ?_)|wp_step))
 have LB:=PySem.W.looks_mroIn (M:=model prog w) X hmB
 have LF:=PySem.W.looks_find (M:=model prog w) X I hf
 have hk:builtinKind "BaseException.__getattribute__"=some .slot:=by decide +kernel
 have hsplit:splitId "BaseException.__getattribute__"=some ("BaseException","__getattribute__"):=by decide +kernel
 have hag:=PySem.F.args_bexc_ga (.ref x) (Value.str "__class__" t);refine codeAny_call_builtin PySem.F.attrBase_ValueError.ga.plain PySem.F.entry_bexc_ga ?_;simp only[List.cons_append,List.nil_append,checkBuiltinCall,hk,hsplit];refine wpAny_bind ?_;unfold isInstance
 repeat (first|(with_reducible refine L0.at ?_)|(with_reducible refine LB.at ?_)|(with_reducible refine LF.at ?_)|wp_step)
 refine PySem.W.class_get (s:=⟨hh,g,d,t+1,os⟩) (ox:=ox) (od:=none) X I hm ?_;show wpAny (model prog w) A.in1 (ret (Value.ref D)) _ _ _;refine wpAny_pure ?_;exact PySem.W.handed_on rfl (wpAny_pure h)
end
section
variable{K:Frag}{x D:Addr}{ox:Obj}
theorem WV{a g:Value}{name:Str}(hc:(clsIn K D).isSome=true)(ha:findIn K (.ref D) name=some (some a))(hg:specialIn K a "__get__"=some (some g))(ht:takesIn K a=some true):findObj K D none name=some (.bind g a):=by obtain⟨cd,hc⟩:=Option.isSome_iff_exists.mp hc;unfold findObj;rw[hc,Option.bind_some,ha,Option.bind_some];simp[hg,ht]
theorem Jds(hga:findIn K (.ref D) "__getattribute__"=some (some (.builtin "BaseException.__getattribute__")))(hgn:findIn K (.ref D) "__getattr__"=some none)(hmB:mroIn K D (.type "BaseException")=some true)(hdct:hasDictIn K D=true)(ha:findIn K (.ref D) "__class__"=some (some (.builtin "object.__class__")))
 (hn:specialIn K (.builtin "object.__class__") "__get__"=some (some (.builtin "getset_descriptor.__get__"))) (htk:takesIn K (.builtin "object.__class__")=some true) (hm:mroIn K D (.type "object")=some true) :
 PySem.W.KitX K (.ref x) (.ref D) (fun h=>InstAt h x ox D none) where
 ty:=fun _ _ _ I=>I.type
 it:=fun _ _ X _=>by
  obtain⟨cdD,hcD,_⟩:=any_some hdct;unfold clsIn at hcD;split at hcD
  ·rename_i c' d' cd' sl' ho;intro A' Q' E' s' k q;unfold isType loadHead;exact wpAny_bind (wpAny_loadPart (k _ _ (X _ _ ho)) (wpAny_pure q))
  ·cases hcD
 ne:=fun h tp dd its n sl X htp=>by
  obtain⟨cdD,hcD,_⟩:=any_some hdct;refine Bool.eq_false_iff.mpr fun q=>?_
  have e:D=tp:=Value.ref.inj (beq_iff_eq.mp q);subst e;unfold clsIn at hcD;split at hcD
  ·rename_i c' d' cd' sl' ho;have z:=(X _ _ ho).symm.trans htp;cases z
  ·cases hcD
 ca:=fun {_ _ _ _ _ s} X I k=>by have hf:findObj K D none "__class__"=some (.bind (.builtin "getset_descriptor.__get__") (.builtin "object.__class__")):=WV (by obtain⟨cd,hc,_⟩:=any_some hdct;rw[hc];rfl) ha hn htk;exact Jcc X I hga hgn hmB hf hm k
end
section
variable{X:Cx}
inductive TyX (K:Frag) (H:Hp):V->Value->Prop where
 | of {x:V} {t:Value} (h:TyS K H x t):TyX K H x t
 | exc {a c:Addr} {n:Str} (h:H a=some (XO a (.ref c))) (e:nsIn K mainGlobals n=some (some (.ref c))) (N:ExcN K n) (G:ExcG K):TyX K H (.ref a) (.ref c)
theorem JaP{pins:List (Addr×Obj)}{σ:St}{H:Hp}{s:Shared}{A:Around}{E:Value->Shared->Prop}{Q:Value->Shared->Prop}{c:Value}{b:Bool}{x:V}{u t:Value}(I:Inv X pins σ H s)(rx:RelV x u)(ty:TyX X.K H x t)(e:kitOne X.K t c=some b)(h:∀tk,Q (.bool b) { s with toks:=tk }) :
 wpAny (model X.prog X.w) A (call (.builtin "isinstance") [u,c]) Q E s:=by
 cases ty with
 | of z=>exact Wp I rx z e h
 | @exc a c' n z e' N G =>
  cases (show u=Value.ref a from rx);obtain⟨⟨o,h1,h2,h3,h4⟩,_⟩:=(show ObjOk X.prog X.w H s.heap a (XO a (.ref c')) from I.hok a _ z)
  obtain⟨q1,q2,q3,p2,p3,p4⟩:=N.pl c' e';exact kia_one (Jds q1 q2 q3 p2 p3 G.hn G.htk p4) I.kIn ⟨h1,h2,h3,by rw[h4];trivial⟩ e (fun z=>nomatch z) h
noncomputable def Jfz(K:Frag):List V->Hp->VK->Prop:=fun vs H Q=>∃x c t tc b,vs=[x,c]/\TyX K H x t/\(∀u,RelV c u->u=tc)/\kitOne K t tc=some b/\Q (.bl b) H
theorem JcT:CallR X (.builtin "isinstance") (Jfz X.K):=by intro pins s σ H xs us Q I r h;obtain⟨x,c,t,tc,b,rfl,ty,hc,e,q⟩:=h;obtain⟨u,w',rfl,r1,r2⟩:=Jel r;cases hc w' r2;exact JaP I r1 ty e fun tk=>⟨.bl b,H,I.tok tk,rfl,q⟩
end
end L2

namespace LE
open PySem L2 LR
noncomputable abbrev Xv:=En->Option Str
section
variable(K:Frag)(C:Addr)
noncomputable def spR(n:Nat)(ex:List Sl->Option Str):Sp:=fun vs H Q W=>∃H0 as m,Same H0 H/\RRL K C H H0 H vs as/\as.all (fun s=>!JM s)=true/\as.length=n/\ex as=some m ∧
 ∀c a H0' H',nsIn K mainGlobals m=some (some (.ref c))->Step H H0 H H0' H'->W (.ref c) (some a) H'
noncomputable def spX(n:Nat)(f:List Sl->Option Sl)(ex:List Sl->Option Str):Sp:=fun vs H Q W=>spE K C n f vs H Q W\/spR K C n ex vs H Q W
noncomputable def SXE(W:XK)(te:TE)(ex:Xv):Prop:=∀(B H0 H:Hp) (σ:St) (E:En) (m:Str) (Q:VK),EnvR K C B H0 H σ E->ex E=some m ->
 (∀c a H0' H',nsIn K mainGlobals m=some (some (.ref c))->Step H H0 H H0' H'->W (.ref c) (some a) H')->te σ H Q
noncomputable def SXS(W:XK)(ts:TS)(ex:Xv):Prop:=∀(B H0 H:Hp) (σ:St) (E:En) (m:Str) (D:Ends),EnvR K C B H0 H σ E->ex E=some m ->
 (∀c a H0' H',nsIn K mainGlobals m=some (some (.ref c))->SStep B H0 H0' H'->W (.ref c) (some a) H')->ts D σ H
noncomputable def SXT(T:(St->XK)->TS)(ex:Xv):Prop:=∀(B H0 H:Hp) (σ:St) (E:En) (m:Str) (D:Ends) (W:St->XK),EnvR K C B H0 H σ E->ex E=some m ->
 (∀c a H0' H',nsIn K mainGlobals m=some (some (.ref c))->Step H H0 H H0' H'->W σ (.ref c) (some a) H')->T W D σ H
end
theorem ZW{K:Frag}{C:Addr}{n:Nat}{f:List Sl->Option Sl}{ex:List Sl->Option Str}{vs:List V}{H:Hp}{Q:VK}{W:XK}(h:spX K C n f ex vs H Q W):vs.length=n:=by
 rcases h with ⟨_,as,_,_,r,_,hl,_⟩|⟨_,as,_,_,r,_,hl,_⟩
 ·rw[r.len,hl]
 ·rw[r.len,hl]
noncomputable def U2:Xv:=fun _=>none
noncomputable def YK(a:Es)(ea eb:Xv):Xv:=fun E=>match ea E with
 | some m=>some m
 | none=>match a E with
  | some (.nx E')=>eb E'
  | _=>none
noncomputable def V0(c:En->Option Bool)(a b:Xv):Xv:=fun E=>(c E).bind fun k=>if k=true then a E else b E
noncomputable def exU(n:Nat)(ex:List Sl->Option Str)(as:En->Option (List Sl)):Xv:=fun E=>(as E).bind fun ss=>(Vk ss).bind fun bs=>if bs.length=n then ex bs else none
noncomputable def Yw(m:Str)(as:En->Option (List Sl)):Xv:=fun E=>(as E).bind fun ss=>if ss.length<=1000 then some m else none
noncomputable def VP(N:Nat)(b:Xv):List Sl->Option Str:=fun as=>b (as++List.replicate (N-as.length) .no)
section
variable{K:Frag}{C:Addr}{W:XK}{t:TA}{ev:En->Option (List Sl)}{te:TE}{ts us:TS}{et eu:Es}{xt xu:Xv}{ex:Xv}
theorem U0{n:Nat}{f:List Sl->Option Sl}{x:List Sl->Option Str}{W:XK}(ha:SA K C t ev):SE K C (Vr (spX K C n f x) [] W t) (eU n f ev):=by
 intro B H0 H σ E c Q I e q;obtain⟨ss,e1,e⟩:=bind_some e;obtain⟨bs,e2,e⟩:=bind_some e;split at e
 ·next hl=>refine V6 (ha B H0 H σ E ss _ I e1 fun vs H1 H1' s1 r1=>?_);obtain⟨h1,h2⟩:=r1.pass s1.i e2;have f:=JW (Hs:=H) s1.i;exact .inl ⟨_,bs,c,f.i,h1,h2,hl,e,fun v H2 H2' s2 r2=>q v H2 H2' ((s1.comp f fun _ z=>z).comp s2 fun a z=>Same.free s1.h z) (r2.weak fun a z=>Same.free s1.h z)⟩
 ·cases e
theorem ZZ{n:Nat}{f:List Sl->Option Sl}{x:List Sl->Option Str}(ha:SA K C t ev):SXE K C W (Vr (spX K C n f x) [] W t) (exU n x ev):=by
 intro B H0 H σ E m Q I e q;obtain⟨ss,e1,e⟩:=bind_some e;obtain⟨bs,e2,e⟩:=bind_some e;split at e
 ·next hl=>refine V6 (ha B H0 H σ E ss _ I e1 fun vs H1 H1' s1 r1=>?_);obtain⟨h1,h2⟩:=r1.pass s1.i e2;have f:=JW (Hs:=H) s1.i;exact .inr ⟨_,bs,m,f.i,h1,h2,hl,e,fun c a H2 H2' hc s2=>q c a H2 H2' hc ((s1.comp f fun _ z=>z).comp s2 fun a z=>Same.free s1.h z)⟩
 ·cases e
theorem WS:SXS K C W ts U2:=fun _ _ _ _ _ _ _ _ e _=>by cases e
theorem VM(h1:SS K C ts et)(x1:SXS K C W ts xt)(x2:SXS K C W us xu):SXS K C W (Jf4 ts us) (YK et xt xu):=by
 intro B H0 H σ E m D I e q;unfold YK at e;split at e
 ·next m' hm=>cases e;exact x1 B H0 H σ E m _ I hm q
 ·split at e
  ·next E' hE=>refine h1 B H0 H σ E _ _ I hE ?_;exact fun σ' H1 H1' s1 I1=>x2 B H1 H1' σ' E' m D I1 e fun c a H2 H2' hc s2=>q c a H2 H2' hc (s1.trans s2)
  ·cases e
theorem JbU{c:TT}{ec:En->Option Bool}(hc:ST K C c ec)(x1:SXS K C W ts xt)(x2:SXS K C W us xu):SXS K C W (Jf2 c ts us) (V0 ec xt xu):=by
 intro B H0 H σ E m D I e q;obtain⟨k,e1,e⟩:=bind_some e;refine hc B H0 H σ E k _ I e1 fun H1 H1' s1=>?_
 have s1':=s1.ss I.b
 cases k with
 | true=>rw[if_pos rfl] at e ⊢;exact x1 B H1 H1' σ E m D (I.step s1) e fun c a H2 H2' hc s2=>q c a H2 H2' hc (s1'.trans s2)
 | false=>rw[if_neg (by decide)] at e ⊢;exact x2 B H1 H1' σ E m D (I.step s1) e fun c a H2 H2' hc s2=>q c a H2 H2' hc (s1'.trans s2)
theorem JbT(h:SXE K C W te ex):SXS K C W (WL te) ex:=fun B H0 H σ E m D I e q=>h B H0 H σ E m _ I e fun c a H1 H1' hc s1=>q c a H1 H1' hc (s1.ss I.b)
theorem Vv{m:Str}{c:Addr}(hc:nsIn K mainGlobals m=some (some (.ref c)))(ha:SA K C t ev):SXS K C W (Ja9 c W t) (Yw m ev):=by
 intro B H0 H σ E m' D I e q;obtain⟨ss,e1,e⟩:=bind_some e;split at e
 ·next hl =>
  cases e;refine ha B H0 H σ E ss _ I e1 fun vs H1 H1' s1 r1=>⟨?_,fun a=>q c a H1 H1' hc (s1.ss I.b)⟩
  rw[r1.len];exact Nat.le_trans hl (by decide)
 ·cases e
theorem Jgf{T:XK->TE}{ex:Xv}(h:∀W,SXE K C W (T W) ex):SXT K C (Jba T) ex:=fun B H0 H σ E m D W I e q=>h (W σ) B H0 H σ E m _ I e q
end
section
variable{K:Frag}{C:Addr}{B H0 H:Hp}{σ:St}{E:En}
theorem Jcb{N:List Str}{vs:List V}{as:List Sl}(i:Same H0 H)(ra:RRL K C H H0 H vs as)(ho:as.all (fun s=>!JM s)=true):EnvR K C H H0 H (L2.Ys N vs) (as++List.replicate (N.length-as.length) .no):=by
 have lens:=ra.len
 have noOwn:∀(j:Nat) (s:Sl),as[j]?=some s->JM s=false:=fun j s e=>by
  have:=List.all_eq_true.mp ho s (List.mem_of_getElem? e)
  simpa using this
 have get:∀(j:Nat) (s:Sl),(as++List.replicate (N.length-as.length) Sl.no)[j]?=some s->s=.no\/as[j]?=some s:=fun j s e=>by
  by_cases hj:j<as.length
  ·rw[List.getElem?_append_left hj] at e;exact .inr e
  ·rw[List.getElem?_append_right (by omega),List.getElem?_replicate] at e;split at e
   ·cases e;exact .inl rfl
   ·cases e
 refine⟨Same.refl _,i,by simp[L2.Ys,lens],fun j s e=>?_,fun j k s1 s2 v hjk e1 e2 w1 w2=>?_⟩
 ·rcases get j s e with z|z
  ·exact .inl z
  ·obtain⟨v,h1,h2⟩:=ra.get z;refine .inr ⟨v,?_,?_⟩
   ·unfold L2.Ys;rw[List.getElem?_append_left (by have:=(List.getElem?_eq_some_iff.mp h1).1;simpa using this),List.getElem?_map,h1];rfl
   ·cases s with
    | no=>trivial
    | sh d=>exact h2
    | bo ds=>exact h2
    | own ds=>exact absurd (noOwn j _ z) (by simp[JM])
    | bd ks ds=>exact h2
    | bt ks ds=>exact h2
    | od ks ds=>exact absurd (noOwn j _ z) (by simp[JM])
    | ot ks ds=>exact absurd (noOwn j _ z) (by simp[JM])
 ·rcases get j _ e1 with z|z
  ·subst z;cases w1
  ·rw[noOwn j _ z] at w1;cases w1
theorem Wj{N:List Str}{n:Nat}{b:Es}{x:Xv}{ts:TS}{vs:List V}{Q:VK}{W:XK}(hb:SS K C ts b)(hx:SXS K C W ts x)(h:spX K C n (UG N.length b) (VP N.length x) vs H Q W):ts { nx:=fun _ H'=>Q .non H',rt:=Q } (L2.Ys N vs) H:=by
 rcases h with h|⟨H0,as,m,i,ra,ho,hl,e,q⟩
 ·exact Yp hb h
 ·exact hx H H0 H _ _ m _ (Jcb i ra ho) e fun c a H1 H1' hc s1=>q c a H1 H1' hc ⟨s1.b,s1.z,s1.n,s1.i⟩
theorem EnvR.del(I:EnvR K C B H0 H σ E)(i:Nat):EnvR K C B H0 H (σ.set i none) (E.set i .no):=by
 refine⟨I.b,I.h,by simp[I.len],fun j s e=>?_,fun j k s1 s2 v hjk e1 e2 o1 o2 e3 e4=>?_⟩
 ·rw[List.getElem?_set] at e
  by_cases hj:i=j
  ·rw[if_pos hj] at e;split at e
   ·cases e;exact .inl rfl
   ·cases e
  ·rw[if_neg hj] at e;rcases I.at' j s e with z|⟨v,h1,h2⟩
   ·exact .inl z
   ·exact .inr ⟨v,by rw[List.getElem?_set,if_neg hj];exact h1,h2⟩
 ·have ne:∀(j:Nat) (s:Sl),(E.set i Sl.no)[j]?=some s->JM s=true->i≠j/\E[j]?=some s:=fun j s e o=>by
   rw[List.getElem?_set] at e
   by_cases hj:i=j
   ·rw[if_pos hj] at e;split at e
    ·cases e;cases o
    ·cases e
   ·rw[if_neg hj] at e;exact⟨hj,e⟩
  obtain⟨n1,f1⟩:=ne j s1 e1 o1;obtain⟨n2,f2⟩:=ne k s2 e2 o2;rw[List.getElem?_set,if_neg n1] at e3;rw[List.getElem?_set,if_neg n2] at e4;exact I.sep j k s1 s2 v hjk f1 f2 o1 o2 e3 e4
end
noncomputable def JhH(i:Nat):Out->Out
 | .nx E=>.nx (E.set i .no)
 | .rt r=>.rt r
 | .bk E=>.bk (E.set i .no)
 | .ct E=>.ct (E.set i .no)
noncomputable def JcI(R:List Str)(i:Nat)(b:Es)(x:Xv)(h:Es):Es:=fun E=>match b E with
 | some o=>some o
 | none=>(x E).bind fun m=>if m∈R/\i<E.length then(h (E.set i (.sh (.exc m)))).map (JhH i) else none
section
variable{K:Frag}{C:Addr}
theorem JjR{R:List Str}{CL:Addr}{i:Nat}{T:(St->XK)->TS}{th:TS}{b h:Es}{x:Xv}(hm:∀m∈R,∀c,nsIn K mainGlobals m=some (some (.ref c))->exmOne K (.ref c) (.ref CL)=some true)
 (hb:∀W,SS K C (T W) b) (hx:SXT K C T x) (hh:SS K C th h):SS K C (Jiu K CL i T th) (JcI R i b x h):=by
 intro B H0 H σ E o D I e fin;unfold JcI at e;split at e
 ·next o' hE=>cases e;exact hb _ B H0 H σ E o D I hE fin
 ·obtain⟨m,e1,e⟩:=bind_some e;split at e
  ·next hR =>
   obtain⟨o',e2,rfl⟩:=map_some e;refine hx B H0 H σ E m D _ I e1 fun c a H1 H1' hc s1=>⟨a,rfl,hm m hR.1 c hc,fun ha=>?_⟩
   have ha0:H1 a=none:=by
    cases z:H1 a with
    | none=>rfl
    | some u=>rw[s1.i a u z] at ha;cases ha
   have I1:=I.step s1
   have st:Step H1' H1 H1' (upd H1 a (XO a (.ref c))) (upd H1' a (XO a (.ref c))):=by
    refine⟨fun b u z=>?_,fun b u z=>?_,fun b u z=>?_,fun b u z=>?_⟩
    ·rw[Jo (JA z ha)];exact z
    ·rw[Jo (JA z ha0)];exact z
    ·by_cases hb:b=a
     ·subst hb;exact .inr (.inl ha)
     ·rw[Jo hb] at z;exact .inl z
    ·by_cases hb:b=a
     ·subst hb;rw[JR] at z ⊢;exact z
     ·rw[Jo hb] at z ⊢;exact s1.i b u z
   have I2:EnvR K C B (upd H1 a (XO a (.ref c))) (upd H1' a (XO a (.ref c))) (σ.set i (some (.ref a))) (E.set i (.sh (.exc m))) :=
    I1.put' st hR.2 (show RR K C H1' _ _ (.ref a) (.sh (.exc m)) from RD.exc JR hc) rfl
   have ss:SStep B H0 (upd H1 a (XO a (.ref c))) (upd H1' a (XO a (.ref c))):=(s1.ss I.b).trans (st.ss I1.b);refine hh B _ _ _ _ o' _ I2 e2 ?_
   cases o' with
   | nx E2=>exact fun σ' H2 H2' s2 I3=>fin _ H2 H2' (ss.trans s2) (I3.del i)
   | bk E2=>exact fun σ' H2 H2' s2 I3=>fin _ H2 H2' (ss.trans s2) (I3.del i)
   | ct E2=>exact fun σ' H2 H2' s2 I3=>fin _ H2 H2' (ss.trans s2) (I3.del i)
   | rt r=>exact fun v H2 H2' s2 r2=>fin v H2 H2' (ss.trans s2) r2
  ·cases e
end
noncomputable def exB(n m:Str):Bool:=n == m || m == "LumpError"
noncomputable def Jj0(R:List Str)(m:Str):D->Option Bool
 | .exc n=>if n∈R then some (exB n m) else none
 | .non=>some false
 | _=>none
noncomputable def Vy(R:List Str)(m:Str)(a:Ev):Ev:=fun E=>(a E).bind fun s=>s.d.bind fun d=>(Jj0 R m d).map fun b=>.sh (.bl b)
noncomputable def JiU(R:List Str)(a:Ev):Ev:=fun E=>(a E).bind fun s=>s.d.bind fun d=>(match d with|.exc n=>if n∈R then some true else none|.non=>some false|_=>none).map fun b=>.sh (.bl b)
section
variable{K:Frag}{C:Addr}{te:TE}{ea:Ev}
structure IsiN (K:Frag) (R:List Str) (m:Str) (c:Addr):Prop where
 own:∀n∈R,ExcN K n
 g:ExcG K
 k:∀n∈R,∀c',nsIn K mainGlobals n=some (some (.ref c'))->kitOne K (.ref c') (.ref c)=some (exB n m)
 o:kitOne K (.type "NoneType") (.ref c)=some false
theorem UD{R:List Str}{m:Str}{c:Addr}(N:IsiN K R m c)(ha:SE K C te ea):SE K C (tCB (Jfz K) (Y4 te (Y4 (tC (.ref c)) V3))) (Vy R m ea):=by
 intro B H0 H σ E r Q I e q;obtain⟨a,e1,e⟩:=bind_some e;obtain⟨d,e2,e⟩:=bind_some e;obtain⟨b,e3,rfl⟩:=map_some e;refine ha B H0 H σ E a _ I e1 fun x H1 H1' s1 r1=>?_
 have rd:=r1.dat s1.i e2
 cases d with
 | exc n =>
  have e3:(if n∈R then some (exB n m) else none)=some b:=e3;split at e3
  ·next hn=>cases e3;obtain⟨a',c',rfl,hx,hc⟩:=RD.excI rd;exact⟨_,_,_,_,_,rfl,.exc hx hc (N.own n hn) N.g,fun u z=>z,N.k n hn c' hc,q _ _ _ s1 (RD.bl _)⟩
  ·cases e3
 | non=>cases e3;cases RD.nonI rd;exact⟨_,_,_,_,_,rfl,.of (.of .non),fun u z=>z,N.o,q _ _ _ s1 (RD.bl _)⟩
 | _=>cases e3
end
end LE
namespace L2
open PySem PySem.Spec PyProof.Rows PySem.Calls LE
section
variable{X:Cx}
end
end L2
namespace LE
open PySem L2 LR
noncomputable def IsiL(K:Frag)(R:List Str):List Str->List Addr->Prop
 | [],[]=>True
 | m::ms,c::cs=>IsiN K R m c/\IsiL K R ms cs
 | _,_=>False
theorem IsiL.exc{K:Frag}{R:List Str}{n:Str}{c':Addr}(hn:n∈R)(hc:nsIn K mainGlobals n=some (some (.ref c'))):∀{ms:List Str} {cs:List Addr},IsiL K R ms cs->kitAny K (.ref c') (cs.map Value.ref)=some (ms.any (exB n))
 | [],[],_=>rfl
 | m::ms,c::cs,⟨h,t⟩=>by show(match kitOne K (.ref c') (.ref c) with|some true=>some true|some false=>kitAny K (.ref c') (cs.map Value.ref)|none=>none)=_;rw[h.k n hn c' hc,t.exc hn hc,List.any_cons];cases exB n m <;> rfl
theorem IsiL.non{K:Frag}{R:List Str}:∀{ms:List Str} {cs:List Addr},IsiL K R ms cs->kitAny K (.type "NoneType") (cs.map Value.ref)=some false
 | [],[],_=>rfl
 | m::ms,c::cs,⟨h,t⟩=>by show(match kitOne K (.type "NoneType") (.ref c) with | some true=>some true | some false=>kitAny K (.type "NoneType") (cs.map Value.ref) | none=>none)=_;rw[h.o,t.non]
section
variable{K:Frag}{C:Addr}{te:TE}{ea:Ev}
structure IsiV (K:Frag) (R:List Str):Prop where
 own:∀n∈R,ExcN K n
 g:ExcG K
 k:∀n∈R,∀c',nsIn K mainGlobals n=some (some (.ref c'))->kitOne K (.ref c') (.type "ValueError")=some true
theorem Ji8{K:Frag}:kitOne K (.type "NoneType") (.type "ValueError")=some false:=by kernel_rfl
theorem JjJ{R:List Str}(N:IsiV K R)(ha:SE K C te ea):SE K C (tCB (Jfz K) (Y4 te (Y4 (tC (.ty "ValueError")) V3))) (JiU R ea):=by
 intro B H0 H σ E r Q I e q;obtain⟨a,e1,e⟩:=bind_some e;obtain⟨d,e2,e⟩:=bind_some e;obtain⟨b,e3,rfl⟩:=map_some e;refine ha B H0 H σ E a _ I e1 fun x H1 H1' s1 r1=>?_
 have rd:=r1.dat s1.i e2
 cases d with
 | exc n =>
  have e3:(if n∈R then some true else none)=some b:=e3;split at e3
  ·next hn=>cases e3;obtain⟨a',c',rfl,hx,hc⟩:=RD.excI rd;exact⟨_,_,_,_,_,rfl,.exc hx hc (N.own n hn) N.g,fun u z=>z,N.k n hn c' hc,q _ _ _ s1 (RD.bl _)⟩
  ·cases e3
 | non=>cases e3;cases RD.nonI rd;exact⟨_,_,_,_,_,rfl,.of (.of .non),fun u z=>z,Ji8,q _ _ _ s1 (RD.bl _)⟩
 | _=>cases e3
end
end LE

namespace L2
open PySem PySem.Spec PyProof.Rows PySem.Calls LE
theorem WT:bootBuiltins "ValueError"=some (.type "ValueError"):=by decide +kernel
section
variable{X:Cx}{K:Frag}
theorem JY(h:X.K=K):CallR X (.builtin "isinstance") (Jfz K):=by subst h;exact JcT
theorem Jfw{body suite:List Stmt}{b₀:Stmt}{i:Nat}{n cn:Str}{np hpos pos:Pos}{CL:Addr}{T:(St->XK)->TS}{th:TS}(h:X.K=K)(hs:X.stack=X.env::X.outer)(hf:X.env.frame=some X.env.locals)(hx:X.ex=[])(hN:X.N.Nodup)(hi:X.N[i]?=some n)(hk:X.env.kindOf n=some .local)(hg:Gl X cn)(hm:X.mg cn=some (.ref CL))
 (hb:JgG X body T) (hh:∀a,PSs (X.hand a) (b₀::suite) th) (hdb:(cn == ("__debug__":Str))=false:=by decide) :
 PS X (.Try body [.ExceptHandler (some (.Name cn np)) (some n) (b₀::suite) hpos] [] [] pos) (Jiu K CL i T th):=by subst h;exact JhN hs hf hx hN hi hk hg hm hb hh hdb
theorem UY{x:Str}{np cpos pos:Pos}{C:Addr}{E:XK}{e:Expr}{es:List Expr}{t:TA}(h:X.K=K)(ok:excIn K C VEm "ValueError.__new__"=true)(hg:Gl X x)(hm:X.mg x=some (.ref C))(hc:X.calm=true)(hx:XOk X E)(ha:PA X (e::es) t)(hdb:(x == ("__debug__":Str))=false:=by decide)
 (he:starEach (e::es) X.env=(false,eval e X.env)::starEach es X.env:=by rfl) (hpl:(backTo cpos (starEach es X.env)).any (·.1)=false:=by rfl) :
 PS X (.Raise (some (.Call (.Name x np) (e::es) [] cpos)) none pos) (Ja9 C E t):=by subst h;exact JdO ok hg hm hc hx ha hdb he hpl
end
end L2
namespace LE
open PySem L2 LR
section
variable{K:Frag}{C:Addr}{ts:TS}
theorem YU:SS K C ts YB:=fun _ _ _ _ _ _ _ _ e _=>by cases e
theorem Jeq{T:XK->TE}{ea:Ev}(h:∀W,SE K C (T W) ea)(W:St->XK):SS K C (Jba T W) (VZ ea):=WR (te:=fun σ H Q=>T (W σ) σ H Q) fun B H0 H σ E r Q I e q=>h (W σ) B H0 H σ E r Q I e q
structure AtX (K:Frag) (n:Str) (c:Addr):Prop where
 ns:nsIn K mainGlobals n=some (some (.ref c))
 ok:excIn K c VEm "ValueError.__new__"=true
 ga:findIn K (.ref c) "__getattribute__"=some (some (.builtin "BaseException.__getattribute__"))
 gn:findIn K (.ref c) "__getattr__"=some none
 mb:mroIn K c (.type "BaseException")=some true
 hd:hasDictIn K c=true
 fi:findIn K (.ref c) "__class__"=some (some (.builtin "object.__class__"))
 mr:mroIn K c (.type "object")=some true
theorem AtX.n{n:Str}{c:Addr}(h:AtX K n c):ExcN K n:=⟨⟨c,h.ns,h.ok⟩,fun c' e=>by have:=h.ns.symm.trans e;cases this;exact⟨h.ga,h.gn,h.mb,h.hd,h.fi,h.mr⟩⟩
noncomputable def OwnL(K:Frag):List Str->List Addr->Prop
 | [],[]=>True
 | n::ns,c::cs=>AtX K n c/\OwnL K ns cs
 | _,_=>False
theorem Jfr:OwnL K [] []:=trivial
theorem Wz{ns:List Str}{cs:List Addr}{n:Str}{c:Addr}(h:AtX K n c)(t:OwnL K ns cs):OwnL K (n::ns) (c::cs):=⟨h,t⟩
theorem OwnL.all:∀{ns:List Str} {cs:List Addr},OwnL K ns cs->∀n∈ns,ExcN K n
 | [],[],_,n,h=>nomatch h
 | m::ns,c::cs,⟨h,t⟩,n,hn=>by
  rcases List.mem_cons.mp hn with e|e
  ·rw[e];exact h.n
  ·exact t.all n e
noncomputable def ExmL(K:Frag)(CL:Addr):List Addr->Prop
 | []=>True
 | c::cs=>exmOne K (.ref c) (.ref CL)=some true/\ExmL K CL cs
theorem JeJ{CL:Addr}:ExmL K CL []:=trivial
theorem Wf{CL c:Addr}{cs:List Addr}(h:exmOne K (.ref c) (.ref CL)=some true)(t:ExmL K CL cs):ExmL K CL (c::cs):=⟨h,t⟩
theorem ExmL.all{CL:Addr}:∀{ns:List Str} {cs:List Addr},OwnL K ns cs->ExmL K CL cs->∀m∈ns,∀c,nsIn K mainGlobals m=some (some (.ref c))->exmOne K (.ref c) (.ref CL)=some true
 | [],[],_,_,n,h=>nomatch h
 | m::ns,c::cs,⟨h,t⟩,⟨h',t'⟩,n,hn=>fun c' e=>by
  rcases List.mem_cons.mp hn with z|z
  ·rw[z,h.ns] at e;cases e;exact h'
  ·exact t'.all t n z c' e
noncomputable def KitL(K:Frag)(m:Str)(c:Addr):List Str->List Addr->Prop
 | [],[]=>True
 | n::ns,d::ds=>kitOne K (.ref d) (.ref c)=some (exB n m)/\KitL K m c ns ds
 | _,_=>False
theorem Y6{m:Str}{c:Addr}:KitL K m c [] []:=trivial
theorem Jv{m n:Str}{c d:Addr}{ns:List Str}{ds:List Addr}{b:Bool}(h:kitOne K (.ref d) (.ref c)=some b)(e:exB n m=b)(t:KitL K m c ns ds):KitL K m c (n::ns) (d::ds):=⟨by rw[e];exact h,t⟩
theorem KitL.all{m:Str}{c:Addr}:∀{ns:List Str} {cs:List Addr},OwnL K ns cs->KitL K m c ns cs->∀n∈ns,∀c',nsIn K mainGlobals n=some (some (.ref c'))->kitOne K (.ref c') (.ref c)=some (exB n m)
 | [],[],_,_,n,h=>nomatch h
 | m::ns,c::cs,⟨h,t⟩,⟨h',t'⟩,n,hn=>fun c' e=>by
  rcases List.mem_cons.mp hn with z|z
  ·rw[z] at e ⊢;rw[h.ns] at e;cases e;exact h'
  ·exact t'.all t n z c' e
theorem Y5{m:Str}{c:Addr}{ns:List Str}{cs:List Addr}(o:OwnL K ns cs)(g:ExcG K)(k:KitL K m c ns cs)(z:kitOne K (.type "NoneType") (.ref c)=some false):IsiN K ns m c:=⟨o.all,g,k.all o,z⟩
noncomputable def KivL(K:Frag):List Addr->Prop
 | []=>True
 | c::cs=>kitOne K (.ref c) (.type "ValueError")=some true/\KivL K cs
theorem Jfe:KivL K []:=trivial
theorem Wr{c:Addr}{cs:List Addr}(h:kitOne K (.ref c) (.type "ValueError")=some true)(t:KivL K cs):KivL K (c::cs):=⟨h,t⟩
theorem KivL.all:∀{ns:List Str} {cs:List Addr},OwnL K ns cs->KivL K cs->∀n∈ns,∀c',nsIn K mainGlobals n=some (some (.ref c'))->kitOne K (.ref c') (.type "ValueError")=some true
 | [],[],_,_,n,h=>nomatch h
 | m::ns,c::cs,⟨h,t⟩,⟨h',t'⟩,n,hn=>fun c' e=>by
  rcases List.mem_cons.mp hn with z|z
  ·rw[z,h.ns] at e;cases e;exact h'
  ·exact t'.all t n z c' e
theorem Jfb{ns:List Str}{cs:List Addr}(o:OwnL K ns cs)(g:ExcG K)(k:KivL K cs):IsiV K ns:=⟨o.all,g,k.all o⟩
end
section
variable(K:Frag)(C:Addr)
end
section
variable{K:Frag}{C:Addr}{W:XK}{ta te:TE}{t tr:TA}{ea:Ev}{xa xr ex:Xv}{wi:TI}
end
end LE

namespace LE
open PySem L2 LR
noncomputable def Ub(p:Pt)(b:Es)(x:Xv):List D->Xv
 | []=>fun _=>none
 | d::ds=>fun E=>(p.bind d E).bind fun E1=>match x E1 with
  | some m=>some m
  | none=>match b E1 with
   | some (.nx E2)=>Ub p b x ds E2
   | some (.ct E2)=>Ub p b x ds E2
   | _=>none
noncomputable def Jda(it:En->Option (List D))(p:Pt)(b:Es)(x:Xv):Xv:=fun E=>(it E).bind fun ds=>Ub p b x ds E
section
variable{K:Frag}{C:Addr}{W:XK}{t:TS}{et:Es}{xt:Xv}
theorem Jgg{wi:TI}{g:TG}{it:En->Option (List LE.D)}{p:Pt}(hi:SI K C false wi it)(hg:SG K C g p)(ht:SS K C t et)(hx:SXS K C W t xt):SXS K C W (Jir wi g t) (Jda it p et xt):=by
 intro B H0 H σ E m D I e f;obtain⟨ds,e1,e⟩:=bind_some e;refine hi B H0 H σ E ds _ I e1 fun J H1 H1' s1 ok=>?_
 rw[if_neg (by simp)] at ok;refine⟨fun i k σ' H'=>k=ds.length-i/\i<=ds.length/\∃H0' E',EnvR K C B H0' H' σ' E'/\SStep B H1 H0' H'/\Ub p et xt (ds.drop i) E'=some m,
  ⟨ds.length,by simp,Nat.zero_le _,H1,E,I.step s1,.refl (I.b.trans s1.h) s1.i,e⟩,?_⟩
 rintro i k σ' H' ⟨rfl,hi',H0',E',I',st,er⟩;have stop:=ok H0' H' st
 by_cases hlt:i<ds.length
 ·have hd:ds[i]?=some ds[i]:=by simp[hlt]
  obtain⟨go,yl⟩:=stop.1 i _ hd;refine .inr ⟨go,fun σ2 H2=>∃H02 E2,EnvR K C B H02 H2 σ2 E2/\SStep B H1 H02 H2/\Ub p et xt (ds.drop (i+1)) E2=some m,fun σ2 H2 h=>⟨ds.length-(i+1),by omega,rfl,hlt,h⟩,fun x H2 y=>?_⟩;obtain⟨H02,st2,rx⟩:=yl x H2 y;rw[List.drop_eq_getElem_cons hlt,Ub] at er;obtain⟨E1,b1,er⟩:=bind_some er;have ss2:SStep B H0' H02 H2:=st2.ss I'.b;have all:SStep B H0 H02 H2:=((s1.ss I.b).trans st).trans ss2;refine hg B H02 H2 σ' E' E1 x _ _ (I'.step st2) rx b1 fun σ2 I2=>?_
  split at er
  ·next m' hm=>cases er;exact hx B H02 H2 σ2 E1 m _ I2 hm fun c a H3 H3' hc s3=>f c a H3 H3' hc (all.trans s3)
  ·split at er
   ·next E2 hb=>exact ht B H02 H2 σ2 E1 _ _ I2 hb fun σ3 H3 H3' s3 I3=>⟨H3,E2,I3,(st.trans ss2).trans s3,er⟩
   ·next E2 hb=>exact ht B H02 H2 σ2 E1 _ _ I2 hb fun σ3 H3 H3' s3 I3=>⟨H3,E2,I3,(st.trans ss2).trans s3,er⟩
   ·cases er
 ·have e3:i=ds.length:=by omega
  subst e3;rw[List.drop_length,Ub] at er;cases er
end
end LE
namespace L2
open PySem PySem.Spec PyProof.Rows PySem.Calls LE
structure RoomH (k:Nat) (A:Around):Prop where
 dp:A.depth+3*k+5<recursionLimit
 un:A.units+16*k+200<cLine
theorem Room.h{k:Nat}{A:Around}(r:Room k A):RoomH k A:=⟨r.dp,r.un⟩
theorem RoomH.mono{j k:Nat}{A:Around}(r:RoomH k A)(h:j<=k):RoomH j A:=⟨by have:=r.dp;omega,by have:=r.un;omega⟩
theorem RoomH.mark{k:Nat}{A:Around}(r:RoomH k A)(v:Option Value):RoomH k (A.mark v):=⟨r.dp,r.un⟩
theorem RoomH.deeper{k:Nat}{A:Around}(r:RoomH (k+1) A)(env:Env):RoomH k (A.deeper env) :=
 ⟨by have:=r.dp;show A.depth+1+3*k+5<_;omega,by have:=r.un;show A.units+3+16*k+200<_;omega⟩
theorem RoomH.units{k:Nat}{A:Around}(r:RoomH k A):A.units+64<cLine:=by have:=r.un;omega
noncomputable abbrev cxH(P:Program)(w:World)(K:Frag)(mg:Str->Option Value)(base:Heap)(N:List Str)(qual:Str)(scope:Scope)(f:Addr)(cd:Value)(A:Around)(outer:List Env)(s:Shared)(H:Hp)(E:XK):Cx :=
 { Wd CX0 P w K mg base N qual scope f cd A outer s H E with calm:=false,xe:=fun _ _=>False }
structure FnH (P:Program) (w:World) (K:Frag) (mg:Str->Option Value) (base:Heap) (k:Nat) (f:Addr) (fd:FuncData) (ps:List Str) (sp:Sp):Prop where
 len:∀vs H Q E,sp vs H Q E->vs.length=ps.length
 run:∀(A:Around) (outer:List Env) (s:Shared) (H:Hp) (args:Args) (us:List Value) (vs:List V) (Q:VK) (E:XK),RoomH k A->Env0 P w K mg base A outer s H->BindsTo s fd args (ps.zip us)->Vals vs us->sp vs H Q E ->
  codeAny (model P w) A (.call (.ref f) args) (CR CX0 outer P w H s Q E) s
theorem Jg5{P:Program}{w:World}{K:Frag}{mg:Str->Option Value}{base:Heap}{k:Nat}{f:Addr}{name qual:Str}{params:Arguments}{body:List Stmt}{scope:Scope}{dV kV doc pm cdv ct oc:Value}{an od:Option Addr}
 {osl:Array (Option Value)} {N ps:List Str} {sp:Sp} (lk:K.lookup f=some ⟨oc,od,.func (fnOf name qual params body scope dV kV doc pm an cdv ct),osl⟩) (hcd:codeIn K cdv qual=true) (S:FnScope N ps scope)
 (len:∀vs H Q E,sp vs H Q E->vs.length=ps.length)
 (hbody:∀(A:Around) (outer:List Env) (s:Shared) (H:Hp) (vs:List V) (Q:VK) (E:XK),RoomH k (A.deeper (envOfC qual scope s.heap.objs.size f cdv))->sp vs H Q E ->
  ∃t,PSs (cxH P w K mg base N qual scope f cdv A outer s H E) body t/\t { nx:=fun _ H'=>Q .non H',rt:=Q } (Ys N vs) H) :
 FnH P w K mg base (k+1) f (fnOf name qual params body scope dV kV doc pm an cdv ct) ps sp:=by
 refine⟨len,fun A outer s H args us vs Q E hr e0 hb r hsp=>?_⟩;have hl:=len _ _ _ _ hsp;have KX:K.In s.heap:=e0.mod.kin.keeps fun b o e=>(e0.bs b o e).1
 have lim:s.heap.NoLimit:=e0.mod.nolimit.keeps fun b o e=>(e0.bs b o e).1
 have hkind:∀y∈ps.zip us,scope.names.lookup y.1=some .local\/(scope.names.lookup y.1=some .cell/\((cellsFrom (s.heap.objs.size+1) scope.names []).lookup y.1).isSome=true):=fun⟨n,v⟩ hy=>by
  rcases S.par n (List.of_mem_zip hy).1 with q|q
  ·exact .inl q
  ·exact .inr ⟨q,cellsFrom_some _ _ _ (.inl q)⟩
 have dep:A.depth<recursionLimit:=by have:=hr.dp;omega
 refine codeAny_call_function dep (KX _ _ lk) rfl S.co S.gen rfl (PySem.W.codeRec_of KX hcd) (hb _ _ _ _ ?_);refine wpAny_newFunctionEnv_cells S.kind hkind fun env he s1 x=>?_
 subst he;refine⟨lim.keeps x.toInCall.keep,codeAny_func ?_⟩;obtain⟨t,ht,hq⟩:=hbody A outer s H vs Q E (hr.deeper _) hsp;have e1:Env0 P w K mg base { A with handled:=none } outer s H:=⟨e0.frames,e0.mod,e0.bs,e0.bsz,e0.funs,e0.frf,e0.hok,e0.bare⟩
 have I0:Inv (Wd CX0 P w K mg base N qual scope f cdv { A with handled:=none } outer s H E) [] (Ys N vs) H s1:=Zc S rfl e1 hl r x
 have I:Inv (cxH P w K mg base N qual scope f cdv A outer s H E) [] (Ys N vs) H s1 :=
  ⟨⟨I0.ok.mod,I0.ok.kind,I0.ok.glob,I0.ok.blt,I0.ok.above,I0.ok.inj,I0.ok.has,I0.ok.cab,(fun h=>nomatch h),Around.frames_deeper e0.frames,I0.ok.stk,I0.ok.exf,I0.ok.bs,I0.ok.bsz,I0.ok.noex,I0.ok.exfs,I0.ok.funs,I0.ok.frf⟩,I0.os,I0.bare,I0.base,I0.loc,I0.cell,I0.free,I0.freeC,I0.pin,I0.hok,I0.len⟩
 refine wpAny_mono (ht [] s1 (Ys N vs) H _ I hq) (fun fl s' hs=>?_) fun e s' hs=>False.elim hs
 have fin:∀{σ':St} {H':Hp} {v:V} {u:Value},Inv (cxH P w K mg base N qual scope f cdv A outer s H E) [] σ' H' s'->RelV v u->Q v H'->CE outer P w H s Q u s' :=
  fun {σ' H' v u} J rv q=>⟨v,H',J.os,J.bare,J.base,J.hok,rv,q⟩
 cases fl with
 | ret u=>obtain⟨v,σ',H',J,rv,q⟩:=hs;exact fin J rv q
 | next=>obtain⟨σ',H',J,q⟩:=hs;exact fin (v:=V.non) (u:=Value.none) J rfl q
 | brk=>obtain⟨_,_,_,q⟩:=hs;exact False.elim q
 | cont=>obtain⟨_,_,_,q⟩:=hs;exact False.elim q
theorem Fun.okH{P:Program}{w:World}{K:Frag}{mg:Str->Option Value}{base:Heap}{x qual:Str}{st:Stmt}{f:Addr}{fd:FuncData}{N ps:List Str}{k:Nat}{sp:Sp}(F:Fun K x qual st f fd)(S:FnScope N ps (Jj st))(len:∀vs H Q E,sp vs H Q E->vs.length=ps.length)
 (hbody:∀(cdv:Value) (A:Around) (outer:List Env) (s:Shared) (H:Hp) (vs:List V) (Q:VK) (E:XK),RoomH k (A.deeper (envOfC qual (Jj st) s.heap.objs.size f cdv))->sp vs H Q E ->
  ∃t,PSs (cxH P w K mg base N qual (Jj st) f cdv A outer s H E) (JH st) t/\t { nx:=fun _ H'=>Q .non H',rt:=Q } (Ys N vs) H):FnH P w K mg base (k+1) f fd ps sp:=by
 obtain⟨oc,od,kV,doc,pm,an,cdv,ct,osl,rfl,lk,hcd⟩:=F.ex;exact Jg5 lk hcd S len fun A outer s H vs Q E hr hsp=>hbody cdv A outer s H vs Q E hr hsp
theorem FnH.ok{P:Program}{w:World}{K:Frag}{mg:Str->Option Value}{base:Heap}{k:Nat}{f:Addr}{fd:FuncData}{ps:List Str}{sp:Sp}(F:FnH P w K mg base k f fd ps sp):FnOk P w K mg base CX0 k f fd ps sp :=
 ⟨F.len,fun A outer s H args us vs Q E hr=>F.run A outer s H args us vs Q E hr.h⟩
structure CalH (P:Program) (w:World) (K:Frag) (mg:Str->Option Value) (base:Heap) (x:Str) (k:Nat) (ps:List Str) (sp:Sp):Prop where
 ex:∃(f:Addr) (fd:FuncData),FnH P w K mg base k f fd ps sp/\mg x=some (.ref f)/\keepIn K (.ref f)=true/\Binds K fd ps []
section
variable{X:Cx}{k:Nat}{ps:List Str}{sp:Sp}{x:Str}{p pos:Pos}{e:Expr}{es:List Expr}{t:TA}
theorem JdF(c:CalH X.prog X.w X.K X.mg X.base x k ps sp)(hr:RoomH k X.A)(hg:Gl X x)(ha:PA X (e::es) t)(hdb:(x == ("__debug__":Str))=false:=by decide)
 (he:starEach (e::es) X.env=(false,eval e X.env)::starEach es X.env:=by rfl) (hpl:(backTo pos (starEach es X.env)).any (·.1)=false:=by rfl):PE X (.Call (.Name x p) (e::es) [] pos) (Vr sp [] E0 t):=by
 obtain⟨f,fd,F,h1,h2,h3⟩:=c.ex;intro pins s σ H Q I h;refine wpAny_Call_Name_kw (UW I hg h1 ?_ hdb);refine callWith_K (h₀:=X.base) I.ok.mod.kin h2 (thn (ha pos pins s σ H _ I h) fun us s1 ⟨vs,H1,I1,r,q⟩=>⟨I1.kIn,?_⟩) he hpl;have r2:Vals (vs++[]) (us++[]):=r.append .nil;have hl:(us++[]).length=ps.length:=by rw[<- r2.length];exact F.len _ _ _ _ q
 refine wpAny_call (codeAny_mono (F.run X.A X.stack s1 H1 ⟨us,[]⟩ (us++[]) (vs++[]) Q E0 hr I1.env0 (h3 s1 us I1.kIn hl) r2 q) fun r s' hq=>?_)
 cases r with
 | error e=>exact False.elim hq
 | ok fl =>
  cases fl with
  | ret u=>exact I1.after hq
  | next=>exact False.elim hq
  | brk=>exact False.elim hq
  | cont=>exact False.elim hq
end
end L2

namespace L2
open PySem PySem.Spec PyProof.Rows PySem.Calls LE
structure CalMX (P:Program) (w:World) (K:Frag) (mg:Str->Option Value) (base:Heap) (x:Str) (C:Addr) (k:Nat) (ps:List Str) (sp:Sp):Prop where
 ex:∃(f:Addr) (fd:FuncData),Mk K C f/\FnOk P w K mg base (CX1 P w) k f fd ps sp/\mg x=some (.ref C)/\Binds K fd ps []
section
variable{X:Cx}{k:Nat}{C:Addr}{ps:List Str}{sp:Sp}{x:Str}{p pos:Pos}{e:Expr}{es:List Expr}{t:TA}
end
end L2
namespace LE
open PySem L2 LR
section
variable(K:Frag)(C:Addr)
end
section
variable{K:Frag}{C:Addr}{W:XK}{t:TA}{ev:En->Option (List Sl)}{H0 H H2:Hp}
noncomputable def JcK(ss:List Sl):Bool:=ss.all fun s=>!JM s
theorem RRL.more{vs:List V}{ss:List Sl}(st:Same H H2):JcK ss=true->RRL K C H H0 H vs ss->RRL K C H2 H0 H2 vs ss:=fun ho r=>by
 revert ho
 induction r with
 | nil=>exact fun _=>.nil
 | @cons v s vs ss h _ ih =>
  intro ho
  have hs:JM s=false/\JcK ss=true:=by unfold JcK at ho ⊢;rw[List.all_cons,Bool.and_eq_true] at ho;exact⟨by simpa using ho.1,ho.2⟩
  refine .cons ?_ (ih hs.2)
  cases s with
  | no=>exact h
  | sh d=>exact h
  | bo ds=>obtain⟨l,xs,e,g,q⟩:=h;exact⟨l,xs,e,st _ _ g,q⟩
  | bd ks ds=>obtain⟨l,xs,e,g,q⟩:=h;exact⟨l,xs,e,st _ _ g,q⟩
  | bt ks ds=>obtain⟨l,xs,e,g,q⟩:=h;exact⟨l,xs,e,st _ _ g,q⟩
  | own ds=>exact absurd hs.1 (by simp[JM])
  | od ks ds=>exact absurd hs.1 (by simp[JM])
  | ot ks ds=>exact absurd hs.1 (by simp[JM])
end
end LE

namespace L2
open PySem PySem.Spec PyProof.Rows PySem.Calls
theorem ZD(a b:Bool):MeetsSeq.EqGives (.bool a) (.bool b) (a == b):=fun prog w A E s Q h=>by
 unfold eqBool;show wpAny _ _ (if (Value.bool a == Value.bool b)=true then _ else _) Q E s
 by_cases hab:(Value.bool a == Value.bool b)=true
 ·rw[if_pos hab];have e:a=b:=by have:=eq_of_beq hab;injection this
  subst e;exact wpAny_bind (wpAny_rule (wpAny_pure (by simpa using h)))
 ·rw[if_neg hab];exact wpAny_bind (PyProof.Rows.eq_bool (wpAny_truthy_bool h))
theorem Z7:∀{bs:List Bool} {its:List Value},Vals (bs.map V.bl) its->its=bs.map Value.bool
 | [],_,r=>by cases r;rfl
 | b::bs,_,r=>by
  cases r with
  | cons h t=>cases (show _=Value.bool b from h);rw[Z7 t];rfl
noncomputable def JbJ:V->List V->Hp->VK->Prop:=fun x vs H Q=>∃(l:Addr) (bs:List Bool) (b:Bool),x=.ref l/\vs=[.bl b]/\H l=some (.lst (bs.map V.bl))/\Q (.int (bs.count b:Nat)) H
noncomputable def efB(b:Bool):Value->Bool:=fun v=>match v with
 | .bool a=>a == b
 | _=>false
theorem W9(b:Bool):∀bs:List Bool,(bs.map Value.bool).countP (efB b)=bs.count b
 | []=>rfl
 | a::bs=>by rw[List.map_cons,List.countP_cons,W9 b bs,List.count_cons];rfl
section
variable{X:Cx}
theorem Jcv:MtR X "list.count" JbJ:=by
 intro pins s σ H x vs v us Q I rx rv h;obtain⟨l,bs,b,rfl,rfl,hH,q⟩:=h;cases rx;obtain⟨u,rfl,hu⟩:=rv.one;cases (show u=Value.bool b from hu);obtain⟨z,its,n,r,hl,e⟩:=I.lstM hH;cases Z7 r;refine call_meets F.slot_list_count ⟨_,e,rfl⟩ F.entry_list_count (F.args_list_count_2 _ _) (MeetsSeq.list_count l (bs.map Value.bool).toArray n (.bool b) (efB b) (fun y hy=>?_)) ⟨e,?_⟩
 ·have hy':y∈bs.map Value.bool:=by simpa using hy
  obtain⟨a,_,rfl⟩:=List.mem_map.mp hy';exact ZD a b
 ·refine⟨.int (bs.count b:Nat),H,I.tok _,⟨s.toks,?_⟩,q⟩;show Value.int (((bs.map Value.bool).countP (efB b):Nat):Int) s.toks=_;rw[W9]
end
end L2
namespace LE
open PySem L2 LR
noncomputable def lst?:Sl->Option (List D)
 | .bo ds=>some ds
 | .own ds=>some ds
 | .sh (.lst ds)=>some ds
 | _=>none
noncomputable def eMB(f:List Bool->Bool->Option Int)(o a:Ev):Ev:=fun E=>(o E).bind fun s=>(lst? s).bind fun ds=>(bls? ds).bind fun bs=>(a E).bind fun y=>(bool? y).bind fun b=>(f bs b).map fun i=>.sh (.int i)
noncomputable def JiX(bs:List Bool)(b:Bool):Option Int:=some (bs.count b:Nat)
section
variable{K:Frag}{C:Addr}{to te:TE}{eo ea:Ev}{Hs H0 H:Hp}{v:V}
theorem RR.lst{s:Sl}{ds:List D}(i:Same H0 H)(r:RR K C Hs H0 H v s)(e:lst? s=some ds):∃l xs,v=.ref l/\H l=some (.lst xs)/\RDL K C H0 xs ds:=by
 cases s with
 | bo es=>cases e;exact r
 | own es=>cases e;obtain⟨l,xs,e,h,_,_,q⟩:=r;exact⟨l,xs,e,h,q⟩
 | sh d =>
  cases d with
  | lst es=>cases e;obtain⟨l,xs,e,h,q⟩:=RD.lstI r;exact⟨l,xs,e,i _ _ h,q⟩
  | _=>cases e
 | _=>cases e
theorem Jkb{rm:V->List V->Hp->VK->Prop}{f:List Bool->Bool->Option Int}(hm:∀(l:Addr) (bs:List Bool) (b:Bool) (i:Int) (H:Hp) (Q:VK),H l=some (.lst (bs.map V.bl))->f bs b=some i->Q (.int i) H->rm (.ref l) [.bl b] H Q)
 (ho:SE K C to eo) (ha:SE K C te ea):SE K C (tBM K "list" rm to (Y4 te V3)) (eMB f eo ea):=by
 intro B H0 H σ E r Q I e q;obtain⟨s,e1,e⟩:=bind_some e;obtain⟨ds,e2,e⟩:=bind_some e;obtain⟨bs,e3,e⟩:=bind_some e;obtain⟨y,e4,e⟩:=bind_some e;obtain⟨b,e5,e⟩:=bind_some e;obtain⟨i,e6,rfl⟩:=map_some e;refine ho B H0 H σ E s _ I e1 fun x H1 H1' s1 r1=>?_
 obtain⟨l,xs,rfl,hl,rl⟩:=r1.lst s1.i e2;refine⟨.inl ⟨rfl,_,.of hl⟩,?_⟩;refine ha B H1 H1' σ E y _ (I.step s1) e4 fun u H2 H2' s2 r2=>?_
 rw[Vx e5] at r2;cases RD.blI r2;rw[Wb e3] at rl;have hx:=RDL.bls rl;subst hx;exact hm l bs b i H2' Q (s2.h _ _ hl) e6 (q _ _ _ (s1.trans s2) (RD.int i))
theorem JfU(ho:SE K C to eo)(ha:SE K C te ea):SE K C (tBM K "list" JbJ to (Y4 te V3)) (eMB JiX eo ea) :=
 Jkb (fun l bs b i H Q h e q=>by cases e;exact⟨l,bs,b,rfl,rfl,h,q⟩) ho ha
end
end LE

namespace LE
open PySem L2 LR
section
variable{K:Frag}{C:Addr}
end
end LE

namespace PySem
abbrev JgI(h:Heap)(z TI TO a:Addr)(f:Bool):Prop :=
 h.get? z=some { cls:=.type "zip",dict:=none,data:=.fields #[rawInt a,.bool f,.bool false,.ref TI,.ref TO],slots:=#[] }
section
variable{prog:Program}{w:World}{A:Around}{E:Value->Shared->Prop}{s:Shared}{z TI TO i1 i2 a:Addr}{f:Bool}{oa:Obj}{p1 p2:List Addr}{n1 n2 k:Nat}{P1 P2:Nat->Value->Prop}{S1 S2:Nat->Heap->Prop}
end
end PySem

namespace PySem
section
variable{prog:Program}{w:World}{A:Around}{E:Value->Shared->Prop}{s:Shared}{b1 b2:Bool}{a1 a2 z TI TO i1 i2 S:Addr}{xs ys:Array Value}{i:Nat}
def LzSt(b1 b2:Bool)(a1 a2 z TI TO i1 i2 S:Addr)(xs ys:Array Value)(i:Nat)(h:Heap):Prop :=
 IsPair h TI (.ref i1) (.ref i2)/\(IsItr b1 h i1 a1 i/\IsSq b1 h a1 xs)/\(IsItr b2 h i2 a2 i/\IsSq b2 h a2 ys) ∧
 ((IsZip h z TI TO .none/\∃u v,IsPair h TO u v)\/∃a f oa,JgI h z TI TO a f/\h.get? a=some oa/\a≠S/\a≠z/\a≠i1/\a≠i2)
theorem IsSq.keep{b:Bool}{h h':Heap}{a:Addr}{xs:Array Value}(q:IsSq b h a xs)(k:∀o,h.get? a=some o->h'.get? a=some o):IsSq b h' a xs:=by
 cases b with
 | true=>obtain⟨o,e,r⟩:=q;exact⟨o,k o e,r⟩
 | false=>obtain⟨o,e,r⟩:=q;exact⟨o,k o e,r⟩
theorem IsItr.keep'{b:Bool}{h h':Heap}{j a:Addr}{i:Nat}(q:IsItr b h j a i)(k:∀o,h.get? j=some o->h'.get? j=some o):IsItr b h' j a i:=by
 cases b with
 | true=>obtain⟨o,e,r⟩:=q;exact⟨o,k o e,r⟩
 | false=>obtain⟨o,e,r⟩:=q;exact⟨o,k o e,r⟩
theorem LzSt.keep{h h':Heap}(x:LzSt b1 b2 a1 a2 z TI TO i1 i2 S xs ys i h)(k:∀b o,b≠S->h.get? b=some o->h'.get? b=some o)(n:S∉[z,TI,TO,i1,i2,a1,a2]):LzSt b1 b2 a1 a2 z TI TO i1 i2 S xs ys i h':=by
 simp only[List.mem_cons,List.mem_nil_iff,or_false,not_or] at n;obtain⟨n1,n2,n3,n4,n5,n6,n7⟩:=n;obtain⟨x1,x2,x3,x4⟩:=x;refine⟨k _ _ (Ne.symm n2) x1,⟨IsItr.keep' x2.1 fun o e=>k _ o (Ne.symm n4) e,IsSq.keep x2.2 fun o e=>k _ o (Ne.symm n6) e⟩,⟨IsItr.keep' x3.1 fun o e=>k _ o (Ne.symm n5) e,IsSq.keep x3.2 fun o e=>k _ o (Ne.symm n7) e⟩,?_⟩;rcases x4 with ⟨y1,u,v,y2⟩|⟨a,f,oa,y1,y2,y3⟩
 ·exact .inl ⟨k _ _ (Ne.symm n1) y1,u,v,k _ _ (Ne.symm n3) y2⟩
 ·exact .inr ⟨a,f,oa,k _ _ (Ne.symm n1) y1,k _ _ y3.1 y2,y3⟩
end
structure LzG (xs ys:Array Value) (lo:Addr) (h:Heap) (as:List Addr):Prop where
 rise:as.Pairwise (·<·)
 above:∀a∈as,lo<a
 pairs:∀(j:Nat) (a:Addr),as[j]?=some a->∃u v,xs[j]?=some u/\ys[j]?=some v/\IsPair h a u v
theorem LzG.there{xs ys:Array Value}{lo:Addr}{h:Heap}{as:List Addr}(g:LzG xs ys lo h as){a:Addr}(ha:a∈as):a<h.objs.size:=by obtain⟨j,hj⟩:=List.mem_iff_getElem?.mp ha;obtain⟨_,_,_,_,e⟩:=g.pairs j a hj;exact Heap.lt_size e
section
variable{prog:Program}{w:World}{A:Around}{s:Shared}{R:Result->Shared->Prop}{b1 b2:Bool}{a1 a2 z TI TO i1 i2 S:Addr}{xs ys:Array Value}
end
end PySem

namespace PySem
open PySem.Calls PyProof.Rows PyProof.V PySem.Spec
section
variable{prog:Program}{w:World}{A:Around}{E:Value->Shared->Prop}{s:Shared}{b1 b2:Bool}{a1 a2 z TI TO i1 i2:Addr}{xs ys:Array Value}
end
end PySem

namespace L2
open PySem PySem.Spec PyProof.Rows
end L2

namespace LE
open PySem L2 LR
section
variable{K:Frag}{C:Addr}
end
end LE

namespace L2
open PySem PySem.Spec PyProof.Rows
section
variable{X:Cx}{pins:List (Addr×Obj)}{σ:St}{H:Hp}{s:Shared}{a:Addr}{kvs:List (Key×V)}{k:Key}{z:V}{u r:Value}{A:Around}{E:Value->Shared->Prop}
end
section
variable{X:Cx}{o e f:Expr}{apos cpos:Pos}{td ty tx:TE}
end
end L2
namespace LE
open PySem L2 LR
section
variable(K:Frag)(C:Addr)(j:Nat)
noncomputable def Left(σ:St)(E:En)(σ':St)(E':En):Prop:=σ'[j]?=σ[j]?/\∀(i:Nat) (s:Sl),E'[i]?=some s->JM s=true->E[i]?=some s/\σ'[i]?=σ[i]?
end
section
variable{K:Frag}{C:Addr}{j:Nat}
theorem Left.refl(σ:St)(E:En):Left j σ E σ E:=⟨rfl,fun _ _ e _=>⟨e,rfl⟩⟩
theorem Left.trans{σ σ1 σ2:St}{E E1 E2:En}(a:Left j σ E σ1 E1)(b:Left j σ1 E1 σ2 E2):Left j σ E σ2 E2 :=
 ⟨b.1.trans a.1,fun i s e o=>by obtain⟨h1,h2⟩:=b.2 i s e o;obtain⟨h3,h4⟩:=a.2 i s h1 o;exact⟨h3,h2.trans h4⟩⟩
end
end LE

namespace LE
open PySem L2 LR
section
variable(K:Frag)(C:Addr)
structure Grp (B H0 H:Hp) (σ:St) (E:En) (j c:Nat) (ks:List Int) (dss:List (List D)) (l:Addr) (ls:List Addr):Prop where
 at':σ[j]?=some (some (.ref l))
 dict:H l=some (dkO ks (ls.map V.ref))
 l0:H0 l=none
 lb:B l=none
 len:ks.length=ls.length
 len2:dss.length=ls.length
 cnt:ks.length<=c
 lists:∀(m:Nat) (a:Addr) (ds:List D),ls[m]?=some a->dss[m]?=some ds->ds.length<=c/\∃xs,H a=some (.lst xs)/\H0 a=none/\B a=none/\RDL K C H0 xs ds
 nd:(l::ls).Nodup
 own:∀(i:Nat) (s:Sl) (a:Addr),E[i]?=some s->JM s=true->σ[i]?=some (some (.ref a))->a∉l::ls
end
section
variable{K:Frag}{C:Addr}{B H0 H H0' H':Hp}{σ σ':St}{E E':En}{j c:Nat}{ks:List Int}{dss:List (List D)}{l:Addr}{ls:List Addr}
theorem Grp.there(g:Grp K C B H0 H σ E j c ks dss l ls){a:Addr}(ha:a∈l::ls):∃o,H a=some o/\isT o=false/\H0 a=none/\B a=none:=by
 rcases List.mem_cons.mp ha with z|z
 ·subst z;exact⟨_,g.dict,rfl,g.l0,g.lb⟩
 ·obtain⟨m,hm⟩:=List.mem_iff_getElem?.mp z;have hl:m<dss.length:=by rw[g.len2];exact(List.getElem?_eq_some_iff.mp hm).1
  obtain⟨_,xs,h1,h2,h3,_⟩:=g.lists m a dss[m] hm (List.getElem?_eq_getElem hl);exact⟨_,h1,rfl,h2,h3⟩
theorem Grp.off(g:Grp K C B H0 H σ E j c ks dss l ls)(st:Step H H0 H H0' H'){a:Addr}(ha:a∈l::ls):H0' a=none:=by
 obtain⟨o,h1,h2,h3,_⟩:=g.there ha
 cases z:H0' a with
 | none=>rfl
 | some u =>
  rcases st.n a u z with y|y|y
  ·rw[h3] at y;cases y
  ·rw[h1] at y;cases y
  ·have:=st.i a u z;rw[st.h a o h1] at this;cases this;rw[h2] at y;cases y
theorem Grp.step(g:Grp K C B H0 H σ E j c ks dss l ls)(st:Step H H0 H H0' H'):Grp K C B H0' H' σ E j c ks dss l ls :=
 ⟨g.at',st.h _ _ g.dict,g.off st List.mem_cons_self,g.lb,g.len,g.len2,g.cnt,fun m a ds e1 e2=>by obtain⟨h0,xs,h1,h2,h3,h4⟩:=g.lists m a ds e1 e2;exact⟨h0,xs,st.h _ _ h1,g.off st (List.mem_cons_of_mem _ (List.mem_of_getElem? e1)),h3,h4.mono st.z⟩,g.nd,g.own⟩
theorem Grp.free(g:Grp K C B H0 H σ E j c ks dss l ls){a:Addr}(ha:a∈l::ls):∀(i:Nat) (s:Sl),E[i]?=some s->JM s=true->σ[i]?≠some (some (.ref a)):=fun i s e o q=>g.own i s a e o q ha
theorem EnvR.fresh(I:EnvR K C B H0 H σ E){p:Addr}(hp:H p=none):∀(i:Nat) (s:Sl),E[i]?=some s->JM s=true->σ[i]?≠some (some (.ref p)):=fun i s e o q=>by
 rcases I.at' i s e with z|⟨v,q1,q2⟩
 ·subst z;cases o
 ·rw[q1] at q;cases q
  cases s with
  | own es=>obtain⟨l',ys,p1,p2,_⟩:=q2;cases p1;rw[hp] at p2;cases p2
  | od ks es=>obtain⟨l',ys,p1,p2,_⟩:=q2;cases p1;rw[hp] at p2;cases p2
  | ot ks es=>obtain⟨l',ys,p1,p2,_⟩:=q2;cases p1;rw[hp] at p2;cases p2
  | _=>cases o
end
end LE

namespace LE
open PySem L2 LR
section
variable{K:Frag}{C:Addr}{B H0 H H0' H':Hp}{σ σ':St}{E E':En}{j c:Nat}{ks:List Int}{dss:List (List D)}{l:Addr}{ls:List Addr}
noncomputable def Jcf(H0 H:Hp)(ls:List Addr):Hp:=fun a=>if a∈ls then H a else H0 a
theorem Zm{Hz:Hp}:∀{ls:List Addr} {dss:List (List D)},dss.length=ls.length->(∀(m:Nat) (a:Addr) (ds:List D),ls[m]?=some a->dss[m]?=some ds->∃xs,Hz a=some (.lst xs)/\RDL K C Hz xs ds)->RDL K C Hz (ls.map V.ref) (dss.map .lst)
 | [],[],_,_=>.nil
 | [],_::_,h,_=>by simp at h
 | _::_,[],h,_=>by simp at h
 | a::ls,ds::dss,h,f=>by obtain⟨xs,h1,h2⟩:=f 0 a ds rfl rfl;exact .cons (.mkL h1 h2) (Zm (by simpa using h) fun m a ds e1 e2=>f (m+1) a ds (by simpa using e1) (by simpa using e2))
theorem Grp.done(I:EnvR K C B H0 H σ E)(g:Grp K C B H0 H σ E j c ks dss l ls)(hj:j<E.length):SStep B H0 (Jcf H0 H ls) H/\EnvR K C B (Jcf H0 H ls) H σ (E.set j (.od ks (dss.map .lst))):=by
 have out:∀{a:Addr},a∉ls->Jcf H0 H ls a=H0 a:=fun {a} h=>if_neg h
 have inn:∀{a:Addr},a∈ls->Jcf H0 H ls a=H a:=fun {a} h=>if_pos h
 have z:Same H0 (Jcf H0 H ls):=fun a o e=>by
  by_cases c:a∈ls
  ·rw[inn c];exact I.h a o e
  ·rw[out c];exact e
 have i:Same (Jcf H0 H ls) H:=fun a o e=>by
  by_cases c:a∈ls
  ·rw[inn c] at e;exact e
  ·rw[out c] at e;exact I.h a o e
 have ln:l∉ls:=(List.nodup_cons.mp g.nd).1;refine⟨⟨I.b,z,fun a o e=>?_,i⟩,I.b,i,by simp[I.len],fun k s e=>?_,fun k m s t v hkm e1 e2 o1 o2 e3 e4=>?_⟩
 ·by_cases c:a∈ls
  ·exact .inr (.inl (g.there (List.mem_cons_of_mem _ c)).choose_spec.2.2.2)
  ·rw[out c] at e;exact .inl e
 ·rw[List.getElem?_set] at e
  by_cases c:j=k
  ·subst c;rw[if_pos rfl,if_pos hj] at e;have e':=Option.some.inj e;subst e';refine .inr ⟨_,g.at',l,ls.map V.ref,rfl,g.dict,by rw[out ln];exact g.l0,g.lb,by rw[List.length_map,g.len2];exact g.len,Zm g.len2 fun m a ds q1 q2=>?_⟩;obtain⟨_,xs,h1,_,_,h4⟩:=g.lists m a ds q1 q2;exact⟨xs,by rw[inn (List.mem_of_getElem? q1)];exact h1,h4.mono z⟩
  ·rw[if_neg c] at e;rcases I.at' k s e with y|⟨v,q1,q2⟩
   ·exact .inl y
   ·refine .inr ⟨v,q1,?_⟩
    cases s with
    | no=>trivial
    | sh d=>exact RD.mono z q2
    | bo es=>obtain⟨l',ys,p1,p2,p3⟩:=q2;exact⟨l',ys,p1,p2,p3.mono z⟩
    | bd ks es=>obtain⟨l',ys,p1,p2,p3,p4⟩:=q2;exact⟨l',ys,p1,p2,p3,p4.mono z⟩
    | bt ks es=>obtain⟨l',ys,p1,p2,p3,p4⟩:=q2;exact⟨l',ys,p1,p2,p3,p4.mono z⟩
    | own es=>obtain⟨l',ys,p1,p2,p3,p4,p5⟩:=q2;subst p1;have:=g.own k _ l' e rfl q1;exact⟨l',ys,rfl,p2,by rw[out fun m=>this (List.mem_cons_of_mem _ m)];exact p3,p4,p5.mono z⟩
    | od ks es=>obtain⟨l',ys,p1,p2,p3,p4,p5,p6⟩:=q2;subst p1;have:=g.own k _ l' e rfl q1;exact⟨l',ys,rfl,p2,by rw[out fun m=>this (List.mem_cons_of_mem _ m)];exact p3,p4,p5,p6.mono z⟩
    | ot ks es=>obtain⟨l',ys,p1,p2,p3,p4,p5,p6⟩:=q2;subst p1;have:=g.own k _ l' e rfl q1;exact⟨l',ys,rfl,p2,by rw[out fun m=>this (List.mem_cons_of_mem _ m)];exact p3,p4,p5,p6.mono z⟩
 ·have get:∀(i:Nat) (s:Sl),(E.set j (Sl.od ks (dss.map .lst)))[i]?=some s->i=j\/(i≠j/\E[i]?=some s):=fun i s e=>by
   rw[List.getElem?_set] at e
   by_cases c:j=i
   ·exact .inl c.symm
   ·rw[if_neg c] at e;exact .inr ⟨fun z=>c z.symm,e⟩
  rcases get k s e1 with y1|⟨n1,y1⟩
  ·subst y1;rcases get m t e2 with y2|⟨n2,y2⟩
   ·exact hkm y2.symm
   ·rw[g.at'] at e3;have e3':=Option.some.inj (Option.some.inj e3);subst e3';exact g.own m t l y2 o2 e4 List.mem_cons_self
  ·rcases get m t e2 with y2|⟨n2,y2⟩
   ·subst y2;rw[g.at'] at e4;have e4':=Option.some.inj (Option.some.inj e4);subst e4';exact g.own k s l y1 o1 e3 List.mem_cons_self
   ·exact I.sep k m s t v hkm y1 y2 o1 o2 e3 e4
end
end LE

namespace L2
open PySem PySem.Spec PyProof.Rows
noncomputable def Y0:List Int->List Int->Bool
 | [],_=>true
 | _::_,[]=>false
 | x::xs,y::ys=>if x=y then Y0 xs ys else decide (x<=y)
theorem U6(x y:Int)(xs ys:List Int):Y0 (x::xs) (y::ys)=if x=y then Y0 xs ys else decide (x<=y):=rfl
theorem Jd2(A:Around)(s:Shared)(a:Int)(t:Tok)(c:Int)(u:Tok)(prog:Program)(w:World)(E:Value->Shared->Prop)(Q:Value->Shared->Prop)(h:Q (.bool (decide (a<=c))) s) :
 wpAny (model prog w) A (richCompare .LtE (.int a t) (.int c u)) Q E s :=
 (PyProof.Rows.le_int h:wpAny (model prog w) A (compareOp .LtE (.int a t) (.int c u)) Q E s)
section
open PySem.SeqAt
open PySem.AutoSeq1 (wpAny_loadPart')
open PySem.MeetsSeq PySem.MeetsSeq2 PySem.MeetsSeq3
theorem W0(l b:Addr)(items items2:Array Value)(n n2:Nat)(dd dd2:Option Addr)(sl sl2:Array (Option Value))(ns ms:List Int)(hi:IntsAre items.toList ns)(hj:IntsAre items2.toList ms) :
 Meets (Builtin.«tuple.__le__» ⟨[.ref l,.ref b],[]⟩)
  (fun _ R s=>s.heap.get? l=some { cls:=.type "tuple",dict:=dd,data:=.seq items n,slots:=sl }/\s.heap.get? b=some { cls:=.type "tuple",dict:=dd2,data:=.seq items2 n2,slots:=sl2 } ∧
   R (.ok (.ret (.bool (Y0 ns ms)))) s) :=
 .of_wp fun prog w A R s h=>by
  obtain⟨hp,g,d,tk,os⟩:=s;obtain⟨hl,hb,h⟩:=h;have f2:=AutoSeq1.sub_tuple_tuple;have z1:items.size=ns.length:=by rw[<- hi.length];simp
  have z2:items2.size=ms.length:=by rw[<- hj.length];simp
  wp_walk using wpAny_loadPart' hl,wpAny_loadPart' hb,wpAny_forIn_list _ (fun rest b s'=>b.1=none/\s'=⟨hp,g,d,tk,os⟩/\∃(vs ws:List Value) (ns' ms':List Int),rest=vs.zip ws ∧
   IntsAre vs ns'/\IntsAre ws ms'/\ns'.length+items2.size=ms'.length+items.size/\R (.ok (.ret (.bool (Y0 ns' ms')))) ⟨hp,g,d,tk,os⟩) _
  case turn =>
   rintro⟨y,x⟩ rest b s' ⟨hb',rfl,vs,ws,ns',ms',hz,hvi,hwi,hlen,hR⟩
   cases hvi with
   | nil=>rw[List.zip_nil_left] at hz;cases hz
   | cons a t hvi' =>
    cases hwi with
    | nil=>rw[List.zip_nil_right] at hz;cases hz
    | cons c u hwi' =>
     rw[List.zip_cons_cons] at hz
     injection hz with hyx hrest
     injection hyx with hy hx
     subst hy hx;rw[U6] at hR;simp only[List.length_cons] at hlen;obtain⟨e,he,hiff⟩:=HT.Jae A.in1 ⟨hp,g,d,tk,os⟩ a t c u;refine wpAny_bind (he prog w _ _ ?_)
     cases e with
     | true=>rw[if_pos (hiff.mp rfl)] at hR;wp_walk;exact⟨rfl,rfl,_,_,_,_,hrest,hvi',hwi',by omega,hR⟩
     | false=>rw[if_neg (fun q=>absurd (hiff.mpr q) Bool.false_ne_true)] at hR;have hri:=Jd2 A.in1 ⟨hp,g,d,tk,os⟩ a t c u prog w;wp_walk using hri;exact⟨_,rfl,by simpa using hR⟩
  case fin =>
   rintro⟨b1,b2⟩ s' ⟨hb',rfl,vs,ws,ns',ms',hz,hvi,hwi,hlen,hR⟩;simp only at hb';subst hb'
   have hv:Y0 ns' ms'=decide (items.size<=items2.size):=by
    cases hvi with
    | nil=>simp only[List.length_nil] at hlen;rw[show Y0 [] ms'=true from rfl];exact(decide_eq_true (by omega)).symm
    | cons a t hv =>
     cases hwi with
     | nil=>simp only[List.length_nil,List.length_cons] at hlen;rw[show Y0 (_::_) []=false from rfl];exact(decide_eq_false (by omega)).symm
     | cons c u hw=>rw[List.zip_cons_cons] at hz;cases hz
   rw[hv] at hR;wp_walk;exact⟨_,rfl,by simpa [Builtin.Tuple.tupleCompareSizes] using hR⟩
  case h=>exact⟨rfl,rfl,items.toList,items2.toList,ns,ms,rfl,hi,hj,by omega,h⟩
end
section
variable{prog:Program}{w:World}{A:Around}{E:Value->Shared->Prop}{s:Shared}
theorem JaR{l b:Addr}{items items2:Array Value}{ns ms:List Int}{Q:Value->Shared->Prop}(hl:s.heap.IsTuple l items)(hb:s.heap.IsTuple b items2)(hi:IntsAre items.toList ns)(hj:IntsAre items2.toList ms)
 (hu:A.units<cLine) (h:Q (.bool (Y0 ns ms)) s):wpAny (model prog w) A (compareOp .LtE (.ref l) (.ref b)) Q E s:=by
 obtain⟨⟨cls,dd,data,sl⟩,ho,hc,n,hd⟩:=id hl;obtain⟨⟨cls2,dd2,data2,sl2⟩,ho2,hc2,n2,hd2⟩:=id hb;simp only at hc hd hc2 hd2;subst hc hd hc2 hd2;exact richCompare_meets_room (op:=.LtE) ⟨_,ho,rfl⟩ ⟨_,ho2,rfl⟩ PySem.F.slot_tuple_le PySem.F.entry_tuple_le (PySem.F.args_tuple_le_2 _ _) (W0 l b items items2 n n2 dd dd2 sl sl2 ns ms hi hj)
  ⟨ho,ho2,show Value.bool (Y0 ns ms)≠Value.notImplemented/\Q (.bool (Y0 ns ms)) s from⟨(fun x=>nomatch x),h⟩⟩ hu
end
noncomputable def Jju(K:Frag):R2:=fun x y H Q=>∃a b ns ms,x=.ref a/\y=.ref b/\SqT K H a (ns.map V.int)/\SqT K H b (ms.map V.int)/\Q (.bl (Y0 ns ms)) H
theorem JhE{X:Cx}{K:Frag}(hK:X.K=K)(hu:X.A.units<cLine):OpR X (compareOp .LtE) (Jju K):=by subst hK;intro pins s σ H x y v u Q I rx ry h;obtain⟨a,b,ns,ms,rfl,rfl,ha,hb,q⟩:=h;cases rx;cases ry;obtain⟨its,r1,p1,_⟩:=I.tuple ha;obtain⟨its2,r2,p2,_⟩:=I.tuple hb;have i1:IntsAre its.toArray.toList ns:=Uc r1;have i2:IntsAre its2.toArray.toList ms:=Uc r2;exact JaR p1 p2 i1 i2 hu ⟨.bl (Y0 ns ms),H,I,rfl,q⟩
end L2
namespace LE
open PySem L2 LR
noncomputable def Wg:Sl->Sl->Option Sl
 | .sh (.tup ds),.sh (.tup es)=>(ints? ds).bind fun ns=>(ints? es).map fun ms=>.sh (.bl (Y0 ns ms))
 | _,_=>none
section
variable{K:Frag}{C:Addr}
theorem RDL.ints'{H:Hp}:∀{xs:List V} {ns:List Int},RDL K C H xs (ns.map .int)->xs=ns.map V.int
 | [],[],_=>rfl
 | [],_::_,r=>by have:=r.1;simp at this
 | _::_,[],r=>by have:=r.1;simp at this
 | x::xs,n::ns,r=>by have h1:RD K C H x (.int n):=r.head;rw[RD.intI h1,RDL.ints' (ns:=ns) r.tail];rfl
theorem Jar:OpS K C (Jju K) Wg:=by
 intro Hs H0 H x y a b c Q i hs ra rb e q;unfold Wg at e;split at e
 ·obtain⟨ns,e1,e⟩:=bind_some e;obtain⟨ms,e2,e⟩:=Option.map_eq_some_iff.mp e;subst e;have h1:=Y7 e1;have h2:=Y7 e2;subst h1 h2;obtain⟨p,xs,rfl,s1,r1⟩:=RD.tupI ra;obtain⟨p',ys,rfl,s2,r2⟩:=RD.tupI rb;have z1:=RDL.ints' r1;have z2:=RDL.ints' r2;subst z1 z2;exact⟨p,p',ns,ms,rfl,rfl,i.seqT s1,i.seqT s2,q _ _ _ (.refl i) (.bl _)⟩
 ·cases e
theorem JeZ(a b c d:Int):Wg (.sh (.tup [.int a,.int b])) (.sh (.tup [.int c,.int d]))=some (.sh (.bl (if a=c then decide (b<=d) else decide (a<=c)))):=by
 show some (Sl.sh (.bl (Y0 [a,b] [c,d])))=_;rw[U6];split
 ·rw[U6];split
  ·next h=>rw[h];simp[Y0]
  ·rfl
 ·rfl
end
end LE

namespace L2
open PySem PySem.Spec PyProof.Rows
noncomputable def YZ:List Int->List Int->Bool
 | _,[]=>true
 | [],_::_=>false
 | x::xs,y::ys=>if x=y then YZ xs ys else decide (x ≥ y)
theorem U5(x y:Int)(xs ys:List Int):YZ (x::xs) (y::ys)=if x=y then YZ xs ys else decide (x ≥ y):=rfl
theorem Jd1(A:Around)(s:Shared)(a:Int)(t:Tok)(c:Int)(u:Tok)(prog:Program)(w:World)(E:Value->Shared->Prop)(Q:Value->Shared->Prop)(h:Q (.bool (decide (a ≥ c))) s) :
 wpAny (model prog w) A (richCompare .GtE (.int a t) (.int c u)) Q E s :=
 (PyProof.Rows.ge_int h:wpAny (model prog w) A (compareOp .GtE (.int a t) (.int c u)) Q E s)
section
open PySem.SeqAt
open PySem.AutoSeq1 (wpAny_loadPart')
open PySem.MeetsSeq PySem.MeetsSeq2 PySem.MeetsSeq3
theorem WZ(l b:Addr)(items items2:Array Value)(n n2:Nat)(dd dd2:Option Addr)(sl sl2:Array (Option Value))(ns ms:List Int)(hi:IntsAre items.toList ns)(hj:IntsAre items2.toList ms) :
 Meets (Builtin.«tuple.__ge__» ⟨[.ref l,.ref b],[]⟩)
  (fun _ R s=>s.heap.get? l=some { cls:=.type "tuple",dict:=dd,data:=.seq items n,slots:=sl }/\s.heap.get? b=some { cls:=.type "tuple",dict:=dd2,data:=.seq items2 n2,slots:=sl2 } ∧
   R (.ok (.ret (.bool (YZ ns ms)))) s) :=
 .of_wp fun prog w A R s h=>by
  obtain⟨hp,g,d,tk,os⟩:=s;obtain⟨hl,hb,h⟩:=h;have f2:=AutoSeq1.sub_tuple_tuple;have z1:items.size=ns.length:=by rw[<- hi.length];simp
  have z2:items2.size=ms.length:=by rw[<- hj.length];simp
  wp_walk using wpAny_loadPart' hl,wpAny_loadPart' hb,wpAny_forIn_list _ (fun rest b s'=>b.1=none/\s'=⟨hp,g,d,tk,os⟩/\∃(vs ws:List Value) (ns' ms':List Int),rest=vs.zip ws ∧
   IntsAre vs ns'/\IntsAre ws ms'/\ns'.length+items2.size=ms'.length+items.size/\R (.ok (.ret (.bool (YZ ns' ms')))) ⟨hp,g,d,tk,os⟩) _
  case turn =>
   rintro⟨y,x⟩ rest b s' ⟨hb',rfl,vs,ws,ns',ms',hz,hvi,hwi,hlen,hR⟩
   cases hvi with
   | nil=>rw[List.zip_nil_left] at hz;cases hz
   | cons a t hvi' =>
    cases hwi with
    | nil=>rw[List.zip_nil_right] at hz;cases hz
    | cons c u hwi' =>
     rw[List.zip_cons_cons] at hz
     injection hz with hyx hrest
     injection hyx with hy hx
     subst hy hx;rw[U5] at hR;simp only[List.length_cons] at hlen;obtain⟨e,he,hiff⟩:=HT.Jae A.in1 ⟨hp,g,d,tk,os⟩ a t c u;refine wpAny_bind (he prog w _ _ ?_)
     cases e with
     | true=>rw[if_pos (hiff.mp rfl)] at hR;wp_walk;exact⟨rfl,rfl,_,_,_,_,hrest,hvi',hwi',by omega,hR⟩
     | false=>rw[if_neg (fun q=>absurd (hiff.mpr q) Bool.false_ne_true)] at hR;have hri:=Jd1 A.in1 ⟨hp,g,d,tk,os⟩ a t c u prog w;wp_walk using hri;exact⟨_,rfl,by simpa using hR⟩
  case fin =>
   rintro⟨b1,b2⟩ s' ⟨hb',rfl,vs,ws,ns',ms',hz,hvi,hwi,hlen,hR⟩;simp only at hb';subst hb'
   have hv:YZ ns' ms'=decide (items.size ≥ items2.size):=by
    cases hwi with
    | nil=>simp only[List.length_nil] at hlen;rw[show YZ ns' []=true by cases ns' <;> rfl];exact(decide_eq_true (by omega)).symm
    | cons a t hv =>
     cases hvi with
     | nil=>simp only[List.length_nil,List.length_cons] at hlen;rw[show YZ [] (_::_)=false from rfl];exact(decide_eq_false (by omega)).symm
     | cons c u hw=>rw[List.zip_cons_cons] at hz;cases hz
   rw[hv] at hR;wp_walk;exact⟨_,rfl,by simpa [Builtin.Tuple.tupleCompareSizes] using hR⟩
  case h=>exact⟨rfl,rfl,items.toList,items2.toList,ns,ms,rfl,hi,hj,by omega,h⟩
end
section
variable{prog:Program}{w:World}{A:Around}{E:Value->Shared->Prop}{s:Shared}
theorem JaM{l b:Addr}{items items2:Array Value}{ns ms:List Int}{Q:Value->Shared->Prop}(hl:s.heap.IsTuple l items)(hb:s.heap.IsTuple b items2)(hi:IntsAre items.toList ns)(hj:IntsAre items2.toList ms)
 (hu:A.units<cLine) (h:Q (.bool (YZ ns ms)) s):wpAny (model prog w) A (compareOp .GtE (.ref l) (.ref b)) Q E s:=by
 obtain⟨⟨cls,dd,data,sl⟩,ho,hc,n,hd⟩:=id hl;obtain⟨⟨cls2,dd2,data2,sl2⟩,ho2,hc2,n2,hd2⟩:=id hb;simp only at hc hd hc2 hd2;subst hc hd hc2 hd2;exact richCompare_meets_room (op:=.GtE) ⟨_,ho,rfl⟩ ⟨_,ho2,rfl⟩ PySem.F.slot_tuple_ge PySem.F.entry_tuple_ge (PySem.F.args_tuple_ge_2 _ _) (WZ l b items items2 n n2 dd dd2 sl sl2 ns ms hi hj)
  ⟨ho,ho2,show Value.bool (YZ ns ms)≠Value.notImplemented/\Q (.bool (YZ ns ms)) s from⟨(fun x=>nomatch x),h⟩⟩ hu
end
noncomputable def Jjq(K:Frag):R2:=fun x y H Q=>∃a b ns ms,x=.ref a/\y=.ref b/\SqT K H a (ns.map V.int)/\SqT K H b (ms.map V.int)/\Q (.bl (YZ ns ms)) H
theorem JhC{X:Cx}{K:Frag}(hK:X.K=K)(hu:X.A.units<cLine):OpR X (compareOp .GtE) (Jjq K):=by subst hK;intro pins s σ H x y v u Q I rx ry h;obtain⟨a,b,ns,ms,rfl,rfl,ha,hb,q⟩:=h;cases rx;cases ry;obtain⟨its,r1,p1,_⟩:=I.tuple ha;obtain⟨its2,r2,p2,_⟩:=I.tuple hb;have i1:IntsAre its.toArray.toList ns:=Uc r1;have i2:IntsAre its2.toArray.toList ms:=Uc r2;exact JaM p1 p2 i1 i2 hu ⟨.bl (YZ ns ms),H,I,rfl,q⟩
end L2
namespace LE
open PySem L2 LR
noncomputable def Jdd:Sl->Sl->Option Sl
 | .sh (.tup ds),.sh (.tup es)=>(ints? ds).bind fun ns=>(ints? es).map fun ms=>.sh (.bl (YZ ns ms))
 | _,_=>none
section
variable{K:Frag}{C:Addr}
theorem Jjh:OpS K C (Jjq K) Jdd:=by
 intro Hs H0 H x y a b c Q i hs ra rb e q;unfold Jdd at e;split at e
 ·obtain⟨ns,e1,e⟩:=bind_some e;obtain⟨ms,e2,e⟩:=Option.map_eq_some_iff.mp e;subst e;have h1:=Y7 e1;have h2:=Y7 e2;subst h1 h2;obtain⟨p,xs,rfl,s1,r1⟩:=RD.tupI ra;obtain⟨p',ys,rfl,s2,r2⟩:=RD.tupI rb;have z1:=RDL.ints' r1;have z2:=RDL.ints' r2;subst z1 z2;exact⟨p,p',ns,ms,rfl,rfl,i.seqT s1,i.seqT s2,q _ _ _ (.refl i) (.bl _)⟩
 ·cases e
theorem JeY(a b c d:Int):Jdd (.sh (.tup [.int a,.int b])) (.sh (.tup [.int c,.int d]))=some (.sh (.bl (if a=c then decide (b ≥ d) else decide (a ≥ c)))):=by
 show some (Sl.sh (.bl (YZ [a,b] [c,d])))=_;rw[U5];split
 ·rw[U5];split
  ·next h=>rw[h];simp[YZ]
  ·rfl
 ·rfl
end
end LE

namespace L2
open PySem PySem.Spec PyProof.Rows
noncomputable def Jgi(i j:Int):Prop:=i.natAbs<=10 ^ 200/\j.natAbs<=10 ^ 200
theorem Jbj{i:Int}(h:i.natAbs<=10 ^ 200):Builtin.Int.intBits i<=2 ^ 20:=by
 unfold Builtin.Int.intBits;split
 ·exact Nat.zero_le _
 ·next hz =>
  have h0:i.natAbs≠0:=fun z=>hz (by simp;omega)
  have h1:i.natAbs.log2<1000:=by rw[Nat.log2_lt h0];exact Nat.lt_of_le_of_lt h (by decide +kernel)
  have:(1000:Nat)<=2 ^ 20:=by decide +kernel
  omega
theorem JbD{X:Cx}:OpR X (binaryOp .Mult) (rI Jgi fun i j=>.int (i*j)):=opI fun _ _ _ _ _ _ _ hc q=>mul_int q (IntMulOk.of_bits (Jbj hc.1) (Jbj hc.2))
end L2
namespace LE
open PySem L2 LR
noncomputable def Wa(a:Int):Bool:=Nat.ble a.natAbs (10 ^ 200)
noncomputable abbrev Jag:=fIc (fun a b=>Wa a && Wa b) fun a b=>.int (a*b)
section
variable{K:Frag}{C:Addr}
theorem JdB:OpS K C (rI Jgi fun i j=>.int (i*j)) Jag:=JdA (fun i j h=>by simp only[Bool.and_eq_true,Wa,Nat.ble_eq] at h;exact h) fun _ _ _=>.int _
theorem Jde{a b:Int}(h:a.natAbs<=10 ^ 200/\b.natAbs<=10 ^ 200):Jag (.sh (.int a)) (.sh (.int b))=some (.sh (.int (a*b))):=by show(if (Wa a && Wa b)=true then _ else _)=_;rw[if_pos];rw[Bool.and_eq_true];exact⟨Nat.ble_eq.mpr h.1,Nat.ble_eq.mpr h.2⟩
end
end LE

namespace LE
open PySem L2 LR
section
variable{K:Frag}{C:Addr}{W:XK}{t:TA}{ev:En->Option (List Sl)}{ts us:TS}{x:Xv}{H:Hp}
end
end LE

namespace PySem
open PySem.Calls PyProof.Rows PyProof.V PySem.Spec
section
variable{prog:Program}{w:World}{A:Around}{E:Value->Shared->Prop}{s:Shared}{r a:Addr}{xs:Array Value}{n:Nat}
end
end PySem
namespace L2
open PySem PySem.Spec PyProof.Rows
end L2
namespace LE
open PySem L2 LR
section
variable{K:Frag}{C:Addr}
end
end LE

namespace L2
open PySem PySem.Spec PyProof.Rows PySem.Calls
section
variable{X:Cx}
end
end L2
namespace L2
open PySem PySem.Spec PyProof.Rows PySem.Calls
section
variable{X:Cx}{es:List Expr}{t:TA}{x:Str}{j:Nat}{p:Pos}
structure PSi (X:Cx) (st:Stmt) (ts:TS):Prop where
 out:PS X st ts
structure PSsi (X:Cx) (ss:List Stmt) (ts:TS):Prop where
 out:PSs X ss ts
end
end L2

namespace LE
open PySem L2 LR
noncomputable def JiO(ys:List Str)(r:En->Option (List Sl)):En->Option (List Sl):=fun E=>(r E).map fun ss=>ys.map (fun y=>.sh (.str y))++ss
section
variable{K:Frag}{C:Addr}{te:TE}{ea:Ev}{tl th:TO}{el eh:Option Ev}{m:Bool}
end
end LE

namespace L2
open PySem PySem.Spec PyProof.Rows PySem.Calls
section
variable{X:Cx}
end
end L2
namespace LE
open PySem L2 LR
section
variable{K:Frag}{C:Addr}{to te:TE}{eo ea:Ev}{Hs H0 H:Hp}{v:V}
end
end LE

namespace L2
open PySem PySem.Spec PyProof.Rows PySem.Calls
section
variable{X:Cx}
end
end L2
namespace LE
open PySem L2 LR
section
variable{K:Frag}{C:Addr}
end
end LE

namespace PySem
open AutoSeq1 (wpAny_loadPart')
section
variable{prog:Program}{w:World}{A:Around}{E:Value->Shared->Prop}{s:Shared}
end
section
variable{prog:Program}{w:World}{A:Around}{E:Value->Shared->Prop}{s:Shared}
end
section
variable{prog:Program}{w:World}{A:Around}{E:Value->Shared->Prop}{s:Shared}{b:Bool}{a e it:Addr}{xs:Array Value}
end
end PySem
namespace L2
open PySem PySem.Spec PyProof.Rows
end L2
namespace LE
open PySem L2 LR
section
variable{K:Frag}{C:Addr}{m:Bool}
end
end LE

namespace L2
open PySem PySem.Spec PyProof.Rows PySem.Calls
section
variable{X:Cx}{K:Frag}{e:Expr}{te:TE}{p2 pos:Pos}
end
end L2
namespace LE
open PySem L2 LR
section
variable{K:Frag}{C:Addr}{te:TE}{ea:Ev}
end
end LE

namespace LE
open PySem L2 LR
section
variable{K:Frag}{C:Addr}
end
end LE

namespace L2
open PySem PySem.Spec PyProof.Rows
structure Blk1 (X:Cx) (sc:Scope) (cl:List (Str×Addr)) (y:Str) (N':List Str) (imp:List (Option Nat)):Prop where
 clos:closureFor sc X.env=pure cl
 kind:sc.kind=.function
 cf:∀n,cellsFrom n sc.names cl=(y,n)::cl
 cf0:∀n,cellsFrom n sc.names []=[(y,n)]
 names:∀y∈sc.names,y.2=.local->sc.names.lookup y.1=some .local
 sub:∀p∈cl,X.env.cells.lookup p.1=some p.2
 has:∀z∈(relabel sc X.env).names,(z.2=.cell\/z.2=.free)->z.1=y\/(cl.lookup z.1).isSome=true
 len:imp.length=N'.length
 im:∀p∈imp.zip N',∀k,p.1=some k->p.2≠y/\X.N[k]?=some p.2/\(X.env.scope.names.lookup p.2=some .cell\/X.env.scope.names.lookup p.2=some .free)/\((relabel sc X.env).names.lookup p.2=some .cell\/(relabel sc X.env).names.lookup p.2=some .free)
section
variable{X:Cx}{tg iter elt:Expr}{ifs:List Expr}{sc:Scope}{cl:List (Str×Addr)}{y:Str}{N':List Str}{imp:List (Option Nat)}{pos:Pos}{wi:TI}{g:TG}{tt:TT}{te:TE}
theorem Blk1.subL(B:Blk1 X sc cl y N' imp):∀x c,cl.lookup x=some c->X.env.cells.lookup x=some c:=fun x c e=>B.sub (x,c) (Uw e)
end
end L2

namespace L2
open PySem PySem.W PyProof.Rows
structure LtO (N:Nat) (lt:Nat->Nat->Bool):Prop where
 tot:∀i j,i<N->j<N->i≠j->lt i j=false->lt j i=true
 asy:∀i j,i<N->j<N->lt i j=true->lt j i=false
 tra:∀i j k,i<N->j<N->k<N->lt i j=true->lt j k=true->lt i k=true
structure Pm (p:Array Nat) (N:Nat):Prop where
 size:p.size=N
 low:∀a,a<N->p.getD a 0<N
 inj:∀a b,a<N->b<N->p.getD a 0=p.getD b 0->a=b
theorem Jhv{l:List Nat}(nd:l.Nodup){a b:Nat}(h1:a<l.length)(h2:b<l.length)(e:l[a]=l[b]):a=b:=by
 rcases Nat.lt_trichotomy a b with c|c|c
 ·exact absurd e (List.pairwise_iff_getElem.mp nd a b h1 h2 c)
 ·exact c
 ·exact absurd e.symm (List.pairwise_iff_getElem.mp nd b a h2 h1 c)
theorem Pm.of{p:Array Nat}{N:Nat}(h:p.toList.Perm (List.range N)):Pm p N:=by
 have hz:p.size=N:=by have:=h.length_eq;simpa using this
 have get:∀a,a<N->p.toList[a]?=some (p.getD a 0):=fun a ha=>by rw[Array.getElem?_toList,Array.getElem?_eq_getElem (by omega)];simp[Array.getD,show a<p.size by omega]
 refine⟨hz,fun a ha=>?_,fun a b ha hb e=>?_⟩
 ·have:=h.mem_iff.mp (List.mem_of_getElem? (get a ha))
  simpa using this
 ·have nd:p.toList.Nodup:=h.nodup_iff.mpr List.nodup_range
  have ga:=get a ha
  have gb:=get b hb;rw[e] at ga;obtain⟨h1,e1⟩:=List.getElem?_eq_some_iff.mp ga;obtain⟨h2,e2⟩:=List.getElem?_eq_some_iff.mp gb;exact Jhv nd h1 h2 (e1.trans e2.symm)
noncomputable def Asc(lt:Nat->Nat->Bool)(p:Array Nat)(m:Nat):Prop:=∀a b,a<b->b<m->lt (p.getD a 0) (p.getD b 0)=true
noncomputable def Dsc(lt:Nat->Nat->Bool)(p:Array Nat)(m:Nat):Prop:=∀a b,a<b->b<m->lt (p.getD b 0) (p.getD a 0)=true
section
variable{N:Nat}{lt:Nat->Nat->Bool}{cmp:Nat->Nat->(Bool->Shared->Prop)->Shared->Prop}{I:Shared->Prop}
noncomputable def Rt(N:Nat)(lt:Nat->Nat->Bool)(I:Shared->Prop)(cmp:Nat->Nat->(Bool->Shared->Prop)->Shared->Prop):Prop:=∀i j (C:Bool->Shared->Prop) s,I s->i<N->j<N->(∀s',I s'->C (lt i j) s')->cmp i j C s
theorem JcL(o:LtO N lt){p:Array Nat}(P:Pm p N){m:Nat}(h1:1<=m)(hm:m<N)(h:Asc lt p m)(e:lt (p.getD m 0) (p.getD (m-1) 0)=false):Asc lt p (m+1):=by
 have last:lt (p.getD (m-1) 0) (p.getD m 0)=true:=o.tot _ _ (P.low m hm) (P.low (m-1) (by omega)) (fun z=>by have:=P.inj m (m-1) hm (by omega) z;omega) e;intro a b ab hb
 by_cases c:b<m
 ·exact h a b ab c
 ·have:b=m:=by omega
  subst this
  by_cases c2:a=b-1
  ·rw[c2];exact last
  ·exact o.tra _ _ _ (P.low a (by omega)) (P.low (b-1) (by omega)) (P.low b hm) (h a (b-1) (by omega) (by omega)) last
theorem Jbd(o:LtO N lt)(R:Rt N lt I cmp){p:Array Nat}(P:Pm p N){Q:Nat->Shared->Prop}:∀(f m:Nat) (s:Shared),I s->1<=m->m+f<=N->Asc lt p m ->
 (∀m' s',I s'->m<=m'->m'<=m+f->Asc lt p m'->(m'=m+f\/lt (p.getD m' 0) (p.getD (m'-1) 0)=true)->Q m' s')->(kas_asc p f m).kasWp cmp Q s
 | 0,m,s,hI,h1,hn,h,q=>q m s hI (Nat.le_refl _) (Nat.le_refl _) h (.inl rfl)
 | f+1,m,s,hI,h1,hn,h,q=>by
  refine R _ _ _ s hI (P.low m (by omega)) (P.low (m-1) (by omega)) fun s' hI'=>?_
  cases e:lt (p.getD m 0) (p.getD (m-1) 0) with
  | true=>exact q m s' hI' (Nat.le_refl _) (by omega) h (.inr e)
  | false=>exact Jbd o R P f (m+1) s' hI' (by omega) (by omega) (JcL o P h1 (by omega) h e) fun m' s'' hI'' a b c d=>q m' s'' hI'' (by omega) (by omega) c (d.imp (fun z=>by omega) id)
theorem Jc3(o:LtO N lt){p:Array Nat}(P:Pm p N){m:Nat}(h1:1<=m)(hm:m<N)(h:Dsc lt p m)(e:lt (p.getD m 0) (p.getD (m-1) 0)=true):Dsc lt p (m+1):=by
 intro a b ab hb
 by_cases c:b<m
 ·exact h a b ab c
 ·have:b=m:=by omega
  subst this
  by_cases c2:a=b-1
  ·rw[c2];exact e
  ·exact o.tra _ _ _ (P.low b hm) (P.low (b-1) (by omega)) (P.low a (by omega)) e (h a (b-1) (by omega) (by omega))
theorem Jen(o:LtO N lt)(R:Rt N lt I cmp){p:Array Nat}(P:Pm p N){Q:Array Nat×Nat×Nat->Shared->Prop}:∀(f m:Nat) (s:Shared),I s->2<=m->m+f<=N->Dsc lt p m ->
 (∀m' s',I s'->2<=m'->m'<=N->Dsc lt p m'->Q (p,m',0) s')->(kas_desc f p m 0).kasWp cmp Q s
 | 0,m,s,hI,h1,hn,h,q=>q m s hI h1 (by omega) h
 | f+1,m,s,hI,h1,hn,h,q=>by
  refine R _ _ _ s hI (P.low m (by omega)) (P.low (m-1) (by omega)) fun s' hI'=>?_
  cases e:lt (p.getD m 0) (p.getD (m-1) 0) with
  | true=>exact Jen o R P f (m+1) s' hI' (by omega) (by omega) (Jc3 o P (by omega) (by omega) h e) q
  | false =>
   refine R _ _ _ s' hI' (P.low (m-1) (by omega)) (P.low m (by omega)) fun s2 hI2=>?_
   have d:lt (p.getD (m-1) 0) (p.getD m 0)=true:=o.tot _ _ (P.low m (by omega)) (P.low (m-1) (by omega)) (fun z=>by have:=P.inj m (m-1) (by omega) (by omega) z;omega) e;rw[d];exact q m s2 hI2 h1 (by omega) h
theorem Je8{p q:Array Nat}{a b:Nat}(h:p[a]?=q[b]?):p.getD a 0=q.getD b 0:=by rw[Array.getD_eq_getD_getElem?,Array.getD_eq_getD_getElem?,h]
theorem JfS{p:Array Nat}(P:Pm p N){m:Nat}(hm:m<=N)(h:Dsc lt p m):Asc lt (kas_rev p 0 m) m:=by
 have g:∀k,k<m->(kas_rev p 0 m).getD k 0=p.getD (m-1-k) 0:=fun k hk=>Je8 (by unfold kas_rev;rw[getElem?_mirror_all (by rw[P.size];exact hm) k];rw[if_pos ⟨by omega,hk⟩];congr 1;omega)
 intro a b ab hb;rw[g a (by omega),g b hb];exact h (m-1-b) (m-1-a) (by omega) (by omega)
theorem JdM{p:Array Nat}(h:p.toList.Perm (List.range N))(i j:Nat):(kas_rev p i j).toList.Perm (List.range N):=((mirror_perm p i j _).toList).trans h
theorem WO(o:LtO N lt)(R:Rt N lt I cmp){p:Array Nat}(P:Pm p N){k:Nat}(hk:k<N)(h:Asc lt p k){Q:Nat->Shared->Prop}:∀(f l r:Nat) (s:Shared),I s->l<=r->r<=k->r-l<=f->(∀a,a<l->lt (p.getD a 0) (p.getD k 0)=true)->(∀a,r<=a->a<k->lt (p.getD k 0) (p.getD a 0)=true) ->
 (∀l' s',I s'->l'<=k->(∀a,a<l'->lt (p.getD a 0) (p.getD k 0)=true)->(∀a,l'<=a->a<k->lt (p.getD k 0) (p.getD a 0)=true)->Q l' s')->(kas_place p k f l r).kasWp cmp Q s
 | 0,l,r,s,hI,h1,h2,h3,ha,hb,q=>q l s hI (by omega) ha fun a h4 h5=>hb a (by omega) h5
 | f+1,l,r,s,hI,h1,h2,h3,ha,hb,q=>by
  unfold kas_place;split
  ·exact q l s hI (by omega) ha fun a h4 h5=>hb a (by omega) h5
  ·next c =>
   have hmid:(l+r) / 2<r/\l<=(l+r) / 2:=by omega
   refine R _ _ _ s hI (P.low k hk) (P.low _ (by omega)) fun s' hI'=>?_
   cases e:lt (p.getD k 0) (p.getD ((l+r) / 2) 0) with
   | true =>
    refine WO o R P hk h f l ((l+r) / 2) s' hI' (by omega) (by omega) (by omega) ha (fun a h4 h5=>?_) q
    by_cases z:a=(l+r) / 2
    ·rw[z];exact e
    ·exact o.tra _ _ _ (P.low k hk) (P.low _ (by omega)) (P.low a (by omega)) e (h _ a (by omega) h5)
   | false =>
    have d:lt (p.getD ((l+r) / 2) 0) (p.getD k 0)=true:=o.tot _ _ (P.low k hk) (P.low _ (by omega)) (fun z=>by have:=P.inj k ((l+r) / 2) hk (by omega) z;omega) e;refine WO o R P hk h f ((l+r) / 2+1) r s' hI' (by omega) (by omega) (by omega) (fun a h4=>?_) hb q
    by_cases z:a=(l+r) / 2
    ·rw[z];exact d
    ·exact o.tra _ _ _ (P.low a (by omega)) (P.low _ (by omega)) (P.low k hk) (h a _ (by omega) (by omega)) d
theorem Jfx{p:Array Nat}(P:Pm p N){k l:Nat}(hk:k<N)(hl:l<=k)(h:Asc lt p k)(ha:∀a,a<l->lt (p.getD a 0) (p.getD k 0)=true)(hb:∀a,l<=a->a<k->lt (p.getD k 0) (p.getD a 0)=true):Asc lt (bubble p k (k-l)) (k+1):=by
 have g:∀x,x<k+1->(bubble p k (k-l)).getD x 0=if x=l then p.getD k 0 else if l<x then p.getD (x-1) 0 else p.getD x 0:=fun x hx=>by
  have e:=getElem?_bubble (xs:=p) (src:=k) (by rw[P.size];exact hk) (k-l) (by omega) x;rw[show k-(k-l)=l by omega] at e;rw[Array.getD_eq_getD_getElem?,e]
  by_cases c:x=l
  ·rw[if_pos c,if_pos c,<- Array.getD_eq_getD_getElem?]
  ·rw[if_neg c,if_neg c]
   by_cases c2:l<x
   ·rw[if_pos ⟨c2,by omega⟩,if_pos c2,<- Array.getD_eq_getD_getElem?]
   ·rw[if_neg fun z=>c2 z.1,if_neg c2,<- Array.getD_eq_getD_getElem?]
 intro a b ab hb';rw[g a (by omega),g b hb']
 by_cases c1:a=l
 ·rw[if_pos c1,if_neg (by omega),if_pos (by omega)];exact hb (b-1) (by omega) (by omega)
 ·rw[if_neg c1]
  by_cases c2:l<a
  ·rw[if_pos c2,if_neg (by omega),if_pos (by omega)];exact h (a-1) (b-1) (by omega) (by omega)
  ·rw[if_neg c2]
   by_cases c3:b=l
   ·rw[if_pos c3];exact ha a (by omega)
   ·rw[if_neg c3]
    by_cases c4:l<b
    ·rw[if_pos c4];exact h a (b-1) (by omega) (by omega)
    ·rw[if_neg c4];exact h a b ab (by omega)
theorem Jem(o:LtO N lt)(R:Rt N lt I cmp){Q:Array Nat->Shared->Prop}(q:∀p s,I s->p.toList.Perm (List.range N)->Asc lt p N->Q p s):∀(f:Nat) (p:Array Nat) (k:Nat) (s:Shared),I s->p.toList.Perm (List.range N)->k+f=N->Asc lt p k->(kas_bin f p k).kasWp cmp Q s
 | 0,p,k,s,hI,hp,hk,h=>q p s hI hp (by rw[show N=k by omega];exact h)
 | f+1,p,k,s,hI,hp,hk,h=>by
  have P:=Pm.of hp;unfold kas_bin;rw[KasT.kasWp_bind];refine WO o R P (by omega) h k 0 k s hI (by omega) (Nat.le_refl _) (by omega) (fun a ha=>absurd ha (by omega)) (fun a h1 h2=>absurd h2 (by omega)) fun l s' hI' hl ha hb=>?_
  exact Jem o R q f _ (k+1) s' hI' (((bubble_perm p k _).toList).trans hp) (by omega) (Jfx P (by omega) hl h ha hb)
theorem Jgc(o:LtO N lt)(R:Rt N lt I cmp)(h2:2<=N){Q:Array Nat->Shared->Prop}(q:∀p s,I s->p.toList.Perm (List.range N)->Asc lt p N->Q p s)(s:Shared)(hI:I s):(kas_sort N).kasWp cmp Q s:=by
 have hp0:(List.toArray (List.range N)).toList.Perm (List.range N):=List.Perm.refl _
 have P0:=Pm.of hp0
 have one:∀p,Asc lt p 1:=fun p a b h1 h2=>by omega
 have fin:∀(m:Nat) (p:Array Nat) (s:Shared),I s->p.toList.Perm (List.range N)->1<=m->m<=N->Asc lt p m->(if m<N then kas_bin (N-max m 1) p (max m 1) else KasT.ret p).kasWp cmp Q s:=fun m p s hI hp h1 h3 ha=>by
  split
  ·rw[show max m 1=m by omega];exact Jem o R q _ p m s hI hp (by omega) ha
  ·exact q p s hI hp (by rw[show N=m by omega];exact ha)
 unfold kas_sort;rw[KasT.kasWp_bind];unfold kas_count;rw[KasT.kasWp_bind];refine Jbd o R P0 (N-1) 1 s hI (Nat.le_refl _) (by omega) (one _) fun m s1 hI1 a b c d=>?_
 split
 ·exact fin m _ s1 hI1 hp0 a (by omega) c
 ·next hne =>
  have hmN:m≠N:=by simpa using hne
  split
  ·next h1 =>
   refine R _ _ _ s1 hI1 (P0.low 0 (by omega)) (P0.low _ (by omega)) fun s2 hI2=>?_
   rw[c 0 (m-1) (by omega) (by omega)];exact fin m _ s2 hI2 hp0 a (by omega) c
  ·next h1 =>
   have m1:m=1:=by omega
   subst m1
   have d2:Dsc lt (List.toArray (List.range N)) 2:=fun x y h3 h4=>by
    have:x=0/\y=1:=by omega
    rw[this.1,this.2];exact d.resolve_left (by omega)
   unfold kas_descPart;rw[KasT.kasWp_bind];refine Jen o R P0 _ 2 s1 hI1 (Nat.le_refl _) (by omega) d2 fun m' s2 hI2 e1 e2 e3=>?_
   show(kas_tail3 m' N (List.toArray (List.range N))).kasWp cmp _ s2;unfold kas_tail3;rw[KasT.kasWp_bind]
   have hp1:=JdM hp0 0 m';exact Jbd o R (Pm.of hp1) (N-m') m' s2 hI2 (by omega) (by omega) (JfS P0 e2 e3) fun m2 s3 hI3 f1 f2 f3 _=>fin m2 _ s3 hI3 hp1 (by omega) (by omega) f3
end
end L2

namespace L2
open PySem PySem.W PyProof.Rows
section
variable{prog:Program}{w:World}{A:Around}{E:Value->Shared->Prop}{s:Shared}
theorem JbW{lt:Nat->Nat->Bool}{p:Array Nat}{N:Nat}(h:N<2):Asc lt p N:=fun a b h1 h2=>by omega
theorem Jea(vs:List Value):(List.range vs.length).map (fun i=>vs.getD i Value.none)=vs:=by
 refine List.ext_getElem? fun i=>?_
 rw[List.getElem?_map]
 by_cases h:i<vs.length
 ·rw[List.getElem?_range h,Option.map_some,List.getElem?_eq_getElem h];simp[h]
 ·rw[List.getElem?_eq_none (by simpa using h),List.getElem?_eq_none (by omega)];rfl
theorem Jgh(vs:List Value):((vs.toArray.zip vs.toArray).map (·.2))=vs.toArray:=by
 apply Array.toList_inj.mp
 rw[Array.toList_map,Array.toList_zip];exact List.map_snd_zip (Nat.le_refl _)
theorem Jio{a:Addr}{vs:List Value}{n:Nat}{P:PySem.Fin->Shared->Prop}{lt:Nat->Nat->Bool}{κ:SortKind}(ho:s.heap.get? a=some (seqObj "list" vs.toArray n))(h64:vs.length<64)(lo:LtO vs.length lt)
 (kk:2<=vs.length->∀h1:Heap,(∀b ob,b≠a->s.heap.get? b=some ob->h1.get? b=some ob)->wpAny (model prog w) A (keyKind' vs.toArray) (fun k s'=>k=κ/\s'={ s with heap:=h1 }) (fun _ _=>False) { s with heap:=h1 })
 (ask:∀h1:Heap,(∀b ob,b≠a->s.heap.get? b=some ob->h1.get? b=some ob)->Rt vs.length lt (·={ s with heap:=h1 }) (kas_ask prog w A κ vs))
 (h:∀p:Array Nat,p.toList.Perm (List.range vs.length)->Asc lt p vs.length->P (.done (.ret .none)) { s with heap:=sortedHeap s.heap a vs (List.toArray (p.toList.map fun i=>vs.getD i Value.none)) }) :
 wpAny (model prog w) A (Builtin.«list.sort» ⟨[.ref a],[]⟩) P E s:=by
 have lta:a<s.heap.objs.size:=Heap.lt_size ho
 have room:vs.length<=sizeLine:=by rw[sizeLine_eq];omega
 obtain⟨c,hc⟩:∃c,(s.heap.update a (Obj.mapSeq fun _=>(#[]:Array Value))).get? a=some (seqObj "list" #[] c):=⟨_,get?_update_seq ho fun _=>#[]⟩
 have sb:=Heap.SameBut.update s.heap a (Obj.mapSeq fun _=>(#[]:Array Value));rw[list_sort_plain];refine wpAny_bind (listItems_at ho rfl ?_);refine wpAny_bind (listUpdate_at ho rfl ?_ (by rw[List.size_toArray];exact room) (Nat.zero_le _));refine wpAny_bind (seqEpoch_at hc rfl ?_);refine wpAny_bind (wpAny_newTuple ?_ room);refine wpAny_bind (wpAny_newList ?_ (Nat.zero_le _));refine wpAny_holding ?_
 generalize hG:(((s.heap.update a (Obj.mapSeq fun _=>(#[]:Array Value))).push (seqObj "tuple" vs.toArray 0)).push (seqObj "list" #[] 0))=G
 have ga:G.get? a=some (seqObj "list" #[] c):=hG▸Heap.get?_push_of_some _ (Heap.get?_push_of_some _ hc)
 have keep:∀b ob,b≠a->s.heap.get? b=some ob->G.get? b=some ob:=fun b ob hb e=>hG▸Heap.get?_push_of_some _ (Heap.get?_push_of_some _ ((sb.2 b hb).trans e))
 have fin:∀p:Array Nat,p.toList.Perm (List.range vs.length)->Asc lt p vs.length->P (.done (.ret .none)) { s with heap:=G.update a (Obj.mapSeq fun _=>List.toArray (p.toList.map fun i=>vs.getD i Value.none)) }:=fun p hp ha=>by have z:=h p hp ha;unfold sortedHeap at z;rw[hG] at z;exact z
 dsimp only
 by_cases two:vs.toArray.size<2
 ·have two':vs.length<2:=by simpa using two
  rw[if_pos two,if_pos two];refine wpAny_bind (wpAny_pure ?_);rw[StateT.run_pure];refine wpAny_bind (wpAny_pure ?_);dsimp only;refine wpAny_bind (seqEpoch_at ga rfl ?_)
  have ea:(arrOf (SortSt.mk' general' (vs.toArray.zip vs.toArray) #[] 7 none)).map (·.2)=List.toArray ((List.toArray (List.range vs.length)).toList.map fun i=>vs.getD i Value.none):=by show(vs.toArray.zip vs.toArray).map (·.2)=List.toArray ((List.range vs.length).map fun i=>vs.getD i Value.none);rw[Jgh,Jea]
  rw[ea];refine wpAny_bind (listUpdate_at ga rfl ?_ (Nat.zero_le _) (by simpa using Nat.le_succ_of_le room));simp only[bne_self_eq_false,Bool.false_eq_true,if_false];exact wpAny_pure (fin _ (List.Perm.refl _) (JbW two'))
 ·have two1:¬vs.length<2:=by simpa using two
  have two':2<=vs.length:=by omega
  rw[if_neg two,if_neg two];refine wpAny_bind (wpAny_mono (kk two' G keep) (fun k s0 hk=>?_) fun _ _ x=>x.elim);obtain⟨rfl,rfl⟩:=hk;have tree:(kas_sort vs.length).kasWp (kas_ask prog w A k vs) (fun p s'=>s'={ s with heap:=G }/\p.toList.Perm (List.range vs.length)/\Asc lt p vs.length) { s with heap:=G }:=Jgc lo (ask G keep) two' (fun p s' e hp ha=>⟨e,hp,ha⟩) _ rfl;refine wpAny_bind (wpAny_mono (kat_run (ks:=vs) (Q:=fun st' s'=>s'={ s with heap:=G }/\failedOf st'=none/\∃p:Array Nat,(arrOf st').map (·.2)=List.toArray (p.toList.map fun i=>vs.getD i Value.none)/\p.toList.Perm (List.range vs.length)/\Asc lt p vs.length) rfl two' h64
   (fun p st' s' _ e f g=>⟨g.1,f,p,kat_snds rfl e,g.2⟩) tree) ?_ fun _ _ e=>e)
  rintro⟨⟨⟩,st'⟩ s' ⟨rfl,hf,p,ep,hp,ha⟩;dsimp only;refine wpAny_bind (seqEpoch_at ga rfl ?_);rw[ep];refine wpAny_bind (listUpdate_at ga rfl ?_ (Nat.zero_le _) (by
   rw[List.size_toArray,List.length_map,hp.length_eq,List.length_range];exact Nat.le_succ_of_le room))
  rw[hf];simp only[bne_self_eq_false,Bool.false_eq_true,if_false];exact wpAny_pure (fin p hp ha)
end
end L2

namespace L2
open PySem PySem.W PyProof.Rows
noncomputable abbrev PrI:=Int×Int
noncomputable def Ud(p q:PrI):Bool:=if p.1=q.1 then decide (p.2<q.2) else decide (p.1<q.1)
noncomputable def ltP(ps:List PrI)(i j:Nat):Bool:=Ud (ps.getD i (0,0)) (ps.getD j (0,0))
theorem Ji9{ps:List PrI}(nd:ps.Nodup):LtO ps.length (ltP ps):=by
 have inj:∀i j,i<ps.length->j<ps.length->ps.getD i (0,0)=ps.getD j (0,0)->i=j:=fun i j hi hj e=>by
  have gi:ps.getD i (0,0)=ps[i]:=by simp[hi]
  have gj:ps.getD j (0,0)=ps[j]:=by simp[hj]
  rw[gi,gj] at e;rcases Nat.lt_trichotomy i j with c|c|c
  ·exact absurd e (List.pairwise_iff_getElem.mp nd i j hi hj c)
  ·exact c
  ·exact absurd e.symm (List.pairwise_iff_getElem.mp nd j i hj hi c)
 refine⟨fun i j hi hj ne e=>?_,fun i j hi hj e=>?_,fun i j k hi hj hk e1 e2=>?_⟩
 ·have d:ps.getD i (0,0)≠ps.getD j (0,0):=fun z=>ne (inj i j hi hj z)
  unfold ltP Ud at e ⊢
  generalize ps.getD i (0,0)=p at *
  generalize ps.getD j (0,0)=q at *
  obtain⟨p1,p2⟩:=p;obtain⟨q1,q2⟩:=q;dsimp only at *
  by_cases c:p1=q1
  ·rw[if_pos c,decide_eq_false_iff_not] at e;rw[if_pos c.symm,decide_eq_true_iff];have:p2≠q2:=fun z=>d (by rw[c,z])
   omega
  ·rw[if_neg c,decide_eq_false_iff_not] at e;rw[if_neg fun z=>c z.symm,decide_eq_true_iff];omega
 ·unfold ltP Ud at e ⊢
  by_cases c:(ps.getD i (0,0)).1=(ps.getD j (0,0)).1
  ·rw[if_pos c,decide_eq_true_iff] at e;rw[if_pos c.symm,decide_eq_false_iff_not];omega
  ·rw[if_neg c,decide_eq_true_iff] at e;rw[if_neg fun z=>c z.symm,decide_eq_false_iff_not];omega
 ·unfold ltP Ud at e1 e2 ⊢
  by_cases c1:(ps.getD i (0,0)).1=(ps.getD j (0,0)).1
  ·rw[if_pos c1,decide_eq_true_iff] at e1
   by_cases c2:(ps.getD j (0,0)).1=(ps.getD k (0,0)).1
   ·rw[if_pos c2,decide_eq_true_iff] at e2;rw[if_pos (c1.trans c2),decide_eq_true_iff];omega
   ·rw[if_neg c2,decide_eq_true_iff] at e2;rw[if_neg (by omega),decide_eq_true_iff];omega
  ·rw[if_neg c1,decide_eq_true_iff] at e1
   by_cases c2:(ps.getD j (0,0)).1=(ps.getD k (0,0)).1
   ·rw[if_pos c2,decide_eq_true_iff] at e2;rw[if_neg (by omega),decide_eq_true_iff];omega
   ·rw[if_neg c2,decide_eq_true_iff] at e2;rw[if_neg (by omega),decide_eq_true_iff];omega
noncomputable def TupP(h:Heap)(v:Value)(p:PrI):Prop:=∃a o n t u,v=.ref a/\h.get? a=some o/\o.cls=.type "tuple"/\o.data=.seq #[.int p.1 t,.int p.2 u] n
noncomputable def Jbe(h:Heap)(vs:List Value)(ps:List PrI):Prop:=vs.length=ps.length/\∀(i:Nat) (v:Value) (p:PrI),vs[i]?=some v->ps[i]?=some p->TupP h v p
section
variable{prog:Program}{w:World}{A:Around}{E:Value->Shared->Prop}{s:Shared}
theorem TupP.off{h h1:Heap}{a:Addr}{vs:Array Value}{n:Nat}{v:Value}{p:PrI}(ho:h.get? a=some (seqObj "list" vs n))(keep:∀b ob,b≠a->h.get? b=some ob->h1.get? b=some ob)(t:TupP h v p):TupP h1 v p:=by obtain⟨b,o,m,t,u,rfl,hb,hc,hd⟩:=t;refine⟨b,o,m,t,u,rfl,keep b o (fun e=>?_) hb,hc,hd⟩;subst e;rw[ho] at hb;cases hb;have z:(Value.type "list":Value)=.type "tuple":=hc;exact absurd z (by decide)
theorem Jdo{h:Heap}:∀{vs:List Value} {ps:List PrI},Jbe h vs ps->∃fs,KatTups h vs fs/\fs.length=vs.length/\∀f∈fs,∃i t,f=Value.int i t
 | [],[],_=>⟨[],trivial,rfl,fun f hf=>nomatch hf⟩
 | [],_::_,t=>by cases t.1
 | _::_,[],t=>by cases t.1
 | v::vs,p::ps,t=>by
  obtain⟨fs,k1,k2,k3⟩:=Jdo (vs:=vs) (ps:=ps) ⟨by have:=t.1;simpa using this,fun i v p h1 h2=>t.2 (i+1) v p (by simpa using h1) (by simpa using h2)⟩;obtain⟨a,o,n,x,y,rfl,ho,hc,hd⟩:=t.2 0 v p rfl rfl;refine⟨.int p.1 x::fs,KatTups.cons ho hc hd rfl k1,by rw[List.length_cons,k2,List.length_cons],fun f hf=>?_⟩;rcases List.mem_cons.mp hf with e|e
  ·exact⟨_,_,e⟩
  ·exact k3 f e
theorem JbX{h1:Heap}{vs:List Value}{ps:List PrI}(t:Jbe h1 vs ps):Rt vs.length (ltP ps) (·={ s with heap:=h1 }) (kas_ask prog w A (tuples' true) vs):=by
 intro i j C s' e hi hj q;subst e;have q:=q _ rfl;have gi:vs.getD i Value.none=vs[i]:=by simp[hi]
 have gj:vs.getD j Value.none=vs[j]:=by simp[hj]
 have li:i<ps.length:=by rw[<- t.1];exact hi
 have lj:j<ps.length:=by rw[<- t.1];exact hj
 obtain⟨a,oa,n,x1,x2,ea,ha,_,da⟩:=t.2 i vs[i] ps[i] (by simp) (by simp);obtain⟨b,ob,m,y1,y2,eb,hb,_,db⟩:=t.2 j vs[j] ps[j] (by simp) (by simp);have ei:ps.getD i (0,0)=ps[i]:=by simp[li]
 have ej:ps.getD j (0,0)=ps[j]:=by simp[lj]
 unfold ltP Ud at q;rw[ei,ej] at q;unfold kas_ask;rw[gi,gj,ea,eb];refine kat_lt (s:={ s with heap:=h1 }) ha da hb db ?_;refine kat_cons (wpAny_eqBool_int ?_)
 by_cases c:ps[i].1=ps[j].1
 ·rw[if_pos c] at q;rw[show(ps[i].1 == ps[j].1)=true by simpa using c];refine kat_yes (kat_cons (wpAny_eqBool_int ?_))
  by_cases d:ps[i].2=ps[j].2
  ·rw[show(ps[i].2 == ps[j].2)=true by simpa using d];refine kat_yes (kat_nil ?_);rw[decide_eq_false (by omega)] at q;exact q
  ·rw[show(ps[i].2 == ps[j].2)=false by simpa using d];exact kat_no (kat_one _ _ (PyProof.Rows.lt_int (show W.BoolBack C (Value.bool (decide (ps[i].snd<ps[j].snd))) _ from q)))
 ·rw[if_neg c] at q;rw[show(ps[i].1 == ps[j].1)=false by simpa using c];exact kat_no (oneLt_int q)
theorem Ja6{a:Addr}{vs:List Value}{ps:List PrI}{n:Nat}{P:PySem.Fin->Shared->Prop}(ho:s.heap.get? a=some (seqObj "list" vs.toArray n))(h64:vs.length<64)(t:Jbe s.heap vs ps)(nd:ps.Nodup)
 (h:∀p:Array Nat,p.toList.Perm (List.range vs.length)->Asc (ltP ps) p vs.length->P (.done (.ret .none)) { s with heap:=sortedHeap s.heap a vs (List.toArray (p.toList.map fun i=>vs.getD i Value.none)) }) :
 wpAny (model prog w) A (Builtin.«list.sort» ⟨[.ref a],[]⟩) P E s:=by
 have tt:∀h1:Heap,(∀b ob,b≠a->s.heap.get? b=some ob->h1.get? b=some ob)->Jbe h1 vs ps:=fun h1 keep=>⟨t.1,fun i v p e1 e2=>TupP.off ho keep (t.2 i v p e1 e2)⟩
 refine Jio (κ:=tuples' true) ho h64 (t.1▸Ji9 nd) (fun h2 h1 keep=>?_) (fun h1 keep=>JbX (tt h1 keep)) h;obtain⟨fs,k1,k2,k3⟩:=Jdo (tt h1 keep);refine kat_kind (s:={ s with heap:=h1 }) (T:=.type "int") k1 (by omega) (fun v hv=>?_) rfl ⟨rfl,rfl⟩;obtain⟨i,x,rfl⟩:=k3 v hv;exact fun _ _ _ _ _ q=>wpAny_pure q
end
end L2

namespace L2
open PySem PySem.Spec PySem.W PyProof.Rows
section
variable{prog:Program}{w:World}{A:Around}{E:Value->Shared->Prop}{s:Shared}
end
section
variable{X:Cx}
end
end L2

namespace L2
open PySem PySem.Spec PySem.W PyProof.Rows
noncomputable def RawD(h:Heap)(d:Addr)(es:Array DictEntry)(ep:Nat):Prop:=∃o,h.get? d=some o/\o.ExactDict/\o.data=.dict es ep
section
variable{prog:Program}{w:World}{A:Around}{E:Value->Shared->Prop}{s:Shared}{it d v:Addr}{i ep:Nat}{es:Array DictEntry}
theorem RawD.at{h h':Heap}(x:RawD h d es ep)(e:∀o,h.get? d=some o->h'.get? d=some o):RawD h' d es ep:=let ⟨o,ho,r⟩:=x;⟨o,e _ ho,r⟩
theorem RawD.lt{h:Heap}(x:RawD h d es ep):d<h.objs.size:=let ⟨_,ho,_⟩:=x;Heap.lt_size ho
theorem Jaw{Q:Option Value->Shared->Prop}(hh:A.handled=none)(hit:s.heap.IsKeyIter it d i es.size ep)(hm:RawD s.heap d es ep)
 (item:∀e h',es[i]?=some e->h'.IsKeyIter it d (i+1) es.size ep->Heap.SameBut it s.heap h'->Q (some e.key) { s with heap:=h' })
 (done:es[i]?=none->∀h',Heap.ExtBut it s.heap h'->Q none { s with heap:=h' }):wpAny (model prog w) A (pyNext (.ref it)) Q E s:=by
 obtain⟨o,ho,hc,hd⟩:=id hit;obtain⟨od,hod,-,hdd⟩:=id hm;have own:Builtin.Dict_items.ownsTuple "dict_keyiterator"=false:=by decide
 unfold pyNext;refine wpAny_bind (wpAny_attempt (wpAny_callSpecial?_slot (name:=Str.ofString "__next__") hit.typeIs F.slot_dict_keyiterator_next (wpAny_call_entry F.slot_dict_keyiterator_next hit.typeIs F.entry_dict_keyiterator_next ?_ (F.args_dict_keyiterator_next_1 _))));refine wpAny_bind (wpAny_pure (wpAny_bind (wpAny_bind ?_)))
 first|refine wpAny_bind (wpAny_typeNameOfWhole_keyiter hit.typeIs (wpAny_pure ?_))|refine wpAny_bind (wpAny_typeNameOf_keyiter hit.typeIs (wpAny_pure ?_))
 refine wpAny_bind (wpAny_fieldsOf ho hd ?_);simp only[own,Bool.false_eq_true,if_false];show wpAny _ _ (if (Value.ref d == Value.none)=true then _ else _) _ _ s;rw[if_neg (show ¬((Value.ref d == Value.none)=true) from Bool.false_ne_true)];refine wpAny_bind (wpAny_pure (wpAny_bind (wpAny_dictEntries hod hdd ?_)));rw[if_neg (by simp)];refine wpAny_bind (wpAny_pure (wpAny_bind (wpAny_dictEpoch hod hdd ?_)));rw[if_neg (by simp)];refine wpAny_pure ?_;simp only[show ¬((i:Int)<0) from by omega,if_false,Int.toNat_natCast]
 cases hx:es[i]? with
 | some e =>
  have hit':(s.heap.update it (Obj.mapFields (·.setIfInBounds 1 (rawInt ((i:Int)+1))))).IsKeyIter it d (i+1) es.size ep :=
   ⟨_,Heap.get?_update_self _ ho (Obj.isFreed_of_fields (Obj.data_mapFields hd _)),(Obj.cls_mapFields ..).trans hc,by rw[Obj.data_mapFields hd];simp[rawInt]⟩
  refine wpAny_bind ?_
  first|refine wpAny_bind (wpAny_typeNameOfWhole_keyiter hit.typeIs (wpAny_pure ?_))|refine wpAny_bind (wpAny_typeNameOf_keyiter hit.typeIs (wpAny_pure ?_))
  refine wpAny_bind (wpAny_isOneOf_keyiter hit.typeIs ?_);show wpAny _ _ (setField (.ref it) 1 (rawInt ((i:Int)+1)) >>= _) _ _ s;refine wpAny_bind (wpAny_setField ho hd (by simp) (wpAny_bind (wpAny_holding ?_)));refine wpAny_bind (wpAny_isOneOf_keyiter (s:={ s with heap:=s.heap.update it (Obj.mapFields (·.setIfInBounds 1 (rawInt ((i:Int)+1)))) }) hit'.typeIs ?_);show wpAny _ _ (pure e.key) _ _ _;exact wpAny_pure (wpAny_pure ⟨_,rfl,wpAny_pure (item e _ hx hit' (Heap.SameBut.update ..))⟩)
 | none =>
  refine wpAny_bind ?_
  first|refine wpAny_bind (wpAny_typeNameOfWhole_keyiter hit.typeIs (wpAny_pure ?_))|refine wpAny_bind (wpAny_typeNameOf_keyiter hit.typeIs (wpAny_pure ?_))
  show wpAny _ _ (setField (.ref it) 0 .none >>= _) _ _ s;refine wpAny_bind (wpAny_setField ho hd (by simp) ?_)
  show wpAny _ _ (newExc (.type "StopIteration") [] >>= _) _ _ _;refine wpAny_bind ?_;simp only[newExc,newTuple];refine wpAny_bind (wpAny_newObj_type ?_ (by size_fits));refine wpAny_bind (m:=firstArgMember _ _) (wpAny_of_eq (a:=Value.none) (by first | rfl | (simp only[firstArgMember];rfl)) ?_);refine wpAny_newObj_type ?_ (by size_fits);simp only[raiseNew];refine wpAny_bind (wpAny_handled ?_);rw[show A.in1.handled=none from hh];refine wpAny_bind (wpAny_pure (wpAny_throw ?_))
  refine wpAny_bind (wpAny_isInstance (T:="StopIteration") (b:=true) ⟨_,Heap.get?_push_size _ rfl,rfl⟩ isSubtype_stop ?_);exact wpAny_pure (done hx _ (((Heap.SameBut.update ..).extBut.push _).push _))
theorem Jd0(hh:A.handled=none)(I d:Addr)(hne:d≠I)(es:Array DictEntry)(ep:Nat) :
 Walks prog w A I [I,d] [I] es.size (fun i v=>∃e,es[i]?=some e/\e.key=v) (fun i h=>h.IsKeyIter I d i es.size ep/\RawD h d es ep) where
 sub:=fun b hb=>by simp at hb;simp[hb]
 frame:=fun _ _ _ st hk=>⟨st.1.at fun o e=>hk I (by simp) o e,st.2.at fun o e=>hk d (by simp) o e⟩
 item:=fun i s Q E hi st hQ=>by refine Jaw hh st.1 st.2 (fun e h' he hit' hs'=>?_) (fun e=>absurd (Array.getElem?_eq_none_iff.mp e) (by omega));exact hQ e.key h' s.toks ⟨e,he,rfl⟩ ⟨hit',st.2.at fun o x=>hs'.extBut d o hne x⟩ fun b o hb x=>hs'.extBut b o (fun h=>hb (by simp[h])) x
 done:=fun s Q E st hQ=>Jaw hh st.1 st.2 (fun e h' he _ _=>by have:=(Array.getElem?_eq_some_iff.mp he).1;omega) fun _ h' he'=>hQ h' s.toks fun b o hb e=>he' b o (fun h=>hb (by simp[h])) e
 self:=fun _ _ _ _ st hQ=>wpAny_pyIter_keyiter st.1 hQ
theorem JdZ{Q:Value->Shared->Prop}(hv:KdlKeysView s.heap v d)(hm:RawD s.heap d es ep)
 (hQ:Q (.ref s.heap.objs.size) { s with heap:=s.heap.push { cls:=.type "dict_keyiterator",data:=.fields #[.ref d,.int 0 0,.int es.size 0,.int ep 0] } }) :
 wpAny (model prog w) A (pyIter (.ref v)) Q E s:=by
 obtain⟨ov,hov,hcv,hdv⟩:=id hv;obtain⟨o,ho,hc,hdat⟩:=id hm;have own:Builtin.Dict_items.ownsTuple "dict_keyiterator"=false:=by decide
 refine wpAny_pyIter_slot hv.typeIs kdl_slot_keys_iter (wpAny_call_entry kdl_slot_keys_iter hv.typeIs kdl_entry_keys_iter ?_ (kdl_args_keys_iter _));unfold Builtin.«dict_keys.__iter__»;refine wpAny_bind (wpAny_pure (wpAny_bind ?_));unfold Builtin.Dict_items.dictOf;refine wpAny_bind (wpAny_field hov hdv (x:=.ref d) rfl (wpAny_pure (wpAny_bind ?_)));unfold Builtin.Dict_items.newIterator;refine wpAny_bind (wpAny_dictEntries ho hdat (wpAny_bind (wpAny_dictEpoch ho hdat ?_)));simp only[own,Bool.false_eq_true,if_false]
 refine wpAny_newObj_type (wpAny_pure ⟨_,rfl,"dict_keyiterator",_,⟨_,Heap.get?_push_size _ rfl,rfl⟩,PySem.F.slot_dict_keyiterator_next.lookup,?_⟩)
 simpa [rawInt] using hQ
theorem JfB{r:Addr}:KdlSrc prog w "dict_keys" r d es.size (fun i v=>∃e,es[i]?=some e/\e.key=v) (fun h=>KdlKeysView h r d/\RawD h d es ep) where
 type:=fun _ hm=>hm.1.typeIs
 there:=fun _ hm=>⟨let ⟨_,ho,_⟩:=hm.1;Heap.lt_size ho,hm.2.lt⟩
 keep:=fun _ _ hm hk=>⟨let ⟨o,ho,x⟩:=hm.1;⟨o,hk r (.inl rfl) o ho,x⟩,hm.2.at fun o e=>hk d (.inr rfl) o e⟩
 notList:=by decide
 notTuple:=by decide
 hint:=fun _ _ _ _ hm hq=>kdl_hint_keys hm.1.typeIs hq
 iter:=fun _ s hh hm=>⟨_,_,(fun _ _ hq=>JdZ hm.1 hm.2 hq),Jd0 hh _ d (Nat.ne_of_lt hm.2.lt) es ep,⟨⟨_,Heap.get?_push_size _ rfl,rfl,rfl⟩,hm.2.at fun o e=>Heap.get?_push_of_some _ e⟩⟩
end
end L2

namespace L2
open PySem PySem.Spec PySem.W PyProof.Rows
noncomputable def Jch(p:PrI):List PrI->List PrI
 | []=>[p]
 | q::l=>if Ud q p=true then q::Jch p l else p::q::l
noncomputable def WY:List PrI->List PrI
 | []=>[]
 | p::l=>Jch p (WY l)
theorem Vz(p:PrI):∀l,(Jch p l).Perm (p::l)
 | []=>.refl _
 | q::l=>by
  unfold Jch;split
  ·exact((Vz p l).cons q).trans (List.Perm.swap p q l)
  ·exact .refl _
theorem Yj:∀l,(WY l).Perm l
 | []=>.refl _
 | p::l=>(Vz p _).trans ((Yj l).cons p)
theorem UL(a b:PrI):Ud a b=true↔a.1<b.1\/(a.1=b.1/\a.2<b.2):=by
 unfold Ud
 by_cases e:a.1=b.1
 ·rw[if_pos e,decide_eq_true_iff];exact⟨fun h=>.inr ⟨e,h⟩,fun h=>h.elim (fun x=>by omega) fun x=>x.2⟩
 ·rw[if_neg e,decide_eq_true_iff];exact⟨fun h=>.inl h,fun h=>h.elim id fun x=>absurd x.1 e⟩
theorem Wt{a b c:PrI}(h:Ud a b=true)(k:Ud b c=true):Ud a c=true:=by rw[UL] at *;omega
theorem Jdu(a:PrI):Ud a a=false:=by
 cases h:Ud a a with
 | false=>rfl
 | true=>rw[UL] at h;omega
theorem Jdv{a b:PrI}(h:Ud a b=false)(ne:a≠b):Ud b a=true:=by
 have n1:¬(a.1<b.1\/(a.1=b.1/\a.2<b.2)):=fun x=>by rw[(UL a b).mpr x] at h;cases h
 have n2:¬(a.1=b.1/\a.2=b.2):=fun x=>ne (Prod.ext x.1 x.2)
 rw[UL];omega
theorem Jai(p:PrI):∀l:List PrI,p∉l->l.Pairwise (fun a b=>Ud a b=true)->(Jch p l).Pairwise (fun a b=>Ud a b=true)
 | [],_,_=>List.pairwise_singleton _ _
 | q::l,nm,h=>by
  unfold Jch;have hq:=List.pairwise_cons.mp h;split
  ·rename_i c;refine List.pairwise_cons.mpr ⟨fun x hx=>?_,Jai p l (fun m=>nm (List.mem_cons_of_mem _ m)) hq.2⟩;rcases List.mem_cons.mp ((Vz p l).mem_iff.mp hx) with e|e
   ·rw[e];exact c
   ·exact hq.1 x e
  ·rename_i c;have pq:Ud p q=true:=Jdv (by simpa using c) (fun e=>nm (e▸List.mem_cons_self));refine List.pairwise_cons.mpr ⟨fun x hx=>?_,h⟩;rcases List.mem_cons.mp hx with e|e
   ·rw[e];exact pq
   ·exact Wt pq (hq.1 x e)
theorem WJ:∀l:List PrI,l.Nodup->(WY l).Pairwise (fun a b=>Ud a b=true)
 | [],_=>List.Pairwise.nil
 | p::l,nd=>Jai p _ (fun m=>(List.nodup_cons.mp nd).1 ((Yj l).mem_iff.mp m)) (WJ l (List.nodup_cons.mp nd).2)
theorem Z2:∀{a b:List PrI},a.Perm b->a.Pairwise (fun a b=>Ud a b=true)->b.Pairwise (fun a b=>Ud a b=true)->a=b
 | [],b,h,_,_=>(List.nil_perm.mp h).symm
 | x::a,[],h,_,_=>absurd h.length_eq (by simp)
 | x::a,y::b,h,ha,hb=>by
  have hx:=List.pairwise_cons.mp ha
  have hy:=List.pairwise_cons.mp hb
  have e:x=y:=by
   rcases List.mem_cons.mp (h.mem_iff.mp List.mem_cons_self) with e|e
   ·exact e
   ·rcases List.mem_cons.mp (h.mem_iff.mpr List.mem_cons_self) with e'|e'
    ·exact e'.symm
    ·have:=Wt (hx.1 y e') (hy.1 x e);rw[Jdu] at this;cases this
  subst e;rw[Z2 (List.Perm.cons_inv h) hx.2 hy.2]
noncomputable abbrev pk(p:PrI):List Key:=LE.dtK p
theorem JhM{p q:PrI}(h:pk p=pk q):p=q:=by unfold pk LE.dtK at h;simp at h;exact Prod.ext h.1 h.2
noncomputable def Jeg(td:TE):TE:=fun σ H Q=>td σ H fun x H1=>∃a,x=.ref a/\IsD H1 a/\∀p,H1 p=none->Q (.ref p) (upd H1 p (Zp p a))
theorem JdK{X:Cx}{d:Expr}{td:TE}{apos pos:Pos}(hd:PE X d td)(hbase:attributeBase d "keys" X.env (eval d X.env)=eval d X.env:=by rfl)(hline:(apos.endLine == pos.line)=true:=by rfl)
:PE X (.Call (.Attribute d "keys" apos) [] [] pos) (Jeg td):=by
 intro pins s σ H Q I h;refine wpAny_Call_method0_late hbase hline (thn (hd pins s σ H _ I h) fun v s1 ⟨x,H1,I1,r1,a,ex,hD,q⟩=>?_);subst ex;cases r1;obtain⟨t1,t2,y⟩:=Jhe I1 hD;refine⟨"dict","dict.keys",PySem.F.plainAttrs_dict,PySem.F.slot_dict_keys,PySem.F.type_dict_keys,t1,t2,Calls.callWith_builtin rfl (PySem.evalArgs_none ?_)⟩;refine wpAny_call_entry PySem.F.slot_dict_keys t1 PySem.F.entry_dict_keys ?_ (PySem.F.args_dict_keys_1 _);have hn:H1 s1.heap.objs.size=none:=I1.hok.fresh (Nat.le_refl _)
 have vw:KdlKeysView (s1.heap.push { cls:=.type "dict_keys",data:=.fields #[.ref a] }) s1.heap.objs.size a:=⟨_,Heap.get?_push_size _ rfl,rfl,rfl⟩
 show wpAny _ _ (Builtin.Dict.noArgs _ _ >>= _) _ _ s1;refine wpAny_bind ?_;unfold Builtin.Dict.noArgs;refine wpAny_bind (wpAny_notOrdered_dict t1 (wpAny_pure ?_))
 show wpAny _ _ (Builtin.Dict.showsAll a >>= _) _ _ s1;unfold Builtin.Dict.showsAll;rw[if_neg (by rw[y];exact Bool.false_ne_true)];refine wpAny_bind (wpAny_pure (wpAny_bind (wpAny_newObj_type (wpAny_pure ⟨_,rfl,?_⟩))));refine⟨.ref s1.heap.objs.size,_,I1.laid (t':=s1.toks) (o:=Zp s1.heap.objs.size a) (fun b ob q=>Heap.get?_push_of_some _ q) (Nat.le_refl _) ⟨vw,⟨_,Heap.get?_push_size _ rfl⟩,fun h1 h2 p k=>?_⟩,rfl,q _ hn⟩;obtain⟨o,ho,hc⟩:=p;exact⟨o,k o ho,hc⟩
theorem JcM{ps:List PrI}{p:List Nat}(hp:p.Perm (List.range ps.length))(ha:∀a b,a<b->b<ps.length->ltP ps (p.getD a 0) (p.getD b 0)=true)(nd:ps.Nodup):(p.map fun i=>ps.getD i (0,0))=WY ps:=by
 have hl:p.length=ps.length:=by rw[hp.length_eq,List.length_range]
 refine Z2 ?_ ?_ (WJ ps nd)
 ·refine(hp.map _).trans (List.Perm.trans (.of_eq ?_) (Yj ps).symm);refine List.ext_getElem (by simp) fun i h1 h2=>?_
  simp[List.getD_eq_getElem?_getD,h2]
 ·refine List.pairwise_iff_getElem.mpr fun i j hi hj hij=>?_
  have hj':j<ps.length:=by rw[List.length_map] at hj;omega
  have:=ha i j hij hj';unfold ltP at this
  have g:∀k,(h:k<p.length)->p.getD k 0=p[k]:=fun k h=>by simp[List.getD_eq_getElem?_getD,h]
  rw[g i (by omega),g j (by omega)] at this
  simpa using this
noncomputable def JbL:List V->Hp->VK->Prop:=fun xs H Q=>∃r a ps vs,xs=[.ref r]/\H r=some (Zp r a)/\Rd H a (LE.dtO ps vs)/\ps.length=vs.length/\ps.length<64 ∧
 (ps.Nodup->∀l (bs:List Addr),H l=none->bs.length=ps.length->(∀(i:Nat) (b:Addr) (p:PrI),bs[i]?=some b->(WY ps)[i]?=some p->H b=some (.tup [.int p.1,.int p.2]))->Q (.ref l) (upd H l (.lst (bs.map V.ref))))
theorem KT.get{H:Hp}:∀{kvs:List (List Key×V)} {xs:List (List Key×Addr×Value)},KT H kvs xs->kvs.length=xs.length/\∀(i:Nat) (k:List Key×V) (x:List Key×Addr×Value),kvs[i]?=some k->xs[i]?=some x->k.1=x.1/\H x.2.1=some (.tup (k.1.map kV))
 | _,_,.nil=>⟨rfl,fun i k x e=>by simp at e⟩
 | _,_,.cons h t=>by
  obtain⟨h1,h2⟩:=KT.get t;refine⟨by simp[h1],fun i k x e1 e2=>?_⟩
  cases i with
  | zero=>simp at e1 e2;subst e1 e2;exact⟨h.1,h.2.1⟩
  | succ i=>exact h2 i k x (by simpa using e1) (by simpa using e2)
theorem Z9{X:Cx}(hc:X.calm=true):CallR X (.builtin "sorted") JbL:=by
 intro pins s σ H xs us Q I r h;obtain⟨p,a,ps,vs0,rfl,ds,hq,hlk,h64,q⟩:=h;obtain⟨u,rfl,rx⟩:=Zn r;cases rx;have vw:KdlKeysView s.heap p a:=(show ObjOk X.prog X.w H s.heap p (Zp p a) from I.hok p _ ds).1;obtain⟨z,y,ys,kt,o,es,ep,ho,hex,hdat,hes,_,hnd⟩:=Jbu I.hok hq;obtain⟨kl,kg⟩:=KT.get kt;have hps:((ps.map pk).zip vs0).length=ps.length:=by rw[List.length_zip,List.length_map,<- hlk,Nat.min_self]
 have hyl:ys.length=ps.length:=by rw[<- kl,hps]
 have hsz:es.size=ps.length:=by rw[<- Array.length_toList,hes,List.length_map,hyl]
 have hh:X.A.in1.handled=none:=I.ok.hd hc
 have yk:∀(i:Nat) (x:List Key×Addr×Value) (p:PrI),ys[i]?=some x->ps[i]?=some p->x.1=pk p/\H x.2.1=some (.tup [.int p.1,.int p.2]):=fun i x p e1 e2=>by
  have hi:i<ps.length:=(List.getElem?_eq_some_iff.mp e2).1
  have e3:((ps.map pk).zip vs0)[i]?=some (pk p,vs0[i]):=by rw[List.getElem?_zip_eq_some];exact⟨by rw[List.getElem?_map,e2];rfl,by simp[hlk▸hi]⟩
  obtain⟨g1,g2⟩:=kg i _ x e3 e1;exact⟨g1.symm,g2⟩
 have nd:ps.Nodup:=by
  have e:ys.map (·.1)=ps.map pk:=by
   refine List.ext_getElem? fun i=>?_
   rw[List.getElem?_map,List.getElem?_map]
   by_cases hi:i<ps.length
   ·have h1:ys[i]?=some ys[i]:=List.getElem?_eq_getElem (by omega)
    have h2:ps[i]?=some ps[i]:=List.getElem?_eq_getElem hi;rw[h1,h2];exact congrArg some (yk i _ _ h1 h2).1
   ·rw[List.getElem?_eq_none (by omega),List.getElem?_eq_none (by omega)];rfl
  rw[e] at hnd;exact List.Pairwise.of_map pk (fun a b h e=>h (congrArg pk e)) hnd
 refine Calls.call_function_entry kind_sorted plain_sorted entry_sorted (args_sorted1 _) ?_;unfold Builtin.«sorted»;refine wpAny_bind (m:=checkCount "sorted" 1 1 _) (wpAny_pure ?_);refine wpAny_bind (Jab (JfB (d:=a) (es:=es) (ep:=ep)) hh ⟨vw,o,ho,hex,hdat⟩ (by rw[hsz,sizeLine_eq];omega) fun h' tk acc hk hsz' items=>?_);have hal:acc.toList.length=ps.length:=by rw[Array.length_toList,items.1,hsz]
 have keyAt:∀(i:Nat) (v:Value),acc.toList[i]?=some v->∃x,ys[i]?=some x/\v=.ref x.2.1:=fun i v e=>by
  obtain⟨en,e1,e2⟩:=items.2 i v (by rw[<- Array.getElem?_toList];exact e);rw[entry_at hes i] at e1
  cases hy:ys[i]? with
  | none=>rw[hy] at e1;cases e1
  | some x=>rw[hy] at e1;cases e1;exact⟨x,rfl,e2.symm⟩
 refine wpAny_bind (wpAny_newList ?_ (by rw[hal,sizeLine_eq];omega));have hoL:(h'.push (seqObj "list" acc.toList.toArray 0)).get? h'.objs.size=some (seqObj "list" acc.toList.toArray 0):=Heap.get?_push_size _ rfl;refine wpAny_bind (wpAny_holding (wpAny_call_entry slot_list_sort ⟨_,hoL,rfl⟩ entry_list_sort (Ja6 (ps:=ps) hoL (by rw[hal];exact h64) ⟨hal,fun i v p e1 e2=>?_⟩ nd fun p hp ha=>⟨_,rfl,?_⟩) (args_list_sort _)))
 ·obtain⟨x,ex,rfl⟩:=keyAt i v e1;obtain⟨_,g2⟩:=yk i x p ex e2;obtain⟨_,its,r2,o2,ho2,hc2,n2,hd2⟩:=(show ObjOk X.prog X.w H s.heap x.2.1 (.tup [.int p.1,.int p.2]) from I.hok _ _ g2)
  cases r2 with
  | cons x1 r3=>cases r3 with
   | cons x2 r4=>cases r4;obtain⟨t1,rfl⟩:=x1;obtain⟨t2,rfl⟩:=x2;exact⟨_,o2,n2,t1,t2,rfl,Heap.get?_push_of_some _ (hk _ _ ho2),hc2,hd2⟩
 ·refine wpAny_pure ⟨_,rfl,?_⟩;have perm:p.toList.Perm (List.range ps.length):=by rw[<- hal];exact hp
  have asc:∀a b,a<b->b<ps.length->ltP ps (p.toList.getD a 0) (p.toList.getD b 0)=true:=fun x y hxy hy=>by
   have:=ha x y hxy (by rw[hal];exact hy)
   have g:∀i,p.toList.getD i 0=p.getD i 0:=fun i=>by rw[List.getD_eq_getElem?_getD,Array.getD_eq_getD_getElem?,Array.getElem?_toList]
   rw[g,g];exact this
  have es2:=JcM perm asc nd;obtain⟨e,he⟩:=sortedHeap_at (out:=List.toArray (p.toList.map fun i=>acc.toList.getD i Value.none)) hoL
  have hle:s.heap.objs.size<=h'.objs.size:=Nat.le_of_lt hsz'
  have hne:H h'.objs.size=none:=I.hok.fresh hle
  have pl:p.toList.length=ps.length:=by rw[perm.length_eq,List.length_range]
  let bs:List Addr:=p.toList.map fun i=>((ys[i]?).map fun x=>x.2.1).getD 0
  have bl:bs.length=ps.length:=by rw[List.length_map,pl]
  have low:∀i∈p.toList,i<ps.length:=fun i hi=>by simpa using perm.mem_iff.mp hi
  have rel:Vals (bs.map V.ref) (p.toList.map fun i=>acc.toList.getD i Value.none):=by
   have:∀l:List Nat,(∀i∈l,i<ps.length)->Vals ((l.map fun i=>((ys[i]?).map fun x=>x.2.1).getD 0).map V.ref) (l.map fun i=>acc.toList.getD i Value.none):=by
    intro l hl
    induction l with
    | nil=>exact .nil
    | cons i l ih=>refine .cons ?_ (ih fun j hj=>hl j (List.mem_cons_of_mem _ hj));have hi:=hl i List.mem_cons_self;have ea:acc.toList[i]?=some acc.toList[i]:=List.getElem?_eq_getElem (by omega);obtain⟨x,ex,ev⟩:=keyAt i _ ea;show RelV (V.ref (((ys[i]?).map fun x=>x.2.1).getD 0)) (acc.toList.getD i Value.none);rw[List.getD_eq_getElem?_getD,ea,ex,ev];rfl
   exact this _ low
  refine⟨.ref h'.objs.size,_,I.laid (t':=tk) (fun b o x=>?_) hle (show ObjOk X.prog X.w _ _ _ (.lst (bs.map V.ref)) from⟨by rw[List.length_map,bl,sizeLine_eq];omega,_,e,rel,?_⟩),rfl,q nd _ bs hne bl fun i b pp e1 e2=>?_⟩
  ·have hx:=hk b o x
   have hlt:b<h'.objs.size:=Heap.lt_size hx;rw[sortedHeap_old (Nat.ne_of_lt hlt) (by rw[size_push'];exact Nat.lt_succ_of_lt hlt)];exact Heap.get?_push_of_some _ hx
  ·rw[he]
  ·rw[<- es2,List.getElem?_map] at e2;rw[List.getElem?_map] at e1
   cases hpi:p.toList[i]? with
   | none=>rw[hpi] at e1;cases e1
   | some j=>rw[hpi] at e1 e2;have hj:=low j (List.mem_of_getElem? hpi);have y1:ys[j]?=some ys[j]:=List.getElem?_eq_getElem (by omega);have p1:ps[j]?=some ps[j]:=List.getElem?_eq_getElem hj;simp[List.getD_eq_getElem?_getD,y1,p1] at e1 e2;subst e1 e2;exact(yk j _ _ y1 p1).2
end L2

namespace L2
open PySem PySem.Spec PySem.W PyProof.Rows
noncomputable def Ja8(td ty:TE)(K:Frag):TE:=fun σ H Q=>td σ H fun x H1=>ty σ H1 fun y H2=>∃a b kvs k v,x=.ref a/\y=.ref b/\Rd H2 a (.dT kvs)/\SqT K H2 b (k.map kV)/\Va kvs k=some v/\Q v H2
theorem JdG{X:Cx}{o i:Expr}{pos:Pos}{td ty:TE}(hu:X.A.units+1<cLine)(ho:PE X o td)(hi:PE X i ty)(hs:JgE i):PE X (.Subscript o i pos) (Ja8 td ty X.K):=by
 intro pins s σ H Q I h;refine Jf1 PySem.F.slot_dict_getitem.lookup hs (thn (ho pins s σ H _ I h) fun u s1 ⟨x,H1,I1,rx,q1⟩=>thn (hi pins s1 σ H1 _ I1 q1) fun iv s2 ⟨y,H2,I2,ry,a,b,kvs,k,v,ex,ey,e,eb,l,q2⟩=>?_);subst ex ey;obtain rfl:u=Value.ref a:=rx;obtain rfl:iv=Value.ref b:=ry;obtain⟨z,hd,xs,rel,dd⟩:=Jbu I2.hok e;refine⟨dd.typeIs,?_⟩;obtain⟨w',hw,rw'⟩:=RelO.some_of (v:=v) (o:=(atKey xs k).map (·.2)) (by rw[<- l];exact rel.val k)
 obtain⟨p,hp,hp2⟩:=Option.map_eq_some_iff.mp hw;obtain⟨its,r,⟨ob,h1,h2,n,h3⟩,_⟩:=I2.tuple eb;refine wpAny_getItem_heap (tupleKind_room_in1 hu) ⟨ob,its.toArray,n,h1,h2,h3,by simpa using VA r⟩ dd hp ?_;rw[hp2];exact⟨v,H2,I2.tok _,rw',q2⟩
theorem Jcy{X:Cx}{K:Frag}{o i:Expr}{pos:Pos}{td ty:TE}(hK:X.K=K)(hu:X.A.units+1<cLine)(ho:PE X o td)(hi:PE X i ty)(hs:JgE i):PE X (.Subscript o i pos) (Ja8 td ty K):=by subst hK;exact JdG hu ho hi hs
end L2
namespace LE
open PySem L2 LR
noncomputable def lookP{α:Type}:List (Int×Int)->List α->Int×Int->Option α
 | k::ks,d::ds,n=>if k=n then some d else lookP ks ds n
 | _,_,_=>none
noncomputable def ZG(ks:List (Int×Int))(n:Int×Int):Bool:=ks.any fun k=>decide (k=n)
noncomputable def Ul(ks:List (Int×Int))(n:Int×Int):List (Int×Int):=if ZG ks n=true then ks else ks++[n]
noncomputable def setP{α:Type}:List (Int×Int)->List α->Int×Int->α->List α
 | k::ks,d::ds,n,v=>(if k=n then v else d)::setP ks ds n v
 | _,ds,_,_=>ds
noncomputable def putDP{α:Type}(ks:List (Int×Int))(ds:List α)(n:Int×Int)(v:α):List α:=if ZG ks n=true then setP ks ds n v else ds++[v]
theorem JaA{α:Type}:∀(ks:List (Int×Int)) (ds:List α) (n:Int×Int) (v:α),(setP ks ds n v).length=ds.length
 | [],_,_,_=>rfl
 | _::_,[],_,_=>rfl
 | _::ks,_::ds,n,v=>by simp[setP,JaA ks ds n v]
theorem Zk{α:Type}(ks:List (Int×Int))(ds:List α)(n:Int×Int)(v:α)(h:ks.length=ds.length):(Ul ks n).length=(putDP ks ds n v).length:=by unfold Ul putDP;split <;> simp[JaA,h]
theorem Zz{p q:Int×Int}(h:dtK p=dtK q):p=q:=JhM h
theorem WN:∀(ks:List (Int×Int)) (xs:List V) (n:Int×Int),Va ((ks.map dtK).zip xs) (dtK n)=lookP ks xs n
 | [],_,_=>rfl
 | _::_,[],_=>rfl
 | k::ks,x::xs,n=>by
  show Va ((dtK k,x)::(ks.map dtK).zip xs) (dtK n)=_
  by_cases h:k=n
  ·rw[Vt (by rw[h]),lookP,if_pos h]
  ·rw[Vs (fun e=>h (Zz e)),lookP,if_neg h];exact WN ks xs n
theorem Z1:∀(ks:List (Int×Int)) (xs:List V) (n:Int×Int),ks.length=xs.length->(((ks.map dtK).zip xs).any fun kv=>decide (kv.1=dtK n))=ZG ks n
 | [],_,_,_=>rfl
 | _::_,[],_,h=>by simp at h
 | k::ks,x::xs,n,h=>by
  show(decide (dtK k=dtK n) || ((ks.map dtK).zip xs).any fun kv=>decide (kv.1=dtK n))=(decide (k=n) || ZG ks n)
  rw[Z1 ks xs n (by simpa using h)];congr 1
  by_cases e:k=n
  ·simp[e]
  ·rw[decide_eq_false e,decide_eq_false fun z=>e (Zz z)]
theorem Jan:∀(ks:List (Int×Int)) (xs:List V) (n:Int×Int) (v:V),ks.length=xs.length->((ks.map dtK).zip xs).map (fun kv=>if kv.1=dtK n then(kv.1,v) else kv)=(ks.map dtK).zip (setP ks xs n v)
 | [],_,_,_,_=>rfl
 | _::_,[],_,_,h=>by simp at h
 | k::ks,x::xs,n,v,h=>by
  show(if dtK k=dtK n then(dtK k,v) else(dtK k,x))::((ks.map dtK).zip xs).map _=(dtK k,if k=n then v else x)::(ks.map dtK).zip (setP ks xs n v);rw[Jan ks xs n v (by simpa using h)];congr 1
  by_cases e:k=n
  ·rw[if_pos (by rw[e]),if_pos e]
  ·rw[if_neg (fun z=>e (Zz z)),if_neg e]
theorem JcC(ks:List (Int×Int))(xs:List V)(n:Int×Int)(v:V)(h:ks.length=xs.length):(HO.dT (Vo ((ks.map dtK).zip xs) (dtK n) v))=dtO (Ul ks n) (putDP ks xs n v):=by
 unfold dtO Vo Ul putDP;rw[Z1 ks xs n h];split
 ·rw[Jan ks xs n v h]
 ·rw[List.map_append,List.zip_append (by simpa using h)];rfl
section
variable{K:Frag}{C:Addr}{Hs H0 H:Hp}
theorem RDL.lookP:∀{ks:List (Int×Int)} {xs:List V} {ds:List D} {n:Int×Int},RDL K C H xs ds->(LE.lookP ks xs n=none/\LE.lookP ks ds n=none)\/∃x d,LE.lookP ks xs n=some x/\LE.lookP ks ds n=some d/\RD K C H x d
 | [],_,_,_,_=>.inl ⟨rfl,rfl⟩
 | _::_,[],[],_,_=>.inl ⟨rfl,rfl⟩
 | _::_,[],_::_,_,h=>by have:=h.1;simp at this
 | _::_,_::_,[],_,h=>by have:=h.1;simp at this
 | k::ks,x::xs,d::ds,n,h=>by
  simp only[LE.lookP]
  by_cases e:k=n
  ·rw[if_pos e,if_pos e];exact .inr ⟨x,d,rfl,rfl,h.head⟩
  ·rw[if_neg e,if_neg e];exact RDL.lookP h.tail
theorem RDL.setP{n:Int×Int}{v:V}{e:D}(r:RD K C H v e):∀{ks:List (Int×Int)} {xs:List V} {ds:List D},RDL K C H xs ds->RDL K C H (LE.setP ks xs n v) (LE.setP ks ds n e)
 | [],_,_,h=>h
 | _::_,[],[],h=>h
 | _::_,[],_::_,h=>by have:=h.1;simp at this
 | _::_,_::_,[],h=>by have:=h.1;simp at this
 | k::ks,x::xs,d::ds,h=>by
  simp only[LE.setP];refine .cons ?_ (RDL.setP r h.tail);split
  ·exact r
  ·exact h.head
theorem RDL.putDP{n:Int×Int}{v:V}{e:D}{ks:List (Int×Int)}{xs:List V}{ds:List D}(h:RDL K C H xs ds)(r:RD K C H v e):RDL K C H (LE.putDP ks xs n v) (LE.putDP ks ds n e):=by
 unfold LE.putDP;split
 ·exact RDL.setP r h
 ·exact h.snoc r
end
noncomputable def Sl.dt:Sl->Option (List (Int×Int)×List D)
 | .bt ks ds=>some (ks,ds)
 | .ot ks ds=>some (ks,ds)
 | _=>none
noncomputable def pr?:Sl->Option (Int×Int)
 | .sh (.tup [.int a,.int b])=>some (a,b)
 | _=>none
noncomputable def JaK:Ev:=fun _=>some (.ot [] [])
noncomputable def JgQ(a k:Ev):Ev:=fun E=>(a E).bind fun s=>s.dt.bind fun p=>((k E).bind pr?).bind fun n=>(lookP p.1 p.2 n).map .sh
noncomputable def JaL(a:Ev):Ev:=fun E=>(a E).bind fun s=>s.dt.bind fun p=>if p.1.length<64 then some (.own ((WY p.1).map prE)) else none
section
variable{K:Frag}{C:Addr}{Hs H0 H:Hp}{td ty te tk1 tk2:TE}{ed ek ea k1 k2:Ev}
theorem RR.dt{v:V}{s:Sl}{p:List (Int×Int)×List D}(r:RR K C Hs H0 H v s)(e:s.dt=some p):∃l xs,v=.ref l/\H l=some (dtO p.1 xs)/\p.1.length=p.2.length/\RDL K C H0 xs p.2:=by
 cases s with
 | bt ks ds=>cases e;exact r
 | ot ks ds=>cases e;obtain⟨l,xs,h1,h2,_,_,h3⟩:=r;exact⟨l,xs,h1,h2,h3⟩
 | _=>cases e
theorem Jfu{s:Sl}{n:Int×Int}(e:pr? s=some n):s=.sh (prE n):=by
 unfold pr? at e;split at e
 ·cases e;rfl
 ·cases e
theorem JfV:SE K C Jef JaK:=by intro B H0 H σ E r Q I e q;cases e;intro p hp;exact q _ H0 _ ⟨.new hp,Same.refl _,fun _ _ e=>.inl e,I.h.trans (.new hp)⟩ ⟨p,[],rfl,JR,Same.free I.h hp,hp,rfl,.nil⟩
theorem RD.prI{v:V}{n:Int×Int}(r:RD K C H v (prE n)):∃a,v=.ref a/\SqT K H a ((dtK n).map kV):=by obtain⟨a,xs,e,h,rl⟩:=RD.tupI r;have:xs=[V.int n.1,V.int n.2]:=RDL.ints (ns:=[n.1,n.2]) rl;subst this;exact⟨a,e,h⟩
theorem JjK(ha:SE K C td ed)(hk:SE K C ty ek):SE K C (Ja8 td ty K) (JgQ ed ek):=by
 intro B H0 H σ E r Q I e q;obtain⟨s,e1,e⟩:=bind_some e;obtain⟨p,e2,e⟩:=bind_some e;obtain⟨n,e3,e⟩:=bind_some e;obtain⟨t,e3,e4⟩:=bind_some e3;obtain rfl:=Jfu e4;obtain⟨d,e5,rfl⟩:=map_some e;refine ha B H0 H σ E s _ I e1 fun x H1 H1' s1 r1=>hk B H1 H1' σ E _ _ (I.step s1) e3 fun y H2 H2' s2 r2=>?_
 obtain⟨l,xs,rfl,h,_,rl⟩:=(r1.step s2).dt e2;obtain⟨b,rfl,hb⟩:=RD.prI r2;rcases RDL.lookP (ks:=p.1) (n:=n) rl with ⟨_,z⟩|⟨v,d',z1,z2,z3⟩
 ·rw[z] at e5;cases e5
 ·rw[z2] at e5;cases e5;exact⟨l,b,_,dtK n,v,rfl,rfl,.inl h,s2.i.seqT hb,by rw[WN];exact z1,q _ _ _ (s1.trans s2) z3⟩
theorem EnvR.slotT{B:Hp}{σ:St}{E:En}{i:Nat}{ks:List (Int×Int)}{ds:List LE.D}(I:EnvR K C B H0 H σ E)(e1:E[i]?=some (.ot ks ds)):∃l xs,σ[i]?=some (some (.ref l))/\H l=some (dtO ks xs)/\H0 l=none/\B l=none/\ks.length=ds.length/\RDL K C H0 xs ds:=by
 rcases I.at' i _ e1 with z|⟨v,h1,l,xs,h2,h3⟩
 ·cases z
 ·subst h2;exact⟨l,xs,h1,h3⟩
noncomputable def Jbz:List Sl->Option (Int×Int)
 | [.sh (.int a),.sh (.int b)]=>some (a,b)
 | _=>none
noncomputable def JbS(i:Nat)(ks:En->Option (List Sl))(a:Ev):Es:=fun E=>match E[i]? with
 | some (.ot ps ds)=>(a E).bind fun s=>s.frz.bind fun d=>((ks E).bind Jbz).bind fun n=>if ps.length<sizeLine then some (.nx (E.set i (.ot (Ul ps n) (putDP ps ds n d)))) else none
 | _=>none
theorem JaN{ss:List Sl}{n:Int×Int}(e:Jbz ss=some n):ss=[.sh (.int n.1),.sh (.int n.2)]:=by
 unfold Jbz at e;split at e
 ·cases e;rfl
 ·cases e
theorem JiF{i:Nat}{tk:TA}{ks:En->Option (List Sl)}(ha:SE K C te ea)(hk:SA K C tk ks):SS K C (Jgx (WM i) (Jf6 tk) te) (JbS i ks ea):=by
 intro B H0 H σ E o D I e f;unfold JbS at e;split at e
 ·next ps ds h =>
  obtain⟨s,e1,e⟩:=bind_some e;obtain⟨d,e2,e⟩:=bind_some e;obtain⟨n,e3,e⟩:=bind_some e;obtain⟨t,e3,e4⟩:=bind_some e3;obtain rfl:=JaN e4;split at e
  ·next hz =>
   cases e;obtain⟨l,xs,g1,g2,g3,g4,gk,g5⟩:=I.slotT h;refine ha B H0 H σ E _ _ I e1 fun v H1 H1' s1 r1=>?_
   have s2:Step H H0 H (Ui H H1 H1') H1':=s1.comp (JW s1.i) fun _ z=>z
   have rv:=RR.frz s1.i r1 e2;refine⟨_,g1,?_⟩;refine hk B _ H1' σ E _ _ (I.step s2) e3 fun ws H3 H3' s3 r3=>?_
   cases r3 with
   | cons a1 r3=>cases r3 with
    | cons a2 r3 =>
     cases r3;rw[RD.intI a1,RD.intI a2];refine⟨show 2<=sizeLine by decide,fun p hp=>?_⟩;have s4:=s2.trans s3;have s5:Step H H0 H H3 (upd H3' p (.tup [.int n.1,.int n.2])):=s4.trans ⟨.new hp,Same.refl _,fun _ _ e=>.inl e,s4.i.trans (.new hp)⟩;have hx:ps.length=xs.length:=gk.trans g5.1.symm;obtain⟨_,n0,nB⟩:=(I.step s5).ownG h rfl g1;have rr:=(g5.mono s5.z).putDP (ks:=ps) (n:=n) (rv.mono s3.z);have m:=(I.step s5).mutG (t':=.ot (Ul ps n) (putDP ps ds n d)) (o':=dtO (Ul ps n) (putDP ps xs n v)) h rfl rfl g1 ⟨l,_,rfl,JR,n0,nB,Zk _ _ _ _ gk,rr⟩
     refine⟨l,_,rfl,.inr ⟨_,dtK n,p,s5.h _ _ g2,rfl,JR,?_,rfl⟩,?_⟩
     ·rw[List.length_zip,List.length_map,<- hx,Nat.min_self];exact hz
     ·rw[JcC ps xs n v hx];exact f _ _ _ ⟨m.b,s5.z,(s5.ss I.b).n,m.h⟩ m
  ·cases e
 ·cases e
theorem JfW(ha:SE K C td ed):SE K C (tCB JbL (Y4 (Jeg td) V3)) (JaL ed):=by
 intro B H0 H σ E r Q I e q;obtain⟨s,e1,e⟩:=bind_some e;obtain⟨p,e2,e⟩:=bind_some e;split at e
 ·next h64 =>
  cases e;refine ha B H0 H σ E s _ I e1 fun x H1 H1' s1 r1=>?_
  obtain⟨l,xs,rfl,h,hk,rl⟩:=r1.dt e2;refine⟨l,rfl,.inr ⟨_,.inl h⟩,fun w hw=>?_⟩;have st:Step H1' H1 H1' H1 (upd H1' w (Zp w l)):=⟨.new hw,Same.refl _,fun _ _ e=>.inl e,s1.i.trans (.new hw)⟩
  have s2:=s1.trans st;refine⟨w,l,p.1,xs,rfl,JR,Rd.put (.inl h) hw,by rw[hk,rl.1],h64,fun nd z bs hz hb hbs=>?_⟩
  have f:=JW (Hs:=H) s2.i
  have r2:RDL K C (Ui H H1 (upd H1' w (Zp w l))) (bs.map V.ref) ((WY p.1).map prE):=by
   refine⟨by rw[List.length_map,List.length_map,hb,(Yj p.1).length_eq],fun i x d h1 h2=>?_⟩;rw[List.getElem?_map] at h1 h2
   cases hbi:bs[i]? with
   | none=>rw[hbi] at h1;cases h1
   | some b =>
    cases hpi:(WY p.1)[i]? with
    | none=>rw[hpi] at h2;cases h2
    | some pp=>rw[hbi] at h1;rw[hpi] at h2;cases h1;cases h2;exact .mkT (.inl (.inl (Je6 s2.i rfl (hbs i b pp hbi hpi)))) (RDL.ofInts [pp.1,pp.2])
  exact UX f.i s2.h hz r2 fun v H2 H2' s3 r3=>q v H2 H2' ((s2.comp f fun _ y=>y).comp s3 fun _ y=>y) r3
 ·cases e
end
end LE

namespace LE
open PySem L2 LR
noncomputable def WP(i:Nat)(a:Ev):Es:=fun E=>match E[i]? with
 | some (.own ds)=>((a E).bind int?).bind fun z=>if 0<=z/\z<(ds.length:Int)/\ds.length<=1000 then some (.nx (E.set i (.own (ds.eraseIdx z.toNat)))) else none
 | _=>none
section
variable{K:Frag}{C:Addr}
theorem RDL.eraseIdx{H:Hp}:∀{xs:List V} {ds:List D} (k:Nat),RDL K C H xs ds->RDL K C H (xs.eraseIdx k) (ds.eraseIdx k)
 | [],[],_,h=>by simpa using h
 | [],_::_,_,h=>by have:=h.1;simp at this
 | _::_,[],_,h=>by have:=h.1;simp at this
 | x::xs,d::ds,0,h=>by simpa using h.tail
 | x::xs,d::ds,k+1,h=>by rw[List.eraseIdx_cons_succ,List.eraseIdx_cons_succ];exact .cons h.head (RDL.eraseIdx k h.tail)
theorem JiE{i:Nat}{te:TE}{ea:Ev}(ha:SE K C te ea):SS K C (WL (tBM K "list" JdX (WM i) (Y4 te V3))) (WP i ea):=by
 intro B H0 H σ E o D I e f;unfold WP at e;split at e
 ·next ds h =>
  obtain⟨z,e1,e⟩:=bind_some e;obtain⟨t,e1,e2⟩:=bind_some e1;obtain rfl:=Jaj e2;split at e
  ·next hz =>
   cases e;obtain⟨l,xs,g1,g2,g3,g4,g5⟩:=I.slot h;refine⟨_,g1,.inl ⟨rfl,_,.of g2⟩,?_⟩;refine ha B H0 H σ E _ _ I e1 fun v H1 H1' s1 r1=>?_
   have I2:=I.step s1;rw[RD.intI r1]
   have hl:xs.length=ds.length:=g5.1
   have hi:z.toNat<xs.length:=by omega
   have m:=I2.mut (xs:=xs.eraseIdx z.toNat) h g1 ((g5.mono s1.z).eraseIdx z.toNat);refine⟨l,xs,z,z.toNat,xs[z.toNat],rfl,rfl,s1.h _ _ g2,by omega,by omega,?_,List.getElem?_eq_getElem hi,f _ _ _ ⟨m.b,s1.z,(s1.ss I.b).n,m.h⟩ m⟩;unfold seqIndex?
   have n0:¬z<0:=by omega
   have n1:(decide (0<=z) && decide (z<(xs.length:Int)))=true:=by rw[decide_eq_true (by omega),decide_eq_true (by omega)];rfl
   simp only[n0,if_false,n1,if_true]
  ·cases e
 ·cases e
end
end LE

namespace LE
open PySem L2 LR
noncomputable def Wl{α:Type}(xs:List α)(k:Nat)(x:α):List α:=xs.take k++x::xs.drop k
section
variable{X:Cx}
noncomputable def JbK:V->List V->Hp->VK->Prop:=fun x vs H Q=>∃l xs i y,x=.ref l/\vs=[.int i,y]/\H l=some (.lst xs)/\0<=i/\i<=(xs.length:Int)/\xs.length<sizeLine/\Q .non (upd H l (.lst (Wl xs i.toNat y)))
theorem Wm{α:Type}(xs:List α)(k:Nat)(x:α)(h:k<=xs.length):(Wl xs k x).length=xs.length+1:=by unfold Wl;rw[List.length_append,List.length_take,List.length_cons,List.length_drop];omega
theorem Jcw:MtM X "list.insert" JbK:=by
 intro pins s σ H x vs v us Q I rx rv h;obtain⟨l,xs,i,y,rfl,rfl,hH,h0,h1,hz,q⟩:=h;cases rx;obtain⟨u,w,rfl,ru,rw'⟩:=rv.two;obtain⟨t,rfl⟩:=ru;obtain⟨z,its,n,r,hl,e⟩:=I.lstM hH;have hzz:xs.length<16777216:=hz;refine call_meets F.slot_list_insert ⟨_,e,rfl⟩ F.entry_list_insert (F.args_list_insert_3 _ _ _)
  (AutoSeq1.list_insert_list_int_val_1 l its.toArray n i t w (by rw[fitsIndex_both (by omega) (by omega)];exact Bool.false_ne_true) (by rw[List.size_toArray];omega)) ⟨e,?_⟩
 refine⟨.non,_,I.lset (its':=Wl its i.toNat w) hH e ?_ ((r.take _).append (.cons rw' (r.drop _))) ?_,rfl,q⟩
 ·show(have k:=if i<0 then(i+(its.toArray.size:Int)).toNat else min i.toNat its.toArray.size;(its.toArray.extract 0 k).push w++its.toArray.extract k)=_;rw[if_neg (by omega),List.size_toArray,<- hl,show min i.toNat xs.length=i.toNat by omega];unfold Wl;simp;exact List.take_of_length_le (by rw[List.length_drop];omega)
 ·show(Wl xs i.toNat y).length<=16777216;rw[Wm _ _ _ (by omega)];omega
end
noncomputable def Jgd(i:Nat)(a b:Ev):Es:=fun E=>match E[i]? with
 | some (.own ds)=>((a E).bind int?).bind fun z=>(b E).bind fun s=>s.frz.bind fun d=>if 0<=z/\z<=(ds.length:Int)/\ds.length<=1000 then some (.nx (E.set i (.own (Wl ds z.toNat d)))) else none
 | _=>none
section
variable{K:Frag}{C:Addr}
theorem RDL.drp{H:Hp}:∀{xs:List V} {ds:List D} (k:Nat),RDL K C H xs ds->RDL K C H (xs.drop k) (ds.drop k)
 | xs,ds,0,h=>h
 | [],[],k+1,h=>by simpa using h
 | [],_::_,_,h=>by have:=h.1;simp at this
 | _::_,[],_,h=>by have:=h.1;simp at this
 | x::xs,d::ds,k+1,h=>by rw[List.drop_succ_cons,List.drop_succ_cons];exact RDL.drp k h.tail
theorem JjQ{i:Nat}{ta tb:TE}{ea eb:Ev}(ha:SE K C ta ea)(hb:SE K C tb eb):SS K C (WL (tBM K "list" JbK (WM i) (Y4 ta (Y4 tb V3)))) (Jgd i ea eb):=by
 intro B H0 H σ E o D I e f;unfold Jgd at e;split at e
 ·next ds h =>
  obtain⟨z,e1,e⟩:=bind_some e;obtain⟨t,e1,e2⟩:=bind_some e1;obtain rfl:=Jaj e2;obtain⟨s,e3,e⟩:=bind_some e;obtain⟨d,e4,e⟩:=bind_some e;split at e
  ·next hz =>
   cases e;obtain⟨l,xs,g1,g2,g3,g4,g5⟩:=I.slot h;refine⟨_,g1,.inl ⟨rfl,_,.of g2⟩,?_⟩;refine ha B H0 H σ E _ _ I e1 fun v H1 H1' s1 r1=>?_
   refine hb B H1 H1' σ E _ _ (I.step s1) e3 fun w H3 H3' s3 r3=>?_
   have s4:Step H1' H1 H1' (Ui H1' H3 H3') H3':=s3.comp (JW s3.i) fun _ z=>z
   have s2:=s1.trans s4
   have I2:=I.step s2;rw[RD.intI r1]
   have hl:xs.length=ds.length:=g5.1
   have g6:=g5.mono s2.z
   have m:=I2.mut (xs:=Wl xs z.toNat w) h g1 ((g6.take z.toNat).append (RDL.cons (RR.frz s3.i r3 e4) (g6.drp z.toNat)));refine⟨l,xs,z,w,rfl,rfl,s2.h _ _ g2,hz.1,by omega,?_,f _ _ _ ⟨m.b,s2.z,(s2.ss I.b).n,m.h⟩ m⟩
   show xs.length<16777216;omega
  ·cases e
 ·cases e
end
end LE

end
open L2 LR
local macro_rules | `(tactic| walk_at "side")=>`(tactic| first | decide | exact⟨by decide,by decide,by decide⟩ | exact⟨by decide,by decide⟩ | (show(0:Int)<_;omega) | (show(0:Int)<_/\_<(1073741824:Int);omega) | exact Or.inl ⟨by omega,by omega⟩ | exact Or.inr ⟨by omega,by omega⟩ | assumption)
local macro_rules | `(tactic| walk_at "rd1")=>`(tactic| with_reducible first | refine Jif ?_ | refine JhW ?_ | refine Jh1 ?_ | refine Jie ?_ | refine JfF ?_ | refine JfM ?_ | refine JjC ?_ | refine JjF ?_ | refine JfQ ?_ | refine JjE ?_ | refine JfR ?_ | refine JhV ?_ | refine JjD ?_ | refine Jic ?_ | refine JfO ?_ | refine JfD ?_ | refine Jid ?_ | refine Jh0 ?_ | refine JfE ?_ | refine Jib ?_ | refine Jjz ?_ | refine V6 ?_ | refine LR.JfL ?_ | refine Jih ?_ | refine Jh7 ?_ | refine JjB ?_ | refine Jd5 ?_ | refine JfH ?_ | refine Jd4 ?_ | refine JfG ?_ | refine JhZ ?_ | refine JfP ?_ | refine Jd3 ?_ | refine Jij ?_ | refine Jj7 ?_ | refine JjA ?_ | refine Jj9 ?_ | refine JfC ?_ | refine JhX ?_ | refine Jh9 ?_ | refine JhY ?_ | refine Jia ?_ | refine Jh2 ?_ | refine JfN ?_ | refine Jh8 ?_ | refine Jd7 ?_ | refine Exists.intro _ (And.intro (LR.Jiz _ _ _) ?_))
local macro_rules | `(tactic| walk_at "rd2")=>`(tactic| first | ((with_reducible refine Jj8 ?hc ?_);(case hc=>walk_at "side")) | ((with_reducible refine Jii (v:=?vv) ?hx ?_);(case hx=>exact rfl)) | (with_reducible refine Exists.intro _ (And.intro (Eq.refl (V.bl _)) ?_)))
local macro_rules | `(tactic| walk_at "rd")=>`(tactic| repeat (first | walk_at "rd1" | walk_at "rd2"))
noncomputable section
namespace LK
open PySem L2 LR LE
noncomputable def Yf:List Sl->Option Sl:=UG 2 (Jt (W1 (iV 0) (.nm 1) (xIf (tOr? (tNot? (tTru? (Jca "int" (Jc 1)))) (tTru? (Jca "bool" (Jc 1)))) (YH (eC (.bl false))) JE))
 (YH (Jca "tuple" (Jc 0))))
noncomputable def Ym:List Sl->Option Sl:=UG 2 (Jt (xIf (tOr? (tNot? (tTru? (Jca "list" (Jc 0)))) (tB? (e2 fNe (Jc 0) (Jc 1)))) (YH (eC (.bl false))) JE)
 (YH (eF JeV (aC (Uo (iE true (Jc 0)) (.nm 0) yes? (eU 1 Yf (aC (Jc 0) a0)) [none]) a0))))
noncomputable def Yd:List Sl->Option Sl:=UG 8 (Jt (WQ 3 (Ut a0))
 (Jt (W1 (iV 0) (.tp (.cons (.nm 4) (.cons (.nm 5) (.cons (.nm 6) .nil)))) (Jt (Jy 7 (Jc 4))
 (Jt (xIf (tB? (e2 Yz (Jc 1) (eC .non))) (Jy 7 (eF Jce (aC (Jc 4) (aC (Jc 1) a0)))) JE)
 (JaF 3 (YV (aC (Jc 4) (aC (e2 Yt (Jc 5) (e2 Jag (Jc 7) (Jc 2))) (aC (Jc 6) a0))))))))
 (JaG 3)))
noncomputable def YD:List Sl->Option Sl:=UG 2 (YH (eIf (tB? (e2 fIs (Jc 1) (eC .non))) (Jc 0) (eF Jce (aC (Jc 0) (aC (Jc 1) a0)))))
noncomputable def Jw:List Sl->Option Sl:=UG 5 (Jt (Jy 1 (eC .non))
 (Jt (W1 (iV 0) (.tp (.cons (.nm 2) (.cons (.nm 3) (.cons (.nm 4) .nil)))) (Jt (xIf (tOr? (tB? (e2 fLt (Jc 2) (eC (.int 1)))) (tB? (e2 fLt (Jc 4) (eC (.int 1))))) YB JE)
 (Jt (xIf (tAnd? (tB? (e2 Yz (Jc 1) (eC .non))) (tB? (e2 Wg (YV (aC (Jc 2) (aC (Jc 3) a0))) (Jc 1)))) YB JE)
 (Jy 1 (YV (aC (Jc 2) (aC (Jc 3) a0)))))))
 (xIf (tB? (e2 fGt (eF Wi (aC (Uo (iE true (Jc 0)) (.tp (.cons (.nm 0) (.cons (.nm 1) (.cons (.nm 2) .nil)))) yes? (Jc 2) [none,none,none]) a0)) (eC (.int 30)))) YB JE)))
noncomputable def JP:List Sl->Option Str:=VP 5 (YK (Jy 1 (eC .non))
 U2 (YK (W1 (iV 0) (.tp (.cons (.nm 2) (.cons (.nm 3) (.cons (.nm 4) .nil)))) (Jt (xIf (tOr? (tB? (e2 fLt (Jc 2) (eC (.int 1)))) (tB? (e2 fLt (Jc 4) (eC (.int 1))))) YB JE)
 (Jt (xIf (tAnd? (tB? (e2 Yz (Jc 1) (eC .non))) (tB? (e2 Wg (YV (aC (Jc 2) (aC (Jc 3) a0))) (Jc 1)))) YB JE)
 (Jy 1 (YV (aC (Jc 2) (aC (Jc 3) a0)))))))
 (Jda (iV 0) (.tp (.cons (.nm 2) (.cons (.nm 3) (.cons (.nm 4) .nil)))) (Jt (xIf (tOr? (tB? (e2 fLt (Jc 2) (eC (.int 1)))) (tB? (e2 fLt (Jc 4) (eC (.int 1))))) YB JE)
 (Jt (xIf (tAnd? (tB? (e2 Yz (Jc 1) (eC .non))) (tB? (e2 Wg (YV (aC (Jc 2) (aC (Jc 3) a0))) (Jc 1)))) YB JE)
 (Jy 1 (YV (aC (Jc 2) (aC (Jc 3) a0)))))) (YK (xIf (tOr? (tB? (e2 fLt (Jc 2) (eC (.int 1)))) (tB? (e2 fLt (Jc 4) (eC (.int 1))))) YB JE)
 (V0 (tOr? (tB? (e2 fLt (Jc 2) (eC (.int 1)))) (tB? (e2 fLt (Jc 4) (eC (.int 1))))) (Yw "BadTable" (aC (eC (.str "sizes and numbers of lumps are from 1 on")) a0)) U2) (YK (xIf (tAnd? (tB? (e2 Yz (Jc 1) (eC .non))) (tB? (e2 Wg (YV (aC (Jc 2) (aC (Jc 3) a0))) (Jc 1)))) YB JE)
 (V0 (tAnd? (tB? (e2 Yz (Jc 1) (eC .non))) (tB? (e2 Wg (YV (aC (Jc 2) (aC (Jc 3) a0))) (Jc 1)))) (Yw "BadTable" (aC (eC (.str "a table is ascending, with each size and spot once")) a0)) U2) U2))) (V0 (tB? (e2 fGt (eF Wi (aC (Uo (iE true (Jc 0)) (.tp (.cons (.nm 0) (.cons (.nm 1) (.cons (.nm 2) .nil)))) yes? (Jc 2) [none,none,none]) a0)) (eC (.int 30)))) (Yw "TooMany" (aC (eC (.str "a table has at most 30 lumps in all")) a0)) U2)))
noncomputable def JI:List Sl->Option Sl:=UG 1 (xIf (tAnd? (tB? (e2 Yz (Jc 0) (eC .non))) (tB? (e2 fLt (Jc 0) (eC (.int 1))))) YB JE)
noncomputable def JO:List Sl->Option Str:=VP 1 (V0 (tAnd? (tB? (e2 Yz (Jc 0) (eC .non))) (tB? (e2 fLt (Jc 0) (eC (.int 1))))) (Yw "BadSeats" (aC (eC (.str "a ferry has at least one seat")) a0)) U2)
noncomputable def JF:List Sl->Option Sl:=UG 3 (Jt (VZ (eU 1 JI (aC (Jc 1) a0)))
 (Jt (VZ (eU 1 Jw (aC (Jc 0) a0)))
 (YH (Uo (iE true (Jc 0)) (.tp (.cons (.nm 0) (.cons (.nm 1) (.cons (.nm 2) .nil)))) yes? (YV (aC (Jc 0) (aC (e2 Yt (Jc 1) (e2 Jag (Jc 3) (eU 2 YD (aC (Jc 0) (aC (Jc 4) a0))))) (aC (Jc 2) a0)))) [none,none,none,some 2,some 1]))))
noncomputable def J0:List Sl->Option Str:=VP 3 (YK (VZ (eU 1 JI (aC (Jc 1) a0)))
 (exU 1 JO (aC (Jc 1) a0)) (YK (VZ (eU 1 Jw (aC (Jc 0) a0)))
 (exU 1 JP (aC (Jc 0) a0)) U2))
noncomputable def YI:List Sl->Option Sl:=UG 2 (Jt (Jy 1 (Ut (aC (Vy ["BadSeats","BadTable","TooMany"] "BadRow" (Jc 0)) (aC (Vy ["BadSeats","BadTable","TooMany"] "TooMany" (Jc 0)) (aC (Vy ["BadSeats","BadTable","TooMany"] "BadText" (Jc 0)) (aC (Vy ["BadSeats","BadTable","TooMany"] "BadSeats" (Jc 0)) a0))))))
 (Jt (Jy 1 (e2 Yt (Jc 1) (Ut (aC (Vy ["BadSeats","BadTable","TooMany"] "BadTable" (Jc 0)) (aC (Vy ["BadSeats","BadTable","TooMany"] "BadDeed" (Jc 0)) (aC (Vy ["BadSeats","BadTable","TooMany"] "Unlike" (Jc 0)) (aC (Vy ["BadSeats","BadTable","TooMany"] "NoRow" (Jc 0)) a0)))))))
 (YH (Jb9 (e2 fEq (eMB JiX (Jc 1) (eC (.bl true))) (eC (.int 1))) (Jb9 (Vy ["BadSeats","BadTable","TooMany"] "LumpError" (Jc 0)) (JiU ["BadSeats","BadTable","TooMany"] (Jc 0)))))))
noncomputable def JN:List Sl->Option Sl:=UG 5 (Jt (Jy 3 (Ut a0))
 (Jt (JcI ["BadSeats","BadTable","TooMany"] 4 (VZ (eU 3 JF (aC (Jc 0) (aC (Jc 1) (aC (Jc 2) a0))))) (exU 3 J0 (aC (Jc 0) (aC (Jc 1) (aC (Jc 2) a0)))) (Jy 3 (Ut (aC (Vy ["BadSeats","BadTable","TooMany"] "BadSeats" (Jc 4)) (aC (Vy ["BadSeats","BadTable","TooMany"] "BadTable" (Jc 4)) (aC (Vy ["BadSeats","BadTable","TooMany"] "TooMany" (Jc 4)) (aC (eU 1 YI (aC (Jc 4) a0)) a0)))))))
 (Jt (xIf (tB? (e2 fEq (Jc 3) (Ut (aC (eC (.bl true)) (aC (eC (.bl false)) (aC (eC (.bl false)) (aC (eC (.bl true)) a0))))))) (YH (eC (.str "seats"))) JE)
 (Jt (xIf (tB? (e2 fEq (Jc 3) (Ut (aC (eC (.bl false)) (aC (eC (.bl true)) (aC (eC (.bl false)) (aC (eC (.bl true)) a0))))))) (YH (eC (.str "table"))) JE)
 (Jt (xIf (tB? (e2 fEq (Jc 3) (Ut (aC (eC (.bl false)) (aC (eC (.bl false)) (aC (eC (.bl true)) (aC (eC (.bl true)) a0))))))) (YH (eC (.str "many"))) JE)
 (YH (eF Je4 (aC (eF Uu (aC (Jc 3) a0)) a0))))))))
noncomputable def Yy:List Sl->Option Sl:=UG 2 (Jt (W1 (iR1 (aC (eF Uu (aC (Jc 0) a0)) a0)) (.nm 1) (Jt (xIf (tOr? (tB? (e2 fLt (e2 fIx (e2 fIx (Jc 0) (Jc 1)) (eC (.int 0))) (eC (.int 1)))) (tB? (e2 fLt (e2 fIx (e2 fIx (Jc 0) (Jc 1)) (eC (.int 2))) (eC (.int 1))))) (YH (eC (.str "table"))) JE)
 (xIf (tAnd? (tB? (e2 fGt (Jc 1) (eC (.int 0)))) (tB? (e2 Jdd (eSl (e2 fIx (Jc 0) (e2 UK (Jc 1) (eC (.int 1)))) none (some (eC (.int 2)))) (eSl (e2 fIx (Jc 0) (Jc 1)) none (some (eC (.int 2))))))) (YH (eC (.str "table"))) JE)))
 (Jt (xIf (tB? (e2 fGt (eF Wi (aC (Uo (iE true (Jc 0)) (.nm 0) yes? (e2 fIx (Jc 0) (eC (.int 2))) [none]) a0)) (eC (.int 30)))) (YH (eC (.str "many"))) JE)
 (YH (eC (.str "")))))
noncomputable def Jr:List Sl->Option Sl:=UG 2 (Jt (xIf (tB? (e2 fLt (Jc 1) (eF Uu (aC (Jc 0) a0)))) (YH (e2 fIx (Jc 0) (Jc 1))) JE)
 (YH (eC (.int 0))))
noncomputable def JZ:List Sl->Option Sl:=UG 10 (Jt (WQ 3 (eF Za (aC (Jc 0) a0)))
 (Jt (Jy 4 (e2 J8 (Jc 2) (eF Uu (aC (Jc 3) a0))))
 (Jt (JiD (.tp (.cons (.nm 5) (.cons (.nm 6) (.cons (.nm 7) .nil)))) (e2 fIx (Jc 3) (Jc 4)))
 (Jt (Jy 8 (e2 J8 (e2 Yo (Jc 2) (eC (.int 9))) (e2 Up (eC (.int 10)) (eC (.int 30)))))
 (Jt (xIf (tB? (e2 fEq (Jc 1) (eC (.int 1)))) (UC 3 (Jc 4) (YV (aC (e2 UK (eC (.int 0)) (e2 Wh (Jc 8) (e2 J8 (e2 Yo (Jc 2) (eC (.int 9))) (eC (.int 2))))) (aC (Jc 6) (aC (Jc 7) a0))))) (xIf (tB? (e2 fEq (Jc 1) (eC (.int 2)))) (UC 3 (Jc 4) (YV (aC (Jc 5) (aC (Jc 6) (aC (e2 UK (eC (.int 0)) (e2 Wh (Jc 8) (e2 J8 (e2 Yo (Jc 2) (eC (.int 9))) (eC (.int 2))))) a0))))) (xIf (tB? (e2 fEq (Jc 1) (eC (.int 3)))) (Jgd 3 (Jc 4) (YV (aC (Jc 5) (aC (Jc 6) (aC (e2 Yt (Jc 7) (e2 J8 (e2 Yo (Jc 2) (eC (.int 9))) (eC (.int 2)))) a0))))) (xIf (tAnd? (tB? (e2 fEq (Jc 1) (eC (.int 4)))) (tB? (e2 fGt (eF Uu (aC (Jc 3) a0)) (eC (.int 1))))) (Jt (Jy 9 (e2 fIx (Jc 3) (Jc 4)))
 (Jt (UC 3 (Jc 4) (e2 fIx (Jc 3) (e2 UK (Jc 4) (eC (.int 1)))))
 (UC 3 (e2 UK (Jc 4) (eC (.int 1))) (Jc 9)))) (xIf (tB? (e2 fEq (Jc 1) (eC (.int 5)))) (JaF 3 (YV (aC (e2 fIx (e2 fIx (Jc 3) (e1 Jdf (eC (.int 1)))) (eC (.int 0))) (aC (e2 UK (e2 fIx (e2 fIx (Jc 3) (e1 Jdf (eC (.int 1)))) (eC (.int 1))) (Jc 8)) (aC (eC (.int 1)) a0))))) JE)))))
 (JaG 3))))))
noncomputable def J6:List Sl->Option Sl:=UG 2 (Jt (xIf (tB? (e2 fEq (e2 J8 (Jc 0) (eC (.int 4))) (eC (.int 0)))) (YH (eC .non)) JE)
 (YH (e2 Yt (eC (.int 1)) (e2 J8 (e2 Yo (Jc 0) (eC (.int 4))) (Jc 1)))))
noncomputable def Jz:List Sl->Option Sl:=UG 10 (Jt (WQ 5 JaK)
 (Jt (Jy 6 (eC (.int 1)))
 (Jt (W1 (iR1 (aC (Jc 2) a0)) (.nm 7) (Jt (Jy 8 (eU 2 Jr (aC (Jc 0) (aC (e2 Yt (Jc 1) (e2 Wh (eC (.int 3)) (Jc 7))) a0))))
 (Jt (Jy 6 (e2 Yt (Jc 6) (e2 Wh (e2 J8 (e2 Yo (Jc 8) (eC (.int 2))) (Jc 3)) (e2 J8 (Jc 8) (eC (.int 2))))))
 (Jt (Jy 9 (e2 UK (e2 J8 (eU 2 Jr (aC (Jc 0) (aC (e2 Yt (e2 Yt (Jc 1) (eC (.int 1))) (e2 Wh (eC (.int 3)) (Jc 7))) a0))) (e2 Yt (e2 Wh (eC (.int 2)) (Jc 4)) (eC (.int 1)))) (Jc 4)))
 (JbS 5 (aC (Jc 6) (aC (Jc 9) a0)) (e2 Yt (eC (.int 1)) (e2 J8 (eU 2 Jr (aC (Jc 0) (aC (e2 Yt (e2 Yt (Jc 1) (eC (.int 2))) (e2 Wh (eC (.int 3)) (Jc 7))) a0))) (eC (.int 3)))))))))
 (YH (Uo (iE true (JaL (Jc 5))) (.nm 0) yes? (YV (aC (e2 fIx (Jc 0) (eC (.int 0))) (aC (e2 fIx (Jc 0) (eC (.int 1))) (aC (JgQ (Jc 1) (Jc 0)) a0)))) [none,some 5])))))
noncomputable def Jc9:List Sl->Option Sl:=UG 12 (Jt (Jy 1 (eU 2 Jr (aC (Jc 0) (aC (eC (.int 0)) a0))))
 (Jt (Jy 2 (e2 fIx (Ut (aC (eC (.int 3)) (aC (e2 Up (eC (.int 10)) (eC (.int 30))) a0))) (e2 J8 (e2 Yo (Jc 1) (eC (.int 13))) (eC (.int 2)))))
 (Jt (Jy 3 (e2 fIx (Ut (aC (eC (.int 20)) (aC (e2 Up (eC (.int 10)) (eC (.int 30))) a0))) (e2 J8 (e2 Yo (Jc 1) (eC (.int 26))) (eC (.int 2)))))
 (Jt (WQ 4 (eU 5 Jz (aC (Jc 0) (aC (eC (.int 3)) (aC (e2 J8 (Jc 1) (eC (.int 13))) (aC (Jc 2) (aC (Jc 3) a0)))))))
 (Jt (Uh (tB? (e2 fGt (eF Wi (aC (Uo (iE true (Jc 4)) (.nm 0) yes? (e2 fIx (Jc 0) (eC (.int 2))) [none]) a0)) (eC (.int 30)))) (WP 4 (e2 J8 (e2 Yo (Jc 1) (eC (.int 52))) (eF Uu (aC (Jc 4) a0)))) 1000000)
 (Jt (xIf (tAnd? (tB? (e2 fGt (e2 J8 (e2 Yo (Jc 1) (eC (.int 52))) (eC (.int 5))) (eC (.int 2)))) (tB? (e2 fGt (eF Uu (aC (Jc 4) a0)) (eC (.int 0))))) (Jt (Jy 5 (eF Wi (aC (Uo (iE true (eSl (Jc 4) (some (eC (.int 1))) none)) (.nm 0) yes? (e2 fIx (Jc 0) (eC (.int 2))) [none]) a0)))
 (UC 4 (eC (.int 0)) (YV (aC (e2 fIx (e2 fIx (Jc 4) (eC (.int 0))) (eC (.int 0))) (aC (e2 fIx (e2 fIx (Jc 4) (eC (.int 0))) (eC (.int 1))) (aC (e2 Yt (e2 UK (eC (.int 27)) (Jc 5)) (e2 J8 (e2 Yo (Jc 1) (eC (.int 52))) (eC (.int 5)))) a0)))))) JE)
 (Jt (Jy 6 (eU 2 Jr (aC (Jc 0) (aC (eC (.int 1)) a0))))
 (Jt (Jy 7 (eU 2 J6 (aC (e2 Yo (Jc 6) (eC (.int 24))) (aC (e2 fIx (Ut (aC (eC (.int 40)) (aC (e2 Up (eC (.int 10)) (eC (.int 30))) a0))) (e2 J8 (e2 Yo (Jc 1) (eC (.int 260))) (eC (.int 2)))) a0))))
 (Jt (xIf (tAnd? (tB? (e2 fLt (e2 J8 (e2 Yo (Jc 6) (eC (.int 3))) (eC (.int 8))) (eC (.int 5)))) (tB? (e2 fGt (eF Uu (aC (Jc 4) a0)) (eC (.int 0))))) (WQ 4 (eU 3 JZ (aC (Jc 4) (aC (e2 Yt (eC (.int 1)) (e2 J8 (e2 Yo (Jc 6) (eC (.int 3))) (eC (.int 8)))) (aC (e2 Yo (Jc 1) (eC (.int 520))) a0))))) JE)
 (Jt (Jy 8 (e2 UK (e2 J8 (e2 Yo (eU 2 Jr (aC (Jc 0) (aC (eC (.int 2)) a0))) (eC (.int 5))) (e2 Yt (e2 Wh (eC (.int 2)) (e2 Up (eC (.int 10)) (eC (.int 30)))) (eC (.int 1)))) (e2 Up (eC (.int 10)) (eC (.int 30)))))
 (Jt (xIf (tB? (e2 fLt (e2 J8 (eU 2 Jr (aC (Jc 0) (aC (eC (.int 2)) a0))) (eC (.int 5))) (eC (.int 3)))) (Jy 8 (e2 fIx (Ut (aC (eC (.int 0)) (aC (e2 Up (eC (.int 10)) (eC (.int 30))) (aC (e2 UK (eC (.int 0)) (e2 Up (eC (.int 10)) (eC (.int 30)))) a0)))) (e2 J8 (eU 2 Jr (aC (Jc 0) (aC (eC (.int 2)) a0))) (eC (.int 5))))) JE)
 (Jt (Jy 9 (eU 1 Yy (aC (Jc 4) a0)))
 (Jt (xIf (tB? (e2 fEq (e2 J8 (Jc 6) (eC (.int 3))) (eC (.int 1)))) (Jt (Jy 7 (e2 UK (eC (.int 0)) (e2 J8 (e2 Yo (Jc 6) (eC (.int 24))) (e2 Up (eC (.int 10)) (eC (.int 30))))))
 (Jy 9 (eC (.str "seats")))) JE)
 (Jt (Jy 10 (eF Za (aC (Jc 4) a0)))
 (Jt (xIf (tB? (e2 fNe (Jc 9) (eC (.str "")))) (YH (Jb9 (e2 fEq (eU 3 JN (aC (Jc 10) (aC (Jc 7) (aC (Jc 8) a0)))) (Jc 9)) (e2 fEq (Jc 10) (Jc 4)))) JE)
 (Jt (WQ 11 (eU 3 JF (aC (Jc 10) (aC (Jc 7) (aC (Jc 8) a0)))))
 (Jt (xIf (tNot? (tTru? (eU 2 Ym (aC (Jc 11) (aC (eU 3 Yd (aC (Jc 4) (aC (Jc 7) (aC (Jc 8) a0)))) a0))))) (YH (eC (.bl false))) JE)
 (Jt (JaF 11 (YV (aC (eC (.int 1)) (aC (eC (.int 1)) (aC (eC (.int 1)) a0)))))
 (YH (e2 fEq (Jc 10) (Jc 4)))))))))))))))))))))
end LK
end
namespace LK
open PySem L2 LR LE
local macro_rules | `(tactic| omega)=>`(tactic| first | lia | omega (config:={}))
local macro_rules | `(tactic| walk_at "sd")=>`(tactic| first | omega (config:={}) | assumption | (simp only[List.length_append,List.length_map,List.length_reverse,List.length_cons,List.length_nil,List.length_singleton];omega (config:={})))
local macro_rules | `(tactic| walk_at "ev")=>`(tactic| simp (disch:=walk_at "sd") only[UG,Jf0,Int.reduceToNat,List.length_cons,List.length_nil,Nat.reduceAdd,Nat.reduceSub,Nat.reduceLT,Nat.reduceLeDiff,Nat.lt_irrefl,Nat.zero_lt_succ,Nat.succ_lt_succ_iff,List.reduceReplicate,List.cons_append,List.nil_append,List.append_nil,List.set_cons_zero,List.set_cons_succ,List.getElem?_cons_succ,List.getElem?_cons_zero,List.length_map,List.length_reverse,List.length_set,Option.bind_some,Option.map_some,Option.bind_none,Option.map_none,if_true,if_false,ite_true,ite_false,decide_true,decide_false,Bool.not_true,Bool.not_false,Bool.and_true,Bool.true_and,reduceIte,reduceCtorEq,Bool.false_eq_true,List.map_cons,List.map_nil,if_pos,
 Jt,xIf,YH,JaG,JE,WQ,Jy,JiD,VZ,JaF,UC,WP,Jgd,JaK,JbS,JgQ,JaL,Sl.dt,pr?,Jbz,lst?,JiO,JeZ,JeY,Sl.dk,int?,Jg6,W1,tB?,tTru?,tAnd?,tOr?,tNot?,Jiy,e2,e1,Jc,eF,eC,aC,a0,eU,Vk,Sl.pass,YV,Ut,Wk,Sl.frz,Jb9,eIf,sh?,bool?,str?,keep?,Jca,tyN,D.isRow,Jhx,Jhw,JbO,JfZ,JfX,JfY,JeC,JeD,
 JiY,Je1,Jde,Je0,JeX,Je3,Je2,JeN,JeU,JeR,JeQ,JeL,JeK,JeS,JeT,JeO,JeM,JeP,Jg3,Jg1,Jg0,Jg4,JgZ,Jg2,Ji1,Ji0,Ji3,JiZ,Ji2,Je5,Za,Jce,Jj1,Sl.q,Sl.r,Sl.m,Sl.d,Sl.it,fEq,fNe,JgV,JgX,JgU,JgW,JgS,JgT,JgR,fIs,Yz,Jck,Jci,Jdl,Jcm,Jcn,Jcj,Jdm,Jcl,iE,iV,iR1,Uo,Vf,Wn,eSl,We,fSl,Jhc,Jhb,Jed,Jhr,Jfc,Jhq,Jhu,Jhs,Jht,JiM,JiN,Jet,JcJ,JjU,JjV,JjW,JjX,JjY,eq_self])
noncomputable section
theorem Um(ns:List Int)(k:Int)(hk:0<=k):Jr [.sh (.fz (ns.map .int)),.sh (.int k)]=some (.sh (.int (cell ns k))):=by
 unfold Jr;walk_at "ev"
 by_cases h:k<(ns.length:Int)
 ·simp only[h,Uj,Z4 hk h];walk_at "ev"
 ·simp only[h,JcW h];walk_at "ev"
theorem Good.cons'{p:Pr}{ps:List Pr}(g:Good (p::ps)):Good ps:=⟨fun i q e=>g.one (i+1) q (by simpa using e),fun i q r e1 e2=>g.gap (i+1) q r (by simpa using e1) (by simpa using e2)⟩
theorem Good.all{ps:List Pr}(g:Good ps):∀p∈ps,1<=p.2:=fun p hp=>by obtain⟨i,hi,e⟩:=List.mem_iff_getElem.mp hp;exact g.one i p (by simp[hi,e])
theorem Good.first{p:Pr}:∀{ps:List Pr},Good (p::ps)->∀q∈ps,p.1+p.2<q.1
 | [],_,q,hq=>nomatch hq
 | r::ps,g,q,hq=>by
  have h1:=g.gap 0 p r rfl rfl;rcases List.mem_cons.mp hq with z|z
  ·rw[z];exact h1
  ·have h2:=Good.first (Good.cons' g) q z
   have h3:=g.one 1 r rfl;omega
theorem JcO{α:Type}{xs:List α}{x:α}(h:xs[xs.length-1]?=some x):atI xs (-1)=some x:=by
 have hl:=(List.getElem?_eq_some_iff.mp h).1;unfold atI ixN;rw[if_neg (by omega),if_pos (by omega)]
 have:((-1:Int)+(xs.length:Int)).toNat=xs.length-1:=by omega
 rw[this];exact h
theorem Jc1{α:Type}(xs:List α):Zy xs (some 1) none=xs.drop 1:=by
 unfold Zy;have e:HT.sIx xs.length 0 (some 1)=min 1 xs.length:=rfl;rw[e,show HT.sIx xs.length xs.length none=xs.length from rfl]
 cases xs with
 | nil=>rfl
 | cons x xs=>simp
theorem UH{α:Type}{xs:List α}{k:Nat}{x:α}(h:xs[k]?=some x):atI xs (k:Int)=some x:=by obtain⟨h1,h2⟩:=List.getElem?_eq_some_iff.mp h;rw[Z5 h1,h2]
theorem Good.mk'{p:Pr}{ps:List Pr}(h1:1<=p.2)(h2:∀q,ps[0]?=some q->p.1+p.2<q.1)(g:Good ps):Good (p::ps):=by
 refine⟨fun i q e=>?_,fun i q r e1 e2=>?_⟩
 ·cases i with
  | zero=>simp at e;subst e;exact h1
  | succ i=>exact g.one i q (by simpa using e)
 ·cases i with
  | zero=>simp at e1;subst e1;exact h2 r (by simpa using e2)
  | succ i=>exact g.gap i q r (by simpa using e1) (by simpa using e2)
structure Wide (c:Int) (ps:List Pr):Prop where
 one:∀(i:Nat) (p:Pr),ps[i]?=some p->c<=p.2
 gap:∀(i:Nat) (p q:Pr),ps[i]?=some p->ps[i+1]?=some q->c<=q.1-(p.1+p.2)
theorem Wide.mono{c c':Int}{ps:List Pr}(h:c'<=c)(w:Wide c ps):Wide c' ps:=⟨fun i p e=>by have:=w.one i p e;omega,fun i p q e1 e2=>by have:=w.gap i p q e1 e2;omega⟩
theorem Wide.cons{c:Int}{p:Pr}{ps:List Pr}(w:Wide c (p::ps)):Wide c ps:=⟨fun i q e=>w.one (i+1) q (by simpa using e),fun i q r e1 e2=>w.gap (i+1) q r (by simpa using e1) (by simpa using e2)⟩
noncomputable def zs(n:Nat):List Int:=List.replicate n 0
noncomputable def os(n:Nat):List Int:=List.replicate n 1
noncomputable def blk:Int->List Pr->List Int
 | _,[]=>[]
 | pos,p::r=>zs (p.1-pos).toNat++(os p.2.toNat++blk (p.1+p.2) r)
noncomputable def tkS(x prev pos:Int)(acc:List Pr):List Pr :=
 if x=1/\prev=1 then acc.dropLast++[((acc.getLastD (0,0)).1,(acc.getLastD (0,0)).2+1)] else if x=1 then acc++[(pos,1)] else acc
noncomputable def tk:Int->Int->List Pr->List Int->List Pr
 | _,_,acc,[]=>acc
 | prev,pos,acc,x::r=>tk x (pos+1) (tkS x prev pos acc) r
noncomputable def V9(ps:List Pr)(x:Int):Int:=(ps.map fun p=>max 0 (min p.2 (x-p.1))).sum
noncomputable def edF(ps:List Pr):Nat->Int->List Int->List Pr
 | _,_,[]=>[]
 | i,c,s::r=>(s+2*(i:Int)-(V9 ps s-c),V9 ps s-c+1)::edF ps (i+1) (V9 ps s) r
noncomputable def lk(k:Int):List Pr->Int
 | []=>0
 | p::r=>if p.1=k then p.2 else lk k r
noncomputable abbrev Tr:=Int×Int×Int
noncomputable def trE(t:Tr):D:=.tup [.int t.1,.int t.2.1,.int t.2.2]
theorem Ji7:Kd trE 2:=⟨fun _=>rfl,fun _=>by simp[trE,D.py,D.pyL,PyData.depth,PyData.depthAll],fun a b=>by obtain⟨a1,a2,a3⟩:=a;obtain⟨b1,b2,b3⟩:=b;simp[trE,D.py,D.pyL,PyData.eqv,PyData.eqvAll]⟩
theorem Jc7(a b:List Tr):eqA (.lst (a.map trE)) (.lst (b.map trE))=some (decide (a=b)):=(JaQ Ji7).eq (by decide) a b
noncomputable def JiV(ps:List Pr):List Int:=ps.map fun p=>p.1+p.2
noncomputable def Jjf(prs:List Pr):List Int:=prs.flatMap fun p=>List.replicate p.2.toNat p.1
noncomputable def spR:Int->List Pr->List Int
 | _,[]=>[]
 | d,p::r=>(p.1+p.2-1-d)::spR (d+2) r
noncomputable def V2(l:List Tr):Int:=(l.map (·.2.2)).sum
theorem JbC{α β:Type}{p:Pt}{b:Es}{f:α->D}(R:List α->β->En->Prop)(g:β->α->β):∀{as:List α} {E:En} (s:β) (h0:R as s E)
 (h:∀a as s E,R (a::as) s E->okS (R as (g s a)) ((p.bind (f a) E).bind b)),∃E',R [] (as.foldl g s) E'/\J5 p b (as.map f) E=some (.nx E')
 | [],E,s,h0,_=>⟨E,h0,rfl⟩
 | a::as,E,s,h0,h=>by
  obtain⟨E2,e2,r2⟩:=Wu (h a as s E h0);obtain⟨E',h1,h2⟩:=JbC R g (as:=as) (E:=E2) (g s a) r2 h;refine⟨E',h1,?_⟩;rw[List.map_cons,J5]
  cases hp:p.bind (f a) E with
  | none=>rw[hp] at e2;rcases e2 with e2|e2 <;> cases e2
  | some E1=>rw[hp,Option.bind_some] at e2;rw[Option.bind_some];rcases e2 with e2|e2 <;> (rw[e2,Option.bind_some];exact h2)
noncomputable def putF(ps prs:List Pr):List Pr:=edF ps 0 0 (JjM (JiV ps++Jjf prs))
noncomputable abbrev ctB:Es:=(Jt (xIf (tOr? (tB? (e2 fLt (Jc 2) (eC (.int 1)))) (tB? (e2 fLt (Jc 4) (eC (.int 1))))) YB JE) (Jt (xIf (tAnd? (tB? (e2 Yz (Jc 1) (eC .non))) (tB? (e2 Wg (YV (aC (Jc 2) (aC (Jc 3) a0))) (Jc 1)))) YB JE) (Jy 1 (YV (aC (Jc 2) (aC (Jc 3) a0))))))
noncomputable abbrev ctP:Pt:=(.tp (.cons (.nm 2) (.cons (.nm 3) (.cons (.nm 4) .nil))))
noncomputable def U1:Option Pr->List Tr->Prop
 | _,[]=>True
 | a,t::r=>1<=t.1/\1<=t.2.2/\(∀b,a=some b->b.1<t.1\/(b.1=t.1/\b.2<t.2.1))/\U1 (some (t.1,t.2.1)) r
noncomputable def ahE:Option Pr->D
 | none=>.non
 | some p=>prE p
theorem Zx(x:Sl):∀(tb:List Tr) (a:Option Pr) (j2 j3 j4:Sl),U1 a tb->∃E',J5 ctP ctB (tb.map trE) [x,.sh (ahE a),j2,j3,j4]=some (.nx (x::E'))/\E'.length=4
 | [],a,j2,j3,j4,_=>⟨_,rfl,rfl⟩
 | t::r,a,j2,j3,j4,h=>by
  obtain⟨h1,h2,h3,h4⟩:=h;obtain⟨E',ih⟩:=Zx x r (some (t.1,t.2.1)) (.sh (.int t.1)) (.sh (.int t.2.1)) (.sh (.int t.2.2)) h4;refine⟨E',?_,ih.2⟩;rw[List.map_cons,J5];simp only[trE];walk_at "ev";rw[decide_eq_false (show ¬t.1<1 by omega)];walk_at "ev";rw[decide_eq_false (show ¬t.2.2<1 by omega)];walk_at "ev"
  cases a with
  | none=>simp only[ahE];walk_at "ev";exact ih.1
  | some b =>
   have hb:=h3 b rfl;simp only[ahE,prE];walk_at "ev"
   have e:(if t.1=b.1 then decide (t.2.1<=b.2) else decide (t.1<=b.1))=false:=by
    split
    ·exact decide_eq_false (by omega)
    ·exact decide_eq_false (by omega)
   rw[e];walk_at "ev";exact ih.1
theorem Jj4(tb:List Tr)(h:U1 none tb)(hs:V2 tb<=30)(hl:tb.length<=30):∃r,Jw [.sh (.lst (tb.map trE))]=some r:=by
 obtain⟨E',e,el⟩:=Zx (.sh (.lst (tb.map trE))) tb none .no .no .no h;unfold Jw;walk_at "ev";rw[show J5 ctP ctB (tb.map trE) [.sh (.lst (tb.map trE)),.sh .non,.no,.no,.no]=_ from e];walk_at "ev";rw[Ua (g:=fun t:Tr=>D.int t.2.2)]
 ·walk_at "ev";rw[UV (ns:=tb.map (·.2.2)) (by simp[Sl.q])];walk_at "ev";rw[decide_eq_false (show ¬(tb.map (·.2.2)).sum>30 from by unfold V2 at hs;omega (config:={}))];walk_at "ev";exact⟨_,rfl⟩
 ·intro t _;simp only[trE];walk_at "ev"
theorem Jbg:∀{tb:List Tr} {a:Option Pr},U1 a tb->∀t∈tb,1<=t.1/\1<=t.2.2
 | [],_,_,_,h=>by cases h
 | t::r,a,h,u,hu=>by
  obtain⟨h1,h2,_,h4⟩:=h;rcases List.mem_cons.mp hu with z|z
  ·rw[z];exact⟨h1,h2⟩
  ·exact Jbg h4 u z
theorem JaB{α β:Type}(f:α->β):∀(ks:List (Int×Int)) (ds:List α) (n:Int×Int) (v:α),setP ks (ds.map f) n (f v)=(setP ks ds n v).map f
 | [],_,_,_=>rfl
 | _::_,[],_,_=>rfl
 | k::ks,d::ds,n,v=>by
  simp only[setP,List.map_cons,JaB f ks ds n v]
  by_cases h:k=n
  ·rw[if_pos h,if_pos h]
  ·rw[if_neg h,if_neg h]
theorem JcA{α β:Type}(f:α->β)(ks:List (Int×Int))(ds:List α)(n:Int×Int)(v:α):putDP ks (ds.map f) n (f v)=(putDP ks ds n v).map f:=by
 unfold putDP
 by_cases h:ZG ks n=true
 ·rw[if_pos h,if_pos h,JaB]
 ·rw[if_neg h,if_neg h,List.map_append];rfl
theorem Zh{α β:Type}(f:α->β):∀(ks:List (Int×Int)) (ds:List α) (n:Int×Int),lookP ks (ds.map f) n=(lookP ks ds n).map f
 | [],_,_=>rfl
 | _::_,[],_=>rfl
 | k::ks,d::ds,n=>by
  simp only[lookP,List.map_cons,Zh f ks ds n]
  by_cases h:k=n
  ·rw[if_pos h,if_pos h];rfl
  ·rw[if_neg h,if_neg h]
theorem Uv{α:Type}(d0:α):∀(ks:List (Int×Int)) (vs:List α) (n:Int×Int),n∈ks->ks.length=vs.length->lookP ks vs n=some ((lookP ks vs n).getD d0)
 | [],_,_,h,_=>by cases h
 | _::_,[],_,_,h=>by cases h
 | k::ks,v::vs,n,h,hl=>by
  simp only[lookP]
  by_cases e:k=n
  ·rw[if_pos e];rfl
  ·rw[if_neg e];refine Uv d0 ks vs n ?_ (by simpa using hl);rcases List.mem_cons.mp h with z|z
   ·exact absurd z.symm e
   ·exact z
theorem JdR(ks:List (Int×Int))(n:Int×Int):(Ul ks n).length<=ks.length+1:=by unfold Ul;split <;> simp
noncomputable def drZ(ns:List Int)(at' step:Int):Nat->Int
 | 0=>1
 | i+1=>drZ ns at' step i+cell ns (at'+3*(i:Int)) / 2 % step*(cell ns (at'+3*(i:Int)) % 2)
noncomputable def drP(ns:List Int)(at' step width:Int)(i:Nat):Int×Int:=(drZ ns at' step (i+1),cell ns (at'+1+3*(i:Int)) % (2*width+1)-width)
noncomputable def drV(ns:List Int)(at':Int)(i:Nat):Int:=1+cell ns (at'+2+3*(i:Int)) % 3
noncomputable def drS(ns:List Int)(at' step width:Int):Nat->List (Int×Int)×List Int
 | 0=>([],[])
 | i+1=>(Ul (drS ns at' step width i).1 (drP ns at' step width i),putDP (drS ns at' step width i).1 (drS ns at' step width i).2 (drP ns at' step width i) (drV ns at' i))
theorem Vc(ns:List Int)(at' step width:Int):∀i,(drS ns at' step width i).1.length=(drS ns at' step width i).2.length/\(drS ns at' step width i).1.length<=i
 | 0=>⟨rfl,Nat.le_refl _⟩
 | i+1=>by obtain⟨h1,h2⟩:=Vc ns at' step width i;have:=JdR (drS ns at' step width i).1 (drP ns at' step width i);simp only[drS];exact⟨Zk _ _ _ _ h1,by omega⟩
noncomputable def drT(ns:List Int)(at' step width:Int)(n:Nat):List Tr:=(WY (drS ns at' step width n).1).map fun p=>(p.1,p.2,(lookP (drS ns at' step width n).1 (drS ns at' step width n).2 p).getD 0)
theorem Jjb(ns:List Int)(at' many step width:Int)(a0:0<=at')(a9:at'<=9)(h0:0<=many)(h8:many<=16)(hs:0<step)(hw:0<=width) :
 Jz [.sh (.fz (ns.map .int)),.sh (.int at'),.sh (.int many),.sh (.int step),.sh (.int width)]=some (.own ((drT ns at' step width many.toNat).map trE)):=by
 unfold Jz;walk_at "ev";rw[JjG,Option.bind_assoc];refine Jdw (fun i E=>∃j7 j8 j9,E=[.sh (.fz (ns.map .int)),.sh (.int at'),.sh (.int many),.sh (.int step),.sh (.int width),.ot (drS ns at' step width i).1 ((drS ns at' step width i).2.map .int),.sh (.int (drZ ns at' step i)),j7,j8,j9]) ⟨.no,.no,.no,rfl⟩ ?_ ?_
 ·rintro i E hi ⟨j7,j8,j9,rfl⟩;obtain⟨h1,h2⟩:=Vc ns at' step width i;walk_at "ev";rw[Um _ _ (by omega)];walk_at "ev";rw[Um _ _ (by omega)];walk_at "ev";rw[Um _ _ (by omega)];walk_at "ev"
  try erw [if_pos (show(drS ns at' step width i).1.length<16777216 by omega)]
  rw[JcA];exact⟨_,_,_,rfl⟩
 ·rintro E' ⟨j7,j8,j9,rfl⟩;obtain⟨h1,h2⟩:=Vc ns at' step width many.toNat;have hsz:(WY (drS ns at' step width many.toNat).1).length<=16:=by rw[(Yj _).length_eq];omega
  walk_at "ev";rw[Ua (f:=prE) (g:=fun p=>trE (p.1,p.2,(lookP (drS ns at' step width many.toNat).1 (drS ns at' step width many.toNat).2 p).getD 0))]
  ·walk_at "ev";unfold drT;rw[List.map_map];rfl
  ·intro k hk;unfold prE;walk_at "ev";rw[Zh,Uv 0 _ _ k ((Yj _).mem_iff.mp hk) h1];walk_at "ev";rfl
theorem Jbf(f:Int×Int->Int):∀(l:List (Int×Int)) (a:Option Pr),l.Pairwise (fun a b=>Ud a b=true)->(∀p∈l,1<=p.1/\1<=f p)->(∀b,a=some b->∀p∈l,Ud b p=true)->U1 a (l.map fun p=>(p.1,p.2,f p))
 | [],_,_,_,_=>trivial
 | p::l,a,h,hp,ha=>by
  have q:=List.pairwise_cons.mp h
  have p1:=hp p List.mem_cons_self;refine⟨p1.1,p1.2,fun b e=>(UL b p).mp (ha b e p List.mem_cons_self),Jbf f l _ q.2 (fun x hx=>hp x (List.mem_cons_of_mem _ hx)) fun b e x hx=>?_⟩;cases e;exact q.1 x hx
theorem Zl{ks:List (Int×Int)}{n x:Int×Int}(h:x∈Ul ks n):x∈ks\/x=n:=by
 unfold Ul at h
 by_cases c:ZG ks n=true
 ·rw[if_pos c] at h;exact .inl h
 ·rw[if_neg c] at h;rcases List.mem_append.mp h with z|z
  ·exact .inl z
  ·exact .inr (List.mem_singleton.mp z)
theorem JdS{ks:List (Int×Int)}{n:Int×Int}(h:ks.Nodup):(Ul ks n).Nodup:=by
 unfold Ul
 by_cases c:ZG ks n=true
 ·rw[if_pos c];exact h
 ·rw[if_neg c];refine List.nodup_append.mpr ⟨h,by simp,fun a ha b hb e=>c ?_⟩;rw[List.mem_singleton.mp hb] at e;unfold ZG;exact List.any_eq_true.mpr ⟨a,ha,decide_eq_true e⟩
theorem JaC{α:Type}:∀{ks:List (Int×Int)} {ds:List α} {n:Int×Int} {v x:α},x∈setP ks ds n v->x∈ds\/x=v
 | [],_,_,_,_,h=>.inl h
 | _::_,[],_,_,_,h=>.inl h
 | k::ks,d::ds,n,v,x,h=>by
  simp only[setP] at h;rcases List.mem_cons.mp h with z|z
  ·by_cases c:k=n
   ·rw[if_pos c] at z;exact .inr z
   ·rw[if_neg c] at z;exact .inl (z▸List.mem_cons_self)
  ·exact(JaC z).imp (List.mem_cons_of_mem _) id
theorem JcB{α:Type}{ks:List (Int×Int)}{ds:List α}{n:Int×Int}{v x:α}(h:x∈putDP ks ds n v):x∈ds\/x=v:=by
 unfold putDP at h
 by_cases c:ZG ks n=true
 ·rw[if_pos c] at h;exact JaC h
 ·rw[if_neg c] at h;rcases List.mem_append.mp h with z|z
  ·exact .inl z
  ·exact .inr (List.mem_singleton.mp z)
theorem VD{α:Type}:∀{ks:List (Int×Int)} {ds:List α} {n:Int×Int} {x:α},lookP ks ds n=some x->x∈ds
 | [],_,_,_,h=>by cases h
 | _::_,[],_,_,h=>by cases h
 | k::ks,d::ds,n,x,h=>by
  simp only[lookP] at h
  by_cases c:k=n
  ·rw[if_pos c] at h;cases h;exact List.mem_cons_self
  ·rw[if_neg c] at h;exact List.mem_cons_of_mem _ (VD h)
section
variable(ns:List Int)(at' step width:Int)
theorem Jbt(hs:0<step):∀i,1<=drZ ns at' step i
 | 0=>by simp[drZ]
 | i+1=>by
  have:=Jbt hs i
  have h1:=Int.emod_nonneg (cell ns (at'+3*(i:Int)) / 2) (show step≠0 by omega)
  have h2:=Int.emod_nonneg (cell ns (at'+3*(i:Int))) (show(2:Int)≠0 by omega)
  have:=Int.mul_nonneg h1 h2;rw[drZ];omega
theorem JaJ(hs:0<step)(hw:0<=width):∀i,(drS ns at' step width i).1.Nodup/\(∀p∈(drS ns at' step width i).1,1<=p.1/\-width<=p.2/\p.2<=width)/\∀v∈(drS ns at' step width i).2,1<=v/\v<=3
 | 0=>⟨List.nodup_nil,fun p h=>(List.not_mem_nil h).elim,fun p h=>(List.not_mem_nil h).elim⟩
 | i+1=>by
  obtain⟨h1,h2,h3⟩:=JaJ hs hw i;simp only[drS];refine⟨JdS h1,fun p h=>?_,fun v h=>?_⟩
  ·rcases Zl h with z|z
   ·exact h2 p z
   ·subst z;have a:=Jbt ns at' step hs (i+1);have b:=Int.emod_nonneg (cell ns (at'+1+3*(i:Int))) (show 2*width+1≠0 by omega);have c:=Int.emod_lt_of_pos (cell ns (at'+1+3*(i:Int))) (show 0<2*width+1 by omega);unfold drP;exact⟨a,by dsimp only;omega,by dsimp only;omega⟩
  ·rcases JcB h with z|z
   ·exact h3 v z
   ·subst z;unfold drV;omega
theorem JeA(hs:0<step)(hw:0<=width)(n:Nat):U1 none (drT ns at' step width n):=by
 obtain⟨h1,h2,h3⟩:=JaJ ns at' step width hs hw n;obtain⟨l1,_⟩:=Vc ns at' step width n;unfold drT;refine Jbf _ _ _ (WJ _ h1) (fun p hp=>?_) fun b e=>nomatch e
 have m:=(Yj _).mem_iff.mp hp;exact⟨(h2 p m).1,(h3 _ (VD (Uv 0 _ _ p m l1))).1⟩
theorem JgP(hs:0<step)(hw:0<=width)(n:Nat):(drT ns at' step width n).length<=n/\∀t∈drT ns at' step width n,1<=t.1/\-width<=t.2.1/\t.2.1<=width/\1<=t.2.2/\t.2.2<=3:=by obtain⟨h1,h2,h3⟩:=JaJ ns at' step width hs hw n;obtain⟨l1,l2⟩:=Vc ns at' step width n;unfold drT;refine⟨by rw[List.length_map,(Yj _).length_eq];exact l2,fun t ht=>?_⟩;obtain⟨p,hp,rfl⟩:=List.mem_map.mp ht;have m:=(Yj _).mem_iff.mp hp;have a:=h2 p m;have b:=h3 _ (VD (Uv 0 _ _ p m l1));exact⟨a.1,a.2.1,a.2.2,b.1,b.2⟩
end
theorem JcN{a c:Option Pr}:∀{tb:List Tr},U1 a tb->(∀b,c=some b->∃d,a=some d/\(b.1<d.1\/(b.1=d.1/\b.2<d.2)))->U1 c tb
 | [],_,_=>trivial
 | t::r,h,hc=>by obtain⟨h1,h2,h3,h4⟩:=h;refine⟨h1,h2,fun b e=>?_,h4⟩;obtain⟨d,e1,e2⟩:=hc b e;have:=h3 d e1;omega
theorem W2:∀{tb:List Tr} {a:Option Pr} (i:Nat),U1 a tb->U1 a (tb.eraseIdx i)
 | [],_,_,_=>trivial
 | t::r,a,0,h=>JcN h.2.2.2 fun b e=>⟨_,rfl,h.2.2.1 b e⟩
 | t::r,a,i+1,h=>⟨h.1,h.2.1,h.2.2.1,W2 i h.2.2.2⟩
theorem Zi{α β:Type}(f:α->β):∀(l:List α) (i:Nat),(l.map f).eraseIdx i=(l.eraseIdx i).map f
 | [],_=>rfl
 | _::_,0=>rfl
 | a::l,i+1=>by simp only[List.map_cons,List.eraseIdx_cons_succ,Zi f l i]
theorem W3(a b c:Int):atI [D.int a,D.int b,D.int c] 0=some (.int a):=rfl
theorem Z3(a b c:Int):atI [D.int a,D.int b,D.int c] 2=some (.int c):=rfl
theorem VF(tb:List Tr):UJ (.nm 0) yes? (e2 fIx (Jc 0) (eC (.int 2))) [.no] (tb.map trE)=some (tb.map fun t=>D.int t.2.2):=Ua fun t _=>by simp only[trE];walk_at "ev";simp only[Z3];walk_at "ev"
noncomputable abbrev thC:En->Option Bool:=(tB? (e2 fGt (eF Wi (aC (Uo (iE true (Jc 4)) (.nm 0) yes? (e2 fIx (Jc 0) (eC (.int 2))) [none]) a0)) (eC (.int 30))))
noncomputable abbrev thB(d:Int):Es:=(WP 4 (e2 J8 (e2 Yo (Jc 1) (eC (.int d))) (eF Uu (aC (Jc 4) a0))))
noncomputable abbrev ctX:Xv:=(YK (xIf (tOr? (tB? (e2 fLt (Jc 2) (eC (.int 1)))) (tB? (e2 fLt (Jc 4) (eC (.int 1))))) YB JE) (V0 (tOr? (tB? (e2 fLt (Jc 2) (eC (.int 1)))) (tB? (e2 fLt (Jc 4) (eC (.int 1))))) (Yw "BadTable" (aC (eC (.str "sizes and numbers of lumps are from 1 on")) a0)) U2) (YK (xIf (tAnd? (tB? (e2 Yz (Jc 1) (eC .non))) (tB? (e2 Wg (YV (aC (Jc 2) (aC (Jc 3) a0))) (Jc 1)))) YB JE) (V0 (tAnd? (tB? (e2 Yz (Jc 1) (eC .non))) (tB? (e2 Wg (YV (aC (Jc 2) (aC (Jc 3) a0))) (Jc 1)))) (Yw "BadTable" (aC (eC (.str "a table is ascending, with each size and spot once")) a0)) U2) U2))
noncomputable def noT:Option Pr->Tr->Bool
 | none,_=>false
 | some b,t=>if t.1=b.1 then decide (t.2.1<=b.2) else decide (t.1<=b.1)
noncomputable def Vb:Option Pr->List Tr->Bool
 | _,[]=>false
 | a,t::r=>(decide (t.1<1) || decide (t.2.2<1)) || (noT a t || Vb (some (t.1,t.2.1)) r)
theorem Jfk(a:Option Pr)(t:Tr):noT a t=false↔∀b,a=some b->b.1<t.1\/(b.1=t.1/\b.2<t.2.1):=by
 cases a with
 | none=>exact⟨fun _ b e=>(nomatch e),fun _=>rfl⟩
 | some b =>
  have e:noT (some b) t=(if t.1=b.1 then decide (t.2.1<=b.2) else decide (t.1<=b.1)):=rfl;rw[e]
  by_cases c:t.1=b.1
  ·rw[if_pos c,decide_eq_false_iff_not];exact⟨fun h d e=>by cases e;omega,fun h=>by have:=h b rfl;omega⟩
  ·rw[if_neg c,decide_eq_false_iff_not];exact⟨fun h d e=>by cases e;omega,fun h=>by have:=h b rfl;omega⟩
theorem bad_asc:∀{tb:List Tr} {a:Option Pr},Vb a tb=false↔U1 a tb
 | [],_=>⟨fun _=>trivial,fun _=>rfl⟩
 | t::r,a=>by
  rw[Vb,U1,Bool.or_eq_false_iff,Bool.or_eq_false_iff,Bool.or_eq_false_iff,bad_asc,Jfk,decide_eq_false_iff_not,decide_eq_false_iff_not];constructor
  ·rintro⟨⟨h1,h2⟩,h3,h4⟩;exact⟨by omega,by omega,h3,h4⟩
  ·rintro⟨h1,h2,h3,h4⟩;exact⟨⟨by omega,by omega⟩,h3,h4⟩
theorem JcY(t:Tr)(x y j2 j3 j4:Sl):ctP.bind (trE t) [x,y,j2,j3,j4]=some [x,y,.sh (.int t.1),.sh (.int t.2.1),.sh (.int t.2.2)]:=by simp only[trE];walk_at "ev"
theorem JcX(x:Sl)(a:Option Pr)(t:Tr):ctB [x,.sh (ahE a),.sh (.int t.1),.sh (.int t.2.1),.sh (.int t.2.2)]=if (decide (t.1<1) || decide (t.2.2<1))=true then none else if noT a t=true then none else some (.nx [x,.sh (ahE (some (t.1,t.2.1))),.sh (.int t.1),.sh (.int t.2.1),.sh (.int t.2.2)]):=by
 walk_at "ev"
 cases h1:decide (t.1<1) with
 | true=>walk_at "ev";try rfl
 | false =>
  walk_at "ev"
  cases h2:decide (t.2.2<1) with
  | true=>walk_at "ev";try rfl
  | false =>
   walk_at "ev"
   cases a with
   | none =>
    simp only[ahE];walk_at "ev"
    try rfl
   | some b =>
    simp only[ahE,prE];walk_at "ev";show _=if noT (some b) t=true then _ else _
    rw[show(if t.1=b.1 then decide (t.2.1<=b.2) else decide (t.1<=b.1))=noT (some b) t from rfl]
    cases noT (some b) t with
    | true=>walk_at "ev";try rfl
    | false=>walk_at "ev";try rfl
theorem JcZ(x:Sl)(a:Option Pr)(t:Tr):ctX [x,.sh (ahE a),.sh (.int t.1),.sh (.int t.2.1),.sh (.int t.2.2)]=if (decide (t.1<1) || decide (t.2.2<1))=true then some (Str.ofString "BadTable") else if noT a t=true then some (Str.ofString "BadTable") else none:=by
 unfold ctX YK V0 Yw U2;walk_at "ev"
 cases h1:decide (t.1<1) with
 | true=>walk_at "ev";try rfl
 | false =>
  walk_at "ev"
  cases h2:decide (t.2.2<1) with
  | true=>walk_at "ev";try rfl
  | false =>
   walk_at "ev"
   cases a with
   | none =>
    simp only[ahE];walk_at "ev"
    try rfl
   | some b =>
    simp only[ahE,prE];walk_at "ev";show _=if noT (some b) t=true then _ else _
    rw[show(if t.1=b.1 then decide (t.2.1<=b.2) else decide (t.1<=b.1))=noT (some b) t from rfl]
    cases noT (some b) t with
    | true=>walk_at "ev";try rfl
    | false=>walk_at "ev";try rfl
theorem Jc0(x:Sl):∀(tb:List Tr) (a:Option Pr) (j2 j3 j4:Sl),Vb a tb=true->J5 ctP ctB (tb.map trE) [x,.sh (ahE a),j2,j3,j4]=none/\Ub ctP ctB ctX (tb.map trE) [x,.sh (ahE a),j2,j3,j4]=some (Str.ofString "BadTable")
 | [],a,j2,j3,j4,h=>by cases h
 | t::r,a,j2,j3,j4,h=>by
  rw[Vb] at h;rw[List.map_cons,J5,Ub];simp only[JcY,Option.bind_some,JcX,JcZ]
  cases h1:(decide (t.1<1) || decide (t.2.2<1)) with
  | true=>exact⟨rfl,rfl⟩
  | false =>
   rw[h1,Bool.false_or] at h
   cases h2:noT a t with
   | true=>exact⟨rfl,rfl⟩
   | false=>rw[h2,Bool.false_or] at h;exact Jc0 x r (some (t.1,t.2.1)) _ _ _ h
theorem Jbm(x:Sl):∀(tb:List Tr) (a:Option Pr) (j2 j3 j4:Sl),Vb a tb=false->Ub ctP ctB ctX (tb.map trE) [x,.sh (ahE a),j2,j3,j4]=none
 | [],a,j2,j3,j4,h=>rfl
 | t::r,a,j2,j3,j4,h=>by
  rw[Vb] at h;simp only[Bool.or_eq_false_iff] at h;have h1:(decide (t.1<1) || decide (t.2.2<1))=false:=by rw[h.1.1,h.1.2];rfl
  rw[List.map_cons,Ub];simp only[JcY,Option.bind_some,JcX,JcZ,h1,h.2.1,if_neg Bool.false_ne_true];exact Jbm x r (some (t.1,t.2.1)) _ _ _ h.2.2
theorem Jdb{a:Es}{ea eb:Xv}{E E':En}(h1:ea E=none)(h2:a E=some (.nx E')):YK a ea eb E=eb E':=by unfold YK;rw[h1,h2]
theorem JeH{a:Es}{ea eb:Xv}{E:En}{m:Str}(h1:ea E=some m):YK a ea eb E=some m:=by unfold YK;rw[h1]
noncomputable abbrev ctT:Xv:=(V0 (tB? (e2 fGt (eF Wi (aC (Uo (iE true (Jc 0)) (.tp (.cons (.nm 0) (.cons (.nm 1) (.cons (.nm 2) .nil)))) yes? (Jc 2) [none,none,none]) a0)) (eC (.int 30)))) (Yw "TooMany" (aC (eC (.str "a table has at most 30 lumps in all")) a0)) U2)
theorem Jgn(x:Sl):JP [x]=YK (W1 (iV 0) ctP ctB) (Jda (iV 0) ctP ctB ctX) ctT [x,.sh .non,.no,.no,.no]:=rfl
theorem Jjg(tb:List Tr):UJ (.tp (.cons (.nm 0) (.cons (.nm 1) (.cons (.nm 2) .nil)))) yes? (Jc 2) [.no,.no,.no] (tb.map trE)=some (tb.map fun t=>D.int t.2.2):=Ua fun t _=>by simp only[trE];walk_at "ev"
theorem JbY(tb:List Tr)(hl:tb.length<=1000)(h:Vb none tb=true):Jw [.sh (.lst (tb.map trE))]=none/\JP [.sh (.lst (tb.map trE))]=some (Str.ofString "BadTable"):=by
 obtain⟨e1,e2⟩:=Jc0 (.sh (.lst (tb.map trE))) tb none .no .no .no h;constructor
 ·unfold Jw;walk_at "ev";rw[show J5 ctP ctB (tb.map trE) [.sh (.lst (tb.map trE)),.sh .non,.no,.no,.no]=_ from e1];rfl
 ·rw[Jgn];exact JeH e2
theorem JaS(tb:List Tr)(hl:tb.length<=1000)(h:U1 none tb)(hs:V2 tb>30):Jw [.sh (.lst (tb.map trE))]=none/\JP [.sh (.lst (tb.map trE))]=some (Str.ofString "TooMany"):=by
 obtain⟨E',e,el⟩:=Zx (.sh (.lst (tb.map trE))) tb none .no .no .no h;have e2:=Jbm (.sh (.lst (tb.map trE))) tb none .no .no .no (bad_asc.mpr h);have hd:decide ((tb.map (·.2.2)).sum>30)=true:=decide_eq_true hs;constructor
 ·unfold Jw;walk_at "ev";rw[show J5 ctP ctB (tb.map trE) [.sh (.lst (tb.map trE)),.sh .non,.no,.no,.no]=_ from e];walk_at "ev";rw[Jjg];walk_at "ev";rw[UV (ns:=tb.map (·.2.2)) (by simp[Sl.q])];walk_at "ev"
  try rw[hd]
  rfl
 ·rw[Jgn];refine(Jdb (a:=W1 (iV 0) ctP ctB) e2 e).trans ?_
  obtain⟨b1,b2,b3,b4,rfl⟩:∃b1 b2 b3 b4,E'=[b1,b2,b3,b4]:=by
   match E',el with
   | [b1,b2,b3,b4],_=>exact⟨b1,b2,b3,b4,rfl⟩
  unfold ctT V0 Yw;walk_at "ev";rw[Jjg];walk_at "ev";rw[UV (ns:=tb.map (·.2.2)) (by simp[Sl.q])];walk_at "ev"
  try (rw[hd];walk_at "ev")
noncomputable abbrev duB:Es:=(Jt (xIf (tOr? (tB? (e2 fLt (e2 fIx (e2 fIx (Jc 0) (Jc 1)) (eC (.int 0))) (eC (.int 1)))) (tB? (e2 fLt (e2 fIx (e2 fIx (Jc 0) (Jc 1)) (eC (.int 2))) (eC (.int 1))))) (YH (eC (.str "table"))) JE) (xIf (tAnd? (tB? (e2 fGt (Jc 1) (eC (.int 0)))) (tB? (e2 Jdd (eSl (e2 fIx (Jc 0) (e2 UK (Jc 1) (eC (.int 1)))) none (some (eC (.int 2)))) (eSl (e2 fIx (Jc 0) (Jc 1)) none (some (eC (.int 2))))))) (YH (eC (.str "table"))) JE))
noncomputable def U4:List Tr->Option Pr:=fun l=>l.getLast?.map fun t=>(t.1,t.2.1)
theorem JjZ(a b c:Int):Zy [D.int a,D.int b,D.int c] none (some 2)=[.int a,.int b]:=rfl
theorem Jc5(tb:List Tr)(hl:tb.length<=1000):∀(rest pre:List Tr) (j1:Sl),tb=pre++rest->(Vb (U4 pre) rest=true->J5 (.nm 1) duB ((List.range' pre.length rest.length).map fun i:Nat=>D.int (i:Int)) [.bo (tb.map trE),j1]=some (.rt (.sh (.str "table"))))/\(Vb (U4 pre) rest=false->∃j1',J5 (.nm 1) duB ((List.range' pre.length rest.length).map fun i:Nat=>D.int (i:Int)) [.bo (tb.map trE),j1]=some (.nx [.bo (tb.map trE),j1']))
 | [],pre,j1,e=>⟨fun h=>by(cases h),fun _=>⟨j1,rfl⟩⟩
 | t::r,pre,j1,e=>by
  have gt:tb[pre.length]?=some t:=by rw[e];simp
  have hg:atI (tb.map trE) ((pre.length:Nat):Int)=some (.tup [.int t.1,.int t.2.1,.int t.2.2]):=by rw[Uj,UH gt];rfl
  have ih:=Jc5 tb hl r (pre++[t]) (.sh (.int ((pre.length:Nat):Int))) (by rw[e,List.append_assoc];rfl);rw[List.length_append,List.length_singleton,show U4 (pre++[t])=some (t.1,t.2.1) by simp[U4]] at ih
  have step:(J5 (.nm 1) duB ((List.range' pre.length (t::r).length).map fun i:Nat=>D.int (i:Int)) [.bo (tb.map trE),j1])=if ((decide (t.1<1) || decide (t.2.2<1)) || noT (U4 pre) t)=true then some (.rt (.sh (.str "table"))) else J5 (.nm 1) duB ((List.range' (pre.length+1) r.length).map fun i:Nat=>D.int (i:Int)) [.bo (tb.map trE),.sh (.int ((pre.length:Nat):Int))]:=by
   rw[List.length_cons,List.range'_succ,List.map_cons,J5];walk_at "ev";rw[hg];walk_at "ev";simp only[W3,Z3];walk_at "ev"
   cases h1:decide (t.1<1) with
   | true=>walk_at "ev";rfl
   | false =>
    walk_at "ev"
    try rw[hg]
    try walk_at "ev"
    try (simp only[W3,Z3];walk_at "ev")
    cases h2:decide (t.2.2<1) with
    | true=>walk_at "ev";rfl
    | false =>
     walk_at "ev";rcases List.eq_nil_or_concat pre with z | ⟨p',u,z⟩
     ·subst z;rw[decide_eq_false (by simp)];walk_at "ev";rfl
     ·rw[List.concat_eq_append] at z;subst z;have gu:tb[p'.length]?=some u:=by rw[e];simp
      have pl:(p'++[u]).length=p'.length+1:=by simp
      have hu:atI (tb.map trE) (((p'++[u]).length:Nat)-1:Int)=some (.tup [.int u.1,.int u.2.1,.int u.2.2]):=by rw[show(((p'++[u]).length:Nat):Int)-1=((p'.length:Nat):Int) by omega,Uj,UH gu];rfl
      rw[decide_eq_true (by omega)];walk_at "ev";rw[hu];walk_at "ev"
      try rw[hg]
      try walk_at "ev"
      try simp only[JjZ]
      try walk_at "ev"
      have eN:(if u.1=t.1 then decide (u.2.1 ≥ t.2.1) else decide (u.1 ≥ t.1))=noT (U4 (p'++[u])) t:=by
       rw[show U4 (p'++[u])=some (u.1,u.2.1) by simp[U4]];show _=(if t.1=u.1 then decide (t.2.1<=u.2.1) else decide (t.1<=u.1))
       by_cases c:t.1=u.1
       ·rw[if_pos c.symm,if_pos c]
       ·rw[if_neg (fun z=>c z.symm),if_neg c]
      rw[eN]
      cases noT (U4 (p'++[u])) t with
      | true=>walk_at "ev";rfl
      | false=>walk_at "ev";rfl
  rw[Vb,step,<- Bool.or_assoc]
  cases (decide (t.1<1) || decide (t.2.2<1)) || noT (U4 pre) t with
  | true=>exact⟨fun _=>rfl,fun h=>by(cases h)⟩
  | false=>rw[Bool.false_or,if_neg Bool.false_ne_true];exact ih
noncomputable def Jac(tb:List Tr):Str:=if Vb none tb=true then "table" else if V2 tb>30 then "many" else ""
theorem Jjc(tb:List Tr)(hl:tb.length<=1000):Yy [.bo (tb.map trE)]=some (.sh (.str (Jac tb))):=by
 obtain⟨g1,g2⟩:=Jc5 tb hl tb [] .no rfl;unfold Yy Jac;walk_at "ev";rw[JjG,show((tb.length:Int)).toNat=tb.length by simp,List.range_eq_range']
 cases hb:Vb none tb with
 | true=>rw[show J5 (.nm 1) duB ((List.range' 0 tb.length).map fun i:Nat=>D.int (i:Int)) [.bo (tb.map trE),.no]=_ from g1 hb];walk_at "ev"
 | false =>
  obtain⟨j1,e⟩:=g2 hb;rw[show J5 (.nm 1) duB ((List.range' 0 tb.length).map fun i:Nat=>D.int (i:Int)) [.bo (tb.map trE),.no]=_ from e];walk_at "ev";rw[VF];walk_at "ev";rw[UV (ns:=tb.map (·.2.2)) (by simp[Sl.q])];walk_at "ev"
  by_cases c:V2 tb>30
  ·rw[show decide ((tb.map (·.2.2)).sum>30)=true from decide_eq_true c,if_pos c];walk_at "ev"
  ·rw[show decide ((tb.map (·.2.2)).sum>30)=false from decide_eq_false c,if_neg c];walk_at "ev"

noncomputable def Yb:Option Int->D
 | none=>.non
 | some s=>.int s

noncomputable def OkS(seats:Option Int):Prop:=∀s,seats=some s->1<=s
noncomputable def Sts(seats:Option Int)(s m:Int):Prop:=seats=some s\/(seats=none/\m<=s)
noncomputable def Ja5(seats:Option Int)(x:Int):Int:=match seats with
 | none=>x
 | some s=>min x s
theorem ZS{seats:Option Int}{s x:Int}(h:Sts seats s x):Ja5 seats x=min x s:=by
 rcases h with z|⟨z,y⟩
 ·rw[z];rfl
 ·rw[z];show x=_;omega
theorem Jjd(seats:Option Int)(x:Int):YD [.sh (.int x),.sh (Yb seats)]=some (.sh (.int (Ja5 seats x))):=by
 unfold YD
 cases seats with
 | none=>simp only[Yb,Ja5];walk_at "ev"
 | some s=>simp only[Yb,Ja5];walk_at "ev"
theorem Jja(seats:Option Int)(h:OkS seats):∃r,JI [.sh (Yb seats)]=some r:=by
 unfold JI
 cases seats with
 | none=>simp only[Yb];walk_at "ev";exact⟨_,rfl⟩
 | some s=>have:=h s rfl;simp only[Yb];walk_at "ev";rw[decide_eq_false (show ¬s<1 by omega)];walk_at "ev";exact⟨_,rfl⟩

theorem Jdx(tb:List Tr)(seats:Option Int)(s times:Int)(h:U1 none tb)(hs:V2 tb<=30)(hl:tb.length<=30)(ok:OkS seats)(hm:∀t∈tb,Sts seats s t.1)(hs1:1<=s)(ht:-10 ^ 100<=times/\times<=10 ^ 100)(hb:∀t∈tb,1<=t.1/\t.1<=10 ^ 100) :
 JF [.sh (.lst (tb.map trE)),.sh (Yb seats),.sh (.int times)]=some (.own ((tb.map fun t=>((t.1,t.2.1+times*min t.1 s,t.2.2):Tr)).map trE)):=by
 obtain⟨r1,e1⟩:=Jja seats ok;obtain⟨r2,e2⟩:=Jj4 tb h hs hl;unfold JF;walk_at "ev";rw[e1];walk_at "ev";rw[e2];walk_at "ev";rw[Ua (g:=fun t:Tr=>trE (t.1,t.2.1+times*min t.1 s,t.2.2))]
 ·walk_at "ev";rw[List.map_map];rfl
 ·intro t mt;have hst:=hm t mt;have hbt:=hb t mt;have hww:times.natAbs<=10 ^ 200/\(min t.1 s).natAbs<=10 ^ 200:=by omega (config:={})
  simp only[trE];walk_at "ev";rw[Jjd];rw[ZS hst];walk_at "ev"
theorem JgJ(s:Int)(h:s<1):JI [.sh (.int s)]=none:=by unfold JI;walk_at "ev";simp only[h];walk_at "ev";rfl
theorem JiW(s:Int)(h:s<1):JO [.sh (.int s)]=some (Str.ofString "BadSeats"):=by unfold JO VP V0 Yw;walk_at "ev";simp only[h];walk_at "ev"
theorem JbZ(tb:List D)(s z:Int)(h:s<1):JF [.sh (.lst tb),.sh (.int s),.sh (.int z)]=none:=by unfold JF;walk_at "ev";rw[JgJ s h];walk_at "ev"
theorem Jdc(tb:List D)(s z:Int)(h:s<1):J0 [.sh (.lst tb),.sh (.int s),.sh (.int z)]=some (Str.ofString "BadSeats"):=by unfold J0 VP YK exU U2;walk_at "ev";rw[JiW s h]
theorem Jct(c reach:Int)(hr:0<reach):∃seats,OkS seats/\J6 [.sh (.int c),.sh (.int reach)]=some (.sh (Yb seats)):=by
 unfold J6;walk_at "ev"
 by_cases h:c % 4=0
 ·refine⟨none,fun s e=>(by cases e),?_⟩;rw[decide_eq_true h];walk_at "ev";rfl
 ·refine⟨some (1+c / 4 % reach),fun s e=>by cases e;have:=Int.emod_nonneg (c / 4) (show reach≠0 by omega);omega,?_⟩;rw[decide_eq_false h];walk_at "ev";rfl

theorem Jbh(a b c:Int):atI [D.int a,D.int b,D.int c] 1=some (.int b):=rfl
theorem WH(tb:List Tr)(k:Nat)(a b c:Int):(tb.map trE).set k (.tup [.int a,.int b,.int c])=(tb.set k (a,b,c)).map trE:=by rw[show(D.tup [.int a,.int b,.int c])=trE (a,b,c) from rfl,List.map_set]
theorem Jdn{n:Nat}{z:Int}(h0:0<=z)(h1:z<(n:Int)):ixN n z=some z.toNat:=by unfold ixN;rw[if_pos h0,if_pos (by omega)]
theorem Jhh{n:Nat}(h:0<n):ixN n (-1)=some (n-1):=by unfold ixN;rw[if_neg (by omega),if_pos (by omega)];congr 1;omega
theorem WG{tb:List Tr}(h:∀t∈tb,t.1<=10 ^ 40){i:Nat}{x:Tr}(hx:x.1<=10 ^ 40):∀t∈tb.set i x,t.1<=10 ^ 40:=fun t ht=>by
 rcases List.mem_or_eq_of_mem_set ht with z|z
 ·exact h t z
 ·rw[z];exact hx
theorem Jfi(tb:List Tr)(way c:Int)(hne:tb≠[])(hl:tb.length<=100)(hB:∀t∈tb,t.1<=10 ^ 40):∃tb':List Tr,tb'≠[]/\tb'.length<=tb.length+1/\(∀t∈tb',t.1<=10 ^ 40)/\JZ [.bo (tb.map trE),.sh (.int way),.sh (.int c)]=some (.own (tb'.map trE)):=by
 have hp:0<tb.length:=List.length_pos_iff.mpr hne
 have m1:=Int.emod_nonneg c (show(tb.length:Int)≠0 by omega)
 have m2:=Int.emod_lt_of_pos c (show(0:Int)<(tb.length:Int) by omega);obtain⟨k,hk⟩:∃k:Nat,(k:Int)=c % (tb.length:Int):=⟨(c % (tb.length:Int)).toNat,by omega⟩
 obtain⟨u,hu⟩:∃u,tb[k]?=some u:=⟨tb[k]'(by omega),by simp⟩
 have hg:atI (tb.map trE) (k:Int)=some (.tup [.int u.1,.int u.2.1,.int u.2.2]):=by rw[Uj,UH hu];rfl
 obtain⟨l,hL⟩:∃l,tb[tb.length-1]?=some l:=⟨tb[tb.length-1]'(by omega),by simp⟩
 have hgl:atI (tb.map trE) (-1)=some (.tup [.int l.1,.int l.2.1,.int l.2.2]):=by rw[Uj,JcO hL];rfl
 have ik:=Jdn (n:=tb.length) (z:=(k:Int)) (by omega) (by omega)
 have bu:=hB u (List.mem_of_getElem? hu)
 have bl:=hB l (List.mem_of_getElem? hL)
 have sne:∀(i:Nat) (x:Tr),tb.set i x≠[]:=fun i x e=>by have:=congrArg List.length e;rw[List.length_set] at this;exact hne (List.eq_nil_of_length_eq_zero this)
 unfold JZ;walk_at "ev";rw[<- hk]
 try walk_at "ev"
 rw[hg];walk_at "ev";have hfar:0<=c / 9 % 10 ^ 30:=by omega
 generalize c / 9 % 10 ^ 30=far at *
 have hneg:0-far*(c / 9 % 2)<=10 ^ 40:=by have:=Int.mul_nonneg hfar (show 0<=c / 9 % 2 by omega);omega
 by_cases w1:way=1
 ·rw[decide_eq_true w1];walk_at "ev";rw[ik];walk_at "ev";refine⟨_,?_,?_,?_,congrArg (fun x=>some (Sl.own x)) (WH tb _ _ _ _)⟩
  ·exact sne _ _
  ·rw[List.length_set];omega
  ·exact WG hB hneg
 ·rw[decide_eq_false w1];walk_at "ev"
  by_cases w2:way=2
  ·rw[decide_eq_true w2];walk_at "ev";rw[ik];walk_at "ev";refine⟨_,?_,?_,?_,congrArg (fun x=>some (Sl.own x)) (WH tb _ _ _ _)⟩
   ·exact sne _ _
   ·rw[List.length_set];omega
   ·exact WG hB bu
  ·rw[decide_eq_false w2];walk_at "ev"
   by_cases w3:way=3
   ·rw[decide_eq_true w3];walk_at "ev";refine⟨Wl tb k (u.1,u.2.1,u.2.2+c / 9 % 2),?_,?_,fun t ht=>?_,?_⟩
    ·intro e;have:=congrArg List.length e;rw[Wm _ _ _ (by omega)] at this;simp at this
    ·rw[Wm _ _ _ (by omega)];omega
    ·unfold Wl at ht;rcases List.mem_append.mp ht with z|z
     ·exact hB t (List.mem_of_mem_take z)
     ·rcases List.mem_cons.mp z with z|z
      ·rw[z];exact bu
      ·exact hB t (List.mem_of_mem_drop z)
    ·congr 2;unfold Wl;rw[List.map_append,List.map_cons,List.map_take,List.map_drop];rfl
   ·rw[decide_eq_false w3];walk_at "ev"
    by_cases w4:way=4
    ·rw[decide_eq_true w4];walk_at "ev"
     by_cases w6:(tb.length:Int)>1
     ·rw[decide_eq_true w6];walk_at "ev";rw[hg];walk_at "ev"
      obtain⟨v,i2,bv,hv,h2⟩:∃(v:Tr) (i2:Nat),v.1<=10 ^ 40/\atI (tb.map trE) ((k:Int)-1)=some (.tup [.int v.1,.int v.2.1,.int v.2.2])/\ixN tb.length ((k:Int)-1)=some i2:=by
       by_cases z:k=0
       ·subst z;exact⟨l,tb.length-1,bl,hgl,Jhh hp⟩
       ·obtain⟨v,hv⟩:∃v,tb[k-1]?=some v:=⟨tb[k-1]'(by omega),by simp⟩
        refine⟨v,k-1,hB v (List.mem_of_getElem? hv),?_,?_⟩
        ·rw[show(k:Int)-1=((k-1:Nat):Int) by omega,Uj,UH hv];rfl
        ·rw[Jdn (by omega) (by omega)];congr 1;omega
      rw[hv];walk_at "ev";rw[ik];walk_at "ev";rw[h2];walk_at "ev";refine⟨(tb.set (k:Int).toNat (v.1,v.2.1,v.2.2)).set i2 (u.1,u.2.1,u.2.2),?_,?_,WG (WG hB bv) bu,?_⟩
      ·intro e;have:=congrArg List.length e;rw[List.length_set,List.length_set] at this;exact hne (List.eq_nil_of_length_eq_zero this)
      ·rw[List.length_set,List.length_set];omega
      ·rw[WH,WH]
     ·rw[decide_eq_false w6];walk_at "ev";rw[decide_eq_false (show ¬way=5 by omega)];walk_at "ev";exact⟨tb,hne,by omega,hB,rfl⟩
    ·rw[decide_eq_false w4];walk_at "ev"
     by_cases w5:way=5
     ·rw[decide_eq_true w5];walk_at "ev";rw[hgl];walk_at "ev";simp only[W3,Jbh];walk_at "ev"
      try (rw[hgl];walk_at "ev")
      try (simp only[W3,Jbh];walk_at "ev")
      refine⟨tb++[(l.1,l.2.1-far,1)],by simp,by simp,fun t ht=>(List.mem_append.mp ht).elim (hB t) fun z=>by rw[List.mem_singleton.mp z];exact bl,?_⟩;rw[List.map_append];rfl
     ·rw[decide_eq_false w5];walk_at "ev";exact⟨tb,hne,by omega,hB,rfl⟩
noncomputable abbrev mvB:Es:=(Jt (Jy 7 (Jc 4)) (Jt (xIf (tB? (e2 Yz (Jc 1) (eC .non))) (Jy 7 (eF Jce (aC (Jc 4) (aC (Jc 1) a0)))) JE) (JaF 3 (YV (aC (Jc 4) (aC (e2 Yt (Jc 5) (e2 Jag (Jc 7) (Jc 2))) (aC (Jc 6) a0)))))))
noncomputable def mvT(seats:Option Int)(times:Int)(t:Tr):Tr:=(t.1,t.2.1+Ja5 seats t.1*times,t.2.2)
theorem Jfh(tb:List Tr)(seats:Option Int)(times:Int)(hl:tb.length<=1000)(hb:∀t∈tb,(Ja5 seats t.1).natAbs<=10 ^ 200)(ht:times.natAbs<=10 ^ 200):Yd [.bo (tb.map trE),.sh (Yb seats),.sh (.int times)]=some (.own ((tb.map (mvT seats times)).map trE)):=by
 have fo:∀(tb acc:List Tr),tb.foldl (fun a t=>a++[mvT seats times t]) acc=acc++tb.map (mvT seats times):=by
  intro tb
  induction tb with
  | nil=>intro acc;simp
  | cons t r ih=>intro acc;rw[List.foldl_cons,ih,List.append_assoc];rfl
 have go:=JbC (p:=(.tp (.cons (.nm 4) (.cons (.nm 5) (.cons (.nm 6) .nil))))) (b:=mvB) (f:=trE) (fun(rest:List Tr) (a:List Tr) E=>∃j4 j5 j6 j7,E=[.bo (tb.map trE),.sh (Yb seats),.sh (.int times),.own (a.map trE),j4,j5,j6,j7]/\(∀t∈rest,t∈tb)/\a.length+rest.length<=1000) (fun a t=>a++[mvT seats times t]) (as:=tb) (E:=[.bo (tb.map trE),.sh (Yb seats),.sh (.int times),.own [],.no,.no,.no,.no]) [] ⟨.no,.no,.no,.no,rfl,fun _ h=>h,by simpa using hl⟩ (by
  rintro t rest a E ⟨j4,j5,j6,j7,rfl,hm,hz⟩;rw[List.length_cons] at hz;have hbt:=hb t (hm t List.mem_cons_self);simp only[trE]
  cases seats with
  | none =>
   simp only[Yb];have hw:t.1.natAbs<=10 ^ 200/\times.natAbs<=10 ^ 200:=⟨hbt,ht⟩
   walk_at "ev";refine⟨.sh (.int t.1),.sh (.int t.2.1),.sh (.int t.2.2),.sh (.int t.1),?_,fun u hu=>hm u (List.mem_cons_of_mem _ hu),by rw[List.length_append,List.length_singleton];omega⟩;rw[List.map_append];rfl
  | some s =>
   simp only[Yb];have hw:(min t.1 s).natAbs<=10 ^ 200/\times.natAbs<=10 ^ 200:=⟨hbt,ht⟩
   walk_at "ev";refine⟨.sh (.int t.1),.sh (.int t.2.1),.sh (.int t.2.2),.sh (.int (min t.1 s)),?_,fun u hu=>hm u (List.mem_cons_of_mem _ hu),by rw[List.length_append,List.length_singleton];omega⟩;rw[List.map_append];rfl)
 obtain⟨E',⟨j4,j5,j6,j7,rE,_,_⟩,hx⟩:=go;rw[fo,List.nil_append] at rE;unfold Yd;walk_at "ev";rw[hx,rE];walk_at "ev"
theorem Jbi(tb:List Tr)(seats:Option Int)(ok:OkS seats)(z:Int)(m:Str)(h:Jw [.sh (.lst (tb.map trE))]=none/\JP [.sh (.lst (tb.map trE))]=some m):JF [.sh (.lst (tb.map trE)),.sh (Yb seats),.sh (.int z)]=none/\J0 [.sh (.lst (tb.map trE)),.sh (Yb seats),.sh (.int z)]=some m:=by
 obtain⟨r,e⟩:=Jja seats ok
 have en:JO [.sh (Yb seats)]=none:=by
  unfold JO VP V0 Yw U2
  cases seats with
  | none=>rfl
  | some s=>have:=ok s rfl;simp only[Yb];walk_at "ev";rw[decide_eq_false (show ¬s<1 by omega)];walk_at "ev"
 constructor
 ·unfold JF;walk_at "ev";rw[e];walk_at "ev";rw[h.1];rfl
 ·unfold J0 VP YK exU U2;walk_at "ev";rw[en,e];walk_at "ev";rw[h.2]
theorem Jf9(l:List D)(s z:Int)(h:s<1):JN [.sh (.lst l),.sh (.int s),.sh (.int z)]=some (.sh (.str "seats")):=by unfold JN JcI exU;walk_at "ev";rw[JbZ l s z h,Jdc l s z h];rfl
theorem Jga(tb:List Tr)(seats:Option Int)(z:Int)(h:JF [.sh (.lst (tb.map trE)),.sh (Yb seats),.sh (.int z)]=none/\J0 [.sh (.lst (tb.map trE)),.sh (Yb seats),.sh (.int z)]=some (Str.ofString "BadTable")):JN [.sh (.lst (tb.map trE)),.sh (Yb seats),.sh (.int z)]=some (.sh (.str "table")):=by unfold JN JcI exU;walk_at "ev";rw[h.1,h.2];rfl
theorem JiC(tb:List Tr)(seats:Option Int)(z:Int)(h:JF [.sh (.lst (tb.map trE)),.sh (Yb seats),.sh (.int z)]=none/\J0 [.sh (.lst (tb.map trE)),.sh (Yb seats),.sh (.int z)]=some (Str.ofString "TooMany")):JN [.sh (.lst (tb.map trE)),.sh (Yb seats),.sh (.int z)]=some (.sh (.str "many")):=by unfold JN JcI exU;walk_at "ev";rw[h.1,h.2];rfl
noncomputable def stp(ns:List Int):Int:=JaZ [3,10 ^ 30] (cell ns 0 / 13 % 2)
noncomputable def wdt(ns:List Int):Int:=JaZ [20,10 ^ 30] (cell ns 0 / 26 % 2)
noncomputable def tb0(ns:List Int):List Tr:=drT ns 3 (stp ns) (wdt ns) (cell ns 0 % 13).toNat
theorem Jbs(ns:List Int)(at' step:Int)(h0:0<step)(h:step<=10 ^ 30):∀i,drZ ns at' step i<=1+10 ^ 30*(i:Int)
 | 0=>by simp[drZ]
 | i+1=>by
  have ih:=Jbs ns at' step h0 h i;rw[drZ]
  have e0:=Int.emod_nonneg (cell ns (at'+3*(i:Int)) / 2) (show step≠0 by omega)
  have e1:=Int.emod_lt_of_pos (cell ns (at'+3*(i:Int)) / 2) h0
  have a:cell ns (at'+3*(i:Int)) % 2=0\/cell ns (at'+3*(i:Int)) % 2=1:=by omega
  rcases a with z|z
  ·rw[z];omega
  ·rw[z];omega
theorem Jbr(ns:List Int)(at' step width:Int):∀(i:Nat) (p:Int×Int),p∈(drS ns at' step width i).1->∃j,j<i/\p=drP ns at' step width j
 | 0,p,h=>by cases h
 | i+1,p,h=>by
  simp only[drS] at h;rcases Zl h with z|z
  ·obtain⟨j,h1,h2⟩:=Jbr ns at' step width i p z;exact⟨j,by omega,h2⟩
  ·exact⟨i,by omega,z⟩
theorem JeB(ns:List Int)(at' step width:Int)(h0:0<step)(h:step<=10 ^ 30)(n:Nat)(hn:n<=1000):∀t∈drT ns at' step width n,t.1<=10 ^ 40:=fun t ht=>by unfold drT at ht;obtain⟨p,hp,rfl⟩:=List.mem_map.mp ht;obtain⟨j,h1,rfl⟩:=Jbr _ _ _ _ _ _ ((Yj _).mem_iff.mp hp);have:=Jbs ns at' step h0 h (j+1);show drZ ns at' step (j+1)<=_;omega
theorem Jix(P:Tr->Prop)(d:Int)(hd:0<d)(hd2:d<1000)(x0 x2 x3:Sl)(c:Int)(R:List Sl):∀(m fuel:Nat) (tb:List Tr),tb.length<=m->m<=100->m<fuel->U1 none tb->(∀t∈tb,t.2.2<=3/\P t) ->
 ∃tb':List Tr,Uh thC (thB d) fuel (x0::.sh (.int c)::x2::x3::.own (tb.map trE)::R)=some (.nx (x0::.sh (.int c)::x2::x3::.own (tb'.map trE)::R))/\(∀t∈tb',P t)/\tb'.length<=m:=by
 intro m
 induction m with
 | zero =>
  intro fuel tb hm h1 hf ha hb;obtain⟨f,rfl⟩:∃f,fuel=f+1:=⟨fuel-1,by omega⟩
  have:tb=[]:=List.eq_nil_of_length_eq_zero (by omega);subst this;exact⟨[],rfl,fun t ht=>(hb t ht).2,Nat.le_refl _⟩
 | succ m ih =>
  intro fuel tb hm h1 hf ha hb;obtain⟨f,rfl⟩:∃f,fuel=f+1:=⟨fuel-1,by omega⟩
  have hc:thC (x0::.sh (.int c)::x2::x3::.own (tb.map trE)::R)=some (decide (V2 tb>30)):=by walk_at "ev";rw[VF];walk_at "ev";rw[UV (ns:=tb.map (·.2.2)) (by simp[Sl.q])];walk_at "ev";rfl
  rw[Uh,hc,Option.bind_some]
  by_cases h30:V2 tb>30
  ·rw[decide_eq_true h30,if_pos rfl];have hne:tb≠[]:=by rintro rfl;simp[V2] at h30
   have hl:0<tb.length:=List.length_pos_iff.mpr hne
   have m1:=Int.emod_nonneg (c / d) (show(tb.length:Int)≠0 by omega)
   have m2:=Int.emod_lt_of_pos (c / d) (show(0:Int)<(tb.length:Int) by omega)
   have hB:thB d (x0::.sh (.int c)::x2::x3::.own (tb.map trE)::R)=some (.nx (x0::.sh (.int c)::x2::x3::.own ((tb.eraseIdx (c / d % (tb.length:Int)).toNat).map trE)::R)):=by show WP 4 _ _=_;unfold WP;walk_at "ev";rw[Zi]
   rw[hB,Option.bind_some];have he:(tb.eraseIdx (c / d % (tb.length:Int)).toNat).length=tb.length-1:=List.length_eraseIdx_of_lt (by omega);obtain⟨tb',e,e1,e2⟩:=ih f (tb.eraseIdx (c / d % (tb.length:Int)).toNat) (by omega) (by omega) (by omega) (W2 _ ha) fun t ht=>hb t (List.mem_of_mem_eraseIdx ht)
   exact⟨tb',e,e1,by omega⟩
  ·rw[decide_eq_false h30];exact⟨tb,rfl,fun t ht=>(hb t ht).2,hm⟩
theorem Jg9(ns:List Int)(T:Es):(Jt (Jy 1 (eU 2 Jr (aC (Jc 0) (aC (eC (.int 0)) a0)))) (Jt (Jy 2 (e2 fIx (Ut (aC (eC (.int 3)) (aC (e2 Up (eC (.int 10)) (eC (.int 30))) a0))) (e2 J8 (e2 Yo (Jc 1) (eC (.int 13))) (eC (.int 2))))) (Jt (Jy 3 (e2 fIx (Ut (aC (eC (.int 20)) (aC (e2 Up (eC (.int 10)) (eC (.int 30))) a0))) (e2 J8 (e2 Yo (Jc 1) (eC (.int 26))) (eC (.int 2))))) (Jt (WQ 4 (eU 5 Jz (aC (Jc 0) (aC (eC (.int 3)) (aC (e2 J8 (Jc 1) (eC (.int 13))) (aC (Jc 2) (aC (Jc 3) a0))))))) T)))) [.sh (.fz (ns.map .int)),.no,.no,.no,.no,.no,.no,.no,.no,.no,.no,.no]=T [.sh (.fz (ns.map .int)),.sh (.int (cell ns 0)),.sh (.int (stp ns)),.sh (.int (wdt ns)),.own ((tb0 ns).map trE),.no,.no,.no,.no,.no,.no,.no]:=by
 have sp:0<stp ns:=UP (by omega) (by show _<(2:Int);omega) (by decide)
 have wp:0<=wdt ns:=UP (by omega) (by show _<(2:Int);omega) (by decide)
 have a4:=Z6 (l:=[3,10 ^ 30]) (k:=cell ns 0 / 13 % 2) (by omega) (by show _<(2:Int);omega)
 have a5:=Z6 (l:=[20,10 ^ 30]) (k:=cell ns 0 / 26 % 2) (by omega) (by show _<(2:Int);omega);simp only[List.map_cons,List.map_nil] at a4 a5;walk_at "ev";rw[Um _ _ (by omega)];walk_at "ev";rw[a4];walk_at "ev";rw[a5];walk_at "ev";rw[show Jz [.sh (.fz (ns.map .int)),.sh (.int 3),.sh (.int (cell ns 0 % 13)),.sh (.int (JaZ [3,10 ^ 30] (cell ns 0 / 13 % 2))),.sh (.int (JaZ [20,10 ^ 30] (cell ns 0 / 26 % 2)))]=_ from Jjb ns 3 (cell ns 0 % 13) (stp ns) (wdt ns) (by omega) (by omega) (by omega) (by omega) sp wp]
 walk_at "ev";rfl
theorem Ji4(x0 x2 x3:Sl)(c:Int)(tb:List Tr)(hl:tb.length<=16)(hB:∀t∈tb,t.1<=10 ^ 40):∃(tb':List Tr) (j5:Sl),tb'.length<=16/\(∀t∈tb',t.1<=10 ^ 40)/\∀T:Es,(Jt (xIf (tAnd? (tB? (e2 fGt (e2 J8 (e2 Yo (Jc 1) (eC (.int 52))) (eC (.int 5))) (eC (.int 2)))) (tB? (e2 fGt (eF Uu (aC (Jc 4) a0)) (eC (.int 0))))) (Jt (Jy 5 (eF Wi (aC (Uo (iE true (eSl (Jc 4) (some (eC (.int 1))) none)) (.nm 0) yes? (e2 fIx (Jc 0) (eC (.int 2))) [none]) a0))) (UC 4 (eC (.int 0)) (YV (aC (e2 fIx (e2 fIx (Jc 4) (eC (.int 0))) (eC (.int 0))) (aC (e2 fIx (e2 fIx (Jc 4) (eC (.int 0))) (eC (.int 1))) (aC (e2 Yt (e2 UK (eC (.int 27)) (Jc 5)) (e2 J8 (e2 Yo (Jc 1) (eC (.int 52))) (eC (.int 5)))) a0)))))) JE) T) [x0,.sh (.int c),x2,x3,.own (tb.map trE),.no,.no,.no,.no,.no,.no,.no]=T [x0,.sh (.int c),x2,x3,.own (tb'.map trE),j5,.no,.no,.no,.no,.no,.no]:=by
 by_cases w:c / 52 % 5>2
 ·cases tb with
  | nil =>
   refine⟨[],.no,hl,hB,fun T=>?_⟩;walk_at "ev";rw[decide_eq_true w];walk_at "ev"
   try (rw[decide_eq_false (show ¬(0:Int)>0 by omega)];walk_at "ev")
   try rfl
  | cons u r =>
   have hg:atI ((u::r).map trE) 0=some (.tup [.int u.1,.int u.2.1,.int u.2.2]):=by rw[show(0:Int)=((0:Nat):Int) from rfl,Uj,UH (x:=u) rfl];rfl
   have ik:=Jdn (n:=(u::r).length) (z:=0) (by omega) (by rw[List.length_cons];omega)
   have hcut:Zy ((u::r).map trE) (some 1) none=r.map trE:=by rw[Jc1];rfl
   refine⟨(u::r).set 0 (u.1,u.2.1,27-V2 r+c / 52 % 5),.sh (.int (V2 r)),by rw[List.length_set];exact hl,WG hB (hB u List.mem_cons_self),fun T=>?_⟩;have hr:r.length<=16:=by rw[List.length_cons] at hl;omega
   have l0:((u::r).length:Int)>0:=by rw[List.length_cons];omega
   generalize hL:(u::r)=L at *
   walk_at "ev";rw[decide_eq_true w];walk_at "ev";rw[decide_eq_true l0];walk_at "ev";rw[hcut];walk_at "ev";rw[VF];walk_at "ev";rw[UV (ns:=r.map (·.2.2)) (by simp[Sl.q])];walk_at "ev";rw[hg];walk_at "ev";simp only[W3,Jbh,Z3];walk_at "ev"
   try (rw[hg];walk_at "ev")
   try (simp only[W3,Jbh,Z3];walk_at "ev")
   rw[ik];walk_at "ev";rw[WH];rfl
 ·refine⟨tb,.no,hl,hB,fun T=>?_⟩;walk_at "ev";rw[decide_eq_false w];walk_at "ev"
theorem Jje(ns:List Int)(x2 x3 x5:Sl)(tb:List Tr)(hl:tb.length<=16)(hB:∀t∈tb,t.1<=10 ^ 40):∃(tb':List Tr) (seats:Option Int),tb'.length<=17/\(∀t∈tb',t.1<=10 ^ 40)/\OkS seats/\∀T:Es,(Jt (Jy 6 (eU 2 Jr (aC (Jc 0) (aC (eC (.int 1)) a0)))) (Jt (Jy 7 (eU 2 J6 (aC (e2 Yo (Jc 6) (eC (.int 24))) (aC (e2 fIx (Ut (aC (eC (.int 40)) (aC (e2 Up (eC (.int 10)) (eC (.int 30))) a0))) (e2 J8 (e2 Yo (Jc 1) (eC (.int 260))) (eC (.int 2)))) a0)))) (Jt (xIf (tAnd? (tB? (e2 fLt (e2 J8 (e2 Yo (Jc 6) (eC (.int 3))) (eC (.int 8))) (eC (.int 5)))) (tB? (e2 fGt (eF Uu (aC (Jc 4) a0)) (eC (.int 0))))) (WQ 4 (eU 3 JZ (aC (Jc 4) (aC (e2 Yt (eC (.int 1)) (e2 J8 (e2 Yo (Jc 6) (eC (.int 3))) (eC (.int 8)))) (aC (e2 Yo (Jc 1) (eC (.int 520))) a0))))) JE) T))) [.sh (.fz (ns.map .int)),.sh (.int (cell ns 0)),x2,x3,.own (tb.map trE),x5,.no,.no,.no,.no,.no,.no]=T [.sh (.fz (ns.map .int)),.sh (.int (cell ns 0)),x2,x3,.own (tb'.map trE),x5,.sh (.int (cell ns 1)),.sh (Yb seats),.no,.no,.no,.no]:=by
 obtain⟨m,hm,em⟩:∃m,0<m/\atI [D.int 40,D.int (10 ^ 30)] (cell ns 0 / 260 % 2)=some (.int m):=by
  have:cell ns 0 / 260 % 2=0\/cell ns 0 / 260 % 2=1:=by omega
  rcases this with z|z
  ·rw[z];exact⟨40,by omega,rfl⟩
  ·rw[z];exact⟨10 ^ 30,by omega,rfl⟩
 obtain⟨seats,ok,es⟩:=Jct (cell ns 1 / 24) m hm
 have pre:∀T:Es,(Jt (Jy 6 (eU 2 Jr (aC (Jc 0) (aC (eC (.int 1)) a0)))) (Jt (Jy 7 (eU 2 J6 (aC (e2 Yo (Jc 6) (eC (.int 24))) (aC (e2 fIx (Ut (aC (eC (.int 40)) (aC (e2 Up (eC (.int 10)) (eC (.int 30))) a0))) (e2 J8 (e2 Yo (Jc 1) (eC (.int 260))) (eC (.int 2)))) a0)))) T)) [.sh (.fz (ns.map .int)),.sh (.int (cell ns 0)),x2,x3,.own (tb.map trE),x5,.no,.no,.no,.no,.no,.no]=T [.sh (.fz (ns.map .int)),.sh (.int (cell ns 0)),x2,x3,.own (tb.map trE),x5,.sh (.int (cell ns 1)),.sh (Yb seats),.no,.no,.no,.no]:=fun T=>by walk_at "ev";rw[Um _ _ (by omega)];walk_at "ev";rw[em];walk_at "ev";rw[es];walk_at "ev"
 by_cases w:cell ns 1 / 3 % 8<5
 ·by_cases l0:tb=[]
  ·refine⟨tb,seats,by omega,hB,ok,fun T=>(pre _).trans ?_⟩;subst l0;walk_at "ev";rw[decide_eq_true w];walk_at "ev"
   try (rw[decide_eq_false (show ¬(0:Int)>0 by omega)];walk_at "ev")
   try rfl
  ·have lp:0<tb.length:=List.length_pos_iff.mpr l0;obtain⟨t1,n1,l1,b1,e1⟩:=Jfi tb (1+cell ns 1 / 3 % 8) (cell ns 0 / 520) l0 (by omega) hB;refine⟨t1,seats,by omega,b1,ok,fun T=>(pre _).trans ?_⟩;walk_at "ev";rw[decide_eq_true w];walk_at "ev";rw[decide_eq_true (show(tb.length:Int)>0 by omega)];walk_at "ev";rw[e1];walk_at "ev"
 ·refine⟨tb,seats,by omega,hB,ok,fun T=>(pre _).trans ?_⟩;walk_at "ev";rw[decide_eq_false w];walk_at "ev"
theorem Jcu(t:Tr):Yf [.sh (trE t)]=some (.sh (.bl true)):=by unfold Yf;simp only[trE];walk_at "ev";rw[J5];walk_at "ev";rw[J5];walk_at "ev";rw[J5];walk_at "ev";rw[J5];walk_at "ev"
theorem Jfg(l:List Tr)(h:l.length<=10000):Ym [.bo (l.map trE),.sh (.lst (l.map trE))]=some (.sh (.bl true)):=by
 unfold Ym;walk_at "ev";rw[Jc7];walk_at "ev";rw[Ua (g:=fun _=>D.bl true)]
 ·walk_at "ev";rw[JeW (ns:=l.map fun _=>true) (by simp[Sl.q])];walk_at "ev";simp
 ·intro t ht;walk_at "ev";rw[Jcu];walk_at "ev"

theorem Jf7(ns:List Int)(x1 x2 x3 x4 x5 x6 x7:Sl):∃z:Int,(-10 ^ 30<=z/\z<=10 ^ 30)/\∀T:Es,(Jt (Jy 8 (e2 UK (e2 J8 (e2 Yo (eU 2 Jr (aC (Jc 0) (aC (eC (.int 2)) a0))) (eC (.int 5))) (e2 Yt (e2 Wh (eC (.int 2)) (e2 Up (eC (.int 10)) (eC (.int 30)))) (eC (.int 1)))) (e2 Up (eC (.int 10)) (eC (.int 30))))) (Jt (xIf (tB? (e2 fLt (e2 J8 (eU 2 Jr (aC (Jc 0) (aC (eC (.int 2)) a0))) (eC (.int 5))) (eC (.int 3)))) (Jy 8 (e2 fIx (Ut (aC (eC (.int 0)) (aC (e2 Up (eC (.int 10)) (eC (.int 30))) (aC (e2 UK (eC (.int 0)) (e2 Up (eC (.int 10)) (eC (.int 30)))) a0)))) (e2 J8 (eU 2 Jr (aC (Jc 0) (aC (eC (.int 2)) a0))) (eC (.int 5))))) JE) T)) [.sh (.fz (ns.map .int)),x1,x2,x3,x4,x5,x6,x7,.no,.no,.no,.no]=T [.sh (.fz (ns.map .int)),x1,x2,x3,x4,x5,x6,x7,.sh (.int z),.no,.no,.no]:=by
 by_cases w:cell ns 2 % 5<3
 ·obtain⟨z,hz,ez⟩:∃z:Int,(-10 ^ 30<=z/\z<=10 ^ 30)/\atI [D.int 0,D.int (10 ^ 30),D.int (0-10 ^ 30)] (cell ns 2 % 5)=some (.int z):=by
   have:cell ns 2 % 5=0\/cell ns 2 % 5=1\/cell ns 2 % 5=2:=by omega
   rcases this with z|z|z
   ·rw[z];exact⟨0,by omega,rfl⟩
   ·rw[z];exact⟨10 ^ 30,by omega,rfl⟩
   ·rw[z];exact⟨0-10 ^ 30,by omega,rfl⟩
  refine⟨z,hz,fun T=>?_⟩;walk_at "ev";rw[Um _ _ (by omega)];walk_at "ev"
  try (rw[Um _ _ (by omega)];walk_at "ev")
  rw[decide_eq_true w];walk_at "ev"
  try (rw[Um _ _ (by omega)];walk_at "ev")
  rw[ez];walk_at "ev"
 ·refine⟨cell ns 2 / 5 % (2*10 ^ 30+1)-10 ^ 30,by omega,fun T=>?_⟩;walk_at "ev";rw[Um _ _ (by omega)];walk_at "ev"
  try (rw[Um _ _ (by omega)];walk_at "ev")
  rw[decide_eq_false w];walk_at "ev"
theorem Jiw(x0 x1 x2 x3 x5:Sl)(c z:Int)(tb:List Tr)(seats:Option Int)(hl:tb.length<=17)(hB:∀t∈tb,t.1<=10 ^ 40)(ok:OkS seats)(hz:-10 ^ 30<=z/\z<=10 ^ 30):((Jt (Jy 9 (eU 1 Yy (aC (Jc 4) a0))) (Jt (xIf (tB? (e2 fEq (e2 J8 (Jc 6) (eC (.int 3))) (eC (.int 1)))) (Jt (Jy 7 (e2 UK (eC (.int 0)) (e2 J8 (e2 Yo (Jc 6) (eC (.int 24))) (e2 Up (eC (.int 10)) (eC (.int 30)))))) (Jy 9 (eC (.str "seats")))) JE) (Jt (Jy 10 (eF Za (aC (Jc 4) a0))) (Jt (xIf (tB? (e2 fNe (Jc 9) (eC (.str "")))) (YH (Jb9 (e2 fEq (eU 3 JN (aC (Jc 10) (aC (Jc 7) (aC (Jc 8) a0)))) (Jc 9)) (e2 fEq (Jc 10) (Jc 4)))) JE) (Jt (WQ 11 (eU 3 JF (aC (Jc 10) (aC (Jc 7) (aC (Jc 8) a0))))) (Jt (xIf (tNot? (tTru? (eU 2 Ym (aC (Jc 11) (aC (eU 3 Yd (aC (Jc 4) (aC (Jc 7) (aC (Jc 8) a0)))) a0))))) (YH (eC (.bl false))) JE) (Jt (JaF 11 (YV (aC (eC (.int 1)) (aC (eC (.int 1)) (aC (eC (.int 1)) a0))))) (YH (e2 fEq (Jc 10) (Jc 4)))))))))) [x0,x1,x2,x3,.own (tb.map trE),x5,.sh (.int c),.sh (Yb seats),.sh (.int z),.no,.no,.no]).bind ZC=some (.sh (.bl true)):=by
 have du:=Jjc tb (by omega)
 have rr:eqA (.lst (tb.map trE)) (.lst (tb.map trE))=some true:=by rw[Jc7,decide_eq_true rfl]
 by_cases w:c % 3=1
 ·have hs:0-c / 24 % 10 ^ 30<1:=by omega
  walk_at "ev";rw[du];walk_at "ev";rw[decide_eq_true w];walk_at "ev"
  try (rw[show decide (Str.ofString "seats"=Str.ofString "")=false from rfl];walk_at "ev")
  rw[Jf9 _ _ z hs];walk_at "ev"
  try (rw[decide_eq_true rfl];walk_at "ev")
  rw[rr];walk_at "ev"
 ·cases hb:Vb none tb with
  | true =>
   have e0:Jac tb="table":=by unfold Jac;rw[if_pos hb]
   rw[e0] at du;walk_at "ev";rw[du];walk_at "ev";rw[decide_eq_false w];walk_at "ev"
   try (rw[show decide (Str.ofString "table"=Str.ofString "")=false from rfl];walk_at "ev")
   rw[Jga tb seats z (Jbi tb seats ok z _ (JbY tb (by omega) hb))];walk_at "ev"
   try (rw[decide_eq_true rfl];walk_at "ev")
   rw[rr];walk_at "ev"
  | false =>
   have asc:=bad_asc.mp hb
   by_cases c2:V2 tb>30
   ·have e0:Jac tb="many":=by unfold Jac;rw[if_neg (by rw[hb];simp),if_pos c2]
    rw[e0] at du;walk_at "ev";rw[du];walk_at "ev";rw[decide_eq_false w];walk_at "ev"
    try (rw[show decide (Str.ofString "many"=Str.ofString "")=false from rfl];walk_at "ev")
    rw[JiC tb seats z (Jbi tb seats ok z _ (JaS tb (by omega) asc c2))];walk_at "ev"
    try (rw[decide_eq_true rfl];walk_at "ev")
    rw[rr];walk_at "ev"
   ·have e0:Jac tb="":=by unfold Jac;rw[if_neg (by rw[hb];simp),if_neg c2]
    rw[e0] at du;have an:=Jbg asc
    obtain⟨s,hs1,hS⟩:∃s:Int,1<=s/\∀t∈tb,Sts seats s t.1:=by
     cases seats with
     | none=>exact⟨10 ^ 40,by omega,fun t ht=>.inr ⟨rfl,hB t ht⟩⟩
     | some s=>exact⟨s,ok s rfl,fun t _=>.inl rfl⟩
    have ms:=Jdx tb seats s z asc (by omega) (by omega) ok hS hs1 (by omega) fun t ht=>⟨(an t ht).1,by have:=hB t ht;omega⟩
    have sb:∀t∈tb,(Ja5 seats t.1).natAbs<=10 ^ 200:=fun t ht=>by rw[ZS (hS t ht)];have:=an t ht;have:=hB t ht;omega
    have mm:=Jfh tb seats z (by omega) sb (by omega)
    have em:(tb.map fun t=>((t.1,t.2.1+z*min t.1 s,t.2.2):Tr))=tb.map (mvT seats z):=List.map_congr_left fun t ht=>by unfold mvT;rw[ZS (hS t ht),Int.mul_comm]
    rw[em] at ms;have ml:=Jfg (tb.map (mvT seats z)) (by rw[List.length_map];omega);walk_at "ev";rw[du];walk_at "ev";rw[decide_eq_false w];walk_at "ev"
    try (rw[show decide (Str.ofString ""=Str.ofString "")=true from rfl];walk_at "ev")
    rw[ms];walk_at "ev";rw[mm];walk_at "ev";rw[ml];walk_at "ev";rw[rr];walk_at "ev"
theorem law_true(ns:List Int)(hn:ns.length<=63):Jc9 [.sh (.fz (ns.map .int))]=some (.sh (.bl true)):=by
 have sp:0<stp ns:=UP (by omega) (by show _<(2:Int);omega) (by decide)
 have sp2:stp ns<=10 ^ 30:=UP (P:=fun x=>x<=10 ^ 30) (by omega) (by show _<(2:Int);omega) fun x hx=>by
  rcases List.mem_cons.mp hx with z|z
  ·rw[z];omega
  ·rw[List.mem_singleton.mp z];exact Int.le_refl _
 have wp:0<=wdt ns:=UP (by omega) (by show _<(2:Int);omega) (by decide)
 have asc:U1 none (tb0 ns):=JeA ns 3 _ _ sp wp _;obtain⟨l,b⟩:=JgP ns 3 _ _ sp wp (cell ns 0 % 13).toNat
 have hB:=JeB ns 3 (stp ns) (wdt ns) sp sp2 (cell ns 0 % 13).toNat (by omega);obtain⟨t1,e,h1,h2⟩:=Jix (fun t=>t.1<=10 ^ 40) 52 (by decide) (by decide) (.sh (.fz (ns.map .int))) (.sh (.int (stp ns))) (.sh (.int (wdt ns))) (cell ns 0) [.no,.no,.no,.no,.no,.no,.no] 16 1000000 (tb0 ns) (by unfold tb0;omega) (by omega) (by omega) asc fun t ht=>⟨(b t ht).2.2.2.2,hB t ht⟩
 obtain⟨t2,j5,l2,b2,e2⟩:=Ji4 (.sh (.fz (ns.map .int))) (.sh (.int (stp ns))) (.sh (.int (wdt ns))) (cell ns 0) t1 h2 h1;obtain⟨t3,seats,l3,b3,ok,e3⟩:=Jje ns (.sh (.int (stp ns))) (.sh (.int (wdt ns))) j5 t2 l2 b2;obtain⟨z,hz,e4⟩:=Jf7 ns (.sh (.int (cell ns 0))) (.sh (.int (stp ns))) (.sh (.int (wdt ns))) (.own (t3.map trE)) j5 (.sh (.int (cell ns 1))) (.sh (Yb seats));refine(congrArg (fun o:Option Out=>o.bind ZC) (Jg9 ns _)).trans ?_;show(Jt (Uh thC (thB 52) 1000000) _ _).bind ZC=_
 rw[Jt,show Uh thC (thB 52) 1000000 _=_ from e,Option.bind_some,JbO];refine(congrArg (fun o:Option Out=>o.bind ZC) (e2 _)).trans ?_;refine(congrArg (fun o:Option Out=>o.bind ZC) (e3 _)).trans ?_;refine(congrArg (fun o:Option Out=>o.bind ZC) (e4 _)).trans ?_;exact Jiw _ _ _ _ _ _ _ t3 seats l3 b3 ok hz
end
end LK
noncomputable section
namespace LK
open PySem L2 LR LE
noncomputable def top(i:Nat):Stmt:=PySem.Challenge.pw_lumprow_k37_tables_moved_on.main.body.getD i (.Pass ⟨0,0,0,0⟩)
noncomputable abbrev Yr:Stmt:=top 22
noncomputable abbrev YQ:Stmt:=top 23
noncomputable abbrev YF:Stmt:=top 28
noncomputable abbrev YS:Stmt:=top 12
noncomputable abbrev Yh:Stmt:=top 15
noncomputable abbrev Yg:Stmt:=top 11
noncomputable abbrev Y9:Stmt:=top 17
noncomputable abbrev YE:Stmt:=top 26
noncomputable abbrev YR:Stmt:=top 27
noncomputable abbrev Y8:Stmt:=top 25
noncomputable abbrev YO:Stmt:=top 19
noncomputable abbrev Yi:Stmt:=top 24
noncomputable abbrev YG:Stmt:=top 21
noncomputable abbrev JT:Stmt:=top 20
noncomputable abbrev Vp:Stmt:=top 29
section
variable{P:Program}{w:World}{K:Frag}{C:Addr}{mg:Str->Option Value}{base:Heap}{qd:Addr}{qa:Addr}{qb:Addr}{qf:Addr}{qy:Addr}{qo:Addr}{qj:Addr}{qk:Addr}{qp:Addr}
theorem sc_law_wholes:FnScope ["told","part"] ["told"] (Jj Yr):=⟨rfl,rfl,rfl,by decide +kernel,rfl,by decide +kernel,by decide +kernel⟩
theorem WW{f:Addr}{fd:FuncData}(F:Fun K "_law_wholes" "_law_wholes" Yr f fd)(qe:mg "isinstance"=none)(wM:mg "tuple"=none)(wW:mg "bool"=none)(vc:mg "int"=none):FnOk P w K mg base CX0 1 f fd ["told"] (spE K C 1 Yf):=by
 refine F.ok sc_law_wholes (fun vs H Q E h=>Yx h) (fun cdv A outer s H vs Q E hr h=>?_);have hu:=hr.units;refine⟨_,(Jh (WE PassesOwn.never rfl (YT (K:=K) rfl (pv 0)) (JJ (i:=1) sc_law_wholes.nd rfl (.inl rfl)) (Jl (Yc (PW.pt (JbF (Ja1 (V5 (K:=K) rfl (Jp (UT (K:=K) rfl) rfl qe Jq (Ja (pv 1) (Ja (Vl (v:=V.ty "int") rfl vc JgM rfl) Jg))) (fun _=>rfl))) (ZO (V5 (K:=K) rfl (Jp (UT (K:=K) rfl) rfl qe Jq (Ja (pv 1) (Ja (Vl (v:=V.ty "bool") rfl wW Jey rfl) Jg))) (fun _=>rfl))))) (Jl (JV Y2)) JL)))
  (Jl (JV (Jp (UT (K:=K) rfl) rfl qe Jq (Ja (pv 0) (Ja (Vl (v:=V.ty "tuple") rfl wM JcR rfl) Jg)))))),?_⟩
 exact Yp (N:=["told","part"]) (Js (Zq (Jd9 0) (Yu 1) (Yv (VX (Ja3 (JbN (JbM Jfd (Jb 1)))) (JbN (JbM Jdq (Jb 1)))) (Yn U3) JK))
  (Yn (JbM Jcr (Jb 0)))) h
theorem Jay:FnScope ["found","due"] ["found","due"] (Jj YQ):=⟨rfl,rfl,rfl,by decide +kernel,rfl,by decide +kernel,by decide +kernel⟩
theorem Jat{f:Addr}{fd:FuncData}(F:Fun K "_law_list" "_law_list" YQ f fd)(vd:mg "all"=none)(qe:mg "isinstance"=none)(qI:mg "list"=none)(qF:Cal P w K mg base "_law_wholes" 1 ["told"] (spE K C 1 Yf)):FnOk P w K mg base CX0 2 f fd ["found","due"] (spE K C 2 Ym):=by
 refine F.ok Jay (fun vs H Q E h=>Yx h) (fun cdv A outer s H vs Q E hr h=>?_);have hu:=hr.units;refine⟨_,(Jh (Yc (PW.pt (JbF (Ja1 (V5 (K:=K) rfl (Jp (UT (K:=K) rfl) rfl qe Jq (Ja (pv 0) (Ja (Vl (v:=V.ty "list") rfl qI Zt rfl) Jg))) (fun _=>rfl))) (ZO (Ju (JdC (K:=K) rfl hu) (pv 0) (pv 1) (Jx _))))) (Jl (JV Y2)) JL)
  (Jl (JV (Jp (Jb1 (K:=K) rfl rfl) rfl vd JgL (Ja (Uy (N':=["told"]) (imp:=[none]) rfl (YT (K:=K) rfl (pv 0)) (JcP rfl rfl) (fun _ _ _ _=>(JJ (i:=0) (show(["told"]:List Str).Nodup from by decide +kernel) rfl (.inl rfl) (.inr rfl))) (fun _ _ _ _=>Uf) (fun _ _ _ _=>(JQ qF (hr.mono (by decide)) rfl (Ja (pv 0) Jg)))) Jg))))),?_⟩
 exact Yp (N:=["found","due"]) (Js (Yv (VX (Ja3 (JbN (JbM Jdr (Jb 0)))) (Jn (Ji Jji (Jb 0) (Jb 1)))) (Yn U3) JK)
  (Yn (UA JiQ (Jd (UR (ZQ (Jb 0)) (Yu 0) VY (Yk (Jd (Jb 0) Jm)) rfl) Jm)))) h
theorem sc_law_moved:FnScope ["table","seats","times","due","size","spot","number","step"] ["table","seats","times"] (Jj YF):=⟨rfl,rfl,rfl,by decide +kernel,rfl,by decide +kernel,by decide +kernel⟩
theorem ZK{f:Addr}{fd:FuncData}(F:Fun K "_law_moved" "_law_moved" YF f fd)(wL:mg "min"=none):FnOk P w K mg base CX0 1 f fd ["table","seats","times"] (spE K C 3 Yd):=by
 refine F.ok sc_law_moved (fun vs H Q E h=>Yx h) (fun cdv A outer s H vs Q E hr h=>?_);have hu:=hr.units;refine⟨_,(Jh (JC (i:=3) sc_law_moved.nd rfl (.inl rfl) (YX Jg))
  (Jh (WE PassesOwn.never rfl (YT (K:=K) rfl (pv 0)) (Vm (K:=K) (n:=3) rfl rfl (J1 (JJ (i:=4) sc_law_moved.nd rfl (.inl rfl)) (J1 (JJ (i:=5) sc_law_moved.nd rfl (.inl rfl)) (J1 (JJ (i:=6) sc_law_moved.nd rfl (.inl rfl)) Vn))) rfl rfl) (Jh (JC (i:=7) sc_law_moved.nd rfl (.inl rfl) (pv 4))
  (Jh (Yc (Ju Wy (pv 1) VI (Jx _)) (Jl (JC (i:=7) sc_law_moved.nd rfl (.inl rfl) (Jp (W8 rfl) rfl wL JcQ (Ja (pv 4) (Ja (pv 1) Jg))))) JL)
  (Jl (Uz (VG (K:=K) rfl PySem.F.plainAttrs_list PySem.F.slot_list_append PySem.F.type_list_append VE (pv 3) (Ja (YY (Ja (pv 4) (Ja (Jk (J9 (K:=K) rfl) (pv 5) (Jk JbD (pv 7) (pv 2))) (Ja (pv 6) Jg)))) Jg)))))))
  (Jl (JV (pv 3))))),?_⟩
 exact Yp (N:=["table","seats","times","due","size","spot","number","step"]) (Js (Zr (UE Jm))
  (Js (Zq (Jd9 0) (VR (JX (Yu 4) (JX (Yu 5) (JX (Yu 6) VQ))) rfl) (Js (JG (Jb 4))
  (Js (Yv (Jn (Ji Uk (Jb 1) UF)) (JG (UA Jgk (Jd (Jb 4) (Jd (Jb 1) Jm)))) JK)
  (Jeo (YW (Jd (Jb 4) (Jd (Ji Y1 (Jb 5) (Ji JdB (Jb 7) (Jb 2))) (Jd (Jb 6) Jm))))))))
  Jep)) h
theorem Jaz:FnScope ["size","seats"] ["size","seats"] (Jj YS):=⟨rfl,rfl,rfl,by decide +kernel,rfl,by decide +kernel,by decide +kernel⟩
theorem Jav{f:Addr}{fd:FuncData}(F:Fun K "share_of" "share_of" YS f fd)(wL:mg "min"=none):FnOk P w K mg base CX0 1 f fd ["size","seats"] (spE K C 2 YD):=by refine F.ok Jaz (fun vs H Q E h=>Yx h) (fun cdv A outer s H vs Q E hr h=>?_);have hu:=hr.units;refine⟨_,(Jl (JV (JdJ (Ju Jfp (pv 1) VI (Jx _)) (pv 0) (Jp (W8 rfl) rfl wL JcQ (Ja (pv 0) (Ja (pv 1) Jg)))))),?_⟩;exact Yp (N:=["size","seats"]) (Yn (JjI (Jn (Ji Jj5 (Jb 1) UF)) (Jb 0) (UA Jgk (Jd (Jb 0) (Jd (Jb 1) Jm))))) h
theorem sc_check_table:FnScope ["table","ahead","size","spot","number"] ["table"] (Jj Yh):=⟨rfl,rfl,rfl,by decide +kernel,rfl,by decide +kernel,by decide +kernel⟩
theorem Ww{f:Addr}{fd:FuncData}(F:Fun K "check_table" "check_table" Yh f fd)(wl:mg "sum"=none)(qJ:GV mg "MOST_LUMPS" (.int 30))(ql:mg "TooMany"=some (.ref qd))(qH:AtX K "TooMany" qd)(qh:mg "BadTable"=some (.ref qa))(qq:AtX K "BadTable" qa):FnOk P w K mg base (CX1 P w) 1 f fd ["table"] (spX K C 1 Jw JP):=by
 refine Fun.okX F sc_check_table (fun vs H Q E h=>ZW h) (fun cdv A outer s H vs Q E hr h=>?_);have hu:=hr.units;refine⟨_,(Jh (JC (i:=1) sc_check_table.nd rfl (.inl rfl) VI)
  (Jh (WE PassesOwn.leaving rfl (YT (K:=K) rfl (pv 0)) (Vm (K:=K) (n:=3) rfl rfl (J1 (JJ (i:=2) sc_check_table.nd rfl (.inl rfl)) (J1 (JJ (i:=3) sc_check_table.nd rfl (.inl rfl)) (J1 (JJ (i:=4) sc_check_table.nd rfl (.inl rfl)) Vn))) rfl rfl) (Jh (Yc (PW.pt (JbF (Ju VV (pv 2) Je (Jx _)) (ZO (Ju VV (pv 4) Je (Jx _))))) (Jl (UY (K:=K) rfl qq.ok rfl qh rfl xok_cx (Ja YN Jg))) JL)
  (Jh (Yc (PW.pt (VL (Ju Wy (pv 1) VI (Jx _)) (UZ (Ju (JhE (K:=K) rfl (Nat.lt_of_le_of_lt (Nat.le_add_right _ 64) hu)) (YY (Ja (pv 2) (Ja (pv 3) Jg))) (pv 1) (Jx _))))) (Jl (UY (K:=K) rfl qq.ok rfl qh rfl xok_cx (Ja YN Jg))) JL)
  (Jl (JC (i:=1) sc_check_table.nd rfl (.inl rfl) (YY (Ja (pv 2) (Ja (pv 3) Jg))))))))
  (Jl (Yc (Ju VU (Jp (UU (K:=K) rfl rfl) rfl wl Zu (Ja (Uy (N':=["size","spot","number"]) (imp:=[none,none,none]) rfl (YT (K:=K) rfl (pv 0)) (JcP rfl rfl) (fun _ _ _ _=>(Vm (K:=K) (n:=3) rfl rfl (J1 (JJ (i:=0) (show(["size","spot","number"]:List Str).Nodup from by decide +kernel) rfl (.inl rfl) (.inr rfl)) (J1 (JJ (i:=1) (show(["size","spot","number"]:List Str).Nodup from by decide +kernel) rfl (.inl rfl) (.inr rfl)) (J1 (JJ (i:=2) (show(["size","spot","number"]:List Str).Nodup from by decide +kernel) rfl (.inl rfl) (.inr rfl)) Vn))) rfl rfl)) (fun _ _ _ _=>Uf) (fun _ _ _ _=>(pv 2))) Jg)) (JdI rfl qJ) (Jx _)) (Jl (UY (K:=K) rfl qH.ok rfl ql rfl xok_cx (Ja YN Jg))) JL)))),?_⟩
 exact Wj (N:=["table","ahead","size","spot","number"]) (Js (JG UF)
  (Js (Zq (Jd9 0) (VR (JX (Yu 2) (JX (Yu 3) (JX (Yu 4) VQ))) rfl) (Js (Yv (VX (Jn (Ji UM (Jb 2) Jf)) (Jn (Ji UM (Jb 4) Jf))) YU JK)
  (Js (Yv (Ug (Jn (Ji Uk (Jb 1) UF)) (Jn (Ji Jar (YW (Jd (Jb 2) (Jd (Jb 3) Jm))) (Jb 1)))) YU JK)
  (JG (YW (Jd (Jb 2) (Jd (Jb 3) Jm)))))))
  (Yv (Jn (Ji ZJ (UA Z8 (Jd (UR (ZQ (Jb 0)) (VR (JX (Yu 0) (JX (Yu 1) (JX (Yu 2) VQ))) rfl) VY (Jb 2) rfl) Jm)) Jf)) YU JK))) (VM (JG UF)
  WS (VM (Zq (Jd9 0) (VR (JX (Yu 2) (JX (Yu 3) (JX (Yu 4) VQ))) rfl) (Js (Yv (VX (Jn (Ji UM (Jb 2) Jf)) (Jn (Ji UM (Jb 4) Jf))) YU JK)
  (Js (Yv (Ug (Jn (Ji Uk (Jb 1) UF)) (Jn (Ji Jar (YW (Jd (Jb 2) (Jd (Jb 3) Jm))) (Jb 1)))) YU JK)
  (JG (YW (Jd (Jb 2) (Jd (Jb 3) Jm)))))))
  (Jgg (Jd9 0) (VR (JX (Yu 2) (JX (Yu 3) (JX (Yu 4) VQ))) rfl) (Js (Yv (VX (Jn (Ji UM (Jb 2) Jf)) (Jn (Ji UM (Jb 4) Jf))) YU JK)
  (Js (Yv (Ug (Jn (Ji Uk (Jb 1) UF)) (Jn (Ji Jar (YW (Jd (Jb 2) (Jd (Jb 3) Jm))) (Jb 1)))) YU JK)
  (JG (YW (Jd (Jb 2) (Jd (Jb 3) Jm)))))) (VM (Yv (VX (Jn (Ji UM (Jb 2) Jf)) (Jn (Ji UM (Jb 4) Jf))) YU JK)
  (JbU (VX (Jn (Ji UM (Jb 2) Jf)) (Jn (Ji UM (Jb 4) Jf))) (Vv qq.ns (Jd Uq Jm)) WS) (VM (Yv (Ug (Jn (Ji Uk (Jb 1) UF)) (Jn (Ji Jar (YW (Jd (Jb 2) (Jd (Jb 3) Jm))) (Jb 1)))) YU JK)
  (JbU (Ug (Jn (Ji Uk (Jb 1) UF)) (Jn (Ji Jar (YW (Jd (Jb 2) (Jd (Jb 3) Jm))) (Jb 1)))) (Vv qq.ns (Jd Uq Jm)) WS) WS))) (JbU (Jn (Ji ZJ (UA Z8 (Jd (UR (ZQ (Jb 0)) (VR (JX (Yu 0) (JX (Yu 1) (JX (Yu 2) VQ))) rfl) VY (Jb 2) rfl) Jm)) Jf)) (Vv qH.ns (Jd Uq Jm)) WS))) h
theorem WF:FnScope ["seats"] ["seats"] (Jj Yg):=⟨rfl,rfl,rfl,by decide +kernel,rfl,by decide +kernel,by decide +kernel⟩
theorem Wv{f:Addr}{fd:FuncData}(F:Fun K "check_seats" "check_seats" Yg f fd)(qi:mg "BadSeats"=some (.ref qb))(qA:AtX K "BadSeats" qb):FnOk P w K mg base (CX1 P w) 1 f fd ["seats"] (spX K C 1 JI JO):=by refine Fun.okX F WF (fun vs H Q E h=>ZW h) (fun cdv A outer s H vs Q E hr h=>?_);have hu:=hr.units;refine⟨_,(Jl (Yc (PW.pt (VL (Ju Wy (pv 0) VI (Jx _)) (UZ (Ju VV (pv 0) Je (Jx _))))) (Jl (UY (K:=K) rfl qA.ok rfl qi rfl xok_cx (Ja YN Jg))) JL)),?_⟩;exact Wj (N:=["seats"]) (Yv (Ug (Jn (Ji Uk (Jb 0) UF)) (Jn (Ji UM (Jb 0) Jf))) YU JK) (JbU (Ug (Jn (Ji Uk (Jb 0) UF)) (Jn (Ji UM (Jb 0) Jf))) (Vv qA.ns (Jd Uq Jm)) WS) h
theorem Ja4:FnScope ["table","seats","times"] ["table","seats","times"] (Jj Y9):=⟨rfl,rfl,rfl,by decide +kernel,rfl,by decide +kernel,by decide +kernel⟩
theorem JaV{f:Addr}{fd:FuncData}(F:Fun K "shifted" "shifted" Y9 f fd)(wm:Cal P w K mg base "share_of" 1 ["size","seats"] (spE K C 2 YD))(qB:CalX P w K mg base "check_table" 1 ["table"] (spX K C 1 Jw JP))(qC:CalX P w K mg base "check_seats" 1 ["seats"] (spX K C 1 JI JO)):FnOk P w K mg base (CX1 P w) 2 f fd ["table","seats","times"] (spX K C 3 JF J0):=by
 refine Fun.okX F Ja4 (fun vs H Q E h=>ZW h) (fun cdv A outer s H vs Q E hr h=>?_);have hu:=hr.units;refine⟨_,(Jh (Uz (WA qC (hr.mono (by decide)) rfl xok_cx.passes (Ja (pv 1) Jg)))
  (Jh (Uz (WA qB (hr.mono (by decide)) rfl xok_cx.passes (Ja (pv 0) Jg)))
  (Jl (JV (Uy (N':=["size","spot","number","times","seats"]) (imp:=[none,none,none,some 2,some 1]) rfl (YT (K:=K) rfl (pv 0)) (JiP (own:=["size","spot","number"]) (fr:=[("times",2),("seats",1)]) rfl rfl rfl ⟨rfl,rfl,trivial⟩ rfl ⟨⟨rfl,rfl,rfl⟩,⟨rfl,rfl,rfl⟩,trivial⟩) (fun _ _ _ _=>(Vm (K:=K) (n:=3) rfl rfl (J1 (JJ (i:=0) (show(["size","spot","number","times","seats"]:List Str).Nodup from by decide +kernel) rfl (.inl rfl) (.inr rfl)) (J1 (JJ (i:=1) (show(["size","spot","number","times","seats"]:List Str).Nodup from by decide +kernel) rfl (.inl rfl) (.inr rfl)) (J1 (JJ (i:=2) (show(["size","spot","number","times","seats"]:List Str).Nodup from by decide +kernel) rfl (.inl rfl) (.inr rfl)) Vn))) rfl rfl)) (fun _ _ _ _=>Uf) (fun _ _ _ _=>(YY (Ja (pv 0) (Ja (Jk (J9 (K:=K) rfl) (pv 1) (Jk JbD (pv 3) (JQ wm (hr.mono (by decide)) rfl (Ja (pv 0) (Ja (pv 4) Jg))))) (Ja (pv 2) Jg)))))))))),?_⟩
 exact Wj (N:=["table","seats","times"]) (Js (WR (U0 (Jd (Jb 1) Jm)))
  (Js (WR (U0 (Jd (Jb 0) Jm)))
  (Yn (UR (ZQ (Jb 0)) (VR (JX (Yu 0) (JX (Yu 1) (JX (Yu 2) VQ))) rfl) VY (YW (Jd (Jb 0) (Jd (Ji Y1 (Jb 1) (Ji JdB (Jb 3) (Yk (Jd (Jb 0) (Jd (Jb 4) Jm))))) (Jd (Jb 2) Jm)))) rfl)))) (VM (WR (U0 (Jd (Jb 1) Jm)))
  (JbT (ZZ (Jd (Jb 1) Jm))) (VM (WR (U0 (Jd (Jb 0) Jm)))
  (JbT (ZZ (Jd (Jb 0) Jm))) WS)) h
theorem sc_law_alone:FnScope ["e","kinds"] ["e"] (Jj YE):=⟨rfl,rfl,rfl,by decide +kernel,rfl,by decide +kernel,by decide +kernel⟩
theorem Vj{f:Addr}{fd:FuncData}(F:Fun K "_law_alone" "_law_alone" YE f fd)(qe:mg "isinstance"=none)(qz:mg "ValueError"=none)(xG:ExcG K)(xO:OwnL K ["BadSeats","BadTable","TooMany"] [qb,qa,qd])(iV:IsiV K ["BadSeats","BadTable","TooMany"])(qm:mg "LumpError"=some (.ref qf))(qE:IsiN K ["BadSeats","BadTable","TooMany"] "LumpError" qf)(wI:mg "NoRow"=some (.ref qy))(wJ:IsiN K ["BadSeats","BadTable","TooMany"] "NoRow" qy)(wz:mg "Unlike"=some (.ref qo))(wA:IsiN K ["BadSeats","BadTable","TooMany"] "Unlike" qo)(qZ:mg "BadDeed"=some (.ref qj))(q0:IsiN K ["BadSeats","BadTable","TooMany"] "BadDeed" qj)(qh:mg "BadTable"=some (.ref qa))(qr:IsiN K ["BadSeats","BadTable","TooMany"] "BadTable" qa)(qi:mg "BadSeats"=some (.ref qb))(qt:IsiN K ["BadSeats","BadTable","TooMany"] "BadSeats" qb)(q4:mg "BadText"=some (.ref qk))(q9:IsiN K ["BadSeats","BadTable","TooMany"] "BadText" qk)(ql:mg "TooMany"=some (.ref qd))(qw:IsiN K ["BadSeats","BadTable","TooMany"] "TooMany" qd)(wB:mg "BadRow"=some (.ref qp))(wC:IsiN K ["BadSeats","BadTable","TooMany"] "BadRow" qp):FnH P w K mg base 1 f fd ["e"] (spE K C 1 YI):=by
 refine Fun.okH F sc_law_alone (fun vs H Q E h=>Yx h) (fun cdv A outer s H vs Q E hr h=>?_);have hu:=hr.units;refine⟨_,(Jh (JC (i:=1) sc_law_alone.nd rfl (.inl rfl) (YX (Ja (Jp (JY (K:=K) rfl) rfl qe Jq (Ja (pv 0) (Ja (Yq (v:=V.ref qp) rfl wB rfl) Jg))) (Ja (Jp (JY (K:=K) rfl) rfl qe Jq (Ja (pv 0) (Ja (Yq (v:=V.ref qd) rfl ql rfl) Jg))) (Ja (Jp (JY (K:=K) rfl) rfl qe Jq (Ja (pv 0) (Ja (Yq (v:=V.ref qk) rfl q4 rfl) Jg))) (Ja (Jp (JY (K:=K) rfl) rfl qe Jq (Ja (pv 0) (Ja (Yq (v:=V.ref qb) rfl qi rfl) Jg))) Jg))))))
  (Jh (JC (i:=1) sc_law_alone.nd rfl (.inl rfl) (Jk (J9 (K:=K) rfl) (pv 1) (YX (Ja (Jp (JY (K:=K) rfl) rfl qe Jq (Ja (pv 0) (Ja (Yq (v:=V.ref qa) rfl qh rfl) Jg))) (Ja (Jp (JY (K:=K) rfl) rfl qe Jq (Ja (pv 0) (Ja (Yq (v:=V.ref qj) rfl qZ rfl) Jg))) (Ja (Jp (JY (K:=K) rfl) rfl qe Jq (Ja (pv 0) (Ja (Yq (v:=V.ref qo) rfl wz rfl) Jg))) (Ja (Jp (JY (K:=K) rfl) rfl qe Jq (Ja (pv 0) (Ja (Yq (v:=V.ref qy) rfl wI rfl) Jg))) Jg)))))))
  (Jl (JV (JaY (V4 (YJ (K:=K) rfl hu) (VG (K:=K) rfl PySem.F.plainAttrs_list PySem.F.slot_list_count PySem.F.type_list_count Jcv (pv 1) (Ja Y2 Jg)) Je (Jx _)) (JaY (Jp (JY (K:=K) rfl) rfl qe Jq (Ja (pv 0) (Ja (Yq (v:=V.ref qf) rfl qm rfl) Jg))) (JdL (Jp (JY (K:=K) rfl) rfl qe Jq (Ja (pv 0) (Ja (Vl (v:=V.ty "ValueError") rfl qz WT rfl) Jg)))))))))),?_⟩
 exact Yp (N:=["e","kinds"]) (Js (JG (UE (Jd (UD wC (Jb 0)) (Jd (UD qw (Jb 0)) (Jd (UD q9 (Jb 0)) (Jd (UD qt (Jb 0)) Jm))))))
  (Js (JG (Ji Y1 (Jb 1) (UE (Jd (UD qr (Jb 0)) (Jd (UD q0 (Jb 0)) (Jd (UD wA (Jb 0)) (Jd (UD wJ (Jb 0)) Jm)))))))
  (Yn (Jd8 (Ji Vh (JfU (Jb 1) U3) Jf) (Jd8 (UD qE (Jb 0)) (JjJ iV (Jb 0))))))) h
theorem sc_law_word:FnScope ["table","seats","times","kinds","e"] ["table","seats","times"] (Jj YR):=⟨rfl,rfl,rfl,by decide +kernel,rfl,by decide +kernel,by decide +kernel⟩
theorem Jau{f:Addr}{fd:FuncData}(F:Fun K "_law_word" "_law_word" YR f fd)(ve:mg "str"=none)(qv:mg "len"=none)(qe:mg "isinstance"=none)(qx:CalX P w K mg base "shifted" 2 ["table","seats","times"] (spX K C 3 JF J0))(qG:CalH P w K mg base "_law_alone" 1 ["e"] (spE K C 1 YI))(qm:mg "LumpError"=some (.ref qf))(xG:ExcG K)(xO:OwnL K ["BadSeats","BadTable","TooMany"] [qb,qa,qd])(qQ:ExmL K qf [qb,qa,qd])(ql:mg "TooMany"=some (.ref qd))(qw:IsiN K ["BadSeats","BadTable","TooMany"] "TooMany" qd)(qh:mg "BadTable"=some (.ref qa))(qr:IsiN K ["BadSeats","BadTable","TooMany"] "BadTable" qa)(qi:mg "BadSeats"=some (.ref qb))(qt:IsiN K ["BadSeats","BadTable","TooMany"] "BadSeats" qb):FnOk P w K mg base CX0 3 f fd ["table","seats","times"] (spE K C 3 JN):=by
 refine F.ok sc_law_word (fun vs H Q E h=>Yx h) (fun cdv A outer s H vs Q E hr h=>?_);have hu:=hr.units;refine⟨_,(Jh (JC (i:=3) sc_law_word.nd rfl (.inl rfl) (YX Jg))
  (Jh (Jfw (K:=K) (i:=4) rfl rfl rfl rfl sc_law_word.nd rfl rfl rfl qm (JdE (JdD (Jfy qx (hr.mono (by decide)) rfl (Ja (pv 0) (Ja (pv 1) (Ja (pv 2) Jg)))))) (fun a=>(Jl (JC (i:=3) sc_law_word.nd rfl (.inl rfl) (YX (Ja (Jp (JY (K:=K) rfl) rfl qe Jq (Ja (pv 4) (Ja (Yq (v:=V.ref qb) rfl qi rfl) Jg))) (Ja (Jp (JY (K:=K) rfl) rfl qe Jq (Ja (pv 4) (Ja (Yq (v:=V.ref qa) rfl qh rfl) Jg))) (Ja (Jp (JY (K:=K) rfl) rfl qe Jq (Ja (pv 4) (Ja (Yq (v:=V.ref qd) rfl ql rfl) Jg))) (Ja (JdF qG ((hr.h.mark _).mono (by decide)) rfl (Ja (pv 4) Jg)) Jg)))))))))
  (Jh (Yc (Ju (YJ (K:=K) rfl hu) (pv 3) (YX (Ja Y2 (Ja Y2 (Ja Y2 (Ja Y2 Jg))))) (Jx _)) (Jl (JV YN)) JL)
  (Jh (Yc (Ju (YJ (K:=K) rfl hu) (pv 3) (YX (Ja Y2 (Ja Y2 (Ja Y2 (Ja Y2 Jg))))) (Jx _)) (Jl (JV YN)) JL)
  (Jh (Yc (Ju (YJ (K:=K) rfl hu) (pv 3) (YX (Ja Y2 (Ja Y2 (Ja Y2 (Ja Y2 Jg))))) (Jx _)) (Jl (JV YN)) JL)
  (Jl (JV (VH Jb5 rfl ve JgN (Ja (Jp (YC (K:=K) rfl) rfl qv UI (Ja (pv 3) Jg)) Jg))))))))),?_⟩
 exact Yp (N:=["table","seats","times","kinds","e"]) (Js (JG (UE Jm))
  (Js (JjR (qQ.all xO) (fun W=>(Jeq (fun W=>U0 (Jd (Jb 0) (Jd (Jb 1) (Jd (Jb 2) Jm)))) W)) (Jgf (fun W=>ZZ (Jd (Jb 0) (Jd (Jb 1) (Jd (Jb 2) Jm))))) (JG (UE (Jd (UD qt (Jb 4)) (Jd (UD qr (Jb 4)) (Jd (UD qw (Jb 4)) (Jd (Yk (Jd (Jb 4) Jm)) Jm)))))))
  (Js (Yv (Jn (Ji Vh (Jb 3) (UE (Jd U3 (Jd U3 (Jd U3 (Jd U3 Jm))))))) (Yn Uq) JK)
  (Js (Yv (Jn (Ji Vh (Jb 3) (UE (Jd U3 (Jd U3 (Jd U3 (Jd U3 Jm))))))) (Yn Uq) JK)
  (Js (Yv (Jn (Ji Vh (Jb 3) (UE (Jd U3 (Jd U3 (Jd U3 (Jd U3 Jm))))))) (Yn Uq) JK)
  (Yn (UA JiR (Jd (UA VN (Jd (Jb 3) Jm)) Jm)))))))) h
theorem sc_law_due:FnScope ["table","k"] ["table"] (Jj Y8):=⟨rfl,rfl,rfl,by decide +kernel,rfl,by decide +kernel,by decide +kernel⟩
theorem JaU{f:Addr}{fd:FuncData}(F:Fun K "_law_due" "_law_due" Y8 f fd)(wl:mg "sum"=none)(wa:mg "range"=none)(qv:mg "len"=none):FnOk P w K mg base CX0 1 f fd ["table"] (spE K C 1 Yy):=by
 refine F.ok sc_law_due (fun vs H Q E h=>Yx h) (fun cdv A outer s H vs Q E hr h=>?_);have hu:=hr.units;refine⟨_,(Jh (WE PassesOwn.never rfl (Zj rfl wa (Ja (Jp (YC (K:=K) rfl) rfl qv UI (Ja (pv 0) Jg)) Jg)) (JJ (i:=1) sc_law_due.nd rfl (.inl rfl)) (Jh (Yc (PW.pt (JbF (Ju VV (Ya (JB (K:=K) rfl) (Ya (JB (K:=K) rfl) (pv 0) (pv 1) (fun _ _=>rfl)) Je (fun _ _=>rfl)) Je (Jx _)) (ZO (Ju VV (Ya (JB (K:=K) rfl) (Ya (JB (K:=K) rfl) (pv 0) (pv 1) (fun _ _=>rfl)) Je (fun _ _=>rfl)) Je (Jx _))))) (Jl (JV YN)) JL)
  (Jl (Yc (PW.pt (VL (Ju VU (pv 1) Je (Jx _)) (UZ (Ju (JhC (K:=K) rfl (Nat.lt_of_le_of_lt (Nat.le_add_right _ 64) hu)) (WB (ZT (K:=K) rfl) (Ya (JB (K:=K) rfl) (pv 0) (Jk Ue (pv 1) Je) (fun _ _=>rfl)) ZM (ZN Je)) (WB (ZT (K:=K) rfl) (Ya (JB (K:=K) rfl) (pv 0) (pv 1) (fun _ _=>rfl)) ZM (ZN Je)) (Jx _))))) (Jl (JV YN)) JL))))
  (Jh (Yc (Ju VU (Jp (UU (K:=K) rfl rfl) rfl wl Zu (Ja (Uy (N':=["told"]) (imp:=[none]) rfl (YT (K:=K) rfl (pv 0)) (JcP rfl rfl) (fun _ _ _ _=>(JJ (i:=0) (show(["told"]:List Str).Nodup from by decide +kernel) rfl (.inl rfl) (.inr rfl))) (fun _ _ _ _=>Uf) (fun _ _ _ _=>(Ya (JB (K:=K) rfl) (pv 0) Je (fun _ _=>rfl)))) Jg)) Je (Jx _)) (Jl (JV YN)) JL)
  (Jl (JV YN)))),?_⟩
 exact Yp (N:=["table","k"]) (Js (Zq (Jgy (Jd (UA VN (Jd (Jb 0) Jm)) Jm)) (Yu 1) (Js (Yv (VX (Jn (Ji UM (Ji YM (Ji YM (Jb 0) (Jb 1)) Jf) Jf)) (Jn (Ji UM (Ji YM (Ji YM (Jb 0) (Jb 1)) Jf) Jf))) (Yn Uq) JK)
  (Yv (Ug (Jn (Ji ZJ (Jb 1) Jf)) (Jn (Ji Jjh (Jim (Ji YM (Jb 0) (Ji UN (Jb 1) Jf)) JaW (JaX Jf)) (Jim (Ji YM (Jb 0) (Jb 1)) JaW (JaX Jf))))) (Yn Uq) JK)))
  (Js (Yv (Jn (Ji ZJ (UA Z8 (Jd (UR (ZQ (Jb 0)) (Yu 0) VY (Ji YM (Jb 0) Jf) rfl) Jm)) Jf)) (Yn Uq) JK)
  (Yn Uq))) h
theorem Jax:FnScope ["script","k"] ["script","k"] (Jj YO):=⟨rfl,rfl,rfl,by decide +kernel,rfl,by decide +kernel,by decide +kernel⟩
theorem Jas{f:Addr}{fd:FuncData}(F:Fun K "_law_cell" "_law_cell" YO f fd)(qv:mg "len"=none):FnOk P w K mg base CX0 1 f fd ["script","k"] (spE K C 2 Jr):=by
 refine F.ok Jax (fun vs H Q E h=>Yx h) (fun cdv A outer s H vs Q E hr h=>?_);have hu:=hr.units;refine⟨_,(Jh (Yc (Ju VV (pv 1) (Jp (YC (K:=K) rfl) rfl qv UI (Ja (pv 0) Jg)) (Jx _)) (Jl (JV (Ya (JB (K:=K) rfl) (pv 0) (pv 1) (fun _ _=>rfl)))) JL)
  (Jl (JV Je))),?_⟩
 exact Yp (N:=["script","k"]) (Js (Yv (Jn (Ji UM (Jb 1) (UA VN (Jd (Jb 0) Jm)))) (Yn (Ji YM (Jb 0) (Jb 1))) JK)
  (Yn Jf)) h
theorem sc_law_spoiled:FnScope ["table","way","cell","bad","at","size","spot","number","far","kept"] ["table","way","cell"] (Jj Yi):=⟨rfl,rfl,rfl,by decide +kernel,rfl,by decide +kernel,by decide +kernel⟩
theorem Wx{f:Addr}{fd:FuncData}(F:Fun K "_law_spoiled" "_law_spoiled" Yi f fd)(qv:mg "len"=none)(qI:mg "list"=none):FnOk P w K mg base CX0 1 f fd ["table","way","cell"] (spE K C 3 JZ):=by
 refine F.ok sc_law_spoiled (fun vs H Q E h=>Yx h) (fun cdv A outer s H vs Q E hr h=>?_);have hu:=hr.units;refine⟨_,(Jh (JC (i:=3) sc_law_spoiled.nd rfl (.inl rfl) (VH (Wc (K:=K) rfl) rfl qI Zt (Ja (pv 0) Jg)))
  (Jh (JC (i:=4) sc_law_spoiled.nd rfl (.inl rfl) (Jk JU (pv 2) (Jp (YC (K:=K) rfl) rfl qv UI (Ja (pv 3) Jg))))
  (Jh (VJ (Ya (JB (K:=K) rfl) (pv 3) (pv 4) (fun _ _=>rfl)) (Vm (K:=K) (n:=3) rfl rfl (J1 (JJ (i:=5) sc_law_spoiled.nd rfl (.inl rfl)) (J1 (JJ (i:=6) sc_law_spoiled.nd rfl (.inl rfl)) (J1 (JJ (i:=7) sc_law_spoiled.nd rfl (.inl rfl)) Vn))) rfl rfl))
  (Jh (JC (i:=8) sc_law_spoiled.nd rfl (.inl rfl) (Jk JU (Jk J2 (pv 2) Je) (Jk Ux Je Je)))
  (Jh (Yc (Ju (YJ (K:=K) rfl hu) (pv 1) Je (Jx _)) (Jl (VJ (YY (Ja (Jk Ue Je (Jk UO (pv 8) (Jk JU (Jk J2 (pv 2) Je) Je))) (Ja (pv 6) (Ja (pv 7) Jg)))) (WC (pv 3) (pv 4) US))) (Jl (Yc (Ju (YJ (K:=K) rfl hu) (pv 1) Je (Jx _)) (Jl (VJ (YY (Ja (pv 5) (Ja (pv 6) (Ja (Jk Ue Je (Jk UO (pv 8) (Jk JU (Jk J2 (pv 2) Je) Je))) Jg)))) (WC (pv 3) (pv 4) US))) (Jl (Yc (Ju (YJ (K:=K) rfl hu) (pv 1) Je (Jx _)) (Jl (Uz (VG (K:=K) rfl PySem.F.plainAttrs_list PySem.F.slot_list_insert PySem.F.type_list_insert Jcw (pv 3) (Ja (pv 4) (Ja (YY (Ja (pv 5) (Ja (pv 6) (Ja (Jk (J9 (K:=K) rfl) (pv 7) (Jk JU (Jk J2 (pv 2) Je) Je)) Jg)))) Jg))))) (Jl (Yc (PW.pt (VL (Ju (YJ (K:=K) rfl hu) (pv 1) Je (Jx _)) (UZ (Ju VU (Jp (YC (K:=K) rfl) rfl qv UI (Ja (pv 3) Jg)) Je (Jx _))))) (Jh (JC (i:=9) sc_law_spoiled.nd rfl (.inl rfl) (Ya (JB (K:=K) rfl) (pv 3) (pv 4) (fun _ _=>rfl)))
  (Jh (VJ (Ya (JB (K:=K) rfl) (pv 3) (Jk Ue (pv 4) Je) (fun _ _=>rfl)) (WC (pv 3) (pv 4) US))
  (Jl (VJ (pv 9) (WC (pv 3) (Jk Ue (pv 4) Je) US))))) (Jl (Yc (Ju (YJ (K:=K) rfl hu) (pv 1) Je (Jx _)) (Jl (Uz (VG (K:=K) rfl PySem.F.plainAttrs_list PySem.F.slot_list_append PySem.F.type_list_append VE (pv 3) (Ja (YY (Ja (Ya (JB (K:=K) rfl) (Ya (JB (K:=K) rfl) (pv 3) (Jgt Jek Je) (fun _ _=>rfl)) Je (fun _ _=>rfl)) (Ja (Jk Ue (Ya (JB (K:=K) rfl) (Ya (JB (K:=K) rfl) (pv 3) (Jgt Jek Je) (fun _ _=>rfl)) Je (fun _ _=>rfl)) (pv 8)) (Ja Je Jg)))) Jg)))) JL)))))))))
  (Jl (JV (pv 3)))))))),?_⟩
 exact Yp (N:=["table","way","cell","bad","at","size","spot","number","far","kept"]) (Js (Zr (UA JcS (Jd (Jb 0) Jm)))
  (Js (JG (Ji Ye (Jb 2) (UA VN (Jd (Jb 3) Jm))))
  (Js (JjP (Ji YM (Jb 3) (Jb 4)) (VR (JX (Yu 5) (JX (Yu 6) (JX (Yu 7) VQ))) rfl))
  (Js (JG (Ji Ye (Ji YL (Jb 2) Jf) (Ji Vi Jf Jf)))
  (Js (Yv (Jn (Ji Vh (Jb 1) Jf)) (Vu (YW (Jd (Ji UN Jf (Ji VT (Jb 8) (Ji Ye (Ji YL (Jb 2) Jf) Jf))) (Jd (Jb 6) (Jd (Jb 7) Jm)))) (Jb 4)) (Yv (Jn (Ji Vh (Jb 1) Jf)) (Vu (YW (Jd (Jb 5) (Jd (Jb 6) (Jd (Ji UN Jf (Ji VT (Jb 8) (Ji Ye (Ji YL (Jb 2) Jf) Jf))) Jm)))) (Jb 4)) (Yv (Jn (Ji Vh (Jb 1) Jf)) (JjQ (Jb 4) (YW (Jd (Jb 5) (Jd (Jb 6) (Jd (Ji Y1 (Jb 7) (Ji Ye (Ji YL (Jb 2) Jf) Jf)) Jm))))) (Yv (Ug (Jn (Ji Vh (Jb 1) Jf)) (Jn (Ji ZJ (UA VN (Jd (Jb 3) Jm)) Jf))) (Js (JG (Ji YM (Jb 3) (Jb 4)))
  (Js (Vu (Ji YM (Jb 3) (Ji UN (Jb 4) Jf)) (Jb 4))
  (Vu (Jb 9) (Ji UN (Jb 4) Jf)))) (Yv (Jn (Ji Vh (Jb 1) Jf)) (Jeo (YW (Jd (Ji YM (Ji YM (Jb 3) (JjL JgB Jf)) Jf) (Jd (Ji UN (Ji YM (Ji YM (Jb 3) (JjL JgB Jf)) Jf) (Jb 8)) (Jd Jf Jm))))) JK)))))
  Jep))))) h
theorem ZR:FnScope ["cell","reach"] ["cell","reach"] (Jj YG):=⟨rfl,rfl,rfl,by decide +kernel,rfl,by decide +kernel,by decide +kernel⟩
theorem ZL{f:Addr}{fd:FuncData}(F:Fun K "_law_seats" "_law_seats" YG f fd) :FnOk P w K mg base CX0 1 f fd ["cell","reach"] (spE K C 2 J6):=by
 refine F.ok ZR (fun vs H Q E h=>Yx h) (fun cdv A outer s H vs Q E hr h=>?_);have hu:=hr.units;refine⟨_,(Jh (Yc (Ju (YJ (K:=K) rfl hu) (Jk JU (pv 0) Je) Je (Jx _)) (Jl (JV VI)) JL)
  (Jl (JV (Jk (J9 (K:=K) rfl) Je (Jk JU (Jk J2 (pv 0) Je) (pv 1)))))),?_⟩
 exact Yp (N:=["cell","reach"]) (Js (Yv (Jn (Ji Vh (Ji Ye (Jb 0) Jf) Jf)) (Yn UF) JK)
  (Yn (Ji Y1 Jf (Ji Ye (Ji YL (Jb 0) Jf) (Jb 1))))) h
theorem sc_law_drawn_table:FnScope ["script","at","many","step","width","told","size","k","cell","spot"] ["script","at","many","step","width"] (Jj JT):=⟨rfl,rfl,rfl,by decide +kernel,rfl,by decide +kernel,by decide +kernel⟩
theorem U9{f:Addr}{fd:FuncData}(F:Fun K "_law_drawn_table" "_law_drawn_table" JT f fd)(wK:mg "sorted"=none)(wa:mg "range"=none)(qg:Cal P w K mg base "_law_cell" 1 ["script","k"] (spE K C 2 Jr)):FnOk P w K mg base CX0 2 f fd ["script","at","many","step","width"] (spE K C 5 Jz):=by
 refine F.ok sc_law_drawn_table (fun vs H Q E h=>Yx h) (fun cdv A outer s H vs Q E hr h=>?_);have hu:=hr.units;refine⟨_,(Jh (JC (i:=5) sc_law_drawn_table.nd rfl (.inr rfl) JdH)
  (Jh (JC (i:=6) sc_law_drawn_table.nd rfl (.inl rfl) Je)
  (Jh (WE PassesOwn.never rfl (Zj rfl wa (Ja (pv 2) Jg)) (JJ (i:=7) sc_law_drawn_table.nd rfl (.inl rfl)) (Jh (JC (i:=8) sc_law_drawn_table.nd rfl (.inl rfl) (JQ qg (hr.mono (by decide)) rfl (Ja (pv 0) (Ja (Jk (J9 (K:=K) rfl) (pv 1) (Jk UO Je (pv 7))) Jg))))
  (Jh (JC (i:=6) sc_law_drawn_table.nd rfl (.inl rfl) (Jk (J9 (K:=K) rfl) (pv 6) (Jk UO (Jk JU (Jk J2 (pv 8) Je) (pv 3)) (Jk JU (pv 8) Je))))
  (Jh (JC (i:=9) sc_law_drawn_table.nd rfl (.inl rfl) (Jk Ue (Jk JU (JQ qg (hr.mono (by decide)) rfl (Ja (pv 0) (Ja (Jk (J9 (K:=K) rfl) (Jk (J9 (K:=K) rfl) (pv 1) Je) (Jk UO Je (pv 7))) Jg))) (Jk (J9 (K:=K) rfl) (Jk UO Je (pv 4)) Je)) (pv 4)))
  (Jl (Jfv (Jgp hr) (pv 5) (YY (Ja (pv 6) (Ja (pv 9) Jg))) (Jk (J9 (K:=K) rfl) Je (Jk JU (JQ qg (hr.mono (by decide)) rfl (Ja (pv 0) (Ja (Jk (J9 (K:=K) rfl) (Jk (J9 (K:=K) rfl) (pv 1) Je) (Jk UO Je (pv 7))) Jg))) Je)) rfl))))))
  (Jl (JV (Uy (N':=["pair","told"]) (imp:=[none,some 5]) rfl (YT (K:=K) rfl (Jp (Z9 rfl) rfl wK Jb0 (Ja (JdK (pv 5)) Jg))) (JiP (own:=["pair"]) (fr:=[("told",5)]) rfl rfl rfl ⟨rfl,trivial⟩ rfl ⟨⟨rfl,rfl,rfl⟩,trivial⟩) (fun _ _ _ _=>(JJ (i:=0) (show(["pair","told"]:List Str).Nodup from by decide +kernel) rfl (.inl rfl) (.inr rfl))) (fun _ _ _ _=>Uf) (fun _ _ _ _=>(YY (Ja (Ya (JB (K:=K) rfl) (pv 0) Je (fun _ _=>rfl)) (Ja (Ya (JB (K:=K) rfl) (pv 0) Je (fun _ _=>rfl)) (Ja (Jcy (K:=K) rfl (Jgp hr) (pv 1) (pv 0) (fun _ _=>rfl)) Jg))))))))))),?_⟩
 exact Yp (N:=["script","at","many","step","width","told","size","k","cell","spot"]) (Js (Zr JfV)
  (Js (JG Jf)
  (Js (Zq (Jgy (Jd (Jb 2) Jm)) (Yu 7) (Js (JG (Yk (Jd (Jb 0) (Jd (Ji Y1 (Jb 1) (Ji VT Jf (Jb 7))) Jm))))
  (Js (JG (Ji Y1 (Jb 6) (Ji VT (Ji Ye (Ji YL (Jb 8) Jf) (Jb 3)) (Ji Ye (Jb 8) Jf))))
  (Js (JG (Ji UN (Ji Ye (Yk (Jd (Jb 0) (Jd (Ji Y1 (Ji Y1 (Jb 1) Jf) (Ji VT Jf (Jb 7))) Jm))) (Ji Y1 (Ji VT Jf (Jb 4)) Jf)) (Jb 4)))
  (JiF (Ji Y1 Jf (Ji Ye (Yk (Jd (Jb 0) (Jd (Ji Y1 (Ji Y1 (Jb 1) Jf) (Ji VT Jf (Jb 7))) Jm))) Jf)) (Jd (Jb 6) (Jd (Jb 9) Jm)))))))
  (Yn (UR (ZQ (JfW (Jb 5))) (Yu 0) VY (YW (Jd (Ji YM (Jb 0) Jf) (Jd (Ji YM (Jb 0) Jf) (Jd (JjK (Jb 1) (Jb 0)) Jm)))) rfl))))) h
theorem sc_law:FnScope ["script","first","step","width","table","rest","cell","seats","times","due","handed","found"] ["script"] (Jj Vp):=⟨rfl,rfl,rfl,by decide +kernel,rfl,by decide +kernel,by decide +kernel⟩
theorem Jhy{f:Addr}{fd:FuncData}(F:Fun K "law" "law" Vp f fd)(qI:mg "list"=none)(qv:mg "len"=none)(wl:mg "sum"=none)(qR:Cal P w K mg base "_law_list" 2 ["found","due"] (spE K C 2 Ym))(qK:Cal P w K mg base "_law_moved" 1 ["table","seats","times"] (spE K C 3 Yd))(qx:CalX P w K mg base "shifted" 2 ["table","seats","times"] (spX K C 3 JF J0))(qS:Cal P w K mg base "_law_word" 3 ["table","seats","times"] (spE K C 3 JN))(wn:Cal P w K mg base "_law_due" 1 ["table"] (spE K C 1 Yy))(qg:Cal P w K mg base "_law_cell" 1 ["script","k"] (spE K C 2 Jr))(qD:Cal P w K mg base "_law_spoiled" 1 ["table","way","cell"] (spE K C 3 JZ))(qL:Cal P w K mg base "_law_seats" 1 ["cell","reach"] (spE K C 2 J6))(qu:Cal P w K mg base "_law_drawn_table" 2 ["script","at","many","step","width"] (spE K C 5 Jz)):FnOk P w K mg base CX0 4 f fd ["script"] (spE K C 1 Jc9):=by
 refine F.ok sc_law (fun vs H Q E h=>Yx h) (fun cdv A outer s H vs Q E hr h=>?_);have hu:=hr.units;refine⟨_,(Jh (JC (i:=1) sc_law.nd rfl (.inl rfl) (JQ qg (hr.mono (by decide)) rfl (Ja (pv 0) (Ja Je Jg))))
  (Jh (JC (i:=2) sc_law.nd rfl (.inl rfl) (Ya (JB (K:=K) rfl) (YX (Ja Je (Ja (Jk Ux Je Je) Jg))) (Jk JU (Jk J2 (pv 1) Je) Je) (fun _ _=>rfl)))
  (Jh (JC (i:=3) sc_law.nd rfl (.inl rfl) (Ya (JB (K:=K) rfl) (YX (Ja Je (Ja (Jk Ux Je Je) Jg))) (Jk JU (Jk J2 (pv 1) Je) Je) (fun _ _=>rfl)))
  (Jh (JC (i:=4) sc_law.nd rfl (.inl rfl) (JQ qu (hr.mono (by decide)) rfl (Ja (pv 0) (Ja Je (Ja (Jk JU (pv 1) Je) (Ja (pv 2) (Ja (pv 3) Jg)))))))
  (Jh (JdP PassesOwn.never (Ju VU (Jp (UU (K:=K) rfl rfl) rfl wl Zu (Ja (Uy (N':=["told"]) (imp:=[none]) rfl (YT (K:=K) rfl (pv 4)) (JcP rfl rfl) (fun _ _ _ _=>(JJ (i:=0) (show(["told"]:List Str).Nodup from by decide +kernel) rfl (.inl rfl) (.inr rfl))) (fun _ _ _ _=>Uf) (fun _ _ _ _=>(Ya (JB (K:=K) rfl) (pv 0) Je (fun _ _=>rfl)))) Jg)) Je (Jx _)) (Jl (Uz (VG (K:=K) rfl PySem.F.plainAttrs_list PySem.F.slot_list_pop PySem.F.type_list_pop Jdy (pv 4) (Ja (Jk JU (Jk J2 (pv 1) Je) (Jp (YC (K:=K) rfl) rfl qv UI (Ja (pv 4) Jg))) Jg)))))
  (Jh (Yc (PW.pt (VL (Ju VU (Jk JU (Jk J2 (pv 1) Je) Je) Je (Jx _)) (UZ (Ju VU (Jp (YC (K:=K) rfl) rfl qv UI (Ja (pv 4) Jg)) Je (Jx _))))) (Jh (JC (i:=5) sc_law.nd rfl (.inl rfl) (Jp (UU (K:=K) rfl rfl) rfl wl Zu (Ja (Uy (N':=["told"]) (imp:=[none]) rfl (YT (K:=K) rfl (WB (ZT (K:=K) rfl) (pv 4) (ZN Je) ZM)) (JcP rfl rfl) (fun _ _ _ _=>(JJ (i:=0) (show(["told"]:List Str).Nodup from by decide +kernel) rfl (.inl rfl) (.inr rfl))) (fun _ _ _ _=>Uf) (fun _ _ _ _=>(Ya (JB (K:=K) rfl) (pv 0) Je (fun _ _=>rfl)))) Jg)))
  (Jl (VJ (YY (Ja (Ya (JB (K:=K) rfl) (Ya (JB (K:=K) rfl) (pv 4) Je (fun _ _=>rfl)) Je (fun _ _=>rfl)) (Ja (Ya (JB (K:=K) rfl) (Ya (JB (K:=K) rfl) (pv 4) Je (fun _ _=>rfl)) Je (fun _ _=>rfl)) (Ja (Jk (J9 (K:=K) rfl) (Jk Ue Je (pv 5)) (Jk JU (Jk J2 (pv 1) Je) Je)) Jg)))) (WC (pv 4) Je US)))) JL)
  (Jh (JC (i:=6) sc_law.nd rfl (.inl rfl) (JQ qg (hr.mono (by decide)) rfl (Ja (pv 0) (Ja Je Jg))))
  (Jh (JC (i:=7) sc_law.nd rfl (.inl rfl) (JQ qL (hr.mono (by decide)) rfl (Ja (Jk J2 (pv 6) Je) (Ja (Ya (JB (K:=K) rfl) (YX (Ja Je (Ja (Jk Ux Je Je) Jg))) (Jk JU (Jk J2 (pv 1) Je) Je) (fun _ _=>rfl)) Jg))))
  (Jh (Yc (PW.pt (VL (Ju VV (Jk JU (Jk J2 (pv 6) Je) Je) Je (Jx _)) (UZ (Ju VU (Jp (YC (K:=K) rfl) rfl qv UI (Ja (pv 4) Jg)) Je (Jx _))))) (Jl (JC (i:=4) sc_law.nd rfl (.inl rfl) (JQ qD (hr.mono (by decide)) rfl (Ja (pv 4) (Ja (Jk (J9 (K:=K) rfl) Je (Jk JU (Jk J2 (pv 6) Je) Je)) (Ja (Jk J2 (pv 1) Je) Jg)))))) JL)
  (Jh (JC (i:=8) sc_law.nd rfl (.inl rfl) (Jk Ue (Jk JU (Jk J2 (JQ qg (hr.mono (by decide)) rfl (Ja (pv 0) (Ja Je Jg))) Je) (Jk (J9 (K:=K) rfl) (Jk UO Je (Jk Ux Je Je)) Je)) (Jk Ux Je Je)))
  (Jh (Yc (Ju VV (Jk JU (JQ qg (hr.mono (by decide)) rfl (Ja (pv 0) (Ja Je Jg))) Je) Je (Jx _)) (Jl (JC (i:=8) sc_law.nd rfl (.inl rfl) (Ya (JB (K:=K) rfl) (YX (Ja Je (Ja (Jk Ux Je Je) (Ja (Jk Ue Je (Jk Ux Je Je)) Jg)))) (Jk JU (JQ qg (hr.mono (by decide)) rfl (Ja (pv 0) (Ja Je Jg))) Je) (fun _ _=>rfl)))) JL)
  (Jh (JC (i:=9) sc_law.nd rfl (.inl rfl) (JQ wn (hr.mono (by decide)) rfl (Ja (pv 4) Jg)))
  (Jh (Yc (Ju (YJ (K:=K) rfl hu) (Jk JU (pv 6) Je) Je (Jx _)) (Jh (JC (i:=7) sc_law.nd rfl (.inl rfl) (Jk Ue Je (Jk JU (Jk J2 (pv 6) Je) (Jk Ux Je Je))))
  (Jl (JC (i:=9) sc_law.nd rfl (.inl rfl) YN))) JL)
  (Jh (JC (i:=10) sc_law.nd rfl (.inl rfl) (VH (Wc (K:=K) rfl) rfl qI Zt (Ja (pv 4) Jg)))
  (Jh (Yc (Ju (JdC (K:=K) rfl hu) (pv 9) YN (Jx _)) (Jl (JV (JaY (V4 (YJ (K:=K) rfl hu) (JQ qS (hr.mono (by decide)) rfl (Ja (pv 10) (Ja (pv 7) (Ja (pv 8) Jg)))) (pv 9) (Jx _)) (JdL (V4 (YJ (K:=K) rfl hu) (pv 10) (pv 4) (Jx _)))))) JL)
  (Jh (JC (i:=11) sc_law.nd rfl (.inl rfl) (WA qx (hr.mono (by decide)) rfl Jjm (Ja (pv 10) (Ja (pv 7) (Ja (pv 8) Jg)))))
  (Jh (Yc (Ja1 (V5 (K:=K) rfl (JQ qR (hr.mono (by decide)) rfl (Ja (pv 11) (Ja (JQ qK (hr.mono (by decide)) rfl (Ja (pv 4) (Ja (pv 7) (Ja (pv 8) Jg)))) Jg))) (fun _=>rfl))) (Jl (JV Y2)) JL)
  (Jh (Uz (VG (K:=K) rfl PySem.F.plainAttrs_list PySem.F.slot_list_append PySem.F.type_list_append VE (pv 11) (Ja (YY (Ja Je (Ja Je (Ja Je Jg)))) Jg)))
  (Jl (JV (V4 (YJ (K:=K) rfl hu) (pv 10) (pv 4) (Jx _)))))))))))))))))))))),?_⟩
 exact Yp (N:=["script","first","step","width","table","rest","cell","seats","times","due","handed","found"]) (Js (JG (Yk (Jd (Jb 0) (Jd Jf Jm))))
  (Js (JG (Ji YM (UE (Jd Jf (Jd (Ji Vi Jf Jf) Jm))) (Ji Ye (Ji YL (Jb 1) Jf) Jf)))
  (Js (JG (Ji YM (UE (Jd Jf (Jd (Ji Vi Jf Jf) Jm))) (Ji Ye (Ji YL (Jb 1) Jf) Jf)))
  (Js (Zr (Yk (Jd (Jb 0) (Jd Jf (Jd (Ji Ye (Jb 1) Jf) (Jd (Jb 2) (Jd (Jb 3) Jm)))))))
  (Js (Jge (Jn (Ji ZJ (UA Z8 (Jd (UR (ZQ (Jb 4)) (Yu 0) VY (Ji YM (Jb 0) Jf) rfl) Jm)) Jf)) (JiE (Ji Ye (Ji YL (Jb 1) Jf) (UA VN (Jd (Jb 4) Jm)))))
  (Js (Yv (Ug (Jn (Ji ZJ (Ji Ye (Ji YL (Jb 1) Jf) Jf) Jf)) (Jn (Ji ZJ (UA VN (Jd (Jb 4) Jm)) Jf))) (Js (JG (UA Z8 (Jd (UR (ZQ (Jim (Jb 4) (JaX Jf) JaW)) (Yu 0) VY (Ji YM (Jb 0) Jf) rfl) Jm)))
  (Vu (YW (Jd (Ji YM (Ji YM (Jb 4) Jf) Jf) (Jd (Ji YM (Ji YM (Jb 4) Jf) Jf) (Jd (Ji Y1 (Ji UN Jf (Jb 5)) (Ji Ye (Ji YL (Jb 1) Jf) Jf)) Jm)))) Jf)) JK)
  (Js (JG (Yk (Jd (Jb 0) (Jd Jf Jm))))
  (Js (JG (Yk (Jd (Ji YL (Jb 6) Jf) (Jd (Ji YM (UE (Jd Jf (Jd (Ji Vi Jf Jf) Jm))) (Ji Ye (Ji YL (Jb 1) Jf) Jf)) Jm))))
  (Js (Yv (Ug (Jn (Ji UM (Ji Ye (Ji YL (Jb 6) Jf) Jf) Jf)) (Jn (Ji ZJ (UA VN (Jd (Jb 4) Jm)) Jf))) (Zr (Yk (Jd (Jb 4) (Jd (Ji Y1 Jf (Ji Ye (Ji YL (Jb 6) Jf) Jf)) (Jd (Ji YL (Jb 1) Jf) Jm))))) JK)
  (Js (JG (Ji UN (Ji Ye (Ji YL (Yk (Jd (Jb 0) (Jd Jf Jm))) Jf) (Ji Y1 (Ji VT Jf (Ji Vi Jf Jf)) Jf)) (Ji Vi Jf Jf)))
  (Js (Yv (Jn (Ji UM (Ji Ye (Yk (Jd (Jb 0) (Jd Jf Jm))) Jf) Jf)) (JG (Ji YM (UE (Jd Jf (Jd (Ji Vi Jf Jf) (Jd (Ji UN Jf (Ji Vi Jf Jf)) Jm)))) (Ji Ye (Yk (Jd (Jb 0) (Jd Jf Jm))) Jf))) JK)
  (Js (JG (Yk (Jd (Jb 4) Jm)))
  (Js (Yv (Jn (Ji Vh (Ji Ye (Jb 6) Jf) Jf)) (Js (JG (Ji UN Jf (Ji Ye (Ji YL (Jb 6) Jf) (Ji Vi Jf Jf))))
  (JG Uq)) JK)
  (Js (JG (UA JcS (Jd (Jb 4) Jm)))
  (Js (Yv (Jn (Ji Jji (Jb 9) Uq)) (Yn (Jd8 (Ji Vh (Yk (Jd (Jb 10) (Jd (Jb 7) (Jd (Jb 8) Jm)))) (Jb 9)) (Ji Vh (Jb 10) (Jb 4)))) JK)
  (Js (Zr (U0 (Jd (Jb 10) (Jd (Jb 7) (Jd (Jb 8) Jm)))))
  (Js (Yv (Ja3 (JbN (Yk (Jd (Jb 11) (Jd (Yk (Jd (Jb 4) (Jd (Jb 7) (Jd (Jb 8) Jm)))) Jm))))) (Yn U3) JK)
  (Js (Jeo (YW (Jd Jf (Jd Jf (Jd Jf Jm)))))
  (Yn (Ji Vh (Jb 10) (Jb 4))))))))))))))))))))) h
end
theorem vl1{α:Type}{us:List α}(h:us.length=1):∃a,us=[a]:=match us,h with|[a],_=>⟨a,rfl⟩
theorem vl2{α:Type}{us:List α}(h:us.length=2):∃a b,us=[a,b]:=match us,h with|[a,b],_=>⟨a,b,rfl⟩
theorem vl3{α:Type}{us:List α}(h:us.length=3):∃a b c,us=[a,b,c]:=match us,h with|[a,b,c],_=>⟨a,b,c,rfl⟩
theorem vl5{α:Type}{us:List α}(h:us.length=5):∃a b c d e,us=[a,b,c,d,e]:=match us,h with|[a,b,c,d,e],_=>⟨a,b,c,d,e,rfl⟩
theorem all_mk{l:PySem.W.OpenLaw}{w:World}{K:Frag}{h:Heap}{mg:Str->Option Value}{fa:Addr}{C:Addr}{f1:Addr}{od1 an1:Option Addr}{sl1:Array (Option Value)}{oc1 kV1 dc1 pm1 cd1 ct1:Value}{f2:Addr}{od2 an2:Option Addr}{sl2:Array (Option Value)}{oc2 kV2 dc2 pm2 cd2 ct2:Value}{f3:Addr}{od3 an3:Option Addr}{sl3:Array (Option Value)}{oc3 kV3 dc3 pm3 cd3 ct3:Value}{f4:Addr}{od4 an4:Option Addr}{sl4:Array (Option Value)}{oc4 kV4 dc4 pm4 cd4 ct4:Value}{f5:Addr}{od5 an5:Option Addr}{sl5:Array (Option Value)}{oc5 kV5 dc5 pm5 cd5 ct5:Value}{f6:Addr}{od6 an6:Option Addr}{sl6:Array (Option Value)}{oc6 kV6 dc6 pm6 cd6 ct6:Value}{f7:Addr}{od7 an7:Option Addr}{sl7:Array (Option Value)}{oc7 kV7 dc7 pm7 cd7 ct7:Value}{f8:Addr}{od8 an8:Option Addr}{sl8:Array (Option Value)}{oc8 kV8 dc8 pm8 cd8 ct8:Value}{f9:Addr}{od9 an9:Option Addr}{sl9:Array (Option Value)}{oc9 kV9 dc9 pm9 cd9 ct9:Value}{f10:Addr}{od10 an10:Option Addr}{sl10:Array (Option Value)}{oc10 kV10 dc10 pm10 cd10 ct10:Value}{f11:Addr}{od11 an11:Option Addr}{sl11:Array (Option Value)}{oc11 kV11 dc11 pm11 cd11 ct11:Value}{f12:Addr}{od12 an12:Option Addr}{sl12:Array (Option Value)}{oc12 kV12 dc12 pm12 cd12 ct12:Value}{f13:Addr}{od13 an13:Option Addr}{sl13:Array (Option Value)}{oc13 kV13 dc13 pm13 cd13 ct13:Value}{f14:Addr}{od14 an14:Option Addr}{sl14:Array (Option Value)}{oc14 kV14 dc14 pm14 cd14 ct14:Value}{f15:Addr}{od15 an15:Option Addr}{sl15:Array (Option Value)}{oc15 kV15 dc15 pm15 cd15 ct15:Value}{qd:Addr}{qa:Addr}{qb:Addr}{qf:Addr}{qy:Addr}{qo:Addr}{qj:Addr}{qk:Addr}{qp:Addr}{wN:Tok}(X:K.In h)(G:h.Ns mainGlobals mg)(hfa:mg "law"=some (.ref fa))
 (a1:nsIn K mainGlobals "_law_wholes"=some (some (.ref f1)))
 (l1:K.lookup f1=some ⟨oc1,od1,.func (fnOf "_law_wholes" "_law_wholes" (JS Yr) (JH Yr) (Jj Yr) .none kV1 dc1 pm1 an1 cd1 ct1),sl1⟩)
 (c1:codeIn K cd1 "_law_wholes"=true)
 (k1:keepIn K (.ref f1)=true)
 (a2:nsIn K mainGlobals "_law_list"=some (some (.ref f2)))
 (l2:K.lookup f2=some ⟨oc2,od2,.func (fnOf "_law_list" "_law_list" (JS YQ) (JH YQ) (Jj YQ) .none kV2 dc2 pm2 an2 cd2 ct2),sl2⟩)
 (c2:codeIn K cd2 "_law_list"=true)
 (k2:keepIn K (.ref f2)=true)
 (a3:nsIn K mainGlobals "_law_moved"=some (some (.ref f3)))
 (l3:K.lookup f3=some ⟨oc3,od3,.func (fnOf "_law_moved" "_law_moved" (JS YF) (JH YF) (Jj YF) .none kV3 dc3 pm3 an3 cd3 ct3),sl3⟩)
 (c3:codeIn K cd3 "_law_moved"=true)
 (k3:keepIn K (.ref f3)=true)
 (a4:nsIn K mainGlobals "share_of"=some (some (.ref f4)))
 (l4:K.lookup f4=some ⟨oc4,od4,.func (fnOf "share_of" "share_of" (JS YS) (JH YS) (Jj YS) .none kV4 dc4 pm4 an4 cd4 ct4),sl4⟩)
 (c4:codeIn K cd4 "share_of"=true)
 (k4:keepIn K (.ref f4)=true)
 (a5:nsIn K mainGlobals "check_table"=some (some (.ref f5)))
 (l5:K.lookup f5=some ⟨oc5,od5,.func (fnOf "check_table" "check_table" (JS Yh) (JH Yh) (Jj Yh) .none kV5 dc5 pm5 an5 cd5 ct5),sl5⟩)
 (c5:codeIn K cd5 "check_table"=true)
 (k5:keepIn K (.ref f5)=true)
 (a6:nsIn K mainGlobals "check_seats"=some (some (.ref f6)))
 (l6:K.lookup f6=some ⟨oc6,od6,.func (fnOf "check_seats" "check_seats" (JS Yg) (JH Yg) (Jj Yg) .none kV6 dc6 pm6 an6 cd6 ct6),sl6⟩)
 (c6:codeIn K cd6 "check_seats"=true)
 (k6:keepIn K (.ref f6)=true)
 (a7:nsIn K mainGlobals "shifted"=some (some (.ref f7)))
 (l7:K.lookup f7=some ⟨oc7,od7,.func (fnOf "shifted" "shifted" (JS Y9) (JH Y9) (Jj Y9) .none kV7 dc7 pm7 an7 cd7 ct7),sl7⟩)
 (c7:codeIn K cd7 "shifted"=true)
 (k7:keepIn K (.ref f7)=true)
 (a8:nsIn K mainGlobals "_law_alone"=some (some (.ref f8)))
 (l8:K.lookup f8=some ⟨oc8,od8,.func (fnOf "_law_alone" "_law_alone" (JS YE) (JH YE) (Jj YE) .none kV8 dc8 pm8 an8 cd8 ct8),sl8⟩)
 (c8:codeIn K cd8 "_law_alone"=true)
 (k8:keepIn K (.ref f8)=true)
 (a9:nsIn K mainGlobals "_law_word"=some (some (.ref f9)))
 (l9:K.lookup f9=some ⟨oc9,od9,.func (fnOf "_law_word" "_law_word" (JS YR) (JH YR) (Jj YR) .none kV9 dc9 pm9 an9 cd9 ct9),sl9⟩)
 (c9:codeIn K cd9 "_law_word"=true)
 (k9:keepIn K (.ref f9)=true)
 (a10:nsIn K mainGlobals "_law_due"=some (some (.ref f10)))
 (l10:K.lookup f10=some ⟨oc10,od10,.func (fnOf "_law_due" "_law_due" (JS Y8) (JH Y8) (Jj Y8) .none kV10 dc10 pm10 an10 cd10 ct10),sl10⟩)
 (c10:codeIn K cd10 "_law_due"=true)
 (k10:keepIn K (.ref f10)=true)
 (a11:nsIn K mainGlobals "_law_cell"=some (some (.ref f11)))
 (l11:K.lookup f11=some ⟨oc11,od11,.func (fnOf "_law_cell" "_law_cell" (JS YO) (JH YO) (Jj YO) .none kV11 dc11 pm11 an11 cd11 ct11),sl11⟩)
 (c11:codeIn K cd11 "_law_cell"=true)
 (k11:keepIn K (.ref f11)=true)
 (a12:nsIn K mainGlobals "_law_spoiled"=some (some (.ref f12)))
 (l12:K.lookup f12=some ⟨oc12,od12,.func (fnOf "_law_spoiled" "_law_spoiled" (JS Yi) (JH Yi) (Jj Yi) .none kV12 dc12 pm12 an12 cd12 ct12),sl12⟩)
 (c12:codeIn K cd12 "_law_spoiled"=true)
 (k12:keepIn K (.ref f12)=true)
 (a13:nsIn K mainGlobals "_law_seats"=some (some (.ref f13)))
 (l13:K.lookup f13=some ⟨oc13,od13,.func (fnOf "_law_seats" "_law_seats" (JS YG) (JH YG) (Jj YG) .none kV13 dc13 pm13 an13 cd13 ct13),sl13⟩)
 (c13:codeIn K cd13 "_law_seats"=true)
 (k13:keepIn K (.ref f13)=true)
 (a14:nsIn K mainGlobals "_law_drawn_table"=some (some (.ref f14)))
 (l14:K.lookup f14=some ⟨oc14,od14,.func (fnOf "_law_drawn_table" "_law_drawn_table" (JS JT) (JH JT) (Jj JT) .none kV14 dc14 pm14 an14 cd14 ct14),sl14⟩)
 (c14:codeIn K cd14 "_law_drawn_table"=true)
 (k14:keepIn K (.ref f14)=true)
 (a15:nsIn K mainGlobals "law"=some (some (.ref f15)))
 (l15:K.lookup f15=some ⟨oc15,od15,.func (fnOf "law" "law" (JS Vp) (JH Vp) (Jj Vp) .none kV15 dc15 pm15 an15 cd15 ct15),sl15⟩)
 (c15:codeIn K cd15 "law"=true)
 (k15:keepIn K (.ref f15)=true)
 (n_TooMany:nsIn K mainGlobals "TooMany"=some (some (.ref qd)))
 (n_BadTable:nsIn K mainGlobals "BadTable"=some (some (.ref qa)))
 (n_BadSeats:nsIn K mainGlobals "BadSeats"=some (some (.ref qb)))
 (n_LumpError:nsIn K mainGlobals "LumpError"=some (some (.ref qf)))
 (n_NoRow:nsIn K mainGlobals "NoRow"=some (some (.ref qy)))
 (n_Unlike:nsIn K mainGlobals "Unlike"=some (some (.ref qo)))
 (n_BadDeed:nsIn K mainGlobals "BadDeed"=some (some (.ref qj)))
 (n_BadText:nsIn K mainGlobals "BadText"=some (some (.ref qk)))
 (n_BadRow:nsIn K mainGlobals "BadRow"=some (some (.ref qp)))
 (xo_BadSeats:excIn K qb VEm "ValueError.__new__"=true)
 (xga_BadSeats:findIn K (.ref qb) "__getattribute__"=some (some (.builtin "BaseException.__getattribute__")))
 (xgn_BadSeats:findIn K (.ref qb) "__getattr__"=some none)
 (xmb_BadSeats:mroIn K qb (.type "BaseException")=some true)
 (xh_BadSeats:hasDictIn K qb=true)
 (xf_BadSeats:findIn K (.ref qb) "__class__"=some (some (.builtin "object.__class__")))
 (xm_BadSeats:mroIn K qb (.type "object")=some true)
 (xo_BadTable:excIn K qa VEm "ValueError.__new__"=true)
 (xga_BadTable:findIn K (.ref qa) "__getattribute__"=some (some (.builtin "BaseException.__getattribute__")))
 (xgn_BadTable:findIn K (.ref qa) "__getattr__"=some none)
 (xmb_BadTable:mroIn K qa (.type "BaseException")=some true)
 (xh_BadTable:hasDictIn K qa=true)
 (xf_BadTable:findIn K (.ref qa) "__class__"=some (some (.builtin "object.__class__")))
 (xm_BadTable:mroIn K qa (.type "object")=some true)
 (xo_TooMany:excIn K qd VEm "ValueError.__new__"=true)
 (xga_TooMany:findIn K (.ref qd) "__getattribute__"=some (some (.builtin "BaseException.__getattribute__")))
 (xgn_TooMany:findIn K (.ref qd) "__getattr__"=some none)
 (xmb_TooMany:mroIn K qd (.type "BaseException")=some true)
 (xh_TooMany:hasDictIn K qd=true)
 (xf_TooMany:findIn K (.ref qd) "__class__"=some (some (.builtin "object.__class__")))
 (xm_TooMany:mroIn K qd (.type "object")=some true)
 (xg1:specialIn K (.builtin "object.__class__") "__get__"=some (some (.builtin "getset_descriptor.__get__")))
 (xg2:takesIn K (.builtin "object.__class__")=some true)
 (wS:kitOne K (.ref qb) (.type "ValueError")=some true)
 (wT:kitOne K (.ref qa) (.type "ValueError")=some true)
 (wX:kitOne K (.ref qd) (.type "ValueError")=some true)
 (qM:kitOne K (.ref qb) (.ref qf)=some true)
 (qN:kitOne K (.ref qa) (.ref qf)=some true)
 (qT:kitOne K (.ref qd) (.ref qf)=some true)
 (wO:kitOne K (.type "NoneType") (.ref qf)=some false)
 (wD:kitOne K (.ref qb) (.ref qy)=some false)
 (wE:kitOne K (.ref qa) (.ref qy)=some false)
 (wH:kitOne K (.ref qd) (.ref qy)=some false)
 (vf:kitOne K (.type "NoneType") (.ref qy)=some false)
 (wq:kitOne K (.ref qb) (.ref qo)=some false)
 (wt:kitOne K (.ref qa) (.ref qo)=some false)
 (wF:kitOne K (.ref qd) (.ref qo)=some false)
 (va:kitOne K (.type "NoneType") (.ref qo)=some false)
 (wb:kitOne K (.ref qb) (.ref qj)=some false)
 (wc:kitOne K (.ref qa) (.ref qj)=some false)
 (wu:kitOne K (.ref qd) (.ref qj)=some false)
 (wY:kitOne K (.type "NoneType") (.ref qj)=some false)
 (qU:kitOne K (.ref qb) (.ref qa)=some false)
 (qV:kitOne K (.ref qa) (.ref qa)=some true)
 (wd:kitOne K (.ref qd) (.ref qa)=some false)
 (wU:kitOne K (.type "NoneType") (.ref qa)=some false)
 (qW:kitOne K (.ref qb) (.ref qb)=some true)
 (qX:kitOne K (.ref qa) (.ref qb)=some false)
 (we:kitOne K (.ref qd) (.ref qb)=some false)
 (wV:kitOne K (.type "NoneType") (.ref qb)=some false)
 (wf:kitOne K (.ref qb) (.ref qk)=some false)
 (wg:kitOne K (.ref qa) (.ref qk)=some false)
 (wv:kitOne K (.ref qd) (.ref qk)=some false)
 (wZ:kitOne K (.type "NoneType") (.ref qk)=some false)
 (wj:kitOne K (.ref qb) (.ref qd)=some false)
 (wk:kitOne K (.ref qa) (.ref qd)=some false)
 (ww:kitOne K (.ref qd) (.ref qd)=some true)
 (w9:kitOne K (.type "NoneType") (.ref qd)=some false)
 (wx:kitOne K (.ref qb) (.ref qp)=some false)
 (wy:kitOne K (.ref qa) (.ref qp)=some false)
 (wG:kitOne K (.ref qd) (.ref qp)=some false)
 (vb:kitOne K (.type "NoneType") (.ref qp)=some false)
 (qO:exmOne K (.ref qb) (.ref qf)=some true)
 (qP:exmOne K (.ref qa) (.ref qf)=some true)
 (qY:exmOne K (.ref qd) (.ref qf)=some true)
 (wP:nsIn K mainGlobals "isinstance"=some none)
 (vh:nsIn K mainGlobals "tuple"=some none)
 (vk:nsIn K mainGlobals "bool"=some none)
 (vn:nsIn K mainGlobals "int"=some none)
 (vo:nsIn K mainGlobals "all"=some none)
 (vm:nsIn K mainGlobals "list"=some none)
 (vp:nsIn K mainGlobals "min"=some none)
 (vq:nsIn K mainGlobals "sum"=some none)
 (wQ:nsIn K mainGlobals "ValueError"=some none)
 (vt:nsIn K mainGlobals "str"=some none)
 (vx:nsIn K mainGlobals "len"=some none)
 (vi:nsIn K mainGlobals "range"=some none)
 (vg:nsIn K mainGlobals "sorted"=some none)
 (wR:nsIn K mainGlobals "MOST_LUMPS"=some (some (.int 30 wN)))
:∃fd:FuncData,(∀(s:Shared) (v:Value),BindsTo s fd ⟨[v],[]⟩ [("script",v)])/\∀base:Heap,K.In base->base.Ns mainGlobals mg->FnOk l.prog w K mg base CX0 4 fa fd ["script"] (JbP K):=by
 have e:=hfa.symm.trans (mg_of X G a15);cases e
 have ql:=mg_of X G n_TooMany
 have qh:=mg_of X G n_BadTable
 have qi:=mg_of X G n_BadSeats
 have qm:=mg_of X G n_LumpError
 have wI:=mg_of X G n_NoRow
 have wz:=mg_of X G n_Unlike
 have qZ:=mg_of X G n_BadDeed
 have q4:=mg_of X G n_BadText
 have wB:=mg_of X G n_BadRow
 have qA:AtX K "BadSeats" qb:=⟨n_BadSeats,xo_BadSeats,xga_BadSeats,xgn_BadSeats,xmb_BadSeats,xh_BadSeats,xf_BadSeats,xm_BadSeats⟩
 have qq:AtX K "BadTable" qa:=⟨n_BadTable,xo_BadTable,xga_BadTable,xgn_BadTable,xmb_BadTable,xh_BadTable,xf_BadTable,xm_BadTable⟩
 have qH:AtX K "TooMany" qd:=⟨n_TooMany,xo_TooMany,xga_TooMany,xgn_TooMany,xmb_TooMany,xh_TooMany,xf_TooMany,xm_TooMany⟩
 have xG:ExcG K:=⟨xg1,xg2⟩
 have xO:OwnL K ["BadSeats","BadTable","TooMany"] [qb,qa,qd]:=Wz qA (Wz qq (Wz qH (Jfr)))
 have iV:IsiV K ["BadSeats","BadTable","TooMany"]:=Jfb xO xG (Wr wS (Wr wT (Wr wX (Jfe))))
 have qE:IsiN K ["BadSeats","BadTable","TooMany"] "LumpError" qf:=Y5 xO xG (Jv qM (by decide +kernel) (Jv qN (by decide +kernel) (Jv qT (by decide +kernel) (Y6)))) wO
 have wJ:IsiN K ["BadSeats","BadTable","TooMany"] "NoRow" qy:=Y5 xO xG (Jv wD (by decide +kernel) (Jv wE (by decide +kernel) (Jv wH (by decide +kernel) (Y6)))) vf
 have wA:IsiN K ["BadSeats","BadTable","TooMany"] "Unlike" qo:=Y5 xO xG (Jv wq (by decide +kernel) (Jv wt (by decide +kernel) (Jv wF (by decide +kernel) (Y6)))) va
 have q0:IsiN K ["BadSeats","BadTable","TooMany"] "BadDeed" qj:=Y5 xO xG (Jv wb (by decide +kernel) (Jv wc (by decide +kernel) (Jv wu (by decide +kernel) (Y6)))) wY
 have qr:IsiN K ["BadSeats","BadTable","TooMany"] "BadTable" qa:=Y5 xO xG (Jv qU (by decide +kernel) (Jv qV (by decide +kernel) (Jv wd (by decide +kernel) (Y6)))) wU
 have qt:IsiN K ["BadSeats","BadTable","TooMany"] "BadSeats" qb:=Y5 xO xG (Jv qW (by decide +kernel) (Jv qX (by decide +kernel) (Jv we (by decide +kernel) (Y6)))) wV
 have q9:IsiN K ["BadSeats","BadTable","TooMany"] "BadText" qk:=Y5 xO xG (Jv wf (by decide +kernel) (Jv wg (by decide +kernel) (Jv wv (by decide +kernel) (Y6)))) wZ
 have qw:IsiN K ["BadSeats","BadTable","TooMany"] "TooMany" qd:=Y5 xO xG (Jv wj (by decide +kernel) (Jv wk (by decide +kernel) (Jv ww (by decide +kernel) (Y6)))) w9
 have wC:IsiN K ["BadSeats","BadTable","TooMany"] "BadRow" qp:=Y5 xO xG (Jv wx (by decide +kernel) (Jv wy (by decide +kernel) (Jv wG (by decide +kernel) (Y6)))) vb
 have qQ:ExmL K qf [qb,qa,qd]:=Wf qO (Wf qP (Wf qY (JeJ)))
 have qe:=mg_none_of X G wP
 have wM:=mg_none_of X G vh
 have wW:=mg_none_of X G vk
 have vc:=mg_none_of X G vn
 have vd:=mg_none_of X G vo
 have qI:=mg_none_of X G vm
 have wL:=mg_none_of X G vp
 have wl:=mg_none_of X G vq
 have qz:=mg_none_of X G wQ
 have ve:=mg_none_of X G vt
 have qv:=mg_none_of X G vx
 have wa:=mg_none_of X G vi
 have wK:=mg_none_of X G vg
 have qJ:GV mg "MOST_LUMPS" (.int 30):=⟨_,mg_of X G wR,⟨_,rfl⟩⟩
 have F1:=YA (st:=Yr) l1 c1 k1
 have B1:=F1.binds (ps:=["told"]) fun _ _ _ _ _ _ us hl=>by obtain⟨_,rfl⟩:=vl1 hl;rfl
 have F2:=YA (st:=YQ) l2 c2 k2
 have B2:=F2.binds (ps:=["found","due"]) fun _ _ _ _ _ _ us hl=>by obtain⟨_,_,rfl⟩:=vl2 hl;rfl
 have F3:=YA (st:=YF) l3 c3 k3
 have B3:=F3.binds (ps:=["table","seats","times"]) fun _ _ _ _ _ _ us hl=>by obtain⟨_,_,_,rfl⟩:=vl3 hl;rfl
 have F4:=YA (st:=YS) l4 c4 k4
 have B4:=F4.binds (ps:=["size","seats"]) fun _ _ _ _ _ _ us hl=>by obtain⟨_,_,rfl⟩:=vl2 hl;rfl
 have F5:=YA (st:=Yh) l5 c5 k5
 have B5:=F5.binds (ps:=["table"]) fun _ _ _ _ _ _ us hl=>by obtain⟨_,rfl⟩:=vl1 hl;rfl
 have F6:=YA (st:=Yg) l6 c6 k6
 have B6:=F6.binds (ps:=["seats"]) fun _ _ _ _ _ _ us hl=>by obtain⟨_,rfl⟩:=vl1 hl;rfl
 have F7:=YA (st:=Y9) l7 c7 k7
 have B7:=F7.binds (ps:=["table","seats","times"]) fun _ _ _ _ _ _ us hl=>by obtain⟨_,_,_,rfl⟩:=vl3 hl;rfl
 have F8:=YA (st:=YE) l8 c8 k8
 have B8:=F8.binds (ps:=["e"]) fun _ _ _ _ _ _ us hl=>by obtain⟨_,rfl⟩:=vl1 hl;rfl
 have F9:=YA (st:=YR) l9 c9 k9
 have B9:=F9.binds (ps:=["table","seats","times"]) fun _ _ _ _ _ _ us hl=>by obtain⟨_,_,_,rfl⟩:=vl3 hl;rfl
 have F10:=YA (st:=Y8) l10 c10 k10
 have B10:=F10.binds (ps:=["table"]) fun _ _ _ _ _ _ us hl=>by obtain⟨_,rfl⟩:=vl1 hl;rfl
 have F11:=YA (st:=YO) l11 c11 k11
 have B11:=F11.binds (ps:=["script","k"]) fun _ _ _ _ _ _ us hl=>by obtain⟨_,_,rfl⟩:=vl2 hl;rfl
 have F12:=YA (st:=Yi) l12 c12 k12
 have B12:=F12.binds (ps:=["table","way","cell"]) fun _ _ _ _ _ _ us hl=>by obtain⟨_,_,_,rfl⟩:=vl3 hl;rfl
 have F13:=YA (st:=YG) l13 c13 k13
 have B13:=F13.binds (ps:=["cell","reach"]) fun _ _ _ _ _ _ us hl=>by obtain⟨_,_,rfl⟩:=vl2 hl;rfl
 have F14:=YA (st:=JT) l14 c14 k14
 have B14:=F14.binds (ps:=["script","at","many","step","width"]) fun _ _ _ _ _ _ us hl=>by obtain⟨_,_,_,_,_,rfl⟩:=vl5 hl;rfl
 have F15:=YA (st:=Vp) l15 c15 k15
 have B15:=F15.binds (ps:=["script"]) fun _ _ _ _ _ _ us hl=>by obtain⟨_,rfl⟩:=vl1 hl;rfl
 refine⟨fnOf "law" "law" (JS Vp) (JH Vp) (Jj Vp) .none kV15 dc15 pm15 an15 cd15 ct15,fun s v=>.of_eq rfl,fun base _ _=>?_⟩;have qF:Cal l.prog w K mg base "_law_wholes" 1 ["told"] (spE K C 1 Yf):=⟨f1,_,WW (C:=C) F1 qe wM wW vc,mg_of X G a1,k1,B1⟩
 have qR:Cal l.prog w K mg base "_law_list" 2 ["found","due"] (spE K C 2 Ym):=⟨f2,_,Jat (C:=C) F2 vd qe qI qF,mg_of X G a2,k2,B2⟩
 have qK:Cal l.prog w K mg base "_law_moved" 1 ["table","seats","times"] (spE K C 3 Yd):=⟨f3,_,ZK (C:=C) F3 wL,mg_of X G a3,k3,B3⟩
 have wm:Cal l.prog w K mg base "share_of" 1 ["size","seats"] (spE K C 2 YD):=⟨f4,_,Jav (C:=C) F4 wL,mg_of X G a4,k4,B4⟩
 have qB:CalX l.prog w K mg base "check_table" 1 ["table"] (spX K C 1 Jw JP):=⟨f5,_,Ww (C:=C) F5 wl qJ ql qH qh qq,mg_of X G a5,k5,B5⟩
 have qC:CalX l.prog w K mg base "check_seats" 1 ["seats"] (spX K C 1 JI JO):=⟨f6,_,Wv (C:=C) F6 qi qA,mg_of X G a6,k6,B6⟩
 have qx:CalX l.prog w K mg base "shifted" 2 ["table","seats","times"] (spX K C 3 JF J0):=⟨f7,_,JaV (C:=C) F7 wm qB qC,mg_of X G a7,k7,B7⟩
 have qG:CalH l.prog w K mg base "_law_alone" 1 ["e"] (spE K C 1 YI):=⟨f8,_,Vj (C:=C) F8 qe qz xG xO iV qm qE wI wJ wz wA qZ q0 qh qr qi qt q4 q9 ql qw wB wC,mg_of X G a8,k8,B8⟩
 have vj:Cal l.prog w K mg base "_law_alone" 1 ["e"] (spE K C 1 YI):=⟨f8,_,(Vj (C:=C) F8 qe qz xG xO iV qm qE wI wJ wz wA qZ q0 qh qr qi qt q4 q9 ql qw wB wC).ok,mg_of X G a8,k8,B8⟩
 have qS:Cal l.prog w K mg base "_law_word" 3 ["table","seats","times"] (spE K C 3 JN):=⟨f9,_,Jau (C:=C) F9 ve qv qe qx qG qm xG xO qQ ql qw qh qr qi qt,mg_of X G a9,k9,B9⟩
 have wn:Cal l.prog w K mg base "_law_due" 1 ["table"] (spE K C 1 Yy):=⟨f10,_,JaU (C:=C) F10 wl wa qv,mg_of X G a10,k10,B10⟩
 have qg:Cal l.prog w K mg base "_law_cell" 1 ["script","k"] (spE K C 2 Jr):=⟨f11,_,Jas (C:=C) F11 qv,mg_of X G a11,k11,B11⟩
 have qD:Cal l.prog w K mg base "_law_spoiled" 1 ["table","way","cell"] (spE K C 3 JZ):=⟨f12,_,Wx (C:=C) F12 qv qI,mg_of X G a12,k12,B12⟩
 have qL:Cal l.prog w K mg base "_law_seats" 1 ["cell","reach"] (spE K C 2 J6):=⟨f13,_,ZL (C:=C) F13 ,mg_of X G a13,k13,B13⟩
 have qu:Cal l.prog w K mg base "_law_drawn_table" 2 ["script","at","many","step","width"] (spE K C 5 Jz):=⟨f14,_,U9 (C:=C) F14 wK wa qg,mg_of X G a14,k14,B14⟩
 exact Jff (Jhy (C:=C) F15 qI qv wl qR qK qx qS wn qg qD qL qu) law_true
theorem walk{l:PySem.W.OpenLaw}{q:Program}{loose:List Str}{XP:(Str->Option Value)->Heap->Prop}{YP:World->Heap->Prop}{d:DefRec}{K:Params->Frag}(hn:l.most=some 63)(hdf:d.params.defaults=[])
 (hY:∀(w:World) (h:Heap),YP w h->(K w.params).In h)
 (F:∀(w:World) (mg:Str->Option Value) (fa:Addr) (h:Heap),(K w.params).In h->h.Ns mainGlobals mg->mg d.name=some (.ref fa) ->
  ∃fd:FuncData,(∀(s:Shared) (u:Value),BindsTo s fd ⟨[u],[]⟩ [("script",u)])/\∀base:Heap,(K w.params).In base->base.Ns mainGlobals mg->FnOk l.prog w (K w.params) mg base CX0 4 fa fd ["script"] (JbP (K w.params))) :
 PySem.W.WalkO q loose XP YP l.row.toRowW d [] (fun f vs=>PySem.call f vs) :=
 L2.Jgb (n:=63) (k:=4) (x:="script") (CX:=fun _=>CX0) (sp:=fun w=>JbP (K w.params)) hn (by decide) hdf ⟨rfl,by decide,by decide⟩ hY F (fun _ _ a ns hl _ hS=>⟨a,ns,rfl,hS,hl,fun _=>rfl⟩) fun _ _ _ _ _ z=>z
end LK
end
theorem PySem.W.Fast.tw3213278422850642174:True:=trivial
theorem PySem.W.Fast.tw3310227832893945507:True:=trivial
theorem PySem.W.Fast.tw977259354030570825:True:=trivial
theorem PySem.W.Fast.tw9800569325485113896:True:=trivial
theorem PySem.W.Fast.tw18408367038064553822:True:=trivial
theorem PySem.W.Fast.tw15863195750544534625:True:=trivial
theorem PySem.W.Fast.tw6046351123953996646:True:=trivial
theorem PySem.W.Fast.tw8057766709594044174:True:=trivial
theorem PySem.W.Fast.tw8201532395839651777:True:=trivial
theorem PySem.W.Fast.tw12316286838010735054:True:=trivial
theorem PySem.W.Fast.tw609212153033736552:True:=trivial
theorem PySem.W.Fast.tw2066996251271762421:True:=trivial
theorem PySem.W.Fast.tw16466051246675782931:True:=trivial
theorem PySem.W.Fast.tw4433928783756112092:True:=trivial
theorem PySem.W.Fast.tw7350131776938146130:True:=trivial
theorem PySem.W.Fast.tw1889165246887443987:True:=trivial
theorem PySem.W.Fast.tw9835637259340993070:True:=trivial
theorem PySem.W.Fast.tw16835599999675755892:True:=trivial
theorem PySem.W.Fast.tw444894967387453185:True:=trivial
theorem PySem.W.Fast.tw11842207774323719380:True:=trivial
theorem PySem.W.Fast.tw10642502894170345591:True:=trivial
theorem PySem.W.Fast.tw2795340882197786297:True:=trivial
theorem PySem.W.Fast.tw4055302860693030410:True:=trivial
theorem PySem.W.Fast.tw4086871680849014512:True:=trivial
theorem PySem.W.Fast.tw13917733881518544087:True:=trivial
theorem PySem.W.Fast.tw17649285892570698308:True:=trivial
theorem PySem.W.Fast.tw9978617826362348384:True:=trivial
theorem PySem.W.Fast.tw17234992875118296003:True:=trivial
theorem PySem.W.Fast.tw17051151908908775309:True:=trivial
theorem PySem.W.Fast.tw14928488371662401609:True:=trivial
theorem PySem.W.Fast.tw12094720249235293626:True:=trivial
theorem PySem.W.Fast.tw18217676718145898002:True:=trivial
theorem PySem.W.Fast.tw5798107123159597801:True:=trivial
theorem PySem.W.Fast.tw12786174404459969296:True:=trivial
theorem PySem.W.Fast.tw5229170045848080875:True:=trivial
theorem PySem.W.Fast.tw12584390498388017568:True:=trivial
theorem PySem.W.Fast.tw45256397770375404:True:=trivial
theorem PySem.W.Fast.tw14376961707236423546:True:=trivial
theorem PySem.W.Fast.tw8762452922120376299:True:=trivial
theorem PySem.W.Fast.tw8968872207298164252:True:=trivial
theorem PySem.W.Fast.tw4733114488533863222:True:=trivial
theorem PySem.W.Fast.tw10202614157256722557:True:=trivial
theorem PySem.W.Fast.tw1756062996682303232:True:=trivial
theorem PySem.W.Fast.tw3587321056879604233:True:=trivial
theorem PySem.W.Fast.tw9262334946711487104:True:=trivial
open PySem PySem.W PyProof.Rows
set_option maxRecDepth 100000 in
set_option maxHeartbeats 0 in
theorem PySem.Challenge.cw_lumprow_k37_tables_moved_on_holds : PySem.Challenge.rw_lumprow_k37_tables_moved_on.Holds := by
 w_on; o_law; k_head; (case hw => w_witness2)
 k_fill
 refine LK.walk (l := PySem.Challenge.rw_lumprow_k37_tables_moved_on) rfl rfl (fun w h Y => PySem.W.kIn_of Y) ?F
 case F =>
  intro w mg fa h KX G hmg; apply LK.all_mk (C := 0) KX G hmg; all_goals first | k_is | k_exc | kit_is | kts_exm
