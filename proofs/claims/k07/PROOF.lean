import PyProof.Rows.All
import Wide.All
import OpenK.AllK
import Wide.FinOn
import Lean
import PyProof.EqAt
import PyProof.EqKinds
import PyProof.TupleCall
import PySem.Challenge.RW_lumprow_k07_numbers_as_texts
set_option Elab.async false
set_option linter.all false
set_option maxRecDepth 100000
set_option maxHeartbeats 4000000
open PySem.W (instObj methodObj Frag lookIn hasDictIn findIn specialIn keepIn takesIn mroIn kitOne kia_one kitx_list fnOf codeIn nsIn kitAny mg_of mg_none_of)
noncomputable section
namespace L2
open PySem PySem.Spec PyProof.Rows

noncomputable abbrev Key:=Sum Int Str
noncomputable def Jbu:Key->Value->Bool
 | .inl k,v=>Value.isInt k v
 | .inr x,v=>Value.isStrOf x v
noncomputable def JeE(w:World):Key->Int
 | .inl k=>hashInt k
 | .inr x=>hashStr w x
theorem Jx:∀{k:Key} {v:Value},Jbu k v=true->(∃i t,k=Sum.inl i/\v=Value.int i t)\/(∃x t,k=Sum.inr x/\v=Value.str x t)
 | .inl i,v,h=>by obtain⟨t,e⟩:=Value.isInt_shape (k:=i) (v:=v) h;exact .inl ⟨i,t,rfl,e⟩
 | .inr x,v,h=>by obtain⟨t,e⟩:=Value.isStrOf_shape (x:=x) (v:=v) h;exact .inr ⟨x,t,rfl,e⟩
theorem Jcf(a b:Int):decide ((Sum.inl a:Key)=Sum.inl b)=(a == b):=by
 by_cases e:a=b
 ·subst e;simp
 ·have h:¬(Sum.inl a:Key)=Sum.inl b:=fun q=>e (Sum.inl.inj q)
  rw[decide_eq_false h];exact(beq_eq_false_iff_ne.mpr e).symm
theorem Jci(a b:Str):decide ((Sum.inr a:Key)=Sum.inr b)=decide (a=b):=by
 by_cases e:a=b
 ·subst e;simp
 ·have h:¬(Sum.inr a:Key)=Sum.inr b:=fun q=>e (Sum.inr.inj q)
  rw[decide_eq_false h,decide_eq_false e]
theorem Jcg(a:Int)(b:Str):decide ((Sum.inl a:Key)=Sum.inr b)=false:=decide_eq_false (fun q=>nomatch q)
theorem Jch(a:Str)(b:Int):decide ((Sum.inr a:Key)=Sum.inl b)=false:=decide_eq_false (fun q=>nomatch q)

noncomputable def U1(prog:Program)(w:World):PySem.KeyKind prog w Key where
 is:=Jbu
 hash:=JeE w
 inj:=fun v a b ha hb=>by
  rcases Jx ha with ⟨i,t,rfl,rfl⟩|⟨x,t,rfl,rfl⟩
  ·rcases Jx hb with ⟨j,u,rfl,e⟩|⟨y,u,rfl,e⟩
   ·injection e with e1 _;rw[e1]
   ·exact nomatch e
  ·rcases Jx hb with ⟨j,u,rfl,e⟩|⟨y,u,rfl,e⟩
   ·exact nomatch e
   ·injection e with e1 _;rw[e1]
 byValue:=fun k v h=>by rcases Jx h with ⟨i,t,rfl,rfl⟩|⟨x,t,rfl,rfl⟩ <;> rfl
 pyHash:=fun hv h=>by
  rcases Jx hv with ⟨i,t,rfl,rfl⟩|⟨x,t,rfl,rfl⟩
  ·exact wpAny_pyHash_int h
  ·exact wpAny_pyHash_str h
 eqBool:=fun hu hv h=>by
  rcases Jx hu with ⟨i,t,rfl,rfl⟩|⟨x,t,rfl,rfl⟩
  ·rcases Jx hv with ⟨j,u,rfl,rfl⟩|⟨y,u,rfl,rfl⟩
   ·rw[Jcf] at h;exact wpAny_eqBool_int h
   ·rw[Jcg] at h;exact SeqAt.EqAt.int_str i t y u _ _ _ _ h
  ·rcases Jx hv with ⟨j,u,rfl,rfl⟩|⟨y,u,rfl,rfl⟩
   ·rw[Jch] at h;exact SeqAt.EqAt.str_int x t j u _ _ _ _ h
   ·rw[Jci] at h;exact wpAny_eqBool_str h
 «strs»:=fun k x t v h=>by
  rcases Jx h with ⟨i,u,rfl,e⟩|⟨y,u,rfl,e⟩
  ·exact nomatch e
  ·injection e with e1 _
   subst e1;cases v <;> rfl

end L2

namespace L2
open PySem PySem.Spec PyProof.Rows

inductive V where
 | non|bl (b:Bool)|int (i:Int)|str (x:Str)|byt (b:Array UInt8)|flt (b:UInt64)|ref (a:Addr)|ty (n:String)
 deriving DecidableEq

noncomputable def RelV:V->Value->Prop
 | .non,u=>u=Value.none
 | .bl b,u=>u=Value.bool b
 | .int i,u=>∃t,u=Value.int i t
 | .str x,u=>∃t,u=Value.str x t
 | .byt b,u=>∃t,u=Value.bytes b t
 | .flt b,u=>∃t,u=Value.float b t
 | .ref a,u=>u=Value.ref a
 | .ty n,u=>u=Value.type n

noncomputable abbrev Vals:List V->List Value->Prop:=Paired RelV
theorem Vals.length{xs:List V}{us:List Value}(r:Vals xs us):xs.length=us.length:=Paired.length r
theorem Vals.get:∀{xs:List V} {us:List Value} {i:Nat} {x:V},Vals xs us->xs[i]?=some x->∃u,us[i]?=some u/\RelV x u
 | _,_,_,_,.nil,e=>by simp at e
 | _,_,0,_,.cons r _,e=>by simp at e;subst e;exact⟨_,rfl,r⟩
 | _,_,i+1,x,.cons _ t,e=>by obtain⟨u,h1,h2⟩:=Vals.get (i:=i) (x:=x) t (by simpa using e);exact⟨u,by simpa using h1,h2⟩
theorem Vals.set{x:V}{u:Value}(r:RelV x u):∀{xs:List V} {us:List Value} (i:Nat),Vals xs us->Vals (xs.set i x) (us.set i u)
 | _,_,_,.nil=>.nil
 | _,_,0,.cons _ t=>.cons r t
 | _,_,i+1,.cons q t=>.cons q (Vals.set r i t)
theorem Vals.append:∀{xs ys:List V} {us ws:List Value},Vals xs us->Vals ys ws->Vals (xs++ys) (us++ws)
 | _,_,_,_,.nil,s=>s
 | _,_,_,_,.cons r t,s=>.cons r (Vals.append t s)
theorem Vals.take:∀{xs:List V} {us:List Value} (n:Nat),Vals xs us->Vals (xs.take n) (us.take n)
 | _,_,0,_=>.nil
 | _,_,_+1,.nil=>.nil
 | _,_,n+1,.cons r t=>.cons r (Vals.take n t)
theorem Vals.drop:∀{xs:List V} {us:List Value} (n:Nat),Vals xs us->Vals (xs.drop n) (us.drop n)
 | _,_,0,r=>r
 | _,_,_+1,.nil=>.nil
 | _,_,n+1,.cons _ t=>Vals.drop n t
noncomputable def RelO:Option V->Option Value->Prop
 | some v,some u=>RelV v u
 | none,none=>True
 | _,_=>False
noncomputable def KV{κ:Type}:List (κ×V)->List (κ×Value)->Prop:=Paired fun(p:κ×V) (q:κ×Value)=>p.1=q.1/\RelV p.2 q.2

noncomputable def kV:Key->V
 | .inl i=>.int i
 | .inr x=>.str x

inductive HO where
 | lst (xs:List V)
 | tup (xs:List V)
 | dK (kvs:List (Key×V))|dT (kvs:List (List Key×V))
 | set (S:Int->Bool) (n:Nat)
 | ins (C dx:Addr) (fs:List (Str×V))
 | own (x:Addr)
 | xd (fs:List (Str×V))
 | met (f x:Addr)
 | rng (lo hi:Int)
 | frz (o:Obj) (u:HO)
 | tbl (ps:Array Value)
 | ext (φ:Heap->Prop)

noncomputable abbrev Hp:=Addr->Option HO
noncomputable def upd(H:Hp)(a:Addr)(o:HO):Hp:=fun b=>if b=a then some o else H b
theorem J3{H:Hp}{a:Addr}{o:HO}:upd H a o a=some o:=by unfold upd;rw[if_pos rfl]
theorem Jg{H:Hp}{a b:Addr}{o:HO}(h:b≠a):upd H a o b=H b:=by unfold upd;rw[if_neg h]
theorem Jbv{H:Hp}{a b:Addr}{o u:HO}(h:H a=some o)(h':H b=some u)(d:o≠u):a≠b:=by intro e;subst e;rw[h] at h';exact d (Option.some.inj h')
theorem Jn{H:Hp}{a b:Addr}{o:HO}(h:H a=some o)(h':H b=none):a≠b:=by intro e;subst e;rw[h] at h';cases h'

section
variable(P:Program)(w:World)
noncomputable def ObjOk(H:Hp)(h:Heap)(a:Addr):HO->Prop
 | .lst xs=>xs.length<=sizeLine/\∃(its:List Value) (n:Nat),Vals xs its/\h.get? a=some { cls:=.type "list",data:=.seq its.toArray n }
 | .tup xs=>xs.length<=sizeLine/\∃its:List Value,Vals xs its/\IsTup h a its.toArray
 | .dK kvs=>kvs.length<=sizeLine/\(a == sysModules)=false/\∃vs,KV kvs vs/\h.DictOf (U1 P w) a vs
 | .dT kvs=>kvs.length<=sizeLine/\(a == sysModules)=false/\∃xs:List (List Key×Addr×Value),
  Paired (fun(p:List Key×V) (q:List Key×Addr×Value)=>p.1=q.1/\H q.2.1=some (.tup (p.1.map kV))/\RelV p.2 q.2.2) kvs xs ∧
  ∃o es ep,h.get? a=some o/\o.ExactDict/\o.data=.dict es ep/\es.toList=xs.map (entryOfKey (tupleKind (U1 P w)))/\(xs.map (·.1)).Nodup
 | .set S n=>h.SetOf (intKind P w) a S n
 | .ins C dx fs=>H dx=some (.own a)/\fs.length<=1000/\dx≠a/\h.get? a=some (instObj C dx) ∧
  ∃mA,h.Ns1 dx mA/\(∀f,RelO (fs.lookup f) (mA f))/\PySem.Within mA (fs.map (·.1))
 | .own _=>∃o,h.get? a=some o
 | .xd fs=>∃mA,h.Ns1 a mA/\∀f,RelO (fs.lookup f) (mA f)
 | .rng lo hi=>∃t u v,h.get? a=some { cls:=.type "range",data:=.fields #[.int lo t,.int hi u,.int 1 v] }
 | .frz o u=>h.get? a=some o/\ObjOk H h a u
 | .tbl ps=>h.get? a=some { cls:=.none,data:=.fields ps }
 | .met f x=>h.get? a=some (methodObj (.ref f) (.ref x))
 | .ext φ=>φ h/\(∃o,h.get? a=some o)/\∀h1 h2:Heap,φ h1->(∀o,h1.get? a=some o->h2.get? a=some o)->φ h2
noncomputable def HOk(H:Hp)(h:Heap):Prop:=∀a o,H a=some o->ObjOk P w H h a o
end

section
variable{P:Program}{w:World}{H H':Hp}{h h':Heap}{a:Addr}{o:HO}
theorem ObjOk.lt(x:ObjOk P w H h a o):a<h.objs.size:=by
 cases o with
 | lst xs=>obtain⟨_,_,_,_,e⟩:=x;exact Heap.lt_size e
 | tup xs=>obtain⟨_,_,_,p⟩:=x;exact p.lt
 | dK kvs=>obtain⟨_,_,_,_,o,_,_,e,_⟩:=x;exact Heap.lt_size e
 | dT kvs=>obtain⟨_,_,_,_,o,_,_,e,_⟩:=x;exact Heap.lt_size e
 | set S n=>obtain⟨o,_,_,_,e,_⟩:=x;exact Heap.lt_size e
 | ins C dx fs=>obtain⟨_,_,_,e,_⟩:=x;exact Heap.lt_size e
 | own y=>obtain⟨_,e⟩:=x;exact Heap.lt_size e
 | xd fs=>obtain⟨_,⟨_,_,_,e,_⟩,_⟩:=x;exact Heap.lt_size e
 | rng lo hi=>obtain⟨_,_,_,e⟩:=x;exact Heap.lt_size e
 | frz ob u=>obtain⟨e,_⟩:=x;exact Heap.lt_size e
 | tbl ps=>exact Heap.lt_size (show h.get? a=some _ from x)
 | met f y=>exact Heap.lt_size (show h.get? a=some _ from x)
 | ext φ=>obtain⟨_,⟨_,e⟩,_⟩:=x;exact Heap.lt_size e
theorem Paired.mapP{α β:Type}{F G:α->β->Prop}:∀{l₁:List α} {l₂:List β},Paired F l₁ l₂->(∀a b,F a b->G a b)->Paired G l₁ l₂
 | _,_,.nil,_=>.nil
 | _,_,.cons r t,f=>.cons (f _ _ r) (Paired.mapP t f)
theorem ObjOk.stay(x:ObjOk P w H h a o)(k:∀b u,(b=a\/H b=some (.own a))->h.get? b=some u->h'.get? b=some u)
 (ho:∀b,H b=some (.own a)->H' b=some (.own a)) (ht:∀b xs,H b=some (.tup xs)->H' b=some (.tup xs)):ObjOk P w H' h' a o:=by
 induction o with
 | lst xs=>obtain⟨z,its,n,r,e⟩:=x;exact⟨z,its,n,r,k _ _ (.inl rfl) e⟩
 | tup xs=>obtain⟨z,its,r,ob,e,c⟩:=x;exact⟨z,its,r,ob,k _ _ (.inl rfl) e,c⟩
 | dK kvs=>obtain⟨z,y,vs,r,ob,es,ep,e,c⟩:=x;exact⟨z,y,vs,r,ob,es,ep,k _ _ (.inl rfl) e,c⟩
 | dT kvs=>obtain⟨z,y,xs,r,ob,es,ep,e,c⟩:=x;exact⟨z,y,xs,Paired.mapP r fun p q z=>⟨z.1,ht _ _ z.2.1,z.2.2⟩,ob,es,ep,k _ _ (.inl rfl) e,c⟩
 | set S n=>obtain⟨ob,es,ep,t,e,c⟩:=x;exact⟨ob,es,ep,t,k _ _ (.inl rfl) e,c⟩
 | ins C dx fs=>obtain⟨d,z,ne,e,mA,⟨od,es,ep,e2,c⟩,r⟩:=x;exact⟨ho _ d,z,ne,k _ _ (.inl rfl) e,mA,⟨od,es,ep,k _ _ (.inr d) e2,c⟩,r⟩
 | own y=>obtain⟨ob,e⟩:=x;exact⟨ob,k _ _ (.inl rfl) e⟩
 | xd fs=>obtain⟨mA,⟨od,es,ep,e,c⟩,r⟩:=x;exact⟨mA,⟨od,es,ep,k _ _ (.inl rfl) e,c⟩,r⟩
 | rng lo hi=>obtain⟨t,u,v,e⟩:=x;exact⟨t,u,v,k _ _ (.inl rfl) e⟩
 | frz ob u ih=>obtain⟨e,q⟩:=x;exact⟨k _ _ (.inl rfl) e,ih q⟩
 | tbl ps =>
  have e:h.get? a=some { cls:=.none,data:=.fields ps }:=x
  show h'.get? a=some { cls:=.none,data:=.fields ps };exact k a _ (.inl rfl) e
 | met f y =>
  have e:h.get? a=some (methodObj (.ref f) (.ref y)):=x
  show h'.get? a=some (methodObj (.ref f) (.ref y));exact k a _ (.inl rfl) e
 | ext φ=>obtain⟨p,⟨o,e⟩,st⟩:=x;exact⟨st _ _ p fun o q=>k _ _ (.inl rfl) q,⟨o,k _ _ (.inl rfl) e⟩,st⟩
theorem HOk.lt(x:HOk P w H h)(e:H a=some o):a<h.objs.size:=(x a o e).lt
theorem HOk.fresh(x:HOk P w H h)(e:h.objs.size<=a):H a=none:=by
 cases q:H a with
 | none=>rfl
 | some u=>exact absurd (Nat.lt_of_lt_of_le (x.lt q) e) (Nat.lt_irrefl _)
theorem HOk.kept(x:HOk P w H h)(k:∀b u,h.get? b=some u->h'.get? b=some u):HOk P w H h':=fun a o e=>(x a o e).stay (fun b u _ q=>k b u q) (fun _ q=>q) fun _ _ q=>q
theorem HOk.laid(x:HOk P w H h)(k:∀b u,h.get? b=some u->h'.get? b=some u)(hp:h.objs.size<=a)(new:ObjOk P w (upd H a o) h' a o):HOk P w (upd H a o) h':=fun b u e=>by
 have hn:=x.fresh hp
 by_cases hb:b=a
 ·subst hb;rw[J3] at e;cases e;exact new
 ·rw[Jg hb] at e;exact(x b u e).stay (fun c v _ q=>k c v q) (fun c q=>by rw[Jg (Jn q hn)];exact q) fun c xs q=>by rw[Jg (Jn q hn)];exact q
end

noncomputable def Rd(H:Hp)(a:Addr)(u:HO):Prop:=H a=some u\/∃o,H a=some (.frz o u)
theorem Rd.of{H:Hp}{a:Addr}{u:HO}(h:H a=some u):Rd H a u:=.inl h
theorem Rd.ok{P:Program}{w:World}{H:Hp}{h:Heap}{a:Addr}{u:HO}(r:Rd H a u)(x:HOk P w H h):ObjOk P w H h a u:=by
 rcases r with r|⟨o,r⟩
 ·exact x a u r
 ·obtain⟨_,q⟩:=x a _ r;exact q
section
variable{P:Program}{w:World}{H:Hp}{h h':Heap}{x e:Addr}{o':HO}
end

structure Un (fs ex:List Addr) (H H':Hp) (h h':Heap):Prop where
 keep:∀b o,h.get? b=some o->H b=none->b∉fs->b∉ex->h'.get? b=some o
 slot:∀b o,h.get? b=some o->H b=none->b∈fs->b∉ex->∃sl,h'.get? b=some { o with slots:=sl }
 free:∀b o,h.get? b=some o->H b=none->b∉ex->H' b=none
 there:∀b o,h.get? b=some o->b∉ex->∃o',h'.get? b=some o'
 tups:∀b xs,H b=some (.tup xs)->H' b=some (.tup xs)
 frzs:∀b o u,H b=some (.frz o u)->H' b=some (.frz o u)
 tbls:∀b ps,H b=some (.tbl ps)->∃more,H' b=some (.tbl (ps++more))
section
variable{fs fs' ex ex':List Addr}{H H1 H2:Hp}{h h1 h2 h':Heap}{a x e:Addr}{o:HO}
theorem Un.any(u:Un fs ex H H1 h h1){b:Addr}{ob:Obj}(q:h.get? b=some ob)(n:H b=none)(hx:b∉ex):∃sl,h1.get? b=some { ob with slots:=sl }:=by
 by_cases hb:b∈fs
 ·exact u.slot b ob q n hb hx
 ·exact⟨ob.slots,u.keep b ob q n hb hx⟩
theorem Un.trans(a:Un fs ex H H1 h h1)(b:Un fs ex H1 H2 h1 h2):Un fs ex H H2 h h2 where
 keep:=fun c ob q n hc hx=>b.keep c ob (a.keep c ob q n hc hx) (a.free c ob q n hx) hc hx
 slot:=fun c ob q n hc hx=>by obtain⟨sl,e1⟩:=a.slot c ob q n hc hx;obtain⟨sl',e2⟩:=b.slot c _ e1 (a.free c ob q n hx) hc hx;exact⟨sl',e2⟩
 free:=fun c ob q n hx=>by obtain⟨o',e1⟩:=a.there c ob q hx;exact b.free c o' e1 (a.free c ob q n hx) hx
 there:=fun c ob q hx=>by obtain⟨o',e1⟩:=a.there c ob q hx;exact b.there c o' e1 hx
 tups:=fun c xs q=>b.tups c xs (a.tups c xs q)
 frzs:=fun c ob xs q=>b.frzs c ob xs (a.frzs c ob xs q)
 tbls:=fun c ps q=>by obtain⟨m1,e1⟩:=a.tbls c ps q;obtain⟨m2,e2⟩:=b.tbls c _ e1;exact⟨m1++m2,by rw[e2,Array.append_assoc]⟩
theorem Un.kept(k:∀b u,h.get? b=some u->h'.get? b=some u):Un fs ex H H h h' :=
 ⟨fun b ob q _ _ _=>k b ob q,fun b ob q _ _ _=>⟨ob.slots,k b ob q⟩,fun _ _ _ n _=>n,fun b ob q _=>⟨ob,k b ob q⟩,fun _ _ q=>q,fun _ _ _ q=>q,fun _ ps q=>⟨#[],by rw[q];simp⟩⟩
theorem Un.refl:Un fs ex H H h h:=Un.kept fun _ _ q=>q
theorem Un.laid(k:∀b u,h.get? b=some u->h'.get? b=some u)(hp:h.objs.size<=a)(hn:H a=none):Un fs ex H (upd H a o) h h' where
 keep:=fun b u q _ _ _=>k b u q
 slot:=fun b u q _ _ _=>⟨u.slots,k b u q⟩
 free:=fun b u q n _=>by rw[Jg (Nat.ne_of_lt (Nat.lt_of_lt_of_le (Heap.lt_size q) hp))];exact n
 there:=fun b u q _=>⟨u,k b u q⟩
 tups:=fun b xs q=>by rw[Jg (Jn q hn)];exact q
 frzs:=fun b u xs q=>by rw[Jg (Jn q hn)];exact q
 tbls:=fun b ps q=>⟨#[],by rw[Jg (Jn q hn),q];simp⟩
theorem Un.mono(u:Un fs ex H H1 h h1)(hs:∀b∈fs,b∈fs')(hx:∀b∈ex,b∈ex'):Un fs' ex' H H1 h h1 :=
 ⟨fun b ob q n hb he=>u.keep b ob q n (fun z=>hb (hs b z)) fun z=>he (hx b z),fun _ _ q n _ he=>u.any q n fun z=>he (hx _ z),fun b ob q n he=>u.free b ob q n fun z=>he (hx b z),fun b ob q he=>u.there b ob q fun z=>he (hx b z),u.tups,u.frzs,u.tbls⟩
end

noncomputable def trk(h:Heap)(H:Hp):List Addr:=(List.range h.objs.size).filter fun a=>(H a).isSome
noncomputable def UY(h:Heap)(H:Hp):Heap:=PySem.W.hideAll h (trk h H)
theorem WK(h:Heap)(H:Hp):(UY h H).objs.size=h.objs.size:=PySem.W.hideAll_size _ _
theorem Zi{h:Heap}{H:Hp}{b:Addr}{o:Obj}(e:h.get? b=some o)(n:H b=none):(UY h H).get? b=some o :=
 PySem.W.hideAll_get _ e fun hm=>by have q:(H b).isSome=true:=(List.mem_filter.mp hm).2;rw[n] at q;simp at q
theorem JaJ{h:Heap}{H:Hp}{b:Addr}{o:Obj}(e:(UY h H).get? b=some o):h.get? b=some o/\H b=none:=by
 have e':h.get? b=some o:=PySem.W.of_hideAll (trk h H) e;refine⟨e',?_⟩
 cases q:H b with
 | none=>rfl
 | some x =>
  have hm:b∈trk h H:=List.mem_filter.mpr ⟨List.mem_range.mpr (Heap.lt_size e'),by simp[q]⟩
  have z:(UY h H).get? b=none:=PySem.W.hideAll_none (trk h H) hm;rw[z] at e;cases e

noncomputable def Jab(g h:Heap)(L:Addr):List (Addr×Obj):=(List.range h.objs.size).filterMap fun a=>if a=L\/(g.get? a).isSome=true then none else(h.get? a).map fun o=>(a,o)
noncomputable def rest(g h:Heap)(L d:Addr):List (Addr×Obj):=(Jab g h L).filter fun p=>decide (p.1≠d)
end L2

namespace L2
open PySem PySem.Spec PyProof.Rows

structure Mod (K:Frag) (mg:Str->Option Value) (base:Heap):Prop where
 kin:K.In base
 glob:base.Ns mainGlobals mg
 blt:∃mb,base.Ns builtinsNs mb/\∀x:Str,x≠"__name__"->mb x=bootBuiltins x
 nolimit:base.NoLimit

structure Cx where
 prog:Program
 w:World
 K:Frag
 mg:Str->Option Value
 base:Heap
 A:Around
 N:List Str
 s₀:Shared
 H₀:Hp
 env:Env
 outer:List Env
 stack:List Env
 ex:List Addr
 fn:Str->Bool
 calm:Bool
 pn:List (Addr×Obj)
 xe:Value->Shared->Prop
noncomputable def frs(l:List Env):List Addr:=l.filterMap (·.frame)
noncomputable abbrev Cx.fs(X:Cx):List Addr:=frs X.outer

noncomputable def Vis(sc:Scope)(x:Str):Prop:=sc.names.lookup x=some .local\/sc.names.lookup x=some .cell\/sc.names.lookup x=some .free
noncomputable def Loc(sc:Scope)(x:Str):Prop:=sc.names.lookup x=some .local\/sc.names.lookup x=some .cell
noncomputable def Jet(env:Env)(h:Heap)(m:Str->Option Value)(x:Str)(u:Value):Prop :=
 (env.kindOf x=some .local/\m x=some u)\/((env.kindOf x=some .cell\/env.kindOf x=some .free)/\∃c,env.cells.lookup x=some c/\h.IsCell c (some u))

structure Cx.Ok (X:Cx):Prop where
 mod:Mod X.K X.mg X.base
 kind:X.env.scope.kind=.function
 glob:X.env.globals=mainGlobals
 blt:X.env.builtins=builtinsNs
 above:X.s₀.heap.objs.size<=X.env.locals
 inj:∀x y c,X.env.cells.lookup x=some c->X.env.cells.lookup y=some c->x=y
 has:∀x,(X.env.kindOf x=some .cell\/X.env.kindOf x=some .free)->∃c,X.env.cells.lookup x=some c
 cab:∀x c,X.fn x=true->X.env.cells.lookup x=some c->X.s₀.heap.objs.size<=c
 hd:X.calm=true->X.A.handled=none
 frames:X.A.frames=some X.stack
 stk:X.stack=X.outer\/(X.stack=X.env::X.outer/\X.env.frame=some X.env.locals)
 exf:∀b∈X.ex,b≠X.env.locals/\∀x c,X.env.cells.lookup x=some c->c≠b
 bs:∀b o,X.base.get? b=some o->X.s₀.heap.get? b=some o/\X.H₀ b=none
 bsz:X.base.objs.size<=X.s₀.heap.objs.size
 noex:∀b o,X.base.get? b=some o->b∉X.ex
 exfs:∀b∈X.ex,b∉X.fs
 funs:X.s₀.heap.FunFrames X.base X.outer
 frf:∀b∈X.fs,X.H₀ b=none

structure Inv (X:Cx) (pins:List (Addr×Obj)) (σ:List (Option V)) (H:Hp) (s:Shared):Prop where
 ok:X.Ok
 os:s.os=X.s₀.os
 bare:AllBare s.gens
 base:Un X.fs X.ex X.H₀ H X.s₀.heap s.heap
 loc:∃m,s.heap.Ns X.env.locals m/\∀(i:Nat) (x:Str) (v:V),X.N[i]?=some x->σ[i]?=some (some v)->Vis X.env.scope x->∃u,RelV v u/\Jet X.env s.heap m x u
 cell:∀x c,X.env.cells.lookup x=some c->∃v,s.heap.IsCell c v
 free:H X.env.locals=none
 freeC:∀x c,X.env.cells.lookup x=some c->H c=none
 pin:∀p∈X.pn++pins,s.heap.get? p.1=some p.2/\H p.1=none/\p.1≠X.env.locals/\p.1∉X.fs/\∀v,p.2.data≠.cell v
 hok:HOk X.prog X.w H s.heap
 len:σ.length=X.N.length

section
variable{X:Cx}{pins:List (Addr×Obj)}{σ:List (Option V)}{H H':Hp}{s:Shared}{h':Heap}

theorem Cx.Ok.nofr(ok:X.Ok){b:Addr}{o:Obj}(e:X.base.get? b=some o):b∉X.fs:=fun hb=>by have:=(ok.funs.mem hb).1;rw[e] at this;cases this
theorem Inv.bs(I:Inv X pins σ H s):∀b o,X.base.get? b=some o->s.heap.get? b=some o/\H b=none:=fun b o e=>⟨I.base.keep b o (I.ok.bs b o e).1 (I.ok.bs b o e).2 (I.ok.nofr e) (I.ok.noex b o e),I.base.free b o (I.ok.bs b o e).1 (I.ok.bs b o e).2 (I.ok.noex b o e)⟩
theorem Inv.bk(I:Inv X pins σ H s):∀b o,X.base.get? b=some o->s.heap.get? b=some o:=fun b o e=>(I.bs b o e).1
theorem Inv.mod(I:Inv X pins σ H s):Mod X.K X.mg X.base:=I.ok.mod
theorem Inv.kIn(I:Inv X pins σ H s):X.K.In s.heap:=I.ok.mod.kin.keeps I.bk
theorem Inv.nolimit(I:Inv X pins σ H s):s.heap.NoLimit:=I.ok.mod.nolimit.keeps I.bk
theorem Inv.fr(I:Inv X pins σ H s):∃m,Fr X.base X.env.locals s.heap m :=
 let ⟨m,hn,_⟩:=I.loc
 ⟨m,hn,I.bk,Nat.le_trans I.ok.bsz I.ok.above⟩
theorem Inv.lt(I:Inv X pins σ H s):X.env.locals<s.heap.objs.size:=let ⟨_,hn,_⟩:=I.loc;hn.lt
theorem Inv.sz(I:Inv X pins σ H s):X.s₀.heap.objs.size<=s.heap.objs.size:=Nat.le_trans I.ok.above (Nat.le_of_lt I.lt)
theorem Inv.nofs(I:Inv X pins σ H s){a:Addr}(h:s.heap.objs.size<=a):a∉X.fs:=fun hb=>by obtain⟨_,o,ho,_⟩:=I.ok.funs.mem hb;exact absurd (Nat.lt_of_lt_of_le (Heap.lt_size ho) (Nat.le_trans I.sz h)) (Nat.lt_irrefl _)
theorem Inv.cne(I:Inv X pins σ H s):∀x c,X.env.cells.lookup x=some c->c≠X.env.locals:=fun x c e z=>by obtain⟨v,o,ho,hd⟩:=I.cell x c e;obtain⟨m,⟨o',es,ep,ho',hd',_⟩,_⟩:=I.loc;rw[z,ho'] at ho;cases ho;rw[hd'] at hd;cases hd
theorem Inv.funs(I:Inv X pins σ H s):s.heap.FunFrames X.base X.outer:=by
 have all:∀(l:List Env),(∀b∈frs l,b∈X.fs)->X.s₀.heap.FunFrames X.base l->s.heap.FunFrames X.base l:=by
  intro l
  induction l with
  | nil=>intro _ _;trivial
  | cons env r ih =>
   intro hs hl;obtain⟨hk,⟨L,o,hf,hn,ho,hd⟩,hr⟩:=hl;have hL:L∈X.fs:=hs L (by unfold frs;rw[List.filterMap_cons,hf];exact List.mem_cons_self);obtain⟨sl,e⟩:=I.base.slot L o ho (I.ok.frf L hL) hL fun z=>I.ok.exfs L z hL
   exact⟨hk,⟨L,_,hf,hn,e,hd⟩,ih (fun b hb=>hs b (by unfold frs;rw[List.filterMap_cons,hf];exact List.mem_cons_of_mem _ hb)) hr⟩
 exact all X.outer (fun _ hb=>hb) I.ok.funs

theorem Inv.stack(I:Inv X pins σ H s):s.heap.FunFrames X.base X.stack:=by
 rcases I.ok.stk with e|⟨e,hf⟩
 ·rw[e];exact I.funs
 ·rw[e];obtain⟨m,hn,_⟩:=I.loc;refine .cons (by rw[I.ok.kind];decide) hf hn ?_ I.funs;exact Heap.get?_none_of_le (Nat.le_trans I.ok.bsz I.ok.above)
theorem Inv.stkSub(I:Inv X pins σ H s):∀b∈frs X.stack,b∈X.env.locals::X.fs:=fun b hb=>by
 rcases I.ok.stk with e|⟨e,hf⟩
 ·rw[e] at hb;exact List.mem_cons_of_mem _ hb
 ·rw[e] at hb;unfold frs at hb;rw[List.filterMap_cons,hf] at hb;exact hb
theorem Inv.stkFree(I:Inv X pins σ H s):∀b∈frs X.stack,H b=none:=fun b hb=>by
 rcases List.mem_cons.mp (I.stkSub b hb) with e|hb
 ·rw[e];exact I.free
 ·obtain⟨_,o,ho,_⟩:=I.ok.funs.mem hb;exact I.base.free b o ho (I.ok.frf b hb) fun z=>I.ok.exfs b z hb

theorem Inv.step{g':Array GenState}{t':Nat}{d':Drawn}{ch:List Addr}(I:Inv X pins σ H s)
 (hch:∀b∈ch,(b∈X.ex\/X.s₀.heap.objs.size<=b)/\b≠X.env.locals/\(∀x c,X.env.cells.lookup x=some c->c≠b)/\∀p∈X.pn++pins,p.1≠b)
 (keep:∀b o,b≠X.env.locals->b∉X.fs->b∉ch->s.heap.get? b=some o->H b=none->h'.get? b=some o)
 (slot:∀b o,b≠X.env.locals->b∈X.fs->b∉ch->s.heap.get? b=some o->H b=none->∃sl,h'.get? b=some { o with slots:=sl }) (free:∀b o,b∉ch->s.heap.get? b=some o->H b=none->H' b=none)
 (there:∀b o,b∉ch->s.heap.get? b=some o->∃o',h'.get? b=some o')
 (tups:∀b xs,H b=some (.tup xs)->H' b=some (.tup xs)) (frzs:∀b o u,H b=some (.frz o u)->H' b=some (.frz o u)) (tbls:∀b ps,H b=some (.tbl ps)->∃more,H' b=some (.tbl (ps++more)))
 (ns:∀m,s.heap.Ns X.env.locals m->h'.Ns X.env.locals m) (hok:HOk X.prog X.w H' h') (hg:AllBare g') :
 Inv X pins σ H' { s with heap:=h',gens:=g',drawn:=d',toks:=t' }:=by
 have neL:∀b o,X.s₀.heap.get? b=some o->b≠X.env.locals:=fun b o e=>Nat.ne_of_lt (Nat.lt_of_lt_of_le (Heap.lt_size e) I.ok.above)
 have neC:∀b o,X.s₀.heap.get? b=some o->b∉X.ex->b∉ch:=fun b o e hx hb=>by
  rcases(hch b hb).1 with z|z
  ·exact hx z
  ·exact absurd (Nat.lt_of_lt_of_le (Heap.lt_size e) z) (Nat.lt_irrefl _)
 have cellK:∀x c,X.env.cells.lookup x=some c->∀v,s.heap.IsCell c v->h'.IsCell c v:=fun x c e v ⟨o,ho,hd⟩=>by
  have nch:c∉ch:=fun z=>(hch c z).2.2.1 x c e rfl
  by_cases hc:c∈X.fs
  ·obtain⟨sl,q⟩:=slot c o (I.cne x c e) hc nch ho (I.freeC x c e);exact⟨_,q,hd⟩
  ·exact⟨o,keep c o (I.cne x c e) hc nch ho (I.freeC x c e),hd⟩
 refine⟨I.ok,I.os,hg,⟨fun b o e n hb hx=>?_,fun b o e n hb hx=>?_,fun b o e n hx=>?_,fun b o e hx=>?_,fun b xs e=>tups b xs (I.base.tups b xs e),fun b o xs e=>frzs b o xs (I.base.frzs b o xs e),fun b ps e=>?_⟩,?_,fun x c e=>?_,?_,fun x c e=>?_,fun p hp=>?_,hok,I.len⟩
 ·exact keep b o (neL b o e) hb (neC b o e hx) (I.base.keep b o e n hb hx) (I.base.free b o e n hx)
 ·obtain⟨sl,e1⟩:=I.base.slot b o e n hb hx;obtain⟨sl',e2⟩:=slot b _ (neL b o e) hb (neC b o e hx) e1 (I.base.free b o e n hx);exact⟨sl',e2⟩
 ·obtain⟨o',e1⟩:=I.base.there b o e hx;exact free b o' (neC b o e hx) e1 (I.base.free b o e n hx)
 ·obtain⟨o',e1⟩:=I.base.there b o e hx;exact there b o' (neC b o e hx) e1
 ·obtain⟨m1,e1⟩:=I.base.tbls b ps e;obtain⟨m2,e2⟩:=tbls b _ e1;exact⟨m1++m2,by rw[e2,Array.append_assoc]⟩
 ·obtain⟨m,hn,hl⟩:=I.loc;refine⟨m,ns m hn,fun i x v e1 e2 e3=>?_⟩;obtain⟨u,r,l⟩:=hl i x v e1 e2 e3;refine⟨u,r,?_⟩;rcases l with l|⟨k,c,e,z⟩
  ·exact .inl l
  ·exact .inr ⟨k,c,e,cellK x c e _ z⟩
 ·obtain⟨v,z⟩:=I.cell x c e;exact⟨v,cellK x c e v z⟩
 ·obtain⟨m,⟨o,_,_,ho,_⟩,_⟩:=I.loc;exact free _ o (fun z=>(hch _ z).2.1 rfl) ho I.free
 ·obtain⟨v,o,ho,hd⟩:=I.cell x c e;exact free c o (fun z=>(hch c z).2.2.1 x c e rfl) ho (I.freeC x c e)
 ·obtain⟨e,n,ne,nf,d⟩:=I.pin p hp;have nch:p.1∉ch:=fun z=>(hch p.1 z).2.2.2 p hp rfl
  exact⟨keep p.1 p.2 ne nf nch e n,free p.1 p.2 nch e n,ne,nf,d⟩
theorem Inv.un{t':Nat}(I:Inv X pins σ H s)(u:Un X.fs [] H H' s.heap h')(hok:HOk X.prog X.w H' h'):Inv X pins σ H' { s with heap:=h',toks:=t' }:=by
 obtain⟨m,⟨o,es,ep,ho,r⟩,_⟩:=id I.loc;obtain⟨sl,hL⟩:=u.any ho I.free (by simp);exact I.step (g':=s.gens) (d':=s.drawn) (ch:=[]) (fun _ z=>nomatch z) (fun b o _ hb _ e n=>u.keep b o e n hb (by simp)) (fun b o _ hb _ e n=>u.slot b o e n hb (by simp)) (fun b o _ e n=>u.free b o e n (by simp)) (fun b o _ e=>u.there b o e (by simp)) u.tups u.frzs u.tbls (fun m' hm=>by obtain⟨o',es',ep',ho',r'⟩:=hm;rw[ho] at ho';cases ho';exact⟨_,es',ep',hL,r'⟩) hok I.bare
theorem Inv.call{g':Array GenState}{t':Nat}{d':Drawn}{ch:List Addr}(I:Inv X pins σ H s)(u:Un (frs X.stack) ch H H' s.heap h')(hok:HOk X.prog X.w H' h')(hg:AllBare g')
 (hch:∀b∈ch,(b∈X.ex\/X.s₀.heap.objs.size<=b)/\b≠X.env.locals/\(∀x c,X.env.cells.lookup x=some c->c≠b)/\∀p∈X.pn++pins,p.1≠b) :
 Inv X pins σ H' { s with heap:=h',gens:=g',drawn:=d',toks:=t' }:=by
 obtain⟨m,⟨o,es,ep,ho,r⟩,_⟩:=id I.loc;obtain⟨sl,hL⟩:=u.any ho I.free fun z=>(hch _ z).2.1 rfl
 exact I.step (ch:=ch) hch (fun b o hL hb hc e n=>u.keep b o e n (fun z=>(List.mem_cons.mp (I.stkSub b z)).elim hL hb) hc) (fun b o _ _ hc e n=>u.any e n hc) (fun b o hc e n=>u.free b o e n hc) (fun b o hc e=>u.there b o e hc) u.tups u.frzs u.tbls (fun m' hm=>by obtain⟨o',es',ep',ho',r'⟩:=hm;rw[ho] at ho';cases ho';exact⟨_,es',ep',hL,r'⟩) hok hg
theorem Inv.turned{t':Nat}{it:Addr}(I:Inv X pins σ H s)(k:∀b o,b≠it->s.heap.get? b=some o->h'.get? b=some o)(hn:H it=none)(hL:it≠X.env.locals)
 (h1:it∈X.ex\/X.s₀.heap.objs.size<=it) (h2:∀x c,X.env.cells.lookup x=some c->c≠it) (h3:∀p∈X.pn++pins,p.1≠it):Inv X pins σ H { s with heap:=h',toks:=t' }:=by
 have nit:∀b u,H b=some u->b≠it:=fun b u e z=>by rw[z,hn] at e;cases e
 refine I.step (g':=s.gens) (d':=s.drawn) (ch:=[it]) (fun b hb=>?_) (fun b o _ _ hc e _=>k b o (fun z=>hc (by simp[z])) e) (fun b o _ _ hc e _=>⟨o.slots,k b o (fun z=>hc (by simp[z])) e⟩) (fun _ _ _ _ n=>n)
  (fun b o hc e=>⟨o,k b o (fun z=>hc (by simp[z])) e⟩) (fun _ _ e=>e) (fun _ _ _ e=>e) (fun b ps e=>⟨#[],by rw[e];simp⟩) (fun m hm=>?_) (fun b u e=>?_) I.bare
 ·have e:b=it:=by simpa using hb
  subst e;exact⟨h1,hL,h2,h3⟩
 ·obtain⟨o,es,ep,ho,r⟩:=hm;exact⟨o,es,ep,k _ o (Ne.symm hL) ho,r⟩
 ·refine(I.hok b u e).stay (fun c v hc q=>k c v ?_ q) (fun _ q=>q) fun _ _ q=>q
  rcases hc with z|z
  ·rw[z];exact nit b u e
  ·exact nit c _ z
theorem Inv.tok(I:Inv X pins σ H s)(t:Nat):Inv X pins σ H { s with toks:=t }:=I.un (h':=s.heap) (t':=t) Un.refl I.hok
theorem Inv.kept{t':Nat}(I:Inv X pins σ H s)(k:∀b u,s.heap.get? b=some u->h'.get? b=some u):Inv X pins σ H { s with heap:=h',toks:=t' }:=I.un (Un.kept k) (I.hok.kept k)
theorem Inv.laid{a:Addr}{o:HO}{t':Nat}(I:Inv X pins σ H s)(k:∀b u,s.heap.get? b=some u->h'.get? b=some u)(hp:s.heap.objs.size<=a)(new:ObjOk X.prog X.w (upd H a o) h' a o) :
 Inv X pins σ (upd H a o) { s with heap:=h',toks:=t' }:=I.un (Un.laid k hp (I.hok.fresh hp)) (I.hok.laid k hp new)
theorem Inv.weak{σ':List (Option V)}(I:Inv X pins σ H s)(hl:σ'.length=σ.length)(w:∀(i:Nat) v,σ'[i]?=some (some v)->σ[i]?=some (some v)):Inv X pins σ' H s :=
 ⟨I.ok,I.os,I.bare,I.base,let ⟨m,hn,hl'⟩:=I.loc;⟨m,hn,fun i x v e1 e2 e3=>hl' i x v e1 (w i v e2) e3⟩,I.cell,I.free,I.freeC,I.pin,I.hok,hl.trans I.len⟩
theorem Inv.pins_of{pins':List (Addr×Obj)}(I:Inv X pins σ H s)(h:∀p∈pins',s.heap.get? p.1=some p.2/\H p.1=none/\p.1≠X.env.locals/\p.1∉X.fs/\∀v,p.2.data≠.cell v):Inv X pins' σ H s :=
 ⟨I.ok,I.os,I.bare,I.base,I.loc,I.cell,I.free,I.freeC,fun p hp=>(List.mem_append.mp hp).elim (fun z=>I.pin p (List.mem_append_left _ z)) (h p),I.hok,I.len⟩

theorem Vu{N:List Str}(hN:N.Nodup){i j:Nat}{x:Str}(a:N[i]?=some x)(b:N[j]?=some x):i=j:=by obtain⟨h1,e1⟩:=List.getElem?_eq_some_iff.mp a;obtain⟨h2,e2⟩:=List.getElem?_eq_some_iff.mp b;exact(List.getElem_inj hN).mp (e1.trans e2.symm)

theorem W3{M:Model}{A:Around}{E:Value->Shared->Prop}{i:Nat}{x:Str}{v:V}{u:Value}{Q:Unit->Shared->Prop}(I:Inv X pins σ H s)(hN:X.N.Nodup)(hi:X.N[i]?=some x)(hx:Loc X.env.scope x)(r:RelV v u)
 (h:∀s',Inv X pins (σ.set i (some v)) H s'->(∃a,Heap.SameBut a s.heap s'.heap/\(a=X.env.locals\/X.env.cells.lookup x=some a))->Q () s') (hf:X.fn x=true\/X.env.scope.names.lookup x=some .local:=by first|exact .inl rfl|exact .inr rfl|assumption):wpAny M A (storeName X.env x u) Q E s:=by
 obtain⟨m,hn,hl⟩:=id I.loc;have hcls:(X.env.scope.kind == .class || (X.env.scope.kind == .module && X.env.locals != X.env.globals))=false:=by rw[I.ok.kind];rfl
 have hiσ:i<σ.length:=by rw[I.len];exact(List.getElem?_eq_some_iff.mp hi).1
 have cne:=I.cne
 have tracked:∀{a:Addr} {h':Heap},(∃o,s.heap.get? a=some o/\H a=none)->Heap.SameBut a s.heap h'->HOk X.prog X.w H h':=fun {a h'} ha hs b ob e=>by
  obtain⟨_,_,hfree⟩:=ha;refine(I.hok b ob e).stay (fun c w' hc q=>(hs.2 c ?_).trans q) (fun _ q=>q) fun _ _ q=>q
  rintro rfl;rcases hc with rfl|hc
  ·rw[hfree] at e;cases e
  ·rw[hfree] at hc;cases hc
 rcases hx with hk|hk
 ·refine wpAny_storeName_local hk hn (fun h' hn' hs=>?_) hcls;obtain⟨oL,_,_,hoL,_⟩:=id hn;refine h _ ⟨I.ok,I.os,I.bare,⟨fun b o e n hb hx=>?_,fun b o e n hb hx=>?_,I.base.free,fun b o e hx=>?_,I.base.tups,I.base.frzs,I.base.tbls⟩,⟨_,hn',fun j y v' e1 e2 e3=>?_⟩,fun y c e=>?_,I.free,I.freeC,fun p hp=>?_,tracked ⟨oL,hoL,I.free⟩ hs,by simpa using I.len⟩ ⟨_,hs,.inl rfl⟩
  ·exact(hs.2 b (Nat.ne_of_lt (Nat.lt_of_lt_of_le (Heap.lt_size e) I.ok.above))).trans (I.base.keep b o e n hb hx)
  ·obtain⟨sl,e1⟩:=I.base.slot b o e n hb hx;exact⟨sl,(hs.2 b (Nat.ne_of_lt (Nat.lt_of_lt_of_le (Heap.lt_size e) I.ok.above))).trans e1⟩
  ·obtain⟨o',e1⟩:=I.base.there b o e hx;exact⟨o',(hs.2 b (Nat.ne_of_lt (Nat.lt_of_lt_of_le (Heap.lt_size e) I.ok.above))).trans e1⟩
  ·by_cases hj:j=i
   ·subst hj;rw[hi] at e1;cases e1;rw[List.getElem?_set_self hiσ] at e2;cases e2;exact⟨u,r,.inl ⟨hk,by simp⟩⟩
   ·rw[List.getElem?_set_ne (Ne.symm hj)] at e2;obtain⟨u',r',q⟩:=hl j y v' e1 e2 e3;refine⟨u',r',?_⟩;rcases q with ⟨k,e⟩|⟨k,c,e,z⟩
    ·refine .inl ⟨k,?_⟩;have:y≠x:=fun e=>hj (Vu hN e1 (e▸hi))
     simp[this,e]
    ·exact .inr ⟨k,c,e,z.sameBut hs (cne y c e)⟩
  ·obtain⟨w',z⟩:=I.cell y c e;exact⟨w',z.sameBut hs (cne y c e)⟩
  ·obtain⟨e,n,ne,nf,d⟩:=I.pin p hp;exact⟨(hs.2 p.1 ne).trans e,n,ne,nf,d⟩
 ·have hfn:X.fn x=true:=by
   rcases hf with z|z
   ·exact z
   ·rw[z] at hk;cases hk
  obtain⟨c,hc⟩:=I.ok.has x (.inl hk);obtain⟨w',z⟩:=I.cell x c hc;refine wpAny_storeName_cell I.ok.kind hk hc z (fun h' hc' hs=>?_);obtain⟨oc,hoc,hocd⟩:=id z;refine h { s with heap:=h' } ⟨I.ok,I.os,I.bare,⟨fun b o e n hb hx=>?_,fun b o e n hb hx=>?_,I.base.free,fun b o e hx=>?_,I.base.tups,I.base.frzs,I.base.tbls⟩,⟨m,hn.sameBut hs (Ne.symm (cne x c hc)),fun j y v' e1 e2 e3=>?_⟩,fun y c' e=>?_,I.free,I.freeC,fun p hp=>?_,tracked ⟨oc,hoc,I.freeC x c hc⟩ hs,by simpa using I.len⟩ ⟨c,hs,.inr hc⟩
  ·exact(hs.2 b (Nat.ne_of_lt (Nat.lt_of_lt_of_le (Heap.lt_size e) (I.ok.cab x c hfn hc)))).trans (I.base.keep b o e n hb hx)
  ·obtain⟨sl,e1⟩:=I.base.slot b o e n hb hx;exact⟨sl,(hs.2 b (Nat.ne_of_lt (Nat.lt_of_lt_of_le (Heap.lt_size e) (I.ok.cab x c hfn hc)))).trans e1⟩
  ·obtain⟨o',e1⟩:=I.base.there b o e hx;exact⟨o',(hs.2 b (Nat.ne_of_lt (Nat.lt_of_lt_of_le (Heap.lt_size e) (I.ok.cab x c hfn hc)))).trans e1⟩
  ·by_cases hj:j=i
   ·subst hj;rw[hi] at e1;cases e1;rw[List.getElem?_set_self hiσ] at e2;cases e2;exact⟨u,r,.inr ⟨.inl hk,c,hc,hc'⟩⟩
   ·rw[List.getElem?_set_ne (Ne.symm hj)] at e2;obtain⟨u',r',q⟩:=hl j y v' e1 e2 e3;refine⟨u',r',?_⟩;rcases q with q|⟨k,c',e,z'⟩
    ·exact .inl q
    ·refine .inr ⟨k,c',e,z'.sameBut hs ?_⟩;rintro rfl;exact hj (Vu hN e1 (I.ok.inj _ _ _ e hc▸hi))
  ·by_cases hcc:c'=c
   ·subst hcc;exact⟨_,hc'⟩
   ·obtain⟨w2,z2⟩:=I.cell y c' e;exact⟨w2,z2.sameBut hs hcc⟩
  ·obtain⟨e,n,ne,nf,d⟩:=I.pin p hp;refine⟨(hs.2 p.1 ?_).trans e,n,ne,nf,d⟩;intro q;rw[q,hoc] at e;have q':oc=p.2:=Option.some.inj e;exact d w' (by rw[<- q'];exact hocd)
theorem VJ{M:Model}{A:Around}{E:Value->Shared->Prop}{i:Nat}{x:Str}{v:V}{u:Value}{Q:Unit->Shared->Prop}(I:Inv X pins σ H s)(hN:X.N.Nodup)(hi:X.N[i]?=some x)(hx:Loc X.env.scope x)(r:RelV v u)
 (h:∀s',Inv X pins (σ.set i (some v)) H s'->Q () s') (hf:X.fn x=true\/X.env.scope.names.lookup x=some .local:=by first|exact .inl rfl|exact .inr rfl|assumption):wpAny M A (storeName X.env x u) Q E s :=
 W3 I hN hi hx r (fun s' I' _=>h s' I') hf
theorem Inv.call'{s':Shared}{ch:List Addr}(I:Inv X pins σ H s)(ho:s'.os=s.os)(u:Un (frs X.stack) ch H H' s.heap s'.heap)(hok:HOk X.prog X.w H' s'.heap)(hg:AllBare s'.gens)
 (hch:∀b∈ch,(b∈X.ex\/X.s₀.heap.objs.size<=b)/\b≠X.env.locals/\(∀x c,X.env.cells.lookup x=some c->c≠b)/\∀p∈X.pn++pins,p.1≠b):Inv X pins σ H' s':=by
 obtain⟨h',g',d',t',o'⟩:=s';have e:o'=s.os:=ho;subst e;exact I.call (g':=g') (t':=t') (d':=d') u hok hg hch
end

noncomputable abbrev XK:=Value->Option Addr->Hp->Prop
noncomputable abbrev St:=List (Option V)
noncomputable abbrev VK:=V->Hp->Prop
noncomputable abbrev TE:=St->Hp->VK->Prop
noncomputable abbrev TT:=St->Hp->(Bool->Hp->Prop)->Prop
noncomputable abbrev TA:=St->Hp->(List V->Hp->Prop)->Prop
structure Ends where
 nx:St->Hp->Prop
 rt:VK
 bk:St->Hp->Prop:=fun _ _=>False
 ct:St->Hp->Prop:=fun _ _=>False
noncomputable abbrev TS:=Ends->St->Hp->Prop

noncomputable def EP(X:Cx)(pins:List (Addr×Obj))(σ:St)(Q:VK)(u:Value)(s':Shared):Prop:=∃v H',Inv X pins σ H' s'/\RelV v u/\Q v H'
noncomputable def TP(X:Cx)(pins:List (Addr×Obj))(σ:St)(Q:Bool->Hp->Prop)(b:Bool)(s':Shared):Prop:=∃H',Inv X pins σ H' s'/\Q b H'
noncomputable def AP(X:Cx)(pins:List (Addr×Obj))(σ:St)(Q:List V->Hp->Prop)(us:List Value)(s':Shared):Prop:=∃vs H',Inv X pins σ H' s'/\Vals vs us/\Q vs H'
noncomputable def SP(X:Cx)(pins:List (Addr×Obj))(D:Ends)(f:Flow)(s':Shared):Prop :=
 match f with
 | .next=>∃σ' H',Inv X pins σ' H' s'/\D.nx σ' H'
 | .brk=>∃σ' H',Inv X pins σ' H' s'/\D.bk σ' H'
 | .cont=>∃σ' H',Inv X pins σ' H' s'/\D.ct σ' H'
 | .ret u=>∃v σ' H',Inv X pins σ' H' s'/\RelV v u/\D.rt v H'

noncomputable def PE(X:Cx)(e:Expr)(t:TE):Prop :=
 ∀(pins:List (Addr×Obj)) (s:Shared) (σ:St) (H:Hp) (Q:VK),Inv X pins σ H s->t σ H Q->wpAny (model X.prog X.w) X.A (eval e X.env) (EP X pins σ Q) X.xe s
noncomputable def PT(X:Cx)(e:Expr)(t:TT):Prop :=
 ∀(pins:List (Addr×Obj)) (s:Shared) (σ:St) (H:Hp) (Q:Bool->Hp->Prop),Inv X pins σ H s->t σ H Q->wpAny (model X.prog X.w) X.A (isTrue e X.env (eval e X.env)) (TP X pins σ Q) X.xe s
noncomputable def PW(X:Cx)(e:Expr)(t:TT):Prop :=
 ∀(whole:Sem Value) (pins:List (Addr×Obj)) (s:Shared) (σ:St) (H:Hp) (Q:Bool->Hp->Prop),Inv X pins σ H s->t σ H Q->wpAny (model X.prog X.w) X.A (isTrue e X.env whole) (TP X pins σ Q) X.xe s
theorem PW.pt{X:Cx}{e:Expr}{t:TT}(h:PW X e t):PT X e t:=h _
noncomputable def PA(X:Cx)(es:List Expr)(t:TA):Prop :=
 ∀(pos:Pos) (pins:List (Addr×Obj)) (s:Shared) (σ:St) (H:Hp) (Q:List V->Hp->Prop),Inv X pins σ H s->t σ H Q->wpAny (model X.prog X.w) X.A (spliced (backTo pos (starEach es X.env))) (AP X pins σ Q) X.xe s
noncomputable def PS(X:Cx)(st:Stmt)(t:TS):Prop :=
 ∀(pins:List (Addr×Obj)) (s:Shared) (σ:St) (H:Hp) (D:Ends),Inv X pins σ H s->t D σ H->wpAny (model X.prog X.w) X.A (exec st X.env) (SP X pins D) X.xe s
noncomputable def PSs(X:Cx)(st:List Stmt)(t:TS):Prop :=
 ∀(pins:List (Addr×Obj)) (s:Shared) (σ:St) (H:Hp) (D:Ends),Inv X pins σ H s->t D σ H->wpAny (model X.prog X.w) X.A (execs st X.env) (SP X pins D) X.xe s
theorem thn{α:Type}{t:Sem α}{Q Q':α->Shared->Prop}{M:Model}{A:Around}{E:Value->Shared->Prop}{s:Shared}(h:wpAny M A t Q E s)(hQ:∀a s,Q a s->Q' a s):wpAny M A t Q' E s:=wpAny_mono h hQ fun _ _ x=>x
end L2

namespace L2
open PySem PySem.Spec PyProof.Rows
section
variable{X:Cx}

noncomputable def Jbm(i:Nat):TE:=fun σ H Q=>∃v,σ[i]?=some (some v)/\Q v H
noncomputable def tC(v:V):TE:=fun _ H Q=>Q v H
theorem JcE{i:Nat}{x:Str}{pos:Pos}(hN:X.N[i]?=some x)(hv:Vis X.env.scope x)(hd:(x == ("__debug__":Str))=false:=by decide)(hcd:(x == ("__classdict__":Str))=false:=by decide):PE X (.Name x pos) (Jbm i):=by
 intro pins s σ H Q I h;obtain⟨v,e,h⟩:=h;obtain⟨m,hn,hl⟩:=I.loc;obtain⟨u,r,l⟩:=hl i x v hN e hv;have fin:EP X pins σ Q u s:=⟨v,H,I,r,h⟩
 rcases l with ⟨hk,hm⟩|⟨hk,c,hc,hcell⟩
 ·exact wpAny_Name (wpAny_loadName_local I.ok.kind hk hn hm fin) hd
 ·rcases hk with hk|hk
  ·exact wpAny_Name (wpAny_loadName_cell I.ok.kind hk hc hcell fin) hd
  ·exact wpAny_Name (wpAny_loadName_free I.ok.kind hk hc hcell fin hcd) hd
theorem Jo{i j pos}:PE X (.Constant (.int i) j pos) (tC (.int i)):=fun _ _ _ H _ I h=>wpAny_Constant_int ⟨.int i,H,I.tok _,⟨_,rfl⟩,h⟩
theorem Zy{b j pos}:PE X (.Constant (.bool b) j pos) (tC (.bl b)):=fun _ _ _ H _ I h=>Constant_bool ⟨.bl b,H,I,rfl,h⟩
theorem Ys{j pos}:PE X (.Constant .none j pos) (tC .non):=fun _ _ _ H _ I h=>Constant_none ⟨.non,H,I,rfl,h⟩
theorem Jy{x j pos}:PE X (.Constant (.str x) j pos) (tC (.str x)):=fun _ _ _ H _ I h=>Calls.Constant_str ⟨.str x,H,I.tok _,⟨_,rfl⟩,h⟩

noncomputable def Gl(X:Cx)(x:Str):Prop:=X.env.kindOf x=some .globalImplicit
theorem Wl{E:Value->Shared->Prop}{pins:List (Addr×Obj)}{s:Shared}{σ:St}{H:Hp}{x:Str}{u:Value}{pos:Pos}{Q:Value->Shared->Prop}(I:Inv X pins σ H s)(hg:Gl X x)(hm:X.mg x=some u)(h:Q u s)
 (hd:(x == ("__debug__":Str))=false:=by decide):wpAny (model X.prog X.w) X.A (eval (.Name x pos) X.env) Q E s :=
 Calls.Name_function_global I.ok.kind hg (Calls.loadGlobal_global (by rw[I.ok.glob];exact I.mod.glob.keeps I.bk) hm h) hd
theorem VZ{E:Value->Shared->Prop}{pins:List (Addr×Obj)}{s:Shared}{σ:St}{H:Hp}{x:Str}{u:Value}{pos:Pos}{Q:Value->Shared->Prop}(I:Inv X pins σ H s)(hg:Gl X x)(hm:X.mg x=none)(hv:bootBuiltins x=some u)(h:Q u s)
 (hn:x≠"__name__":=by decide) (hd:(x == ("__debug__":Str))=false:=by decide):wpAny (model X.prog X.w) X.A (eval (.Name x pos) X.env) Q E s:=by
 obtain⟨mb,h1,h2⟩:=I.mod.blt;exact Calls.Name_function_global I.ok.kind hg (Calls.loadGlobal_builtin (by rw[I.ok.glob];exact I.mod.glob.keeps I.bk) hm (by rw[I.ok.blt];exact h1.keeps I.bk) ((h2 x hn).trans hv) h) hd
theorem JaR{x:Str}{v:V}{u:Value}{pos:Pos}(hg:Gl X x)(hm:X.mg x=some u)(r:RelV v u)(hd:(x == ("__debug__":Str))=false:=by decide):PE X (.Name x pos) (tC v) :=
 fun _ _ _ H _ I h=>Wl I hg hm ⟨v,H,I,r,h⟩ hd
theorem U4{x:Str}{v:V}{u:Value}{pos:Pos}(hg:Gl X x)(hm:X.mg x=none)(hv:bootBuiltins x=some u)(r:RelV v u)(hn:x≠"__name__":=by decide)(hd:(x == ("__debug__":Str))=false:=by decide):PE X (.Name x pos) (tC v) :=
 fun _ _ _ H _ I h=>VZ I hg hm hv ⟨v,H,I,r,h⟩ hn hd

variable{a b:Expr}{ta tb:TE}{pos:Pos}
noncomputable def tB(t:TE):TT:=fun σ H Q=>t σ H fun x H1=>∃c,x=.bl c/\Q c H1
variable{tA tB':TT}{rest:List Expr}
noncomputable def Jdm(t u:TT):TT:=fun σ H Q=>t σ H fun c H1=>if c=true then u σ H1 Q else Q false H1
noncomputable def tOr(t u:TT):TT:=fun σ H Q=>t σ H fun c H1=>if c=true then Q true H1 else u σ H1 Q
noncomputable def Jdp(t:TT):TT:=fun σ H Q=>t σ H fun c H1=>Q (!c) H1
theorem Wp(ha:PT X a tA):PW X (.BoolOp .And [a] pos) tA:=by
 intro wh pins s σ H Q I h;refine isTrue_and (thn (ha pins s σ H Q I h) fun c s1 e=>?_)
 cases c with
 | true=>exact isTrue_and_nil e
 | false=>exact e
theorem V4(ha:PT X a tA):PW X (.BoolOp .Or [a] pos) tA:=by
 intro wh pins s σ H Q I h;refine isTrue_or (thn (ha pins s σ H Q I h) fun c s1 e=>?_)
 cases c with
 | false=>exact isTrue_or_nil e
 | true=>exact e
theorem ZK(ha:PT X a tA)(hb:PW X (.BoolOp .And (b::rest) pos) tB'):PW X (.BoolOp .And (a::b::rest) pos) (Jdm tA tB'):=by
 intro wh pins s σ H Q I h;refine isTrue_and (thn (ha pins s σ H _ I h) fun c s1 ⟨H1,I1,q1⟩=>?_)
 cases c with
 | true=>exact hb wh pins s1 σ H1 Q I1 q1
 | false=>exact⟨H1,I1,q1⟩
theorem VD(ha:PT X a tA)(hb:PW X (.BoolOp .Or (b::rest) pos) tB'):PW X (.BoolOp .Or (a::b::rest) pos) (tOr tA tB'):=by
 intro wh pins s σ H Q I h;refine isTrue_or (thn (ha pins s σ H _ I h) fun c s1 ⟨H1,I1,q1⟩=>?_)
 cases c with
 | true=>exact⟨H1,I1,q1⟩
 | false=>exact hb wh pins s1 σ H1 Q I1 q1
theorem U7(ha:PT X a tA):PT X (.UnaryOp .Not a pos) (Jdp tA):=by intro pins s σ H Q I h;exact isTrue_not (ha pins s σ H (fun c H1=>Q (!c) H1) I h)
noncomputable def Z2(ta tb:TE):TE:=fun σ H Q=>ta σ H fun x H1=>∃c,x=.bl c/\if c=true then tb σ H1 Q else Q (.bl false) H1
noncomputable def JeR(ta tb:TE):TE:=fun σ H Q=>ta σ H fun x H1=>∃c,x=.bl c/\if c=true then Q (.bl true) H1 else tb σ H1 Q
noncomputable def Z4(ta:TE):TE:=fun σ H Q=>ta σ H fun x H1=>∃c,x=.bl c/\Q (.bl (!c)) H1
theorem ZE{op}{t:TE}(h:PE X a t):PE X (.BoolOp op [a] pos) t:=fun pins s σ H Q I hw=>BoolOp_one (h pins s σ H Q I hw)
theorem Zx(ha:PE X a ta)(hb:PE X (.BoolOp .And (b::rest) pos) tb):PE X (.BoolOp .And (a::b::rest) pos) (Z2 ta tb):=by
 intro pins s σ H Q I h;refine BoolOp_and (thn (ha pins s σ H _ I h) fun v s1 ⟨x,H1,I1,r1,q1⟩=>?_);obtain⟨c,rfl,q1⟩:=q1;cases r1;refine wpAny_truthy_bool ?_
 cases c with
 | true=>exact hb pins s1 σ H1 Q I1 q1
 | false=>exact⟨.bl false,H1,I1,rfl,q1⟩
theorem JcD(ha:PE X a ta):PE X (.UnaryOp .Not a pos) (Z4 ta):=by intro pins s σ H Q I h;refine UnaryOp_ (thn (ha pins s σ H _ I h) fun v s1 ⟨x,H1,I1,r1,q1⟩=>?_);obtain⟨c,rfl,q1⟩:=q1;cases r1;exact not_of (wpAny_truthy_bool ⟨.bl (!c),H1,I1,rfl,q1⟩)
noncomputable def tIf(t:TT)(ta tb:TE):TE:=fun σ H Q=>t σ H fun c H1=>if c=true then ta σ H1 Q else tb σ H1 Q
theorem ZC{c:Expr}(hc:PT X c tA)(ha:PE X a ta)(hb:PE X b tb):PE X (.IfExp c a b pos) (tIf tA ta tb):=by
 intro pins s σ H Q I h;refine wpAny_IfExp (thn (hc pins s σ H _ I h) fun d s1 ⟨H1,I1,q1⟩=>?_)
 cases d with
 | true=>exact ha pins s1 σ H1 Q I1 q1
 | false=>exact hb pins s1 σ H1 Q I1 q1
end
end L2

namespace L2
open PySem PySem.Spec PyProof.Rows

noncomputable def SqL(K:Frag)(H:Hp)(a:Addr)(xs:List V):Prop :=
 Rd H a (.lst xs) ∨
  ∃(o:Obj) (its:Array Value) (n:Nat),K.lookup a=some o/\o.cls=.type "list"/\o.dict=none/\o.data=.seq its n/\its.size<=sizeLine/\Vals xs its.toList
noncomputable def SqT(K:Frag)(H:Hp)(a:Addr)(xs:List V):Prop :=
 Rd H a (.tup xs) ∨
  ∃(o:Obj) (its:Array Value) (n:Nat),K.lookup a=some o/\o.cls=.type "tuple"/\o.data=.seq its n/\its.size<=sizeLine/\Vals xs its.toList
noncomputable def Jev:Value->Option V
 | .none=>some .non
 | .bool b=>some (.bl b)
 | .int i _=>some (.int i)
 | .str x _=>some (.str x)
 | .bytes b _=>some (.byt b)
 | .float b _=>some (.flt b)
 | .ref a=>some (.ref a)
 | .type n=>some (.ty n)
 | _=>none
theorem RelV.abs{x:V}{u:Value}(r:RelV x u):Jev u=some x:=by
 cases x with
 | non=>cases r;rfl
 | bl _=>cases r;rfl
 | int _=>obtain⟨t,rfl⟩:=r;rfl
 | str _=>obtain⟨t,rfl⟩:=r;rfl
 | byt _=>obtain⟨t,rfl⟩:=r;rfl
 | flt _=>obtain⟨t,rfl⟩:=r;rfl
 | ref _=>cases r;rfl
 | ty _=>cases r;rfl
theorem RelV.inj{x y:V}{u:Value}(r:RelV x u)(q:RelV y u):x=y:=Option.some.inj (r.abs.symm.trans q.abs)
theorem Vals.inj:∀{xs ys:List V} {us:List Value},Vals xs us->Vals ys us->xs=ys
 | _,_,_,.nil,.nil=>rfl
 | _,_,_,.cons r t,.cons r' t'=>by rw[r.inj r',Vals.inj t t']
section
variable{X:Cx}{pins:List (Addr×Obj)}{σ:St}{H:Hp}{s:Shared}{a:Addr}{xs ys:List V}
theorem SqL.of{K:Frag}(h:H a=some (.lst xs)):SqL K H a xs:=.inl (.inl h)
theorem SqT.of{K:Frag}(h:H a=some (.tup xs)):SqT K H a xs:=.inl (.inl h)
theorem Inv.list(I:Inv X pins σ H s)(h:SqL X.K H a xs):∃its:List Value,Vals xs its/\PlainL s.heap a its.toArray/\xs.length<=sizeLine:=by
 rcases h with h|⟨o,its,n,hk,hc,hd,hs,hz,r⟩
 ·obtain⟨z,its,n,r,e⟩:=h.ok I.hok;exact⟨its,r,⟨_,n,e,rfl,rfl,rfl⟩,z⟩
 ·refine⟨its.toList,r,⟨o,n,I.kIn a o hk,hc,hd,by simpa using hs⟩,?_⟩;have e:=r.length;simp only[Array.length_toList] at e;omega
theorem Inv.tuple(I:Inv X pins σ H s)(h:SqT X.K H a xs):∃its:List Value,Vals xs its/\IsTup s.heap a its.toArray/\xs.length<=sizeLine:=by
 rcases h with h|⟨o,its,n,hk,hc,hs,hz,r⟩
 ·obtain⟨z,its,r,p⟩:=h.ok I.hok;exact⟨its,r,p,z⟩
 ·refine⟨its.toList,r,⟨o,I.kIn a o hk,hc,n,by simpa using hs⟩,?_⟩;have e:=r.length;simp only[Array.length_toList] at e;omega
theorem Inv.list_inj(I:Inv X pins σ H s)(h:SqL X.K H a xs)(h':SqL X.K H a ys):xs=ys:=by
 obtain⟨its,r,⟨o,n,e,_,_,d⟩,_⟩:=I.list h;obtain⟨its',r',⟨o',n',e',_,_,d'⟩,_⟩:=I.list h';rw[e] at e';cases e';rw[d] at d'
 injection d' with d1 _
 have:its=its':=by simpa using congrArg Array.toList d1
 subst this;exact r.inj r'
theorem Inv.tuple_inj(I:Inv X pins σ H s)(h:SqT X.K H a xs)(h':SqT X.K H a ys):xs=ys:=by
 obtain⟨its,r,⟨o,e,_,n,d⟩,_⟩:=I.tuple h;obtain⟨its',r',⟨o',e',_,n',d'⟩,_⟩:=I.tuple h';rw[e] at e';cases e';rw[d] at d'
 injection d' with d1 _
 have:its=its':=by simpa using congrArg Array.toList d1
 subst this;exact r.inj r'
end

noncomputable abbrev Cx.wish(X:Cx)(E:Value->Shared->Prop):Cx:={ X with xe:=E }
noncomputable abbrev Cx.nox(X:Cx):Cx:=X.wish fun _ _=>False
theorem Cx.Ok.wish{X:Cx}(ok:X.Ok)(E:Value->Shared->Prop):(X.wish E).Ok :=
 ⟨ok.mod,ok.kind,ok.glob,ok.blt,ok.above,ok.inj,ok.has,ok.cab,ok.hd,ok.frames,ok.stk,ok.exf,ok.bs,ok.bsz,ok.noex,ok.exfs,ok.funs,ok.frf⟩
theorem Cx.Ok.unwish{X:Cx}{E:Value->Shared->Prop}(ok:(X.wish E).Ok):X.Ok :=
 ⟨ok.mod,ok.kind,ok.glob,ok.blt,ok.above,ok.inj,ok.has,ok.cab,ok.hd,ok.frames,ok.stk,ok.exf,ok.bs,ok.bsz,ok.noex,ok.exfs,ok.funs,ok.frf⟩
section
variable{X:Cx}{pins:List (Addr×Obj)}{σ:St}{H:Hp}{s:Shared}{E:Value->Shared->Prop}
theorem Inv.wish(I:Inv X pins σ H s)(E:Value->Shared->Prop):Inv (X.wish E) pins σ H s:=⟨I.ok.wish E,I.os,I.bare,I.base,I.loc,I.cell,I.free,I.freeC,I.pin,I.hok,I.len⟩
theorem Inv.unwish(I:Inv (X.wish E) pins σ H s):Inv X pins σ H s:=⟨I.ok.unwish,I.os,I.bare,I.base,I.loc,I.cell,I.free,I.freeC,I.pin,I.hok,I.len⟩
theorem SP.unwish{D:Ends}{f:Flow}{s':Shared}(h:SP (X.wish E) pins D f s'):SP X pins D f s':=by
 cases f with
 | next=>obtain⟨σ',H',I,q⟩:=h;exact⟨σ',H',I.unwish,q⟩
 | brk=>obtain⟨σ',H',I,q⟩:=h;exact⟨σ',H',I.unwish,q⟩
 | cont=>obtain⟨σ',H',I,q⟩:=h;exact⟨σ',H',I.unwish,q⟩
 | ret u=>obtain⟨v,σ',H',I,r,q⟩:=h;exact⟨v,σ',H',I.unwish,r,q⟩
theorem PE.nox{e:Expr}{t:TE}(h:PE X.nox e t):PE X e t:=fun pins s σ H Q I hw=>wpAny_mono (h pins s σ H Q (I.wish _) hw) (fun _ _ ⟨v,H',I',r,q⟩=>⟨v,H',I'.unwish,r,q⟩) fun _ _ z=>False.elim z
theorem PT.nox{e:Expr}{t:TT}(h:PT X.nox e t):PT X e t:=fun pins s σ H Q I hw=>wpAny_mono (h pins s σ H Q (I.wish _) hw) (fun _ _ ⟨H',I',q⟩=>⟨H',I'.unwish,q⟩) fun _ _ z=>False.elim z
theorem PSs.nox{st:List Stmt}{t:TS}(h:PSs X.nox st t):PSs X st t:=fun pins s σ H D I hw=>wpAny_mono (h pins s σ H D (I.wish _) hw) (fun _ _ q=>q.unwish) fun _ _ z=>False.elim z
end

section
variable{X:Cx}{st:Stmt}{rest:List Stmt}{t u:TS}{e:Expr}{te:TE}{pos:Pos}
noncomputable def Z3:TS:=fun D σ H=>D.nx σ H
noncomputable def Jbk(t u:TS):TS:=fun D σ H=>t { D with nx:=u D } σ H
theorem JQ:PSs X [] Z3:=fun _ _ σ H _ I h=>wpAny_execs_nil ⟨σ,H,I,h⟩
theorem Js(h1:PS X st t)(h2:PSs X rest u):PSs X (st::rest) (Jbk t u):=by
 intro pins s σ H D I h;refine wpAny_execs_cons (thn (h1 pins s σ H { D with nx:=u D } I h) fun f s1 q=>?_)
 cases f with
 | next=>obtain⟨σ',H',I',q⟩:=q;exact h2 pins s1 σ' H' D I' q
 | ret v=>exact q
 | brk=>exact q
 | cont=>exact q
theorem Jq(h1:PS X st t):PSs X [st] t:=by
 intro pins s σ H D I h;refine wpAny_execs_cons (thn (h1 pins s σ H D I h) fun f s1 q=>?_)
 cases f with
 | next=>exact wpAny_execs_nil q
 | ret v=>exact q
 | brk=>exact q
 | cont=>exact q
noncomputable def Jeo(te:TE):TS:=fun D σ H=>te σ H fun _ H1=>D.nx σ H1
noncomputable def Jdq(te:TE):TS:=fun D σ H=>te σ H D.rt
theorem JL(he:PE X e te):PS X (.Return (some e) pos) (Jdq te):=by intro pins s σ H D I h;exact wpAny_Return_some (thn (he pins s σ H _ I h) fun v s1 ⟨x,H1,I1,r1,q1⟩=>⟨x,σ,H1,I1,r1,q1⟩)
noncomputable def Jdo(c:TT)(t u:TS):TS:=fun D σ H=>c σ H fun b H1=>if b=true then t D σ H1 else u D σ H1
theorem Ym{c:Expr}{a b:List Stmt}{tc:TT}(hc:PT X c tc)(ha:PSs X a t)(hb:PSs X b u):PS X (.If c a b pos) (Jdo tc t u):=by
 intro pins s σ H D I h;refine wpAny_If (thn (hc pins s σ H _ I h) fun d s1 ⟨H1,I1,q1⟩=>?_)
 cases d with
 | true=>exact ha pins s1 σ H1 D I1 q1
 | false=>exact hb pins s1 σ H1 D I1 q1
end

noncomputable abbrev TG:=V->St->Hp->(St->Hp->Prop)->Prop
noncomputable abbrev TGs:=List V->St->Hp->(St->Hp->Prop)->Prop
noncomputable def PG(X:Cx)(target:Expr)(t:TG):Prop :=
 ∀(pins:List (Addr×Obj)) (s:Shared) (σ:St) (H:Hp) (v:V) (u:Value) (Q:St->Hp->Prop),Inv X pins σ H s->RelV v u->t v σ H Q ->
  wpAny (model X.prog X.w) X.A (assign target X.env u) (fun _ s'=>∃σ' H',Inv X pins σ' H' s'/\Q σ' H') X.xe s
noncomputable abbrev JdE:=V->V->V->Hp->(Hp->Prop)->Prop
section
variable{X:Cx}{pos:Pos}
noncomputable def UL(i:Nat):TG:=fun v σ H Q=>Q (σ.set i (some v)) H
theorem Uc{i:Nat}{x:Str}(hN:X.N.Nodup)(hi:X.N[i]?=some x)(hx:Loc X.env.scope x)(hf:X.fn x=true\/X.env.scope.names.lookup x=some .local:=by first|exact .inl rfl|exact .inr rfl|assumption):PG X (.Name x pos) (UL i):=by intro pins s σ H v u Q I r h;exact wpAny_assign_Name (VJ I hN hi hx r (fun s' I'=>⟨_,H,I',h⟩) hf)
noncomputable def JeC:TGs:=fun vs σ H Q=>vs=[]/\Q σ H
noncomputable def JdN(t:TG)(u:TGs):TGs:=fun vs σ H Q=>∃v r,vs=v::r/\t v σ H fun σ' H'=>u r σ' H' Q
noncomputable def JeD(to ti:TE)(t:JdE):TG:=fun v σ H Q=>to σ H fun o H1=>ti σ H1 fun i H2=>t o i v H2 fun H3=>Q σ H3
noncomputable def Jbh(te:TE)(g:TG):TS:=fun D σ H=>te σ H fun x H1=>g x σ H1 D.nx
theorem J9{i:Nat}{x:Str}{e:Expr}{te:TE}{pos':Pos}(hN:X.N.Nodup)(hi:X.N[i]?=some x)(hx:Loc X.env.scope x)(he:PE X e te)(hs:swapsWith e (some (.Name x pos')) pos.line X.env=pure false:=by rfl)(hf:X.fn x=true\/X.env.scope.names.lookup x=some .local:=by first|exact .inl rfl|exact .inr rfl|assumption) :
 PS X (.Assign [.Name x pos'] e pos) (Jbh te (UL i)):=by
 intro pins s σ H D I h;refine wpAny_Assign_Name (thn (he pins s σ H _ I h) fun v s1 ⟨y,H1,I1,r1,q1⟩=>?_) hs;exact VJ I1 hN hi hx r1 (fun s2 I2=>⟨_,H1,I2,q1⟩) hf
end

section
variable{X:Cx}{pos:Pos}
end

structure It where
 go:Nat->Hp->Prop
 yld:Nat->Hp->V->Hp->Prop
 stop:Nat->Hp->Prop
noncomputable def FpOk(X:Cx)(pins:List (Addr×Obj))(H:Hp)(b:Addr):Prop :=
 H b=none/\b≠X.env.locals/\b∉X.fs/\(b∈X.ex\/X.s₀.heap.objs.size<=b)/\(∀x c,X.env.cells.lookup x=some c->c≠b)/\∀p∈X.pn++pins,p.1≠b
theorem Inv.fpOk{X:Cx}{pins:List (Addr×Obj)}{σ:St}{H H':Hp}{s:Shared}{b:Addr}(I:Inv X pins σ H s)(hb:s.heap.objs.size<=b)(hn:H' b=none):FpOk X pins H' b:=by
 refine⟨hn,Nat.ne_of_gt (Nat.lt_of_lt_of_le I.lt hb),I.nofs hb,.inr (Nat.le_trans I.sz hb),fun x c e z=>?_,fun p hp z=>?_⟩
 ·obtain⟨v,q⟩:=I.cell x c e;exact absurd (Nat.lt_of_lt_of_le q.lt (by rw[z];exact hb)) (Nat.lt_irrefl _)
 ·exact absurd (Nat.lt_of_lt_of_le (Heap.lt_size (I.pin p hp).1) (by rw[z];exact hb)) (Nat.lt_irrefl _)
structure Turn (P:Program) (w:World) (K:Frag) (tg:Expr) (J:It) (fp:List Addr) (it:Addr) (tn:Nat->Heap->Prop):Prop where
 mem:it∈fp
 obj:∀i h,tn i h->∀b∈fp,∃o,h.get? b=some o/\∀v,o.data≠.cell v
 keep:∀i h h',tn i h->(∀b∈fp,∀o,h.get? b=some o->h'.get? b=some o)->tn i h'
 item:∀(X:Cx),X.prog=P->X.w=w->X.K=K->X.calm=true->∀(i:Nat) (pins:List (Addr×Obj)) (s:Shared) (σ:St) (H:Hp) (E:Value->Shared->Prop),Inv X pins σ H s->(∀b∈fp,FpOk X pins H b)->tn i s.heap->J.go i H ->
  wpAny (model P w) X.A (pyNext (.ref it)) (fun r s1=>∃u,r=some u ∧
   wpAny (model P w) X.A (letOwnedTupleGo tg (.ref it) u) (fun _ s2=>∃x H',Inv X pins σ H' s2/\RelV x u/\J.yld i H x H'/\tn (i+1) s2.heap/\∀b∈fp,H' b=none) E s1) E s
 done:∀(X:Cx),X.prog=P->X.w=w->X.K=K->X.calm=true->∀(i:Nat) (pins:List (Addr×Obj)) (s:Shared) (σ:St) (H:Hp) (E:Value->Shared->Prop),Inv X pins σ H s->(∀b∈fp,FpOk X pins H b)->tn i s.heap->J.stop i H ->
  wpAny (model P w) X.A (pyNext (.ref it)) (fun r s1=>r=none/\Inv X pins σ H s1) E s
 self:∀(A:Around) (i:Nat) (s:Shared) (Q:Value->Shared->Prop) (E:Value->Shared->Prop),tn i s.heap->Q (.ref it) s->wpAny (model P w) A (pyIter (.ref it)) Q E s
noncomputable abbrev TI:=St->Hp->(It->Hp->Prop)->Prop
noncomputable def PIE(X:Cx)(pins:List (Addr×Obj))(σ:St)(tg:Expr)(R:It->Hp->Prop)(itv:Value)(s2:Shared):Prop :=
 ∃(it:Addr) (fp:List Addr) (tn:Nat->Heap->Prop) (J:It) (H':Hp),itv=.ref it/\Inv X pins σ H' s2/\Turn X.prog X.w X.K tg J fp it tn/\tn 0 s2.heap/\(∀b∈fp,FpOk X pins H' b)/\R J H'
noncomputable def PI(X:Cx)(tg iter:Expr)(wi:TI):Prop :=
 ∀(pins:List (Addr×Obj)) (s:Shared) (σ:St) (H:Hp) (R:It->Hp->Prop),Inv X pins σ H s->wi σ H R ->
  wpAny (model X.prog X.w) X.A (eval iter X.env) (fun v s1=>wpAny (model X.prog X.w) X.A (pyIter v) (PIE X pins σ tg R) X.xe s1) X.xe s

theorem Zh{M:Model}{A:Around}{E:Value->Shared->Prop}{s:Shared}{tg:Expr}{it:Addr}{u:Value}{o:Obj}{n:String}{vs:Array Value}{Q:Unit->Shared->Prop}(ho:s.heap.get? it=some o)(hc:o.cls=.type n)(hd:o.data=.fields vs)
 (hn:["enumerate","zip","dict_itemiterator","dict_reverseitemiterator","odict_iterator","itertools.zip_longest","itertools.pairwise"].contains n=false) (hQ:Q () s):wpAny M A (letOwnedTupleGo tg (.ref it) u) Q E s:=by
 unfold letOwnedTupleGo;cases tg <;> first
  | exact wpAny_pure hQ
  | (cases u <;> first
   | exact wpAny_pure hQ
   | (refine wpAny_bind (wpAny_load ho ?_)
      rw[hc,hd];show wpAny M A (if (["enumerate","zip","dict_itemiterator","dict_reverseitemiterator","odict_iterator","itertools.zip_longest","itertools.pairwise"].contains n && vs[0]? == some (rawInt _))=true then _ else _) Q E s;rw[if_neg (by intro h;rw[hn,Bool.false_and] at h;cases h)];exact wpAny_pure hQ))

noncomputable def Itl(K:Frag)(a:Addr):It :=
 ⟨fun i H=>∃xs x,SqL K H a xs/\xs[i]?=some x,fun i H x H'=>H'=H/\∀xs,SqL K H a xs->xs[i]?=some x,fun i H=>∃xs,SqL K H a xs/\xs.length<=i⟩
noncomputable def Itt(K:Frag)(a:Addr):It :=
 ⟨fun i H=>∃xs x,SqT K H a xs/\xs[i]?=some x,fun i H x H'=>H'=H/\∀xs,SqT K H a xs->xs[i]?=some x,fun i H=>∃xs,SqT K H a xs/\xs.length<=i⟩
theorem W4{P:Program}{w:World}{K:Frag}{tg:Expr}(a it:Addr):Turn P w K tg (Itl K a) [it] it (fun i h=>h.IsListIter it a i) where
 mem:=by simp
 obj:=fun i h st b hb=>by
  have e:b=it:=by simpa using hb
  subst e;obtain⟨o,e,c,d⟩:=st;exact⟨o,e,fun v z=>by rw[d] at z;cases z⟩
 keep:=fun i h h' st k=>st.at fun o e=>k it (by simp) o e
 item:=by
  intro X hP hw hK hc i pins s σ H E I hf st hg;subst hP hw hK;obtain⟨xs,x,hq,hx⟩:=hg;obtain⟨its,rv,p,hz⟩:=I.list hq;obtain⟨u,hu,ru⟩:=rv.get hx;obtain⟨f0,f1,f2,f3,f4,f5⟩:=hf it (by simp);refine wpAny_pyNext_list_item st p.isList (x:=u) (by simpa using hu) fun h' st' sb=>?_
  have I1:Inv X pins σ H { s with heap:=h' }:=I.turned (t':=s.toks) (fun b o hb e=>(sb.2 b hb).trans e) f0 f1 f3 f4 f5;obtain⟨o,e,c,d⟩:=id st';exact⟨u,rfl,Zh (s:={ s with heap:=h' }) e c d (by decide) ⟨x,H,I1,ru,⟨rfl,fun ys hy=>by rw[I.list_inj hy hq];exact hx⟩,st',fun b hb=>(hf b hb).1⟩⟩
 done:=by intro X hP hw hK hc i pins s σ H E I hf st hg;subst hP hw hK;obtain⟨xs,hq,hx⟩:=hg;obtain⟨its,rv,p,hz⟩:=I.list hq;obtain⟨f0,f1,f2,f3,f4,f5⟩:=hf it (by simp);have hl:=rv.length;exact wpAny_pyNext_list_end (I.ok.hd hc) st p.isList (by simp;omega) fun h' eb=>⟨rfl,I.turned (t':=s.toks) (fun b o hb e=>eb b o hb e) f0 f1 f3 f4 f5⟩
 self:=fun _ _ _ _ _ st h=>wpAny_pyIter_listiter st h
theorem V9{P:Program}{w:World}{K:Frag}{tg:Expr}(a it:Addr):Turn P w K tg (Itt K a) [it] it (fun i h=>h.IsTupleIter it a i) where
 mem:=by simp
 obj:=fun i h st b hb=>by
  have e:b=it:=by simpa using hb
  subst e;obtain⟨o,e,c,d⟩:=st;exact⟨o,e,fun v z=>by rw[d] at z;cases z⟩
 keep:=fun i h h' st k=>st.at fun o e=>k it (by simp) o e
 item:=by
  intro X hP hw hK hc i pins s σ H E I hf st hg;subst hP hw hK;obtain⟨xs,x,hq,hx⟩:=hg;obtain⟨its,rv,p,hz⟩:=I.tuple hq;obtain⟨u,hu,ru⟩:=rv.get hx;obtain⟨f0,f1,f2,f3,f4,f5⟩:=hf it (by simp);refine wpAny_pyNext_tuple_item st (show s.heap.IsTuple a its.toArray from p) (x:=u) (by simpa using hu) fun h' st' sb=>?_
  have I1:Inv X pins σ H { s with heap:=h' }:=I.turned (t':=s.toks) (fun b o hb e=>(sb.2 b hb).trans e) f0 f1 f3 f4 f5;obtain⟨o,e,c,d⟩:=id st';exact⟨u,rfl,Zh (s:={ s with heap:=h' }) e c d (by decide) ⟨x,H,I1,ru,⟨rfl,fun ys hy=>by rw[I.tuple_inj hy hq];exact hx⟩,st',fun b hb=>(hf b hb).1⟩⟩
 done:=by intro X hP hw hK hc i pins s σ H E I hf st hg;subst hP hw hK;obtain⟨xs,hq,hx⟩:=hg;obtain⟨its,rv,p,hz⟩:=I.tuple hq;obtain⟨f0,f1,f2,f3,f4,f5⟩:=hf it (by simp);have hl:=rv.length;exact wpAny_pyNext_tuple_end (I.ok.hd hc) st (show s.heap.IsTuple a its.toArray from p) (by simp;omega) fun h' eb=>⟨rfl,I.turned (t':=s.toks) (fun b o hb e=>eb b o hb e) f0 f1 f3 f4 f5⟩
 self:=fun _ _ _ _ _ st h=>wpAny_pyIter_tupleiter st h
end L2

namespace L2
open PySem PySem.Spec PyProof.Rows
section
variable{X:Cx}{tg:Expr}
noncomputable def Jbt(K:Frag)(tl:TE):TI:=fun σ H R=>tl σ H fun x H1=>∃a,x=.ref a/\(∃xs,SqL K H1 a xs)/\R (Itl K a) H1
noncomputable def JdO(K:Frag)(tl:TE):TI:=fun σ H R=>tl σ H fun x H1=>∃a,x=.ref a/\(∃xs,SqT K H1 a xs)/\R (Itt K a) H1
theorem JaS{l:Expr}{tl:TE}(hl:PE X l tl):PI X tg l (Jbt X.K tl):=by
 intro pins s σ H R I h;refine thn (hl pins s σ H _ I h) fun v s1 ⟨x,H1,I1,r1,q1⟩=>?_
 obtain⟨a,e,⟨xs,hq⟩,q⟩:=q1;subst e;cases r1;obtain⟨its,rv,p,hz⟩:=I1.list hq;refine wpAny_pyIter_list p.isList ?_;refine⟨s1.heap.objs.size,[s1.heap.objs.size],_,_,H1,rfl,I1.kept (t':=s1.toks) fun b o e=>Heap.get?_push_of_some _ e,W4 a _,⟨_,Heap.get?_push_size _ rfl,rfl,rfl⟩,fun b hb=>?_,q⟩;have e:b=s1.heap.objs.size:=by simpa using hb
 subst e;exact I1.fpOk (Nat.le_refl _) (I1.hok.fresh (Nat.le_refl _))
theorem JcG{l:Expr}{tl:TE}(hl:PE X l tl):PI X tg l (JdO X.K tl):=by
 intro pins s σ H R I h;refine thn (hl pins s σ H _ I h) fun v s1 ⟨x,H1,I1,r1,q1⟩=>?_
 obtain⟨a,e,⟨xs,hq⟩,q⟩:=q1;subst e;cases r1;obtain⟨its,rv,p,hz⟩:=I1.tuple hq;refine wpAny_pyIter_tuple (show s1.heap.IsTuple a its.toArray from p) ?_;refine⟨s1.heap.objs.size,[s1.heap.objs.size],_,_,H1,rfl,I1.kept (t':=s1.toks) fun b o e=>Heap.get?_push_of_some _ e,V9 a _,⟨_,Heap.get?_push_size _ rfl,rfl,rfl⟩,fun b hb=>?_,q⟩;have e:b=s1.heap.objs.size:=by simpa using hb
 subst e;exact I1.fpOk (Nat.le_refl _) (I1.hok.fresh (Nat.le_refl _))
noncomputable def Jep(wi:TI)(g:TG)(tb:TS):TS:=fun D σ H=>wi σ H fun J H1=>∃W:Nat->Nat->St->Hp->Prop,(∃m,W 0 m σ H1)/\∀i m σ H,W i m σ H ->
 (J.stop i H/\D.nx σ H)\/(J.go i H/\∃N:St->Hp->Prop,(∀σ' H',N σ' H'->∃m',m'<m/\W (i+1) m' σ' H')/\∀x H',J.yld i H x H'->g x σ H' fun σ2 H2=>tb { D with nx:=N,ct:=N,bk:=D.nx } σ2 H2)
noncomputable def Ur(fp:List Addr)(h:Heap):List (Addr×Obj):=fp.filterMap fun b=>(h.get? b).map fun o=>(b,o)
theorem YE{fp:List Addr}{h:Heap}{b:Addr}{o:Obj}(hb:b∈fp)(e:h.get? b=some o):(b,o)∈Ur fp h:=List.mem_filterMap.mpr ⟨b,hb,by rw[e];rfl⟩
theorem WY{fp:List Addr}{h:Heap}{p:Addr×Obj}(hp:p∈Ur fp h):p.1∈fp/\h.get? p.1=some p.2:=by
 obtain⟨b,hb,e⟩:=List.mem_filterMap.mp hp
 cases q:h.get? b with
 | none=>rw[q] at e;cases e
 | some o=>rw[q] at e;have e':(b,o)=p:=Option.some.inj e;subst e';exact⟨hb,q⟩
theorem Inv.pinned{pins:List (Addr×Obj)}{σ:St}{H:Hp}{s:Shared}{fp:List Addr}(I:Inv X pins σ H s)(hf:∀b∈fp,FpOk X pins H b)(ho:∀b∈fp,∃o,s.heap.get? b=some o/\∀v,o.data≠.cell v):Inv X (pins++Ur fp s.heap) σ H s :=
 I.pins_of fun p hp=>(List.mem_append.mp hp).elim (fun z=>I.pin p (List.mem_append_right _ z)) fun z=>by obtain⟨hb,e⟩:=WY z;obtain⟨f0,f1,f2,_⟩:=hf p.1 hb;obtain⟨o,e',d⟩:=ho p.1 hb;rw[e] at e';cases e';exact⟨e,f0,f1,f2,d⟩
theorem Inv.unpinned{pins pl:List (Addr×Obj)}{σ:St}{H:Hp}{s:Shared}(I:Inv X (pins++pl) σ H s):Inv X pins σ H s:=I.pins_of fun p hp=>I.pin p (List.mem_append_right _ (List.mem_append_left _ hp))
theorem V3{iter:Expr}{body:List Stmt}{wi:TI}{g:TG}{tb:TS}{pos:Pos}(hp:PassesOwn (model X.prog X.w) X.A X.env X.xe)(hc:X.calm=true)(hi:PI X tg iter wi)(hg:PG X tg g)(hb:PSs X body tb)
 (hs:∀x,foldedSetIterable iter X.env x=pure x:=by intro _;rfl):PS X (.For tg iter body [] pos) (Jep wi g tb):=by
 intro pins s σ H D I h;refine wpAny_For (thn (hi pins s σ H _ I h) fun v s1 h1=>thn h1 fun itv s2 h2=>?_) hs;obtain⟨it,fp,tn,J,H2,e,I2,T,st2,f2,W,⟨m0,w0⟩,Z7⟩:=h2;subst e
 -- what stays true of the iterator's objects through the loop
 have stat:∀{H':Hp},(∀b∈fp,H' b=none)->∀b∈fp,FpOk X pins H' b:=fun hn b hb=>⟨hn b hb,(f2 b hb).2⟩
 refine codeAny_forLoop_any (fun n s'=>∃i σ' H',Inv X pins σ' H' s'/\tn i s'.heap/\(∀b∈fp,H' b=none)/\W i n σ' H') ?_ m0 ⟨0,σ,H2,I2,st2,fun b hb=>(f2 b hb).1,w0⟩;rintro n s3 ⟨i,σ3,H3,I3,st3,fr3,w3⟩;rcases Z7 i n σ3 H3 w3 with ⟨stop,qn⟩|⟨go,N,hN,step⟩
 ·refine wpAny_passesOwn hp (thn (T.done X rfl rfl rfl hc i pins s3 σ3 H3 X.xe I3 (stat fr3) st3 stop) fun r s4 ⟨hr,I4⟩=>?_);subst hr;exact wpAny_execs_nil ⟨σ3,H3,I4,qn⟩
 ·refine wpAny_passesOwn hp (thn (T.item X rfl rfl rfl hc i pins s3 σ3 H3 X.xe I3 (stat fr3) st3 go) fun r s4 ⟨u,hr,h4⟩=>?_);subst hr;refine wpAny_passesOwn hp (thn h4 fun _ s5 ⟨x,H5,I5,r5,y5,st5,fr5⟩=>?_);have I5':=I5.pinned (stat fr5) (T.obj _ _ st5);refine wpAny_passesOwn hp (thn (hg _ s5 σ3 H5 x u _ I5' r5 (step x H5 y5)) fun _ s6 ⟨σ6,H6,I6,q6⟩=>?_);refine wpAny_passesOwn hp (thn (hb _ s6 σ6 H6 _ I6 q6) fun f s7 q7=>?_)
  have again:∀{σ7:St} {H7:Hp},Inv X (pins++Ur fp s5.heap) σ7 H7 s7->N σ7 H7->∃m,m<n/\∃i σ' H',Inv X pins σ' H' s7/\tn i s7.heap/\(∀b∈fp,H' b=none)/\W i m σ' H':=fun {σ7 H7} I7 n7=>by obtain⟨m',hm,w7⟩:=hN σ7 H7 n7;refine⟨m',hm,i+1,σ7,H7,I7.unpinned,T.keep _ _ _ st5 fun b hb o e=>(I7.pin (b,o) (List.mem_append_right _ (List.mem_append_right _ (YE hb e)))).1,fun b hb=>?_,w7⟩;obtain⟨o,e,d⟩:=T.obj _ _ st5 b hb;exact(I7.pin (b,o) (List.mem_append_right _ (List.mem_append_right _ (YE hb e)))).2.1
  cases f with
  | next=>obtain⟨σ7,H7,I7,n7⟩:=q7;exact again I7 n7
  | cont=>obtain⟨σ7,H7,I7,n7⟩:=q7;exact again I7 n7
  | brk=>obtain⟨σ7,H7,I7,q7⟩:=q7;exact⟨σ7,H7,I7.unpinned,q7⟩
  | ret v=>obtain⟨x7,σ7,H7,I7,r7,q7⟩:=q7;exact⟨x7,σ7,H7,I7.unpinned,r7,q7⟩
end

end L2

namespace L2
open PySem PySem.Spec PyProof.Rows

noncomputable abbrev R2:=V->V->Hp->VK->Prop
noncomputable def OpR(X:Cx)(f:Value->Value->Sem Value)(r:R2):Prop :=
 ∀(pins:List (Addr×Obj)) (s:Shared) (σ:St) (H:Hp) (x y:V) (v u:Value) (Q:VK),Inv X pins σ H s->RelV x v->RelV y u->r x y H Q ->
  wpAny (model X.prog X.w) X.A (f v u) (EP X pins σ Q) X.xe s
noncomputable def UnR(X:Cx)(f:Value->Sem Value)(r:V->Hp->VK->Prop):Prop :=
 ∀(pins:List (Addr×Obj)) (s:Shared) (σ:St) (H:Hp) (x:V) (v:Value) (Q:VK),Inv X pins σ H s->RelV x v->r x H Q ->
  wpAny (model X.prog X.w) X.A (f v) (EP X pins σ Q) X.xe s
noncomputable def CallR(X:Cx)(f:Value)(r:List V->Hp->VK->Prop):Prop :=
 ∀(pins:List (Addr×Obj)) (s:Shared) (σ:St) (H:Hp) (xs:List V) (us:List Value) (Q:VK),Inv X pins σ H s->Vals xs us->r xs H Q ->
  wpAny (model X.prog X.w) X.A (call f us) (EP X pins σ Q) X.xe s
noncomputable def Jeu(X:Cx)(r:V->Hp->(Bool->Hp->Prop)->Prop):Prop :=
 ∀(pins:List (Addr×Obj)) (s:Shared) (σ:St) (H:Hp) (x:V) (v:Value) (Q:Bool->Hp->Prop),Inv X pins σ H s->RelV x v->r x H Q ->
  wpAny (model X.prog X.w) X.A (truthy v) (TP X pins σ Q) X.xe s

noncomputable def tOp(r:R2)(ta tb:TE):TE:=fun σ H Q=>ta σ H fun x H1=>tb σ H1 fun y H2=>r x y H2 Q
noncomputable def tUn(r:V->Hp->VK->Prop)(ta:TE):TE:=fun σ H Q=>ta σ H fun x H1=>r x H1 Q
noncomputable def rI(C:Int->Int->Prop)(g:Int->Int->V):R2:=fun x y H Q=>∃i j,x=.int i/\y=.int j/\C i j/\Q (g i j) H
noncomputable def rI0(g:Int->Int->V):R2:=fun x y H Q=>∃i j,x=.int i/\y=.int j/\Q (g i j) H
noncomputable def rU(g:Int->V):V->Hp->VK->Prop:=fun x H Q=>∃i,x=.int i/\Q (g i) H

section
variable{X:Cx}{a b c:Expr}{ta tb tc:TE}{pos:Pos}

theorem JbM(ha:PE X a ta)(hb:PE X b tb){pins:List (Addr×Obj)}{s:Shared}{σ:St}{H:Hp}{R:V->V->Hp->Prop}(I:Inv X pins σ H s)
 (h:ta σ H fun x H1=>tb σ H1 fun y H2=>R x y H2) {Q:Value->Shared->Prop} {f:Value->Value->Sem Value}
 (hf:∀v u s2 x y H2,Inv X pins σ H2 s2->RelV x v->RelV y u->R x y H2->wpAny (model X.prog X.w) X.A (f v u) Q X.xe s2) :
 wpAny (model X.prog X.w) X.A (eval a X.env) (fun v s₁=>wpAny (model X.prog X.w) X.A (eval b X.env) (fun u s₂=>wpAny (model X.prog X.w) X.A (f v u) Q X.xe s₂) X.xe s₁) X.xe s:=by
 refine thn (ha pins s σ H _ I h) fun v s1 ⟨x,H1,I1,r1,q1⟩=>?_
 refine thn (hb pins s1 σ H1 _ I1 q1) fun u s2 ⟨y,H2,I2,r2,q2⟩=>?_
 exact hf v u s2 x y H2 I2 r1 r2 q2

theorem Jt{op:Operator}{r:R2}(ho:OpR X (binaryOp op) r)(ha:PE X a ta)(hb:PE X b tb):PE X (.BinOp a op b pos) (tOp r ta tb):=by intro pins s σ H Q I h;exact wpAny_BinOp (JbM ha hb I h fun v u s2 x y H2 I2 rx ry q=>ho pins s2 σ H2 x y v u Q I2 rx ry q)
theorem JdZ{op:UnaryOp}{r:V->Hp->VK->Prop}(ho:UnR X (unaryOp op) r)(ha:PE X a ta):PE X (.UnaryOp op a pos) (tUn r ta):=by intro pins s σ H Q I h;exact UnaryOp_ (thn (ha pins s σ H _ I h) fun v s1 ⟨x,H1,I1,r1,q1⟩=>ho pins s1 σ H1 x v Q I1 r1 q1)
theorem opI{f:Value->Value->Sem Value}{C:Int->Int->Prop}{g:Int->Int->Int}
 (rule:∀(i j:Int) (t u:Tok) (s:Shared) (Q:Value->Shared->Prop) (E:Value->Shared->Prop),C i j->Q (.int (g i j) s.toks) { s with toks:=s.toks+1 }->wpAny (model X.prog X.w) X.A (f (.int i t) (.int j u)) Q E s) :
 OpR X f (rI C fun i j=>.int (g i j)):=by
 intro pins s σ H x y v u Q I rx ry h;obtain⟨i,j,rfl,rfl,hc,q⟩:=h;obtain⟨t,rfl⟩:=rx;obtain⟨t',rfl⟩:=ry;exact rule i j t t' s _ _ hc ⟨.int (g i j),H,I.tok _,⟨_,rfl⟩,q⟩
theorem JeG{f:Value->Value->Sem Value}{g:Int->Int->Int}
 (rule:∀(i j:Int) (t u:Tok) (s:Shared) (Q:Value->Shared->Prop) (E:Value->Shared->Prop),Q (.int (g i j) s.toks) { s with toks:=s.toks+1 }->wpAny (model X.prog X.w) X.A (f (.int i t) (.int j u)) Q E s) :
 OpR X f (rI0 fun i j=>.int (g i j)):=by
 intro pins s σ H x y v u Q I rx ry h;obtain⟨i,j,rfl,rfl,q⟩:=h;obtain⟨t,rfl⟩:=rx;obtain⟨t',rfl⟩:=ry;exact rule i j t t' s _ _ ⟨.int (g i j),H,I.tok _,⟨_,rfl⟩,q⟩
theorem JeF{f:Value->Value->Sem Value}{g:Int->Int->Bool}
 (rule:∀(i j:Int) (t u:Tok) (s:Shared) (Q:Value->Shared->Prop) (E:Value->Shared->Prop),Q (.bool (g i j)) s->wpAny (model X.prog X.w) X.A (f (.int i t) (.int j u)) Q E s) :
 OpR X f (rI0 fun i j=>.bl (g i j)):=by
 intro pins s σ H x y v u Q I rx ry h;obtain⟨i,j,rfl,rfl,q⟩:=h;obtain⟨t,rfl⟩:=rx;obtain⟨t',rfl⟩:=ry;exact rule i j t t' s _ _ ⟨.bl (g i j),H,I,rfl,q⟩

noncomputable def Jdz(i j:Int):Prop:=0<j/\j<1073741824
noncomputable def JdA(i j:Int):Prop:=0<=j/\j<=1000000/\i.natAbs<2 ^ 64
noncomputable def CMul(i j:Int):Prop:=(-(2 ^ 64)<i/\i<2 ^ 64)\/(-(2 ^ 64)<j/\j<2 ^ 64)
theorem CMul.ok{i j:Int}(h:CMul i j):IntMulOk i j:=by
 rcases h with ⟨h1,h2⟩|⟨h1,h2⟩
 ·exact .of_left (intBits_le_64 h1 h2)
 ·exact .of_right (intBits_le_64 h1 h2)
theorem op_add:OpR X (binaryOp .Add) (rI0 fun i j=>.int (i+j)):=JeG fun _ _ _ _ _ _ _ q=>add_int q
theorem YN:OpR X (binaryOp .FloorDiv) (rI Jdz fun i j=>.int (i / j)):=opI fun i j _ _ _ _ _ hc q=>by
 have h1:(0:Int)<j:=hc.1
 have h2:j<1073741824:=hc.2;exact floordiv_int (by omega) (by rw[Int.fdiv_eq_ediv_of_nonneg i (by omega)];exact q) (.inl (PyProof.noPylong_small (by omega)))
theorem Yr:OpR X (binaryOp .Mod) (rI (fun _ j=>0<j) fun i j=>.int (i % j)):=opI fun i j _ _ _ _ _ hc q=>by have h1:(0:Int)<j:=hc;exact mod_int' (by omega) (by rw[Int.fmod_eq_emod_of_nonneg i (by omega)];exact q)
theorem V1:OpR X (binaryOp .Pow) (rI JdA fun i j=>.int (i ^ j.toNat)):=opI fun _ _ _ _ _ _ _ hc q=>pow_int_small hc.1 hc.2.1 hc.2.2 q
theorem unI{f:Value->Sem Value}{g:Int->Int}
 (rule:∀(i:Int) (t:Tok) (s:Shared) (Q:Value->Shared->Prop) (E:Value->Shared->Prop),Q (.int (g i) s.toks) { s with toks:=s.toks+1 }->wpAny (model X.prog X.w) X.A (f (.int i t)) Q E s) :
 UnR X f (rU fun i=>.int (g i)):=by
 intro pins s σ H x v Q I rx h;obtain⟨i,rfl,q⟩:=h;obtain⟨t,rfl⟩:=rx;exact rule i t s _ _ ⟨.int (g i),H,I.tok _,⟨_,rfl⟩,q⟩
theorem Jdy:UnR X (unaryOp .USub) (rU fun i=>.int (-i)):=unI fun _ _ _ _ _ q=>neg_int q
end

noncomputable def Jdj:V->V->Bool
 | .non,.non=>true|.non,.int _=>true|.int _,.non=>true|.non,.bl _=>true|.bl _,.non=>true|.non,.str _=>true|.str _,.non=>true
 | .int _,.int _=>true|.bl _,.bl _=>true|.str _,.str _=>true|.byt _,.byt _=>true
 | .int _,.str _=>true|.str _,.int _=>true|.bl _,.str _=>true|.str _,.bl _=>true
 | _,_=>false
noncomputable def rEq:R2:=fun x y H Q=>Jdj x y=true/\Q (.bl (decide (x=y))) H
noncomputable def rNe:R2:=fun x y H Q=>Jdj x y=true/\Q (.bl (!decide (x=y))) H

theorem Wh{i j:Int}:decide (V.int i=V.int j)=(i == j):=by rw[Bool.eq_iff_iff];simp
theorem Zc{i j:Bool}:decide (V.bl i=V.bl j)=(i == j):=by rw[Bool.eq_iff_iff];simp
theorem Wi{i j:Str}:decide (V.str i=V.str j)=(i == j):=by rw[Bool.eq_iff_iff];simp
theorem Wg{i j:Array UInt8}:decide (V.byt i=V.byt j)=(i.toList == j.toList):=by rw[Bool.eq_iff_iff];cases i;cases j;simp

section
variable{X:Cx}{a b c:Expr}{ta tb tc:TE}{pos:Pos}
theorem Jk{pins:List (Addr×Obj)}{σ:St}{H:Hp}{s:Shared}{Q:VK}{k k':Bool}(I:Inv X pins σ H s)(q:Q (.bl k) H)(e:k=k'):EP X pins σ Q (.bool k') s:=by subst e;exact⟨.bl k,H,I,rfl,q⟩
theorem op_eq:OpR X (compareOp .Eq) rEq:=by
 intro pins s σ H x y v u Q I rx ry h;obtain⟨hs,q⟩:=h
 cases x with
 | non =>
  cases rx
  cases y with
  | non=>cases ry;exact PySem.EqNone.eq_none_none (Jk I q (by simp))
  | bl j=>cases ry;exact PySem.EqNone.eq_none_bool (Jk I q (by simp))
  | int j=>obtain⟨t',rfl⟩:=ry;exact PySem.EqNone.eq_none_int (Jk I q (by simp))
  | str j=>obtain⟨t',rfl⟩:=ry;exact PySem.EqNone.eq_none_str (Jk I q (by simp))
  | _=>exact absurd (show false=true from hs) Bool.false_ne_true
 | bl i =>
  cases rx
  cases y with
  | non=>cases ry;exact PySem.EqNone.eq_bool_none (Jk I q (by simp))
  | bl j=>cases ry;exact eq_bool (Jk I q Zc)
  | str j=>obtain⟨t',rfl⟩:=ry;exact PySem.EqMixed.eq_bool_str (Jk I q (by simp))
  | _=>exact absurd (show false=true from hs) Bool.false_ne_true
 | int i =>
  obtain⟨t,rfl⟩:=rx
  cases y with
  | non=>cases ry;exact PySem.EqNone.eq_int_none (Jk I q (by simp))
  | int j=>obtain⟨t',rfl⟩:=ry;exact eq_int (Jk I q Wh)
  | str j=>obtain⟨t',rfl⟩:=ry;exact PySem.EqMixed.eq_int_str (Jk I q (by simp))
  | _=>exact absurd (show false=true from hs) Bool.false_ne_true
 | str i =>
  obtain⟨t,rfl⟩:=rx
  cases y with
  | non=>cases ry;exact PySem.EqNone.eq_str_none (Jk I q (by simp))
  | bl j=>cases ry;exact PySem.EqMixed.eq_str_bool (Jk I q (by simp))
  | int j=>obtain⟨t',rfl⟩:=ry;exact PySem.EqMixed.eq_str_int (Jk I q (by simp))
  | str j=>obtain⟨t',rfl⟩:=ry;exact eq_str (Jk I q Wi)
  | _=>exact absurd (show false=true from hs) Bool.false_ne_true
 | byt i =>
  obtain⟨t,rfl⟩:=rx
  cases y with
  | byt j=>obtain⟨t',rfl⟩:=ry;exact PySem.W.eq_bytes (Jk I q Wg)
  | _=>exact absurd (show false=true from hs) Bool.false_ne_true
 | _=>cases y <;> exact absurd (show false=true from hs) Bool.false_ne_true
theorem op_ne:OpR X (compareOp .NotEq) rNe:=by
 intro pins s σ H x y v u Q I rx ry h;obtain⟨hs,q⟩:=h
 cases x with
 | non =>
  cases rx
  cases y with
  | non=>cases ry;exact PySem.EqNone.ne_none_none (Jk I q (by simp))
  | bl j=>cases ry;exact PySem.EqNone.ne_none_bool (Jk I q (by simp))
  | int j=>obtain⟨t',rfl⟩:=ry;exact PySem.EqNone.ne_none_int (Jk I q (by simp))
  | str j=>obtain⟨t',rfl⟩:=ry;exact PySem.EqNone.ne_none_str (Jk I q (by simp))
  | _=>exact absurd (show false=true from hs) Bool.false_ne_true
 | bl i =>
  cases rx
  cases y with
  | non=>cases ry;exact PySem.EqNone.ne_bool_none (Jk I q (by simp))
  | bl j=>cases ry;exact ne_bool (Jk I q (congrArg not Zc))
  | str j=>obtain⟨t',rfl⟩:=ry;exact PySem.EqMixed.ne_bool_str (Jk I q (by simp))
  | _=>exact absurd (show false=true from hs) Bool.false_ne_true
 | int i =>
  obtain⟨t,rfl⟩:=rx
  cases y with
  | non=>cases ry;exact PySem.EqNone.ne_int_none (Jk I q (by simp))
  | int j=>obtain⟨t',rfl⟩:=ry;exact ne_int (Jk I q (congrArg not Wh))
  | str j=>obtain⟨t',rfl⟩:=ry;exact PySem.EqMixed.ne_int_str (Jk I q (by simp))
  | _=>exact absurd (show false=true from hs) Bool.false_ne_true
 | str i =>
  obtain⟨t,rfl⟩:=rx
  cases y with
  | non=>cases ry;exact PySem.EqNone.ne_str_none (Jk I q (by simp))
  | bl j=>cases ry;exact PySem.EqMixed.ne_str_bool (Jk I q (by simp))
  | int j=>obtain⟨t',rfl⟩:=ry;exact PySem.EqMixed.ne_str_int (Jk I q (by simp))
  | str j=>obtain⟨t',rfl⟩:=ry;exact ne_str (Jk I q (congrArg not Wi))
  | _=>exact absurd (show false=true from hs) Bool.false_ne_true
 | byt i =>
  obtain⟨t,rfl⟩:=rx
  cases y with
  | byt j=>obtain⟨t',rfl⟩:=ry;exact PySem.W.ne_bytes (Jk I q (congrArg not Wg))
  | _=>exact absurd (show false=true from hs) Bool.false_ne_true
 | _=>cases y <;> exact absurd (show false=true from hs) Bool.false_ne_true

theorem Jbw:OpR X (compareOp .Gt) (rI0 fun i j=>.bl (decide (j<i))):=JeF fun _ _ _ _ _ _ _ q=>gt_int q
theorem WZ:OpR X (compareOp .In) (fun x y H Q=>∃i j,x=.str i/\y=.str j/\Q (.bl (!(Builtin.Str.occurrences j i 0 j.length 1).isEmpty)) H):=by intro pins s σ H x y v u Q I rx ry h;obtain⟨i,j,rfl,rfl,q⟩:=h;obtain⟨t,rfl⟩:=rx;obtain⟨t',rfl⟩:=ry;exact in_str (Jk I q rfl)

theorem JcA:OpR X (compareOp .Is) (fun x y H Q=>y=.non/\Q (.bl (decide (x=.non))) H):=by
 intro pins s σ H x y v u Q I rx ry h;obtain⟨rfl,q⟩:=h;cases ry;refine is_none_gen (Jk I q ?_);cases x <;> first
  | (cases rx;rfl)
  | (obtain⟨t,rfl⟩:=rx;rfl)
theorem U3:OpR X (compareOp .NotIn) (fun x y H Q=>∃i j,x=.str i/\y=.str j/\Q (.bl (!(!(Builtin.Str.occurrences j i 0 j.length 1).isEmpty))) H):=by intro pins s σ H x y v u Q I rx ry h;obtain⟨i,j,rfl,rfl,q⟩:=h;obtain⟨t,rfl⟩:=rx;obtain⟨t',rfl⟩:=ry;exact notIn_str (Jk I q rfl)
theorem OpR.or{f:Value->Value->Sem Value}{r r':R2}(h:OpR X f r)(h':OpR X f r'):OpR X f (fun x y H Q=>r x y H Q\/r' x y H Q):=by
 intro pins s σ H x y v u Q I rx ry q;rcases q with q|q
 ·exact h pins s σ H x y v u Q I rx ry q
 ·exact h' pins s σ H x y v u Q I rx ry q

theorem JT(b:Expr){op:CmpOp}(h:op≠.In:=by decide)(h2:op≠.NotIn:=by decide):behindInMarks op b=false:=by
 have e1:(op == CmpOp.In)=false:=by cases op <;> first|rfl|exact absurd rfl h
 have e2:(op == CmpOp.NotIn)=false:=by cases op <;> first|rfl|exact absurd rfl h2
 cases b <;> simp[behindInMarks,e1,e2]
theorem U5{op:CmpOp}{r:R2}(ho:OpR X (compareOp op) r)(ha:PE X a ta)(hb:PE X b tb)(hm:behindInMarks op b=false):PE X (.Compare a [op] [b] pos) (tOp r ta tb):=by intro pins s σ H Q I h;exact wpAny_Compare1 (JbM ha hb I h fun v u s2 x y H2 I2 rx ry q=>ho pins s2 σ H2 x y v u Q I2 rx ry q) hm
noncomputable def Z5(t:TE):TT:=fun σ H Q=>t σ H fun x H'=>∃k,x=.bl k/\Q k H'
theorem JF{op:CmpOp}{r:R2}(ho:OpR X (compareOp op) r)(ha:PE X a ta)(hb:PE X b tb)(hm:behindInMarks op b=false):PT X (.Compare a [op] [b] pos) (Z5 (tOp r ta tb)):=by
 intro pins s σ H Q I h;refine wpAny_isTrue_Compare1 (thn (ha pins s σ H _ I h) fun v s1 ⟨x,H1,I1,r1,q1⟩=>thn (hb pins s1 σ H1 _ I1 q1) fun u s2 ⟨y,H2,I2,r2,q2⟩=>thn (ho pins s2 σ H2 x y v u _ I2 r1 r2 q2) fun c s3 ⟨z,H3,I3,r3,k,e,q3⟩=>?_) hm
 subst e;cases r3;exact wpAny_truthy_bool ⟨H3,I3,q3⟩
noncomputable def Jdn(r r':R2)(ta tb tc:TE):TE:=fun σ H Q=>ta σ H fun x H1=>tb σ H1 fun y H2=>r x y H2 fun z H3=>∃k,z=.bl k ∧
 (if k=true then tc σ H3 fun w' H4=>r' y w' H4 Q else Q (.bl false) H3)
noncomputable def WD(K:Frag)(x:V)(H:Hp)(k:Bool):Prop :=
 match x with
 | .non=>k=false
 | .bl b=>k=b
 | .int i=>k=(i != 0)
 | .str y=>y.length<=sizeLine/\k=((y.length:Int) != 0)
 | .byt y=>y.size<=sizeLine/\k=((y.size:Int) != 0)
 | .ref p=>(∃xs,SqL K H p xs/\k=!xs.isEmpty)\/(∃xs,SqT K H p xs/\k=!xs.isEmpty)\/∃kvs,H p=some (.dK kvs)/\k=!kvs.isEmpty
 | _=>False
theorem VX{κ:Type}{kvs:List (κ×V)}{vs:List (κ×Value)}(r:KV kvs vs):(!vs.isEmpty)=!kvs.isEmpty:=by cases r <;> rfl
theorem Ui{xs:List V}{its:List Value}(r:Vals xs its):(!its.toArray.isEmpty)=!xs.isEmpty:=by cases r <;> simp
theorem Ul:(sizeLine:Nat)<2 ^ 63:=by rw[sizeLine_eq];decide
theorem Jdv:Jeu X (fun x H Q=>∃k,WD X.K x H k/\Q k H):=by
 intro pins s σ H x v Q I rx h;obtain⟨k,e,q⟩:=h;have hl:=Ul;have hs:sizeLine=16777216:=sizeLine_eq
 cases x with
 | non=>cases rx;have e':k=false:=e;subst e';exact truthy_none ⟨H,I,q⟩
 | bl b=>cases rx;have e':k=b:=e;subst e';exact wpAny_truthy_bool ⟨H,I,q⟩
 | int i=>obtain⟨t,rfl⟩:=rx;have e':k=(i != 0):=e;subst e';exact PySem.P.truthy_int ⟨H,I,q⟩
 | str y=>obtain⟨t,rfl⟩:=rx;obtain⟨hy,e'⟩:y.length<=sizeLine/\k=((y.length:Int) != 0):=e;subst e';exact PySem.P.truthy_str (by omega) ⟨H,I.tok _,q⟩
 | byt y=>obtain⟨t,rfl⟩:=rx;obtain⟨hy,e'⟩:y.size<=sizeLine/\k=((y.size:Int) != 0):=e;subst e';exact PySem.W.truthy_bytes (by omega) ⟨H,I.tok _,q⟩
 | ref p =>
  cases rx;have e':(∃xs,SqL X.K H p xs/\k=!xs.isEmpty)\/(∃xs,SqT X.K H p xs/\k=!xs.isEmpty)\/∃kvs,H p=some (.dK kvs)/\k=!kvs.isEmpty:=e
  rcases e' with ⟨xs,hx,e'⟩|⟨xs,hx,e'⟩|⟨kvs,hx,e'⟩
  ·subst e';obtain⟨its,r,pl,hz⟩:=I.list hx;have hlen:=r.length;exact wpAny_truthy_list pl.isList (by simp only[List.size_toArray];omega) ⟨H,I.tok _,by rw[Ui r];exact q⟩
  ·subst e';obtain⟨its,r,pl,hz⟩:=I.tuple hx;have hlen:=r.length;exact truthy_tuple pl (by simp only[List.size_toArray];omega) ⟨H,I.tok _,by rw[Ui r];exact q⟩
  ·subst e';obtain⟨hz,hS,vs,r,m⟩:kvs.length<=sizeLine/\(p == sysModules)=false/\∃vs,KV kvs vs/\s.heap.DictOf (U1 X.prog X.w) p vs:=I.hok p _ hx
   have hlen:kvs.length=vs.length:=Paired.length r;exact wpAny_truthy_dict hS m (by omega) ⟨H,I.tok _,by rw[VX r];exact q⟩
 | _=>exact(show False from e).elim
theorem ZJ(ha:PE X a ta)(he:∀whole,isTrue a X.env whole=(do let v <- whole;standAt a.pos;holding [v] (truthy v))) :
 PT X a (fun σ H Q=>ta σ H fun x H'=>∃k,WD X.K x H' k/\Q k H'):=by
 intro pins s σ H Q I h;exact isTrue_plain (thn (ha pins s σ H _ I h) fun v s1 ⟨x,H1,I1,r1,q1⟩=>Jdv pins s1 σ H1 x v Q I1 r1 q1) (he _)

theorem op_add_str:OpR X (binaryOp .Add) (fun x y H Q=>∃i j,x=.str i/\y=.str j/\i.length+j.length<=sizeLine/\Q (.str (i++j)) H):=by intro pins s σ H x y v u Q I rx ry h;obtain⟨i,j,rfl,rfl,hz,q⟩:=h;obtain⟨t,rfl⟩:=rx;obtain⟨t',rfl⟩:=ry;exact add_str (fun t' tk=>⟨.str (i++j),H,I.tok _,⟨_,rfl⟩,q⟩) hz
theorem WC{x:V}{us:List Value}(r:Vals [x] us):∃u,us=[u]/\RelV x u:=by
 cases r with
 | cons r1 r2=>cases r2;exact⟨_,rfl,r1⟩
theorem Jes{x y:V}{us:List Value}(r:Vals [x,y] us):∃u w',us=[u,w']/\RelV x u/\RelV y w':=by
 cases r with
 | cons r1 r2 =>
  cases r2 with
  | cons r3 r4=>cases r4;exact⟨_,_,rfl,r1,r3⟩
theorem UT:CallR X (.type "str") (fun xs H Q=>∃i,xs=[.int i]/\i.natAbs.log2<1920/\Q (.str (toString i)) H):=by intro pins s σ H xs us Q I r h;obtain⟨i,rfl,hz,q⟩:=h;obtain⟨u,rfl,t,rfl⟩:=WC r;exact PySem.P.str_of_int hz ⟨.str _,H,I.tok _,⟨_,rfl⟩,q⟩
noncomputable def JdC(K:Frag)(x:V)(H:Hp)(n:Nat):Prop :=
 match x with
 | .str y=>y.length<=sizeLine/\n=y.length
 | .byt y=>y.size<=sizeLine/\n=y.size
 | .ref p=>(∃xs,SqL K H p xs/\n=xs.length)\/∃xs,SqT K H p xs/\n=xs.length
 | _=>False
theorem W9:CallR X (.builtin "len") (fun xs H Q=>∃x n,xs=[x]/\JdC X.K x H n/\Q (.int n) H):=by
 intro pins s σ H xs us Q I r h;obtain⟨x,n,rfl,e,q⟩:=h;obtain⟨u,rfl,rx⟩:=WC r;have hl:=Ul;have hs:sizeLine=16777216:=sizeLine_eq
 cases x with
 | str y=>obtain⟨t,rfl⟩:=rx;obtain⟨hy,e'⟩:y.length<=sizeLine/\n=y.length:=e;subst e';exact len_str (by omega) ⟨.int _,H,I.tok _,⟨_,rfl⟩,q⟩
 | byt y=>obtain⟨t,rfl⟩:=rx;obtain⟨hy,e'⟩:y.size<=sizeLine/\n=y.size:=e;subst e';exact PySem.W.len_bytes (by omega) ⟨.int _,H,I.tok _,⟨_,rfl⟩,q⟩
 | ref p =>
  cases rx;have e':(∃xs,SqL X.K H p xs/\n=xs.length)\/∃xs,SqT X.K H p xs/\n=xs.length:=e
  rcases e' with ⟨xs,hx,e'⟩|⟨xs,hx,e'⟩
  ·subst e';obtain⟨its,r',pl,hz⟩:=I.list hx;have hlen:=r'.length;exact Calls.call_len_list pl.isList (by simp only[List.size_toArray];omega) ⟨.int xs.length,H,I.tok _,⟨_,by simp only[List.size_toArray];rw[hlen]⟩,q⟩
  ·subst e';obtain⟨its,r',pl,hz⟩:=I.tuple hx;have hlen:=r'.length;exact len_tuple pl (by simp only[List.size_toArray];omega) ⟨.int xs.length,H,I.tok _,⟨_,by simp only[List.size_toArray];rw[hlen]⟩,q⟩
 | _=>exact(show False from e).elim
end
end L2

namespace L2
open PySem PySem.Spec PyProof.Rows

structure ObjM (h:Heap) (x dx C:Addr) (mA:Str->Option Value):Prop where
 obj:h.get? x=some (instObj C dx)
 ns:h.Ns1 dx mA
 ne:dx≠x

theorem WV{h:Heap}{dx:Addr}{mA:Str->Option Value}(n:h.Ns1 dx mA):∃od,h.get? dx=some od/\∀name,lookIn name od=some (mA name):=by
 obtain⟨o,es,ep,ho,hd,hk,_,hm⟩:=n;refine⟨o,ho,fun name=>?_⟩;have e:=hm name;unfold nsFind findBy at e;rw[<- Array.find?_toList] at e;unfold lookIn;rw[hd];dsimp only;split
 ·rename_i y q;rw[q] at e;exact congrArg some e
 ·rename_i q;rw[q] at e
  have a:es.toList.any (·.refKey)=false:=by rw[List.any_eq_false];intro y hy;obtain⟨z,t,hkey⟩:=hk y (Array.mem_toList_iff.mp hy);simp[DictEntry.refKey,hkey]
  have a':¬es.toList.any (·.refKey)=true:=by rw[a];exact Bool.false_ne_true
  rw[if_neg a'];exact congrArg some e

theorem ObjM.look{h:Heap}{x dx C:Addr}{mA:Str->Option Value}(I:ObjM h x dx C mA):∃od,PySem.W.InstAt h x (instObj C dx) C (some od)/\∀name,lookIn name od=some (mA name) :=
 let ⟨od,ho,hl⟩:=WV I.ns
 ⟨od,⟨I.obj,rfl,rfl,ho⟩,hl⟩

section
variable{prog:Program}{w:World}{A:Around}{E:Value->Shared->Prop}{s:Shared}{K:Frag}{x dx C f:Addr}{mA:Str->Option Value}{name:Str}{v:Value}

end

noncomputable def JcI(f:Str)(v:V):List (Str×V)->List (Str×V)
 | []=>[(f,v)]
 | (g,x)::r=>if g=f then(g,v)::r else(g,x)::JcI f v r
section
variable{P:Program}{w:World}{H H':Hp}{h h':Heap}{a C dx:Addr}{fs fs':List (Str×V)}
theorem JaD(hok:HOk P w H h)(e:H a=some (.ins C dx fs)):∃mA,ObjM h a dx C mA/\(∀f,RelO (fs.lookup f) (mA f))/\PySem.Within mA (fs.map (·.1))/\fs.length<=1000/\H dx=some (.own a):=by
 obtain⟨d,z,ne,ob,mA,n,r,q⟩:=(show ObjOk P w H h a (.ins C dx fs) from hok a _ e)
 exact⟨mA,⟨ob,n,ne⟩,r,q,z,d⟩
end

structure Cls (K:Frag) (C:Addr):Prop where
 pg:PySem.W.plainGet K C Str.empty=true
 hd:hasDictIn K C=true
 po:PySem.W.plainOver K C=true
 sa:findIn K (.ref C) "__setattr__"=some (some (.builtin "object.__setattr__"))
theorem Cls.get{K:Frag}{C:Addr}(c:Cls K C)(f:Str):PySem.W.plainGet K C f=true:=c.pg
noncomputable def Ud(K:Frag)(C:Addr)(f:Str):Prop:=findIn K (.ref C) f=some none
structure Con (K:Frag) (C:Addr) (f:Str) (v:V) (u:Value):Prop where
 at_:findIn K (.ref C) f=some (some u)
 rel:RelV v u
 get:specialIn K u "__get__"=some none
 cp:PySem.W.copiedNames.contains f=false
structure Meth (K:Frag) (C:Addr) (m:Str) (f:Addr):Prop where
 at_:findIn K (.ref C) m=some (some (.ref f))
 fn:PySem.W.isFn K (.ref f)=true
 kp:keepIn K (.ref f)=true

section
variable{X:Cx}{pins:List (Addr×Obj)}{σ:St}{H:Hp}{s:Shared}{a C dx:Addr}{fs:List (Str×V)}{f:Str}{v:V}{A:Around}{E:Value->Shared->Prop}

end

noncomputable def JeQ(K:Frag)(ta:TE)(f:Str):TE:=fun σ H Q=>ta σ H fun x H1=>∃a C dx fs v,x=.ref a/\H1 a=some (.ins C dx fs)/\Cls K C/\Ud K C f/\fs.lookup f=some v/\Q v H1
noncomputable def JeM(K:Frag)(ta tv:TE)(f:Str):TS:=fun D σ H=>tv σ H fun y H1=>ta σ H1 fun x H2=>∃a C dx fs,x=.ref a/\H2 a=some (.ins C dx fs)/\Cls K C/\Ud K C f/\fs.length<1000 ∧
 D.nx σ (upd H2 a (.ins C dx (JcI f y fs)))
section
variable{X:Cx}{o e value:Expr}{f:Str}{pos pos' tpos:Pos}{ta tv:TE}
end

section
variable{X:Cx}{pins:List (Addr×Obj)}{σ:St}{H:Hp}{s:Shared}{A:Around}{E:Value->Shared->Prop}{Q:Value->Shared->Prop}{c:Value}{b:Bool}
inductive TyOf (K:Frag) (H:Hp):V->Value->Prop where
 | non:TyOf K H .non (.type "NoneType")
 | bl (x:Bool):TyOf K H (.bl x) (.type "bool")
 | int (i:Int):TyOf K H (.int i) (.type "int")
 | str (x:Str):TyOf K H (.str x) (.type "str")
 | flt (x:UInt64):TyOf K H (.flt x) (.type "float")
 | lst {a:Addr} {xs:List V} (e:H a=some (.lst xs)):TyOf K H (.ref a) (.type "list")
 | frz {a:Addr} {o:Obj} {xs:List V} (e:H a=some (.frz o (.lst xs))):TyOf K H (.ref a) (.type "list")
 | tup {a:Addr} {xs:List V} (e:H a=some (.tup xs)):TyOf K H (.ref a) (.type "tuple")
 | dK {a:Addr} {kvs:List (Key×V)} (e:H a=some (.dK kvs)):TyOf K H (.ref a) (.type "dict")
 | dT {a:Addr} {kvs:List (List Key×V)} (e:H a=some (.dT kvs)):TyOf K H (.ref a) (.type "dict")
 | ins {a C dx:Addr} {fs:List (Str×V)} (e:H a=some (.ins C dx fs)) (cl:Cls K C) (ha:findIn K (.ref C) "__class__"=some (some (.builtin "object.__class__")))
  (hn:specialIn K (.builtin "object.__class__") "__get__"=some (some (.builtin "getset_descriptor.__get__"))) (htk:takesIn K (.builtin "object.__class__")=some true)
  (hm:mroIn K C (.type "object")=some true):TyOf K H (.ref a) (.ref C)
theorem WS{x:V}{u t:Value}(I:Inv X pins σ H s)(rx:RelV x u)(ty:TyOf X.K H x t)(e:kitOne X.K t c=some b)(h:∀tk,Q (.bool b) { s with toks:=tk }) :
 wpAny (model X.prog X.w) A (call (.builtin "isinstance") [u,c]) Q E s:=by
 cases ty with
 | non=>cases (show u=Value.none from rx);exact kia_one PySem.W.kitx_none I.kIn True.intro e (fun z=>nomatch z) h
 | bl y=>cases (show u=Value.bool y from rx);exact kia_one PySem.W.kitx_bool I.kIn True.intro e (fun z=>nomatch z) h
 | int i=>obtain⟨t,q⟩:=(show ∃t,u=Value.int i t from rx);cases q;exact kia_one PySem.W.kitx_int I.kIn True.intro e (fun z=>nomatch z) h
 | str y=>obtain⟨t,q⟩:=(show ∃t,u=Value.str y t from rx);cases q;exact kia_one PySem.W.kitx_str I.kIn True.intro e (fun z=>nomatch z) h
 | flt y=>obtain⟨t,q⟩:=(show ∃t,u=Value.float y t from rx);cases q;exact kia_one PySem.W.kitx_float I.kIn True.intro e (fun z=>nomatch z) h
 | @lst a xs ea =>
  cases (show u=Value.ref a from rx);obtain⟨_,_,n,_,h1⟩:=(show ObjOk X.prog X.w H s.heap a (.lst xs) from I.hok a _ ea)
  exact kia_one kitx_list I.kIn ⟨_,h1,rfl⟩ e (fun z=>nomatch z) h
 | @frz a ob xs ea =>
  cases (show u=Value.ref a from rx);obtain⟨_,_,_,n,_,h1⟩:=(show ObjOk X.prog X.w H s.heap a (.frz ob (.lst xs)) from I.hok a _ ea)
  exact kia_one kitx_list I.kIn ⟨_,h1,rfl⟩ e (fun z=>nomatch z) h
 | @tup a xs ea =>
  cases (show u=Value.ref a from rx);obtain⟨_,_,_,p⟩:=(show ObjOk X.prog X.w H s.heap a (.tup xs) from I.hok a _ ea)
  obtain⟨o,h1,h2,_⟩:=p;exact kia_one PySem.W.kitx_tuple I.kIn ⟨o,h1,h2⟩ e (fun z=>nomatch z) h
 | @dK a kvs ea =>
  cases (show u=Value.ref a from rx);obtain⟨_,_,vs,_,p⟩:=(show ObjOk X.prog X.w H s.heap a (.dK kvs) from I.hok a _ ea)
  obtain⟨o,es,ep,h1,h2,_⟩:=p;exact kia_one PySem.W.kitx_dict I.kIn ⟨o,h1,h2.1⟩ e (fun z=>nomatch z) h
 | @dT a kvs ea =>
  cases (show u=Value.ref a from rx);obtain⟨_,_,xs,_,o,es,ep,h1,h2,_⟩:=(show ObjOk X.prog X.w H s.heap a (.dT kvs) from I.hok a _ ea)
  exact kia_one PySem.W.kitx_dict I.kIn ⟨o,h1,h2.1⟩ e (fun z=>nomatch z) h
 | @ins a C dx fs ea cl ha hn htk hm=>cases (show u=Value.ref a from rx);obtain⟨mA,O,_⟩:=JaD I.hok ea;obtain⟨od,J,_⟩:=O.look;exact kia_one (PySem.W.kitx_own (cl.get _) cl.hd ha hn htk hm) I.kIn J e (fun z=>nomatch z) h
end
end L2

namespace L2
open PySem PySem.Spec PyProof.Rows

structure Room (k:Nat) (A:Around):Prop where
 hd:A.handled=none
 dp:A.depth+3*k+5<recursionLimit
 un:A.units+16*k+200<cLine
theorem Room.mono{j k:Nat}{A:Around}(r:Room k A)(h:j<=k):Room j A:=⟨r.hd,by have:=r.dp;omega,by have:=r.un;omega⟩
theorem Room.deeper{k:Nat}{A:Around}(r:Room (k+1) A)(env:Env):Room k (A.deeper env) :=
 ⟨r.hd,by have:=r.dp;show A.depth+1+3*k+5<_;omega,by have:=r.un;show A.units+3+16*k+200<_;omega⟩
theorem Room.in1{k:Nat}{A:Around}(r:Room (k+1) A):Room k A.in1 :=
 ⟨r.hd,by have:=r.dp;show A.depth+3*k+5<_;omega,by have:=r.un;show A.units+1+16*k+200<_;omega⟩
theorem Room.depth{k:Nat}{A:Around}(r:Room k A):A.depth<recursionLimit:=by have:=r.dp;omega
theorem Room.units{k:Nat}{A:Around}(r:Room k A):A.units+64<cLine:=by have:=r.un;omega
noncomputable def Jbj:TA:=fun _ H Q=>Q [] H
noncomputable def UP(ta:TE)(tr:TA):TA:=fun σ H Q=>ta σ H fun x H1=>tr σ H1 fun xs H2=>Q (x::xs) H2
section
variable{X:Cx}{e:Expr}{es:List Expr}{te:TE}{t:TA}{pos:Pos}
theorem Jp:PA X [] Jbj:=fun _ _ _ _ H Q I h=>Calls.spliced_nil ⟨[],H,I,.nil,h⟩
theorem Jc(ha:PE X e te)(hr:PA X es t)(hs:starEach (e::es) X.env=(false,eval e X.env)::starEach es X.env:=by rfl):PA X (e::es) (UP te t):=by intro pos pins s σ H Q I h;rw[hs];show wpAny _ _ (spliced ((false,eval e X.env)::backTo pos (starEach es X.env))) _ _ s;refine Calls.spliced_cons (thn (ha pins s σ H _ I h) fun u s1 ⟨x,H1,I1,r1,q1⟩=>?_);exact thn (hr pos pins s1 σ H1 _ I1 q1) fun us s2 ⟨xs,H2,I2,r2,q2⟩=>⟨x::xs,H2,I2,.cons r1 r2,q2⟩

noncomputable def JeS(t:TA):TE:=fun σ H Q=>t σ H fun xs H1=>xs.length<=sizeLine/\∀p,H1 p=none->Q (.ref p) (upd H1 p (.tup xs))
noncomputable def Jbi(t:TA):TE:=fun σ H Q=>t σ H fun xs H1=>xs.length<=sizeLine/\∀p,H1 p=none->Q (.ref p) (upd H1 p (.lst xs))
theorem U6(h:PA X es t):PE X (.List es pos) (Jbi t):=by intro pins s σ H Q I hq;refine wpAny_List_spliced (thn (h pos pins s σ H _ I hq) fun us s1 ⟨xs,H1,I1,r,z,q⟩=>⟨by rw[<- r.length];exact z,?_⟩);have hf:H1 s1.heap.objs.size=none:=I1.hok.fresh (Nat.le_refl _);refine⟨.ref s1.heap.objs.size,upd H1 s1.heap.objs.size (.lst xs),I1.laid (t':=s1.toks) (fun b u e=>Heap.get?_push_of_some _ e) (Nat.le_refl _) ?_,rfl,q _ hf⟩;exact⟨z,us,0,r,Heap.get?_push_size _ rfl⟩
end

noncomputable abbrev Sp:=List V->Hp->VK->XK->Prop
noncomputable abbrev CXT:=List Env->Hp->Shared->XK->Value->Shared->Prop

structure Env0 (P:Program) (w:World) (K:Frag) (mg:Str->Option Value) (base:Heap) (A:Around) (outer:List Env) (s:Shared) (H:Hp):Prop where
 frames:A.frames=some outer
 mod:Mod K mg base
 bs:∀b o,base.get? b=some o->s.heap.get? b=some o/\H b=none
 bsz:base.objs.size<=s.heap.objs.size
 funs:s.heap.FunFrames base outer
 frf:∀b∈frs outer,H b=none
 hok:HOk P w H s.heap
 bare:AllBare s.gens
noncomputable def CE(outer:List Env)(P:Program)(w:World)(H:Hp)(s:Shared)(Q:VK)(u:Value)(s':Shared):Prop :=
 ∃v H',s'.os=s.os/\AllBare s'.gens/\Un (frs outer) [] H H' s.heap s'.heap/\HOk P w H' s'.heap/\RelV v u/\Q v H'
noncomputable def CR(CX:CXT)(outer:List Env)(P:Program)(w:World)(H:Hp)(s:Shared)(Q:VK)(E:XK)(r:Result)(s':Shared):Prop :=
 match r with
 | .ok (.ret u)=>CE outer P w H s Q u s'
 | .ok _=>False
 | .error e=>CX outer H s E e s'
structure FnOk (P:Program) (w:World) (K:Frag) (mg:Str->Option Value) (base:Heap) (CX:CXT) (k:Nat) (f:Addr) (fd:FuncData) (ps:List Str) (sp:Sp):Prop where
 len:∀vs H Q E,sp vs H Q E->vs.length=ps.length
 run:∀(A:Around) (outer:List Env) (s:Shared) (H:Hp) (args:Args) (us:List Value) (vs:List V) (Q:VK) (E:XK),Room k A->Env0 P w K mg base A outer s H->BindsTo s fd args (ps.zip us)->Vals vs us->sp vs H Q E ->
  codeAny (model P w) A (.call (.ref f) args) (CR CX outer P w H s Q E) s
theorem FnOk.mono{P:Program}{w:World}{K:Frag}{mg:Str->Option Value}{base:Heap}{CX:CXT}{j k:Nat}{f:Addr}{fd:FuncData}{ps:List Str}{sp:Sp}(F:FnOk P w K mg base CX j f fd ps sp)(h:j<=k) :
 FnOk P w K mg base CX k f fd ps sp:=⟨F.len,fun A outer s H args us vs Q E hr=>F.run A outer s H args us vs Q E (hr.mono h)⟩
theorem FnOk.imp{P:Program}{w:World}{K:Frag}{mg:Str->Option Value}{base:Heap}{CX:CXT}{k:Nat}{f:Addr}{fd:FuncData}{ps:List Str}{sp sp':Sp}(F:FnOk P w K mg base CX k f fd ps sp)
 (h:∀vs H Q E,sp' vs H Q E->sp vs H Q E):FnOk P w K mg base CX k f fd ps sp' :=
 ⟨fun vs H Q E q=>F.len vs H Q E (h _ _ _ _ q),fun A outer s H args us vs Q E hr he hb hv hs=>F.run A outer s H args us vs Q E hr he hb hv (h _ _ _ _ hs)⟩

theorem Env0.in1{P:Program}{w:World}{K:Frag}{mg:Str->Option Value}{base:Heap}{A:Around}{outer:List Env}{s:Shared}{H:Hp}(e:Env0 P w K mg base A outer s H) :
 Env0 P w K mg base A.in1 outer s H:=⟨e.frames,e.mod,e.bs,e.bsz,e.funs,e.frf,e.hok,e.bare⟩

section
variable{X:Cx}{pins:List (Addr×Obj)}{σ:St}{H:Hp}{s s':Shared}
theorem Inv.env0(I:Inv X pins σ H s):Env0 X.prog X.w X.K X.mg X.base X.A X.stack s H :=
 ⟨I.ok.frames,I.ok.mod,I.bs,Nat.le_trans I.ok.bsz I.sz,I.stack,I.stkFree,I.hok,I.bare⟩
theorem Inv.after{Q:VK}{u:Value}(I:Inv X pins σ H s)(h:CE X.stack X.prog X.w H s Q u s'):EP X pins σ Q u s':=by obtain⟨v,H',os,bare,un,hok,r,q⟩:=h;obtain⟨hh,g,d,t,os'⟩:=s';obtain rfl:os'=s.os:=os;exact⟨v,H',I.call (h':=hh) (g':=g) (d':=d) (t':=t) (ch:=[]) un hok bare (fun b z=>absurd z (by simp)),r,q⟩
end

noncomputable def Wy(sp:Sp)(dvs:List V)(E:XK)(t:TA):TE:=fun σ H Q=>t σ H fun vs H1=>sp (vs++dvs) H1 Q E
noncomputable def Jeq(C:Addr)(sp:Sp)(dvs:List V)(E:XK)(t:TA):TE:=fun σ H Q=>t σ H fun vs H1=>∀x dx,H1 x=none->H1 dx=none->dx≠x ->
 sp (.ref x::(vs++dvs)) (upd (upd H1 dx (.own x)) x (.ins C dx [])) (fun v H2=>v=.non/\Q (.ref x) H2) E

noncomputable def Binds(K:Frag)(fd:FuncData)(ps:List Str)(ds:List Value):Prop :=
 ∀(s:Shared) (us:List Value),K.In s.heap->(us++ds).length=ps.length->BindsTo s fd ⟨us,[]⟩ (ps.zip (us++ds))
theorem Binds.all{K:Frag}{fd:FuncData}{ps:List Str}(h:∀us:List Value,us.length=ps.length->bindArgs fd ⟨us,[]⟩=pure (ps.zip us)):Binds K fd ps []:=fun s us _ hl=>by rw[List.append_nil] at hl ⊢;exact .of_eq (h us hl)

noncomputable def VP(CX:CXT)(X:Cx)(E:XK):Prop:=∀(pins:List (Addr×Obj)) (σ:St) (H:Hp) (s:Shared) (e:Value) (s':Shared),Inv X pins σ H s->CX X.stack H s E e s'->X.xe e s'

section
variable{X:Cx}{CX:CXT}{k:Nat}{f C:Addr}{fd:FuncData}{ps:List Str}{sp:Sp}{dvs:List V}{ds:List Value}{E:XK}{x m:Str}{p pos apos:Pos}{e o:Expr}{es:List Expr}{ta:TE}{t:TA}

theorem Jdd{pins:List (Addr×Obj)}{σ:St}{H:Hp}{s:Shared}{Q:VK}{us:List Value}{vs:List V}(F:FnOk X.prog X.w X.K X.mg X.base CX k f fd ps sp)(hr:Room k X.A)(hb:Binds X.K fd ps ds)(hd:Vals dvs ds)(hx:VP CX X E)
 (I:Inv X pins σ H s) (r:Vals vs us) (h:sp (vs++dvs) H Q E):wpAny (model X.prog X.w) X.A (call (.ref f) us) (EP X pins σ Q) X.xe s:=by
 have r2:Vals (vs++dvs) (us++ds):=r.append hd
 have hl:(us++ds).length=ps.length:=by rw[<- r2.length];exact F.len _ _ _ _ h
 refine wpAny_call (codeAny_mono (F.run X.A X.stack s H ⟨us,[]⟩ (us++ds) (vs++dvs) Q E hr I.env0 (hb s us I.kIn hl) r2 h) fun r s' hq=>?_)
 cases r with
 | error e=>exact hx pins σ H s e s' I hq
 | ok fl =>
  cases fl with
  | ret u=>exact I.after hq
  | next=>exact False.elim hq
  | brk=>exact False.elim hq
  | cont=>exact False.elim hq

theorem JaP(F:FnOk X.prog X.w X.K X.mg X.base CX k f fd ps sp)(hr:Room k X.A)(hg:Gl X x)(hm:X.mg x=some (.ref f))(hk:keepIn X.K (.ref f)=true)(hb:Binds X.K fd ps ds)(hd:Vals dvs ds)(hx:VP CX X E)
 (ha:PA X (e::es) t) (hdb:(x == ("__debug__":Str))=false:=by decide) (he:starEach (e::es) X.env=(false,eval e X.env)::starEach es X.env:=by rfl) (hpl:(backTo pos (starEach es X.env)).any (·.1)=false:=by rfl) :
 PE X (.Call (.Name x p) (e::es) [] pos) (Wy sp dvs E t):=by
 intro pins s σ H Q I h;refine wpAny_Call_Name_kw (Wl I hg hm ?_ hdb);refine PySem.W.callWith_K (h₀:=X.base) I.ok.mod.kin hk (thn (ha pos pins s σ H _ I h) fun us s1 ⟨vs,H1,I1,r,q⟩=>⟨I1.kIn,?_⟩) he hpl;exact Jdd F hr hb hd hx I1 r q
structure Mk (K:Frag) (C f:Addr):Prop where
 makes:PySem.W.makesIn K C=true
 init:findIn K (.ref C) "__init__"=some (some (.ref f))
 fn:PySem.W.isFn K (.ref f)=true
 kp:keepIn K (.ref C)=true

end

section
variable{X:Cx}{CX:CXT}{k:Nat}{f C:Addr}{fd:FuncData}{ps ks:List Str}{sp:Sp}{E:XK}{x m:Str}{p pos apos kpos:Pos}{e o:Expr}{es:List Expr}{kws:List Keyword}{te ta:TE}{t tk:TA}{nm:Option Str}
structure KBinds (K:Frag) (fd:FuncData) (ps ks:List Str) (g:List Value->List Value->List Value) (gV:List V->List V->List V):Prop where
 to:∀(s:Shared) (us ws:List Value),K.In s.heap->(g us ws).length=ps.length->BindsTo s fd ⟨us,ks.zip ws⟩ (ps.zip (g us ws))
 rel:∀{vs:List V} {us:List Value} {zs:List V} {ws:List Value},Vals vs us->Vals zs ws->Vals (gV vs zs) (g us ws)
variable{g:List Value->List Value->List Value}{gV:List V->List V->List V}
end

structure FnScope (N P:List Str) (sc:Scope):Prop where
 kind:sc.kind=.function
 co:sc.isCoroutine=false
 gen:sc.isGenerator=false
 nd:N.Nodup
 pre:N.take P.length=P
 par:∀x∈P,sc.names.lookup x=some .local\/sc.names.lookup x=some .cell
 nofree:∀y∈sc.names,y.2≠.free

theorem UI{kindOf:Str->Option NameKind}{x:Str}:∀{binds:List (Str×Value)} {m:Str->Option Value},(∀v,(x,v)∉binds)->bindL kindOf binds m x=m x
 | [],_,_=>rfl
 | (n,v)::r,m,h=>by
  unfold bindL;rw[UI fun w hw=>h w (List.mem_cons_of_mem _ hw)];split
  ·have:x≠n:=by rintro rfl;exact h v List.mem_cons_self
   simp[this]
  ·rfl
theorem UG{kindOf:Str->Option NameKind}{x:Str}:∀{binds:List (Str×Value)} {m:Str->Option Value},(∀v,(x,v)∉binds)->bindC kindOf binds m x=m x
 | [],_,_=>rfl
 | (n,v)::r,m,h=>by
  unfold bindC;rw[UG fun w hw=>h w (List.mem_cons_of_mem _ hw)];split
  ·rfl
  ·have:x≠n:=by rintro rfl;exact h v List.mem_cons_self
   simp[this]
theorem UH{kindOf:Str->Option NameKind}{x:Str}{v:Value}:∀{P:List Str} {vs:List Value} {i:Nat} {m:Str->Option Value},P.Nodup->P[i]?=some x->vs[i]?=some v->kindOf x=some .local ->
 bindL kindOf (P.zip vs) m x=some v
 | [],_,_,_,_,h,_,_=>by simp at h
 | _::_,[],_,_,_,_,h,_=>by simp at h
 | p::P,w::vs,0,m,nd,h1,h2,hk=>by simp at h1 h2;subst h1;subst h2;show bindL kindOf ((p,w)::P.zip vs) m p=_;unfold bindL;rw[UI fun v hv=>(List.nodup_cons.mp nd).1 (List.of_mem_zip hv).1,if_pos hk];simp
 | p::P,w::vs,i+1,m,nd,h1,h2,hk=>by show bindL kindOf ((p,w)::P.zip vs) m x=_;unfold bindL;exact UH (i:=i) (List.nodup_cons.mp nd).2 (by simpa using h1) (by simpa using h2) hk
theorem UF{kindOf:Str->Option NameKind}{x:Str}{v:Value}:∀{P:List Str} {vs:List Value} {i:Nat} {m:Str->Option Value},P.Nodup->P[i]?=some x->vs[i]?=some v->kindOf x≠some .local ->
 bindC kindOf (P.zip vs) m x=some v
 | [],_,_,_,_,h,_,_=>by simp at h
 | _::_,[],_,_,_,_,h,_=>by simp at h
 | p::P,w::vs,0,m,nd,h1,h2,hk=>by simp at h1 h2;subst h1;subst h2;show bindC kindOf ((p,w)::P.zip vs) m p=_;unfold bindC;rw[UG fun v hv=>(List.nodup_cons.mp nd).1 (List.of_mem_zip hv).1,if_neg hk];simp
 | p::P,w::vs,i+1,m,nd,h1,h2,hk=>by show bindC kindOf ((p,w)::P.zip vs) m x=_;unfold bindC;exact UF (i:=i) (List.nodup_cons.mp nd).2 (by simpa using h1) (by simpa using h2) hk

noncomputable def Yg(N:List Str)(vs:List V):St:=vs.map some++List.replicate (N.length-vs.length) none

noncomputable def VT(CX:CXT)(P:Program)(w:World)(K:Frag)(mg:Str->Option Value)(base:Heap)(N:List Str)(qual:Str)(scope:Scope)(f:Addr)(cd:Value)(A:Around)(outer:List Env)(s:Shared)(H:Hp)(E:XK):Cx where
 prog:=P
 w:=w
 K:=K
 mg:=mg
 base:=base
 A:=A.deeper (envOfC qual scope s.heap.objs.size f cd)
 N:=N
 s₀:=s
 H₀:=H
 env:=envOfC qual scope s.heap.objs.size f cd
 outer:=outer
 stack:=envOfC qual scope s.heap.objs.size f cd::outer
 ex:=[]
 calm:=true
 fn:=fun _=>true
 pn:=[]
 xe:=fun e s'=>wpAny (model P w) (A.deeper (envOfC qual scope s.heap.objs.size f cd)) (leaving (envOfC qual scope s.heap.objs.size f cd) e) (fun _ s''=>CX outer H s E e s'') (fun e' s''=>CX outer H s E e' s'') s'

theorem Vi{sc:Scope}{n:Nat}{x:Str}(h:sc.names.lookup x=some .cell):∃c,(cellsFrom n sc.names []).lookup x=some c:=by have q:=PySem.W.cellsFrom_some sc.names n [] (.inl h);exact Option.isSome_iff_exists.mp q

theorem WL{CX:CXT}{P:Program}{w:World}{K:Frag}{mg:Str->Option Value}{base:Heap}{N ps:List Str}{qual:Str}{scope:Scope}{f:Addr}{cd:Value}{A:Around}{outer:List Env}{s s1:Shared}{H:Hp}{E:XK}{us:List Value}{vs:List V}
 (S:FnScope N ps scope) (hd:A.handled=none) (e0:Env0 P w K mg base A outer s H) (hl:vs.length=ps.length) (r:Vals vs us)
 (x:InCallC s s.heap.objs.size (bindL (envOfC qual scope s.heap.objs.size f cd).kindOf (ps.zip us) fun _=>none) (cellsFrom (s.heap.objs.size+1) scope.names []) (bindC (envOfC qual scope s.heap.objs.size f cd).kindOf (ps.zip us) fun _=>none) s1) :
 Inv (VT CX P w K mg base N qual scope f cd A outer s H E) [] (Yg N vs) H s1:=by
 have hpl:ps.length<=N.length:=by have:=congrArg List.length S.pre;rw[List.length_take] at this;omega
 obtain⟨h1,tk,rfl,hk⟩:=x.done;have noA:∀b:Addr,b∉(VT CX P w K mg base N qual scope f cd A outer s H E).ex:=fun b z=>absurd (show b∈([]:List Addr) from z) (by simp)
 refine⟨⟨e0.mod,S.kind,rfl,rfl,Nat.le_refl _,fun y z c h1 h2=>?_,fun y hy=>?_,fun y c _ h=>?_,fun _=>hd,Around.frames_deeper e0.frames,.inr ⟨rfl,rfl⟩,fun b z=>absurd z (noA b),e0.bs,e0.bsz,fun b _ _=>noA b,fun b z=>absurd z (noA b),e0.funs,e0.frf⟩,
  rfl,e0.bare,Un.kept hk,⟨_,x.toInCall.ns,fun i y v h1 h2 h3=>?_⟩,fun y c h=>⟨_,x.cell y c h⟩,e0.hok.fresh (Nat.le_refl _),fun y c h=>?_,fun p hp=>absurd (show p∈([]:List (Addr×Obj)) from hp) (by simp),e0.hok.kept hk,?_⟩
 ·exact name_of_addr x.apart (PySem.mem_of_lookup h1) (PySem.mem_of_lookup h2)
 ·have hy:scope.names.lookup y=some .cell\/scope.names.lookup y=some .free:=hy;rcases hy with hy|hy
  ·exact Vi hy
  ·exact absurd rfl (S.nofree _ (PySem.mem_of_lookup hy))
 ·exact Nat.le_of_lt (x.above y c (PySem.mem_of_lookup h))
 ·have hi:i<vs.length:=by
   unfold Yg at h2
   by_cases hi:i<vs.length
   ·exact hi
   ·rw[List.getElem?_append_right (by simpa using hi)] at h2;rw[List.getElem?_replicate] at h2;split at h2 <;> cases h2
  have ha:vs[i]?=some v:=by
   unfold Yg at h2;rw[List.getElem?_append_left (by simpa using hi),List.getElem?_map] at h2
   cases e:vs[i]? with
   | none=>rw[e] at h2;cases h2
   | some a=>rw[e] at h2;cases h2;rfl
  obtain⟨u,hu,rv⟩:=r.get ha
  have hp:ps[i]?=some y:=by rw[<- S.pre,List.getElem?_take_of_lt (by omega)];exact h1
  have ndP:ps.Nodup:=by rw[<- S.pre];exact S.nd.sublist (List.take_sublist _ _)
  refine⟨u,rv,?_⟩;rcases S.par y (List.mem_of_getElem? hp) with k|k
  ·exact .inl ⟨k,UH ndP hp hu k⟩
  ·obtain⟨c,e⟩:=Vi (n:=s.heap.objs.size+1) k;refine .inr ⟨.inl k,c,e,?_⟩;have q:=x.cell y c e;rw[UF ndP hp hu (by show scope.names.lookup y≠_;rw[k];decide)] at q;exact q
 ·exact e0.hok.fresh (Nat.le_of_lt (x.above y c (PySem.mem_of_lookup h)))
 ·unfold Yg;show _=N.length;rw[List.length_append,List.length_map,List.length_replicate];omega

theorem JdM{CX:CXT}{P:Program}{w:World}{K:Frag}{mg:Str->Option Value}{base:Heap}{k:Nat}{f:Addr}{name qual:Str}{params:Arguments}{body:List Stmt}{scope:Scope}{dV kV doc pm cdv ct oc:Value}{an od:Option Addr}
 {osl:Array (Option Value)} {N ps:List Str} {sp:Sp} (lk:K.lookup f=some ⟨oc,od,.func (fnOf name qual params body scope dV kV doc pm an cdv ct),osl⟩) (hcd:codeIn K cdv qual=true) (S:FnScope N ps scope)
 (len:∀vs H Q E,sp vs H Q E->vs.length=ps.length)
 (hbody:∀(A:Around) (outer:List Env) (s:Shared) (H:Hp) (vs:List V) (Q:VK) (E:XK),Room k (A.deeper (envOfC qual scope s.heap.objs.size f cdv))->sp vs H Q E ->
  ∃t,PSs (VT CX P w K mg base N qual scope f cdv A outer s H E) body t/\t { nx:=fun _ H'=>Q .non H',rt:=Q } (Yg N vs) H) :
 FnOk P w K mg base CX (k+1) f (fnOf name qual params body scope dV kV doc pm an cdv ct) ps sp:=by
 refine⟨len,fun A outer s H args us vs Q E hr e0 hb r hsp=>?_⟩;have hl:=len _ _ _ _ hsp;have KX:K.In s.heap:=e0.mod.kin.keeps fun b o e=>(e0.bs b o e).1
 have lim:s.heap.NoLimit:=e0.mod.nolimit.keeps fun b o e=>(e0.bs b o e).1
 have hkind:∀y∈ps.zip us,scope.names.lookup y.1=some .local\/(scope.names.lookup y.1=some .cell/\((cellsFrom (s.heap.objs.size+1) scope.names []).lookup y.1).isSome=true):=fun⟨n,v⟩ hy=>by
  rcases S.par n (List.of_mem_zip hy).1 with q|q
  ·exact .inl q
  ·exact .inr ⟨q,PySem.W.cellsFrom_some _ _ _ (.inl q)⟩
 refine codeAny_call_function hr.depth (KX _ _ lk) rfl S.co S.gen rfl (PySem.W.codeRec_of KX hcd) (hb _ _ _ _ ?_);refine wpAny_newFunctionEnv_cells S.kind hkind fun env he s1 x=>?_
 subst he;refine⟨lim.keeps x.toInCall.keep,codeAny_func ?_⟩;obtain⟨t,ht,hq⟩:=hbody A outer s H vs Q E (hr.deeper _) hsp;have I:Inv (VT CX P w K mg base N qual scope f cdv A outer s H E) [] (Yg N vs) H s1:=WL S hr.hd e0 hl r x;refine wpAny_mono (ht [] s1 (Yg N vs) H _ I hq) (fun fl s' hs=>?_) fun e s' hs=>hs
 have fin:∀{σ':St} {H':Hp} {v:V} {u:Value},Inv (VT CX P w K mg base N qual scope f cdv A outer s H E) [] σ' H' s'->RelV v u->Q v H'->CE outer P w H s Q u s' :=
  fun {σ' H' v u} J rv q=>⟨v,H',J.os,J.bare,J.base,J.hok,rv,q⟩
 cases fl with
 | ret u=>obtain⟨v,σ',H',J,rv,q⟩:=hs;exact fin J rv q
 | next=>obtain⟨σ',H',J,q⟩:=hs;exact fin (v:=V.non) (u:=Value.none) J rfl q
 | brk=>obtain⟨_,_,_,q⟩:=hs;exact False.elim q
 | cont=>obtain⟨_,_,_,q⟩:=hs;exact False.elim q
end L2

namespace L2
open PySem PySem.Spec PyProof.Rows
section
variable{X:Cx}{x:Str}{p pos:Pos}{e:Expr}{es:List Expr}{t:TA}{id T:String}{r:List V->Hp->VK->Prop}

noncomputable def tCB(r:List V->Hp->VK->Prop)(t:TA):TE:=fun σ H Q=>t σ H fun vs H1=>r vs H1 Q
theorem JW(hc:CallR X (.builtin id) r)(hg:Gl X x)(hm:X.mg x=none)(hv:bootBuiltins x=some (.builtin id))(ha:PA X (e::es) t)(hn:x≠"__name__":=by decide)(hdb:(x == ("__debug__":Str))=false:=by decide)
 (he:starEach (e::es) X.env=(false,eval e X.env)::starEach es X.env:=by rfl) (hpl:(backTo pos (starEach es X.env)).any (·.1)=false:=by rfl):PE X (.Call (.Name x p) (e::es) [] pos) (tCB r t):=by
 intro pins s σ H Q I h;refine wpAny_Call_Name_kw (VZ I hg hm hv ?_ hn hdb);exact PyProof.Rows.callWith_builtin1 (thn (ha pos pins s σ H _ I h) fun us s1 ⟨vs,H1,I1,r1,q1⟩=>hc pins s1 σ H1 vs us Q I1 r1 q1) he hpl
theorem Yv(hc:CallR X (.type T) r)(hg:Gl X x)(hm:X.mg x=none)(hv:bootBuiltins x=some (.type T))(ha:PA X (e::es) t)(hn:x≠"__name__":=by decide)(hdb:(x == ("__debug__":Str))=false:=by decide)
 (he:starEach (e::es) X.env=(false,eval e X.env)::starEach es X.env:=by rfl) (hpl:(backTo pos (starEach es X.env)).any (·.1)=false:=by rfl):PE X (.Call (.Name x p) (e::es) [] pos) (tCB r t):=by
 intro pins s σ H Q I h;refine wpAny_Call_Name_kw (VZ I hg hm hv ?_ hn hdb);exact PyProof.Rows.callWith_type1 (thn (ha pos pins s σ H _ I h) fun us s1 ⟨vs,H1,I1,r1,q1⟩=>hc pins s1 σ H1 vs us Q I1 r1 q1) he hpl
end
end L2

namespace HT
open PySem PyProof.Rows

section
open PySem.SeqAt
open PySem.AutoSeq1 (wpAny_loadPart')
open PySem.MeetsSeq PySem.MeetsSeq2 PySem.MeetsSeq3

end

section
variable{prog:Program}{w:World}{A:Around}{E:Value->Shared->Prop}{s:Shared}

theorem Jaf{t b:Addr}{vs ws:List Value}{Q:Value->Shared->Prop}(ht:IsTup s.heap t vs.toArray)(hb:IsTup s.heap b ws.toArray)(hv:vs≠[])
 (h1:ws=[]->Q (.ref t) s) (h2:ws≠[]->Q (.ref s.heap.objs.size) { s with heap:=s.heap.push { cls:=.type "tuple",data:=.seq (vs++ws).toArray } })
 (hsz:vs.length+ws.length<=sizeLine):wpAny (model prog w) A (binaryOp .Add (.ref t) (.ref b)) Q E s:=by
 obtain⟨⟨cls,dd,data,sl⟩,ho,hc,n,hd⟩:=id ht;obtain⟨⟨cls2,dd2,data2,sl2⟩,ho2,hc2,n2,hd2⟩:=id hb;simp only at hc hd hc2 hd2;subst hc hd hc2 hd2;have e:vs.toArray++ws.toArray=(vs++ws).toArray:=by simp
 by_cases hw:ws=[]
 ·exact concat_meets ⟨_,ho,rfl⟩ ⟨_,ho2,rfl⟩ noFill_tuple_add seq_tuple_add PySem.F.slot_tuple_add PySem.F.entry_tuple_add (PySem.F.args_tuple_add_2 _ _)
   (tuple_addW1 t b vs.toArray ws.toArray n n2 dd dd2 sl sl2 (by simpa using hv) (by simp[hw])) ⟨ho,ho2,h1 hw⟩
 ·refine concat_meets ⟨_,ho,rfl⟩ ⟨_,ho2,rfl⟩ noFill_tuple_add seq_tuple_add PySem.F.slot_tuple_add PySem.F.entry_tuple_add (PySem.F.args_tuple_add_2 _ _)
   (tuple_addW2 t b vs.toArray ws.toArray n n2 dd dd2 sl sl2 (by simpa using hv) (by simpa using hw) (by rw[List.size_toArray,List.size_toArray];exact hsz)) ⟨ho,ho2,?_⟩
  rw[e];exact h2 hw

noncomputable def sIx(n d:Nat):Option Int->Nat
 | none=>d
 | some v=>if v<0 then(v+(n:Int)).toNat else min v.toNat n
theorem Jde(n d:Nat)(hd:d<=n)(o:Option Int):sIx n d o<=n:=by
 cases o with
 | none=>exact hd
 | some v =>
  show(if v<0 then(v+(n:Int)).toNat else min v.toNat n)<=n
  by_cases hv:v<0
  ·rw[if_pos hv];omega
  ·rw[if_neg hv];exact Nat.min_le_right _ _
theorem Wf(v:Int)(n d:Nat):(if v<0 then max (v+(n:Int)) 0 else min v (n:Int))=((sIx n d (some v):Nat):Int):=by
 show(if v<0 then max (v+(n:Int)) 0 else min v (n:Int))=(((if v<0 then(v+(n:Int)).toNat else min v.toNat n):Nat):Int)
 by_cases hv:v<0
 ·simp only[if_pos hv];omega
 ·simp only[if_neg hv];omega
theorem VQ(lo hi:Option Int)(n:Nat):Builtin.Slice.sliceAdjust lo hi 1 (n:Int)=(((sIx n 0 lo:Nat):Int),((sIx n n hi:Nat):Int)):=by
 have h1:¬((1:Int)<0):=by omega
 unfold Builtin.Slice.sliceAdjust;simp only[h1,if_false];refine Prod.ext ?_ ?_
 ·cases lo with
  | none=>rfl
  | some v=>exact Wf v n 0
 ·cases hi with
  | none=>rfl
  | some v=>exact Wf v n n
theorem V2(i j:Nat):Builtin.Slice.slicePlaces (i:Int) (j:Int) 1=j-i:=by
 unfold Builtin.Slice.slicePlaces;have h1:(1:Int)>0:=by omega
 simp only[h1,if_true,Int.ediv_one];split <;> omega
theorem Uu{v:Value}{o:Option Int}{Q:Option Int->Shared->Prop}(p:IsPart v o)(h:Q o s):wpAny (model prog w) A (Builtin.Slice.slicePartIndex v) Q E s:=by
 cases p with
 | none=>exact slicePart_none h
 | int i t=>exact slicePart_int h
theorem Yf{sl:Addr}{vl vu:Value}{lo hi:Option Int}{n:Nat}{Q:Int×Int×Nat->Shared->Prop}(hs:s.heap.IsSliceOf sl vl vu .none)(pl:IsPart vl lo)(pu:IsPart vu hi)
 (h:Q (((sIx n 0 lo:Nat):Int),1,sIx n n hi-sIx n 0 lo) s):wpAny (model prog w) A (Builtin.Slice.sliceApplied (.ref sl) (pure (n:Int))) Q E s:=by
 obtain⟨os,hos,hcs,hds⟩:=id hs;unfold Builtin.Slice.sliceApplied Builtin.Slice.sliceFields;refine wpAny_bind (wpAny_bind (wpAny_field hos hds (x:=vl) rfl (wpAny_bind (wpAny_field hos hds (x:=vu) rfl (wpAny_bind (wpAny_field hos hds (x:=.none) rfl (wpAny_pure ?_)))))));refine wpAny_bind (slicePart_none ?_);show wpAny _ _ (if ((1:Int) == 0)=true then _ else _) _ _ s;rw[if_neg (by decide)];refine wpAny_bind (Uu pl (wpAny_bind (Uu pu (wpAny_bind (wpAny_pure ?_)))))
 show wpAny _ _ (match Builtin.Slice.sliceAdjust lo hi 1 (n:Int) with|(lo,hi)=>pure (lo,(1:Int),Builtin.Slice.slicePlaces lo hi 1)) _ _ s;rw[VQ lo hi n]
 show wpAny _ _ (pure (((sIx n 0 lo:Nat):Int),(1:Int),Builtin.Slice.slicePlaces ((sIx n 0 lo:Nat):Int) ((sIx n n hi:Nat):Int) 1)) _ _ s;rw[V2];exact wpAny_pure h
theorem ZG(xs:Array Value)(i k:Nat):((List.range k).filterMap fun(m:Nat)=>xs[((i:Int)+(m:Int)*1).toNat]?).toArray=((xs.toList.drop i).take k).toArray:=by
 have e:(fun(m:Nat)=>xs[((i:Int)+(m:Int)*1).toNat]?)=fun m=>xs[i+m]?:=by
  funext m
  have:((i:Int)+(m:Int)*1).toNat=i+m:=by omega
  rw[this]
 rw[e];have:=pick_run xs i k;rw[List.filterMap_map] at this;have e2:((fun x=>xs[x]?) ∘ fun x=>i+x)=fun m=>xs[i+m]?:=rfl
 rw[e2] at this;rw[this]

theorem YK{t sl:Addr}{items:Array Value}{vl vu:Value}{lo hi:Option Int}{Q:Value->Shared->Prop}(ht:IsTup s.heap t items)(hs:s.heap.IsSliceOf sl vl vu .none)(pl:IsPart vl lo)(pu:IsPart vu hi)
 (hw:¬(sIx items.size 0 lo=0/\sIx items.size items.size hi=items.size))
 (h:Q (.ref s.heap.objs.size) { s with heap:=s.heap.push { cls:=.type "tuple",data:=.seq ((items.toList.drop (sIx items.size 0 lo)).take (sIx items.size items.size hi-sIx items.size 0 lo)).toArray } })
 (hsz:items.size<=sizeLine):wpAny (model prog w) A (getItem (.ref t) (.ref sl)) Q E s:=by
 have htake:sizeOk (.seq ((items.toList.drop (sIx items.size 0 lo)).take (sIx items.size items.size hi-sIx items.size 0 lo)).toArray):=by show((items.toList.drop (sIx items.size 0 lo)).take (sIx items.size items.size hi-sIx items.size 0 lo)).toArray.size<=sizeLine;rw[List.size_toArray,List.length_take,List.length_drop,Array.length_toList];omega
 have hj:sIx items.size items.size hi<=items.size:=Jde _ _ (Nat.le_refl _) hi;obtain⟨os,hos,hcs,hds⟩:=id hs
 have hTs:s.TypeIs (.ref sl) "slice":=⟨os,hos,hcs⟩
 unfold getItem
 try with_reducible refine wpAny_holding ?_
 first|refine wpAny_bind (wpAny_pure ?_)|skip
 refine wpAny_bind (wpAny_sequenceKey ht.typeIs (by decide) ?_);refine wpAny_bind (wpAny_callSpecial?_slot (name:=Str.ofString "__getitem__") ht.typeIs PyProof.Rows.slot_tuple_getitem
  (wpAny_call_entry PyProof.Rows.slot_tuple_getitem ht.typeIs entry_tuple_getitem ?_ (args_tuple_getitem _ _)))
 show wpAny _ _ (Builtin.Tuple.tupleItemsOf (.ref t) >>= _) _ _ s;refine wpAny_bind (tupleItemsOf_ ht ?_);refine wpAny_bind (wpAny_typeOf hTs ?_);rw[if_pos (by decide)];refine wpAny_bind (Yf hs pl pu ?_)
 have hno:¬((((sIx items.size 0 lo:Nat):Int) == 0 && (1:Int) == 1 && (sIx items.size items.size hi-sIx items.size 0 lo) == items.size)=true):=by intro q;rw[Bool.and_eq_true,Bool.and_eq_true] at q;have q1:((sIx items.size 0 lo:Nat):Int)=0:=eq_of_beq q.1.1;have q2:sIx items.size items.size hi-sIx items.size 0 lo=items.size:=eq_of_beq q.2;exact hw ⟨by omega,by omega⟩
 show wpAny _ _ (if (((sIx items.size 0 lo:Nat):Int) == 0 && (1:Int) == 1 && (sIx items.size items.size hi-sIx items.size 0 lo) == items.size)=true then _ else _) _ _ s;rw[if_neg hno,ZG]
 first
  | exact wpAny_bind (m:=Builtin.Tuple.tupleExact _) (wpAny_newObj_type (wpAny_pure ⟨_,rfl,wpAny_pure h⟩) htake)
  | exact wpAny_bind (m:=Builtin.Tuple.tupleExact _) (wpAny_newObj_type (wpAny_bind (wpAny_pure (wpAny_pure ⟨_,rfl,wpAny_pure h⟩))) htake)
  | exact wpAny_bind (wpAny_bind (m:=Builtin.Tuple.tupleExact _) (wpAny_newObj_type (wpAny_pure (wpAny_pure ⟨_,rfl,wpAny_pure h⟩)) htake))
  | exact wpAny_bind (wpAny_bind (m:=Builtin.Tuple.tupleExact _) (wpAny_newObj_type (wpAny_pure ⟨_,rfl,wpAny_pure h⟩) htake))
end
end HT

namespace L2
open PySem PySem.Spec PyProof.Rows

noncomputable abbrev TO:=St->Hp->(Option Int->Hp->Prop)->Prop
noncomputable def PO(X:Cx)(e:Option Expr)(t:TO):Prop :=
 ∀(pins:List (Addr×Obj)) (s:Shared) (σ:St) (H:Hp) (Q:Option Int->Hp->Prop),Inv X pins σ H s->t σ H Q ->
  wpAny (model X.prog X.w) X.A (evalPart e X.env) (fun u s'=>∃o H',Inv X pins σ H' s'/\IsPart u o/\Q o H') X.xe s
noncomputable def Wz:TO:=fun _ H Q=>Q none H
noncomputable def JbF(t:TE):TO:=fun σ H Q=>t σ H fun x H1=>∃i,x=.int i/\Q (some i) H1

section
variable{X:Cx}{e:Expr}{te:TE}{lo hi:Option Expr}{tl th:TO}{pos p2:Pos}

theorem Yw:PO X none Wz:=by intro pins s σ H Q I h;rw[evalPart_none];exact wpAny_pure ⟨none,H,I,.none,h⟩
theorem Yx(h:PE X e te):PO X (some e) (JbF te):=by
 intro pins s σ H Q I hw;rw[evalPart_some];refine thn (h pins s σ H _ I hw) fun u s1 ⟨x,H1,I1,r1,q1⟩=>?_
 obtain⟨i,rfl,q⟩:=q1;obtain⟨t,rfl⟩:=r1;exact⟨some i,H1,I1,.int i t,q⟩

noncomputable def SlR(X:Cx)(r:V->Option Int->Option Int->Hp->VK->Prop):Prop :=
 ∀(pins:List (Addr×Obj)) (s:Shared) (σ:St) (H:Hp) (x:V) (v vl vu:Value) (lo hi:Option Int) (sl:Addr) (Q:VK),Inv X pins σ H s->RelV x v->s.heap.IsSliceOf sl vl vu .none->IsPart vl lo->IsPart vu hi->r x lo hi H Q ->
  ∃T id,typeLookup (.type T) "__getitem__"=pure (some (.builtin id))/\s.TypeIs v T/\wpAny (model X.prog X.w) X.A (getItem v (.ref sl)) (EP X pins σ Q) X.xe s
theorem SlR.or{r r':V->Option Int->Option Int->Hp->VK->Prop}(h:SlR X r)(h':SlR X r'):SlR X (fun x lo hi H Q=>r x lo hi H Q\/r' x lo hi H Q):=by
 intro pins s σ H x v vl vu lo hi sl Q I rx hs pl pu q;rcases q with q|q
 ·exact h pins s σ H x v vl vu lo hi sl Q I rx hs pl pu q
 ·exact h' pins s σ H x v vl vu lo hi sl Q I rx hs pl pu q
noncomputable def tSl(r:V->Option Int->Option Int->Hp->VK->Prop)(te:TE)(tl th:TO):TE:=fun σ H Q=>te σ H fun x H1=>tl σ H1 fun l H2=>th σ H2 fun u H3=>r x l u H3 Q
theorem Yd{r:V->Option Int->Option Int->Hp->VK->Prop}(hr:SlR X r)(he:PE X e te)(hl:PO X lo tl)(hu:PO X hi th):PE X (.Subscript e (.Slice lo hi none p2) pos) (tSl r te tl th):=by
 intro pins s σ H Q I h;refine Subscript_ (thn (he pins s σ H _ I h) fun v s1 ⟨x,H1,I1,r1,q1⟩=>?_);refine wpAny_Slice (thn (hl pins s1 σ H1 _ I1 q1) fun vl s2 ⟨l,H2,I2,pl,q2⟩=>thn (hu pins s2 σ H2 _ I2 q2) fun vu s3 ⟨u,H3,I3,pu,q3⟩=>?_);rw[evalPart_none];refine wpAny_pure ?_;have I4:Inv X pins σ H3 { s3 with heap:=s3.heap.push { cls:=.type "slice",data:=.fields #[vl,vu,.none] } }:=I3.kept (t':=s3.toks) fun b ob q=>Heap.get?_push_of_some _ q
 obtain⟨T,id,hT,ht,hg⟩:=hr pins { s3 with heap:=s3.heap.push { cls:=.type "slice",data:=.fields #[vl,vu,.none] } } σ H3 x v vl vu l u s3.heap.objs.size Q I4 r1 (Heap.IsSliceOf.new ..) pl pu q3;show wpAny (model X.prog X.w) X.A (subscriptTail e (.Slice lo hi none p2) v (.ref s3.heap.objs.size)) (EP X pins σ Q) X.xe { s3 with heap:=s3.heap.push { cls:=.type "slice",data:=.fields #[vl,vu,.none] } };exact tail_any (ops:=[.ref s3.heap.objs.size,v]) ht hT hg (by with_unfolding_all rfl)

noncomputable def UA(xs:List V)(lo hi:Option Int):List V:=(xs.drop (HT.sIx xs.length 0 lo)).take (HT.sIx xs.length xs.length hi-HT.sIx xs.length 0 lo)
theorem Y1(xs:List V)(lo hi:Option Int):(UA xs lo hi).length<=xs.length:=by unfold UA;rw[List.length_take,List.length_drop];omega
noncomputable def Jd9(K:Frag):V->Option Int->Option Int->Hp->VK->Prop:=fun x lo hi H Q=>∃a xs,x=.ref a/\SqT K H a xs ∧
 ¬(HT.sIx xs.length 0 lo=0/\HT.sIx xs.length xs.length hi=xs.length)/\∀p,H p=none->Q (.ref p) (upd H p (.tup (UA xs lo hi)))
theorem sl_tup:SlR X (Jd9 X.K):=by
 intro pins s σ H x v vl vu lo hi sl Q I rx hs pl pu h;obtain⟨a,xs,rfl,hx,hw,q⟩:=h;cases rx;obtain⟨its,r,ht,hz⟩:=I.tuple hx;have hlen:its.toArray.size=xs.length:=by rw[List.size_toArray];exact r.length.symm
 refine⟨"tuple",_,PyProof.Rows.slot_tuple_getitem.lookup,ht.typeIs,?_⟩;refine HT.YK ht hs pl pu (by rw[hlen];exact hw) ?_ (by rw[hlen];exact hz);rw[hlen];refine⟨.ref s.heap.objs.size,_,I.laid (t':=s.toks) (o:=.tup (UA xs lo hi)) (fun b ob q=>Heap.get?_push_of_some _ q) (Nat.le_refl _) ?_,rfl,q _ (I.hok.fresh (Nat.le_refl _))⟩;exact⟨Nat.le_trans (Y1 xs lo hi) hz,_,(r.drop (HT.sIx xs.length 0 lo)).take (HT.sIx xs.length xs.length hi-HT.sIx xs.length 0 lo),IsTup.new _ _⟩

noncomputable def Jbx(K:Frag):R2:=fun x y H Q=>∃a b xs ys,x=.ref a/\y=.ref b/\SqT K H a xs/\SqT K H b ys/\xs≠[]/\xs.length+ys.length<=sizeLine ∧
 (ys=[]->Q (.ref a) H)/\(ys≠[]->∀p,H p=none->Q (.ref p) (upd H p (.tup (xs++ys))))
theorem Vals.nil_iff{xs:List V}{us:List Value}(r:Vals xs us):us=[]↔xs=[]:=by
 cases r with
 | nil=>simp
 | cons _ _=>simp
theorem JaM:OpR X (binaryOp .Add) (Jbx X.K):=by
 intro pins s σ H x y v u Q I rx ry h;obtain⟨a,b,xs,ys,rfl,rfl,ha,hb,hx,hz,q1,q2⟩:=h;cases rx;cases ry;obtain⟨its,r1,p1,_⟩:=I.tuple ha;obtain⟨its2,r2,p2,_⟩:=I.tuple hb;refine HT.Jaf p1 p2 (fun z=>hx (r1.nil_iff.mp z)) (fun z=>⟨.ref a,H,I,rfl,q1 (r2.nil_iff.mp z)⟩) (fun z=>?_) (by rw[<- r1.length,<- r2.length];exact hz);refine⟨.ref s.heap.objs.size,_,I.laid (t':=s.toks) (o:=.tup (xs++ys)) (fun b ob q=>Heap.get?_push_of_some _ q) (Nat.le_refl _) ?_,rfl,q2 (fun w=>z (r2.nil_iff.mpr w)) _ (I.hok.fresh (Nat.le_refl _))⟩
 exact⟨by rw[List.length_append];exact hz,_,r1.append r2,IsTup.new _ _⟩
end
end L2

namespace L2
open PySem PySem.Spec PyProof.Rows

noncomputable def ixN(n:Nat)(i:Int):Option Nat:=if 0<=i then(if i<n then some i.toNat else none) else if -(n:Int)<=i then some (i+n).toNat else none
noncomputable def atI{α:Type}(xs:List α)(i:Int):Option α:=(ixN xs.length i).bind fun j=>xs[j]?
theorem JaE{n:Nat}{i:Int}{j:Nat}(h:ixN n i=some j):seqIndex? i n=some j/\j<n/\-(n:Int)<=i/\i<n:=by
 unfold ixN at h
 by_cases h0:0<=i
 ·rw[if_pos h0] at h
  by_cases h1:i<n
  ·rw[if_pos h1] at h;have e:i.toNat=j:=Option.some.inj h;exact⟨by rw[seqIndex_of h0 h1,e],by omega,by omega,h1⟩
  ·rw[if_neg h1] at h;cases h
 ·rw[if_neg h0] at h
  by_cases h1:-(n:Int)<=i
  ·rw[if_pos h1] at h;have e:(i+n).toNat=j:=Option.some.inj h;exact⟨by rw[seqIndex_neg (by omega) h1,e],by omega,h1,by omega⟩
  ·rw[if_neg h1] at h;cases h
theorem UR{α:Type}{xs:List α}{i:Int}{v:α}(h:atI xs i=some v):∃j,seqIndex? i xs.length=some j/\xs[j]?=some v/\j<xs.length/\-(xs.length:Int)<=i/\i<xs.length:=by
 unfold atI at h
 cases e:ixN xs.length i with
 | none=>rw[e] at h;cases h
 | some j=>rw[e] at h;obtain⟨h1,h2,h3,h4⟩:=JaE e;exact⟨j,h1,h,h2,h3,h4⟩
theorem Wc{α:Type}{xs:List α}{j:Nat}{v:α}(h:xs[j]?=some v):atI xs (j:Int)=some v:=by
 have hj:j<xs.length:=(List.getElem?_eq_some_iff.mp h).1
 have e:ixN xs.length (j:Int)=some j:=by unfold ixN;rw[if_pos (by omega),if_pos (by omega)];simp
 unfold atI;rw[e];exact h
noncomputable def Z9(b:Expr):Prop:=∀o i,subscripted b false o i=operate [o,i] (getItem o i)
noncomputable def IxR(X:Cx)(r:R2):Prop :=
 ∀(value slice:Expr) (pins:List (Addr×Obj)) (s:Shared) (σ:St) (H:Hp) (x y:V) (v u:Value) (Q:VK),Inv X pins σ H s->RelV x v->RelV y u->r x y H Q ->
  subscripted slice false v u=operate [v,u] (getItem v u)->wpAny (model X.prog X.w) X.A (subscriptTail value slice v u) (EP X pins σ Q) X.xe s
noncomputable def MtR(X:Cx)(id:String)(r:V->List V->Hp->VK->Prop):Prop :=
 ∀(pins:List (Addr×Obj)) (s:Shared) (σ:St) (H:Hp) (x:V) (xs:List V) (v:Value) (us:List Value) (Q:VK),Inv X pins σ H s->RelV x v->Vals xs us->r x xs H Q ->
  wpAny (model X.prog X.w) X.A (call (.builtin id) (v::us)) (EP X pins σ Q) X.xe s
section
variable{X:Cx}{a b:Expr}{ta tb:TE}{pos:Pos}
theorem IxR.or{r r':R2}(h:IxR X r)(h':IxR X r'):IxR X (fun x y H Q=>r x y H Q\/r' x y H Q):=by
 intro value slice pins s σ H x y v u Q I rx ry q hs;rcases q with q|q
 ·exact h value slice pins s σ H x y v u Q I rx ry q hs
 ·exact h' value slice pins s σ H x y v u Q I rx ry q hs
theorem MtR.or{id:String}{r r':V->List V->Hp->VK->Prop}(h:MtR X id r)(h':MtR X id r'):MtR X id (fun x xs H Q=>r x xs H Q\/r' x xs H Q):=by
 intro pins s σ H x xs v us Q I rx rs q;rcases q with q|q
 ·exact h pins s σ H x xs v us Q I rx rs q
 ·exact h' pins s σ H x xs v us Q I rx rs q
theorem ZD{r:R2}(hr:IxR X r)(ha:PE X a ta)(hb:PE X b tb)(hs:Z9 b):PE X (.Subscript a b pos) (tOp r ta tb):=by intro pins s σ H Q I h;exact Subscript_ (JbM ha hb I h fun v u s2 x y H2 I2 rx ry q=>hr a b pins s2 σ H2 x y v u Q I2 rx ry q (hs _ _))

noncomputable def Jd2(K:Frag):R2:=fun x y H Q=>∃p xs i v,x=.ref p/\y=.int i/\SqL K H p xs/\atI xs i=some v/\Q v H
noncomputable def Jd4(K:Frag):R2:=fun x y H Q=>∃p xs i v,x=.ref p/\y=.int i/\SqT K H p xs/\atI xs i=some v/\Q v H
noncomputable def Jd3:R2:=fun x y H Q=>∃z i c,x=.str z/\y=.int i/\z.length<=sizeLine/\atI z.cps.toList i=some c/\Q (.str ⟨#[c]⟩) H
theorem ix_list:IxR X (Jd2 X.K):=by
 intro value slice pins s σ H x y v u Q I rx ry h hs;obtain⟨p,xs,i,z,rfl,rfl,hq,he,q⟩:=h;cases rx;obtain⟨t,rfl⟩:=ry;obtain⟨its,r,pl,hz⟩:=I.list hq;obtain⟨j,h1,h2,h3,h4,h5⟩:=UR he;obtain⟨w,ew,rw'⟩:=r.get h2;have hl:=r.length;have hn:=Ul;have fin:EP X pins σ Q w s:=⟨z,H,I,rw',q⟩
 by_cases h0:0<=i
 ·have hj:i.toNat=j:=by rw[seqIndex_of h0 h5] at h1;exact Option.some.inj h1
  exact item_listR pl.isList h0 (by omega) (by rw[hj];simpa using ew) fin hs
 ·have hj:(i+(its.toArray.size:Int)).toNat=j:=by rw[seqIndex_neg (by omega) h4] at h1;rw[List.size_toArray,<- hl];exact Option.some.inj h1
  exact subscriptTail_builtinR (x:=w) pl.isList.typeIs slot_list_getitem.lookup
   (wpAny_getItem_list_neg (Q:=fun r s'=>r=w/\EP X pins σ Q r s') pl.isList (by omega) (by rw[List.size_toArray] <;> omega) (by omega) (by rw[hj];simpa using ew) ⟨rfl,fin⟩) hs
theorem ix_tup:IxR X (Jd4 X.K):=by
 intro value slice pins s σ H x y v u Q I rx ry h hs;obtain⟨p,xs,i,z,rfl,rfl,hq,he,q⟩:=h;cases rx;obtain⟨t,rfl⟩:=ry;obtain⟨its,r,pl,hz⟩:=I.tuple hq;obtain⟨j,h1,h2,h3,h4,h5⟩:=UR he;obtain⟨w,ew,rw'⟩:=r.get h2;have hl:=r.length;have hn:=Ul;have fin:EP X pins σ Q w s:=⟨z,H,I,rw',q⟩
 exact subscriptTail_builtinR (x:=w) pl.typeIs slot_tuple_getitem.lookup
  (getItem_tuple (j:=j) (Q:=fun r s'=>r=w/\EP X pins σ Q r s') pl (by omega) (by omega) (by rw[List.size_toArray,<- hl];exact h1) (by simpa using ew) ⟨rfl,fin⟩) hs
theorem Jcc:IxR X Jd3:=by
 intro value slice pins s σ H x y v u Q I rx ry h hs;obtain⟨z,i,c,rfl,rfl,hz,he,q⟩:=h;obtain⟨t,rfl⟩:=rx;obtain⟨t',rfl⟩:=ry;obtain⟨j,h1,h2,h3,h4,h5⟩:=UR he;have hl:z.cps.toList.length=z.length:=by simp[Str.length]
 rw[hl] at h1 h4 h5;have hn:=Ul;exact tail_any (typeIs_str s z t) slot_str_getitem.lookup (getItem_str (c:=c) (by
  have e1:decide (i < -(2 ^ 63:Int))=false:=decide_eq_false (by omega)
  have e2:decide (i ≥ 2 ^ 63)=false:=decide_eq_false (by omega);rw[e1,e2,Bool.or_false]) (by rw[h1];simpa using h2) ⟨.str ⟨#[c]⟩,H,I.tok _,⟨_,rfl⟩,q⟩) hs
noncomputable def rIx(K:Frag):R2:=fun x y H Q=>Jd2 K x y H Q\/Jd4 K x y H Q\/Jd3 x y H Q
theorem Jcb:IxR X (rIx X.K):=ix_list.or (ix_tup.or Jcc)

theorem Inv.lst{pins:List (Addr×Obj)}{σ:St}{H:Hp}{s:Shared}{p:Addr}{xs:List V}(I:Inv X pins σ H s)(h:H p=some (.lst xs)) :
 ∃(its:List Value) (n:Nat),Vals xs its/\s.heap.get? p=some { cls:=.type "list",data:=.seq its.toArray n }/\xs.length<=sizeLine:=by
 obtain⟨z,its,n,r,e⟩:=I.hok p _ h;exact⟨its,n,r,e,z⟩
theorem Va(lo hi:Option Int)(n:Nat):(sliceBounds lo hi none n).1=((HT.sIx n 0 lo:Nat):Int)/\(sliceBounds lo hi none n).2.1=((HT.sIx n n hi:Nat):Int)/\(sliceBounds lo hi none n).2.2=1:=by
 refine⟨?_,?_,rfl⟩
 ·cases lo with
  | none=>simp[sliceBounds,HT.sIx]
  | some i =>
   simp only[sliceBounds,HT.sIx,Option.getD_none,show(1:Int)>0 by decide,if_true]
   by_cases h:i<0
   ·simp only[h,if_true] <;> omega
   ·simp only[h,if_false] <;> omega
 ·cases hi with
  | none=>simp[sliceBounds,HT.sIx]
  | some i =>
   simp only[sliceBounds,HT.sIx,Option.getD_none,show(1:Int)>0 by decide,if_true]
   by_cases h:i<0
   ·simp only[h,if_true] <;> omega
   ·simp only[h,if_false] <;> omega
theorem UE(its:List Value)(lo hi:Option Int):slicePick its.toArray lo hi none=((its.drop (HT.sIx its.length 0 lo)).take (HT.sIx its.length its.length hi-HT.sIx its.length 0 lo)).toArray:=by obtain⟨h1,h2,h3⟩:=Va lo hi its.toArray.size;unfold slicePick;rw[h1,h2,h3];simp only[sliceRange_one,pick_run,List.size_toArray] <;> rfl
noncomputable def Jd7(K:Frag):V->Option Int->Option Int->Hp->VK->Prop:=fun x lo hi H Q=>∃a xs,x=.ref a/\SqL K H a xs/\∀p,H p=none->Q (.ref p) (upd H p (.lst (UA xs lo hi)))
theorem sl_list:SlR X (Jd7 X.K):=by
 intro pins s σ H x v vl vu lo hi sl Q I rx hs pl pu h;obtain⟨a,xs,rfl,hx,q⟩:=h;cases rx;obtain⟨its,r,ht,hz⟩:=I.list hx;have hlen:=r.length;refine⟨"list",_,slot_list_getitem.lookup,ht.isList.typeIs,?_⟩;refine wpAny_getItem_list_slice ht.isList hs pl pu .none (by simp) ?_ (by rw[List.size_toArray] <;> omega);rw[UE,<- hlen];refine⟨.ref s.heap.objs.size,_,I.laid (t':=s.toks) (o:=.lst (UA xs lo hi)) (fun b ob q=>Heap.get?_push_of_some _ q) (Nat.le_refl _) ?_,rfl,q _ (I.hok.fresh (Nat.le_refl _))⟩
 exact⟨Nat.le_trans (Y1 xs lo hi) hz,_,0,(r.drop (HT.sIx xs.length 0 lo)).take (HT.sIx xs.length xs.length hi-HT.sIx xs.length 0 lo),Heap.get?_push_size _ rfl⟩

theorem CallR.or{f:Value}{r r':List V->Hp->VK->Prop}(h:CallR X f r)(h':CallR X f r'):CallR X f (fun xs H Q=>r xs H Q\/r' xs H Q):=by
 intro pins s σ H xs us Q I rs q;rcases q with q|q
 ·exact h pins s σ H xs us Q I rs q
 ·exact h' pins s σ H xs us Q I rs q
noncomputable def tyV(K:Frag)(T:String)(x:V)(H:Hp):Prop:=match x with
 | .str _=>T="str"
 | .int _=>T="int"
 | .ref p=>(T="list"/\∃xs,SqL K H p xs)\/(T="tuple"/\∃o,K.lookup p=some o/\o.cls=.type "tuple"/\o.dict=none) ∨
  (T="dict"/\((∃kvs,H p=some (.dK kvs))\/∃kvs,H p=some (.dT kvs)))\/(T="set"/\∃S n,H p=some (.set S n))
 | _=>False
theorem Jdx{pins:List (Addr×Obj)}{σ:St}{H:Hp}{s:Shared}{T:String}{x:V}{v:Value}(I:Inv X pins σ H s)(r:RelV x v)(ty:tyV X.K T x H) :
 s.TypeIs v T/\∀a,v=.ref a->∃ob,s.heap.get? a=some ob/\ob.dict=none:=by
 cases x with
 | str z=>obtain⟨t,rfl⟩:=r;cases (show T="str" from ty);exact⟨typeIs_str s z t,fun _ e=>nomatch e⟩
 | int i=>obtain⟨t,rfl⟩:=r;cases (show T="int" from ty);exact⟨typeIs_int s i t,fun _ e=>nomatch e⟩
 | ref p =>
  cases r;rcases ty with ⟨rfl,xs,hq⟩|⟨rfl,o,hk,hc,hd⟩|⟨rfl,hk⟩|⟨rfl,S,n,hk⟩
  ·obtain⟨its,_,pl,_⟩:=I.list hq;refine⟨pl.isList.typeIs,fun a e=>?_⟩;cases e;obtain⟨o,n,e,c,hd,_⟩:=pl;exact⟨o,e,hd⟩
  ·refine⟨⟨o,I.kIn p o hk,hc⟩,fun a e=>?_⟩;cases e;exact⟨o,I.kIn _ o hk,hd⟩
  ·have z:∃o,s.heap.get? p=some o/\o.ExactDict:=by
    rcases hk with ⟨kvs,hk⟩|⟨kvs,hk⟩
    ·obtain⟨_,_,_,_,o,_,_,e,ex,_⟩:=I.hok p _ hk;exact⟨o,e,ex⟩
    ·obtain⟨_,_,_,_,o,_,_,e,ex,_⟩:=I.hok p _ hk;exact⟨o,e,ex⟩
   obtain⟨o,e,ex⟩:=z;refine⟨⟨o,e,ex.1⟩,fun a e2=>?_⟩;cases e2;exact⟨o,e,ex.2.1⟩
  ·obtain⟨o,_,_,_,e,ex,_⟩:=I.hok p _ hk;refine⟨⟨o,e,ex.1⟩,fun a e2=>?_⟩;cases e2;exact⟨o,e,ex.2.1⟩
 | _=>exact False.elim ty
noncomputable def tBM(K:Frag)(T:String)(r:V->List V->Hp->VK->Prop)(to:TE)(t:TA):TE:=fun σ H Q=>to σ H fun x H1=>tyV K T x H1/\t σ H1 fun xs H2=>r x xs H2 Q
variable{o e:Expr}{es:List Expr}{to:TE}{t:TA}{name:Str}{apos cpos:Pos}{T id:String}{r:V->List V->Hp->VK->Prop}
theorem JdY(pa:PlainAttrs T)(slot:Slot T name id)(hty:typeOf (.builtin id)=pure (.type "method_descriptor"))(hm:MtR X id r)(ho:PE X o to)(ha:PA X (e::es) t)
 (hbase:attributeBase o name X.env (eval o X.env)=eval o X.env:=by rfl)
 (hfew:((backTo cpos (starEach (e::es) X.env)).all (fun x=>!x.1) && (backToKw cpos (keywordEach [] X.env)).all (fun x=>x.1.isSome)
  && decide ((e::es).length+([]:List Keyword).length+(if ([]:List Keyword).isEmpty then 0 else 1)<30))=true:=by rfl)
 (hline:(apos.endLine == cpos.line)=true:=by rfl) (hs:starEach (e::es) X.env=(false,eval e X.env)::starEach es X.env:=by rfl) (hplain:(backTo cpos (starEach es X.env)).any (·.1)=false:=by rfl) :
 PE X (.Call (.Attribute o name apos) (e::es) [] cpos) (tBM X.K T r to t):=by
 intro pins s σ H Q I h;refine wpAny_Call_method_late hbase hfew hline rfl (thn (ho pins s σ H _ I h) fun v s1 ⟨x,H1,I1,r1,ty,q1⟩=>?_);obtain⟨h1,h2⟩:=Jdx I1 r1 ty;refine⟨T,id,pa,slot,hty,h1,h2,?_⟩;have hA:=ha cpos pins s1 σ H1 _ I1 q1;rw[hs] at hA ⊢;refine Calls.callWith_builtin (by show(false || (backTo cpos (starEach es X.env)).any (·.1))=false;rw[hplain] <;> rfl) (Calls.evalArgs_plain ?_);exact thn hA fun us s2 ⟨vs,H2,I2,r2,q2⟩=>hm pins s2 σ H2 x vs v us Q I2 r1 r2 q2
/- xs.append(e),list.index on a module's tuple .. are MtR facts of 06m -/
end
end L2

namespace L2
open PySem PySem.Spec PyProof.Rows

noncomputable def MtM(X:Cx)(id:String)(r:V->List V->Hp->VK->Prop):Prop :=
 ∀(pins:List (Addr×Obj)) (s:Shared) (σ:St) (H:Hp) (x:V) (xs:List V) (v:Value) (us:List Value) (Q:VK),Inv X pins σ H s->RelV x v->Vals xs us->r x xs H Q ->
  wpAny (model X.prog X.w) X.A (call (.builtin id) (v::us)) (EP X pins σ Q) X.xe s

theorem Vals.one:∀{x:V} {us:List Value},Vals [x] us->∃u,us=[u]/\RelV x u
 | _,_,.cons r .nil=>⟨_,rfl,r⟩
theorem Vals.zero:∀{us:List Value},Vals [] us->us=[]
 | _,.nil=>rfl
theorem Vals.reverse{xs:List V}{us:List Value}(h:Vals xs us):Vals xs.reverse us.reverse:=by
 induction h with
 | nil=>exact .nil
 | cons r t ih=>rw[List.reverse_cons,List.reverse_cons];exact Vals.append ih (.cons r .nil)
theorem Vals.rep{xs:List V}{us:List Value}(h:Vals xs us):∀k:Nat,Vals (List.replicate k xs).flatten (List.replicate k us).flatten
 | 0=>.nil
 | k+1=>by rw[List.replicate_succ,List.replicate_succ,List.flatten_cons,List.flatten_cons];exact Vals.append h (Vals.rep h k)
section
variable{X:Cx}{pins:List (Addr×Obj)}{σ:St}{H:Hp}{s:Shared}{l b:Addr}{xs ys zs:List V}

theorem Inv.lnew{its:List Value}{t':Nat}(I:Inv X pins σ H s)(hv:Vals ys its)(hz:ys.length<=sizeLine) :
 Inv X pins σ (upd H s.heap.objs.size (.lst ys)) { s with heap:=s.heap.push { cls:=.type "list",data:=.seq its.toArray },toks:=t' } :=
 I.laid (fun _ _ q=>Heap.get?_push_of_some _ q) (Nat.le_refl _) ⟨hz,its,0,hv,Heap.get?_push_size _ rfl⟩
theorem Inv.fresh(I:Inv X pins σ H s):H s.heap.objs.size=none:=I.hok.fresh (Nat.le_refl _)
theorem Inv.lstM(I:Inv X pins σ H s)(hH:H l=some (.lst xs)):xs.length<=sizeLine/\∃(its:List Value) (n:Nat),Vals xs its/\xs.length=its.length/\s.heap.get? l=some { cls:=.type "list",data:=.seq its.toArray n }:=by obtain⟨z,its,n,r,e⟩:=I.hok l _ hH;exact⟨z,its,n,r,r.length,e⟩

end

section
variable{X:Cx}

noncomputable def Jd0:R2:=fun x y H Q=>∃l b xs zs,x=.ref l/\y=.ref b/\H l=some (.lst xs)/\H b=some (.lst zs)/\xs.length+zs.length<=sizeLine/\∀p,H p=none->Q (.ref p) (upd H p (.lst (xs++zs)))
theorem Jcx:OpR X (binaryOp .Add) Jd0:=by
 intro pins s σ H x y v u Q I rx ry h;obtain⟨l,b,xs,zs,rfl,rfl,hH,hB,hz,q⟩:=h;cases rx;cases ry;obtain⟨z,its,n,r,hl,e⟩:=I.lstM hH;obtain⟨z2,its2,n2,r2,hl2,e2⟩:=I.lstM hB;refine PySem.P.add_list e e2 ?_ (by rw[List.size_toArray,List.size_toArray];omega);have ea:its.toArray++its2.toArray=(its++its2).toArray:=by simp
 rw[ea];exact⟨.ref _,_,I.lnew (t':=s.toks) (r.append r2) (by rw[List.length_append];omega),rfl,q _ I.fresh⟩
end

section
variable{prog:Program}{w:World}{A:Around}{E:Value->Shared->Prop}{s:Shared}
end

section
variable{X:Cx}
end
end L2

namespace Att
open PySem PySem.W PySem.Calls PyProof.Rows

theorem Y4{P:Params}{h:Heap}:∀(ns:List Int) (vs:List Value),WellAll P h vs (ns.map WData.int)->IntsAre vs ns:=by
 intro ns
 induction ns with
 | nil=>intro vs w;rw[List.map_nil] at w;cases w;exact .nil
 | cons n ns ih =>
  intro vs w;rw[List.map_cons] at w
  cases w with
  | cons a b=>cases a;exact .cons _ _ (ih _ b)

theorem W2{l:OpenLaw}{n:Nat}(hn:l.most=some n){P:Params}{h:Heap}{args:List WData}{vals:List Value}
 (hpre:l.row.toRowW.claim.pre args=true) (hwl:WellAll P h vals args) :
 ∃a vs ns,vals=[Value.ref a]/\args=[WData.list (ns.map WData.int)]/\h.get? a=some { cls:=.type "list",data:=.seq vs.toArray }/\IntsAre vs ns/\ns.length<=n:=by
 have hsh:WShape.hasAll [] args [.list .int]=true:=(pre_splitW hpre).1
 have hc:l.pre.holds [] { args:=args }=true:=(pre_splitW hpre).2;obtain⟨d,r,rfl,h1,h2⟩:=hasAllW_cons hsh;obtain rfl:=hasAllW_nil h2;obtain⟨xs,rfl,h3⟩:=hasW_list h1;obtain⟨ns,rfl⟩:=items_int h3
 have hlen:ns.length<=n:=by
  unfold OpenLaw.pre at hc
  have h4:(WTm.not (.lt (.lit (.int (n:Int))) (.len (.arg 0)))).holds [] { args:=[.list (ns.map .int)] }=true:=by have h4:=(holds_andW hc).1;rw[hn] at h4;exact h4
  have h5:=condW_of h4 (w_not (w_lt w_lit (w_len_list (w_arg rfl))));rw[List.length_map] at h5;refine Nat.le_of_not_lt fun q=>?_
  have q':(n:Int)<((ns.length:Nat):Int):=by omega
  first
   | (rw[decide_eq_true q'] at h5;exact absurd h5 (by decide))
   | (simp at h5;omega)
 cases hwl with
 | cons w1 w2 =>
  cases w2
  cases w1 with
  | list ho hall=>exact⟨_,_,ns,rfl,rfl,ho,Y4 ns _ hall,hlen⟩

theorem W0(l:OpenLaw)(args:List WData):l.row.toRowW.claim.post args (.bool true) args=true :=
 postW_of (r:=l.row.toRowW) (X:=(true == true))
  (show WShape.has [] (.bool true) .bool=true by first|rfl|decide|simp[WShape.has,WShape.arms,WShape.armsAll])
  (show(WTm.eq .res (.lit (.bool true))).value [] { args:=args,res:=some (.bool true),after:=args }=some (.bool (true == true)) from w_eq_bool (w_res rfl) w_lit) rfl

theorem attach_call{l:OpenLaw}{n:Nat}{q:Program}{loose:List Str}{XP:(Str->Option Value)->Heap->Prop}{YP:World->Heap->Prop}{d:DefRec}
 (hn:l.most=some n) (hdf:d.params.defaults=[])
 (call:∀(w:World) (s₀ s₁:Shared) (mg mb:Str->Option Value) (fa:Addr) (o:Obj) (pm cd doc:Value) (a:Addr) (vs:List Value) (ns:List Int),
  Ground q loose [] XP w s₀ mg mb s₁.heap->YP w s₁.heap ->
  s₁.heap.get? fa=some o->o.data=.func (docDef d.name d.params d.body d.scope pm cd doc)->s₁.heap.CodeRec cd d.name->mg d.name=some (.ref fa) ->
  s₁.heap.get? a=some { cls:=.type "list",data:=.seq vs.toArray }->IntsAre vs ns->ns.length<=n->s₁.gens=#[] ->
  codeAny (model l.prog w) callerA (.call (.ref fa) ⟨[.ref a],[]⟩) (fun r s'=>r=.ok (.ret (.bool true))/\OldK s₁.heap s'.heap/\s'.os=s₁.os/\AllBare s'.gens) s₁) :
 WalkO q loose XP YP l.row.toRowW d [] (fun f vs=>PySem.call f vs):=by
 intro w s₀ s₁ mg mb G Y fa o pm cd doc dV kV ho hd hcd hD hmg hg args vals as hpre hlay hrd hwl hlo;obtain rfl:dV=.none:=Dflts.none hD hdf;obtain rfl:kV=.none:=Dflts.noKw hD;obtain⟨a,vs,ns,rfl,rfl,hobj,hints,hlen⟩:=W2 hn hpre hwl;refine enter_call (codeAny_mono (call w s₀ s₁ mg mb fa o pm cd doc a vs ns G Y ho (fd_plain hd) hcd hmg hobj hints hlen hg) fun r s' hq=>?_);obtain⟨rfl,h2,h3,h4⟩:=hq;exact⟨.inl ⟨.bool true,.bool true,[],rfl,fun _=>rfl,.bool true,W0 l _,fun _=>⟨List.Pairwise.nil,fun _ hm=>(nomatch hm)⟩⟩,h2,h3,h4⟩

section
variable{prog:Program}{w:World}{A:Around}{E:Value->Shared->Prop}{s:Shared}{K:Frag}

end
end Att

namespace L2
open PySem PySem.Spec PyProof.Rows

theorem UQ:∀{vs:List Value} {ns:List Int},IntsAre vs ns->Vals (ns.map V.int) vs
 | _,_,.nil=>.nil
 | _,_,.cons n t h=>.cons ⟨t,rfl⟩ (UQ h)

noncomputable def JbJ(H:Hp):Prop:=∀b,H b=none\/∃o xs,H b=some (.frz o (.lst xs))

theorem Zr{P:Program}{w:World}{K:Frag}{mg mb:Str->Option Value}{CX:CXT}{k:Nat}{fa a:Addr}{fd:FuncData}{x:Str}{sp:Sp}{s₁:Shared}{vs:List Value}{ns:List Int}
 (KX:K.In s₁.heap) (hns:s₁.heap.Ns mainGlobals mg) (hb:s₁.heap.Ns builtinsNs mb) (hbb:∀x:Str,x≠"__name__"->mb x=bootBuiltins x) (hlim:s₁.heap.NoLimit) (hg:s₁.gens=#[])
 (ha:s₁.heap.get? a=some { cls:=.type "list",data:=.seq vs.toArray }) (hi:IntsAre vs ns) (hl:ns.length<=sizeLine) (hr:Room k callerA)
 (F:∀base:Heap,K.In base->base.Ns mainGlobals mg->FnOk P w K mg base CX k fa fd [x] sp) (hbind:∀(s:Shared) (u:Value),BindsTo s fd ⟨[u],[]⟩ [(x,u)])
 (hsp:∀H:Hp,JbJ H->SqL K H a (ns.map V.int)->sp [.ref a] H (fun v _=>v=.bl true) fun _ _ _=>False)
 (hCX:∀H e s',CX [] H s₁ (fun _ _ _=>False) e s'->False) :
 codeAny (model P w) callerA (.call (.ref fa) ⟨[.ref a],[]⟩) (fun r s'=>r=.ok (.ret (.bool true))/\OldK s₁.heap s'.heap/\s'.os=s₁.os/\AllBare s'.gens) s₁:=by
 have rv:=UQ hi
 have lenV:=hi.length
 -- from an abstract heap in which nothing but the script may be tracked
 have core:∀H:Hp,JbJ H->SqL K H a (ns.map V.int)->HOk P w H s₁.heap->(∀b,H b≠none->b=a)->(H a≠none->K.lookup a=none) ->
  codeAny (model P w) callerA (.call (.ref fa) ⟨[.ref a],[]⟩) (fun r s'=>r=.ok (.ret (.bool true))/\OldK s₁.heap s'.heap/\s'.os=s₁.os/\AllBare s'.gens) s₁:=by
  intro H hO hS hok hA hK;have base_of:∀{b:Addr} {o:Obj},s₁.heap.get? b=some o->H b=none->(UY s₁.heap H).get? b=some o:=fun e n=>Zi e n
  have noA:∀{b:Addr} {o:Obj} {es:Array DictEntry} {ep:Nat},s₁.heap.get? b=some o->o.data=.dict es ep->H b=none:=fun {b o es ep} e d=>by
   cases q:H b with
   | none=>rfl
   | some u =>
    have e':b=a:=hA b (by rw[q];simp);subst e';rw[ha] at e;cases e
    have d':Data.seq vs.toArray _=Data.dict es ep:=d;cases d'
  have nsK:∀{b:Addr} {m:Str->Option Value},s₁.heap.Ns b m->(UY s₁.heap H).Ns b m:=fun {b m} ⟨o,es,ep,e,d,r⟩=>⟨o,es,ep,base_of e (noA e d),d,r⟩
  have hKb:K.In (UY s₁.heap H):=fun b o e=>base_of (KX b o e) (by
   cases q:H b with
   | none=>rfl
   | some u=>have e':b=a:=hA b (by rw[q];simp);subst e';rw[hK (by rw[q];simp)] at e;cases e)
  have hM:Mod K mg (UY s₁.heap H):=⟨hKb,nsK hns,⟨mb,nsK hb,hbb⟩,let ⟨mc,h1,h2⟩:=hlim;⟨mc,nsK h1,h2⟩⟩
  have e0:Env0 P w K mg (UY s₁.heap H) callerA [] s₁ H:=⟨rfl,hM,fun b o e=>JaJ e,Nat.le_of_eq (WK _ _),trivial,fun b hb=>absurd (show b∈([]:List Addr) from hb) (by simp),hok,.of_eq hg⟩
  refine codeAny_mono ((F _ hKb (nsK hns)).run callerA [] s₁ H ⟨[.ref a],[]⟩ [.ref a] [.ref a] _ _ hr e0 (hbind s₁ (.ref a)) (.cons rfl .nil) (hsp H hO hS)) fun r s' h=>?_
  cases r with
  | error e=>exact(hCX H e s' h).elim
  | ok fl =>
   cases fl with
   | next=>exact False.elim h
   | brk=>exact False.elim h
   | cont=>exact False.elim h
   | ret u =>
    obtain⟨v,H',os,bare,un,hok',r',q⟩:=h;have q':v=.bl true:=q;subst q';obtain rfl:u=Value.bool true:=r';refine⟨rfl,OldK.of_keep fun b o e=>?_,os,bare⟩
    cases q:H b with
    | none=>exact un.keep b o e q (by intro z;exact absurd (show b∈([]:List Addr) from z) (by simp)) (by simp)
    | some u =>
     rcases hO b with z|⟨ob,xs,z⟩
     ·rw[q] at z;cases z
     ·have z2:=un.frzs b ob _ z;obtain⟨e1,_⟩:=hok b _ z;obtain⟨e2,_⟩:=hok' b _ z2;rw[e] at e1;cases e1;exact e2
 cases hk:K.lookup a with
 | some o =>
  -- the script is one of the module's own objects
  have e:=KX a o hk;rw[ha] at e;cases e;refine core (fun _=>none) (fun _=>.inl rfl) (.inr ⟨_,vs.toArray,_,hk,rfl,rfl,rfl,by rw[List.size_toArray,lenV];exact hl,by simpa using rv⟩) (fun b u z=>by have z':(none:Option HO)=some u:=z;cases z') (fun b z=>absurd rfl z) fun z=>absurd rfl z
 | none =>
  refine core (fun b=>if b=a then some (.frz { cls:=.type "list",data:=.seq vs.toArray } (.lst (ns.map V.int))) else none) (fun b=>?_) (.inl (.inr ⟨{ cls:=.type "list",data:=.seq vs.toArray },if_pos rfl⟩)) (fun b u z=>?_) (fun b z=>?_) fun _=>hk
  ·by_cases hb:b=a
   ·exact .inr ⟨_,_,if_pos hb⟩
   ·exact .inl (if_neg hb)
  ·by_cases hb:b=a
   ·have z':=(if_pos hb).symm.trans z;cases z';subst hb;exact⟨ha,by rw[List.length_map];exact hl,vs,_,rv,ha⟩
   ·have z':=(if_neg hb).symm.trans z;cases z'
  ·by_cases hb:b=a
   ·exact hb
   ·exact absurd (if_neg hb) z
end L2

namespace L2
open PySem PySem.Spec PyProof.Rows

theorem Jbo{l:PySem.W.OpenLaw}{n k:Nat}{q:Program}{loose:List Str}{XP:(Str->Option Value)->Heap->Prop}{YP:World->Heap->Prop}{d:DefRec}{K:Params->Frag}{CX:World->CXT}{sp:World->Sp}{x:Str}
 (hn:l.most=some n) (hn2:n<=sizeLine) (hdf:d.params.defaults=[]) (hr:Room k callerA)
 (hY:∀(w:World) (h:Heap),YP w h->(K w.params).In h)
 (F:∀(w:World) (mg:Str->Option Value) (fa:Addr) (h:Heap),(K w.params).In h->h.Ns mainGlobals mg->mg d.name=some (.ref fa) ->
  ∃fd:FuncData,(∀(s:Shared) (u:Value),BindsTo s fd ⟨[u],[]⟩ [(x,u)]) ∧
   ∀base:Heap,(K w.params).In base->base.Ns mainGlobals mg->FnOk l.prog w (K w.params) mg base (CX w) k fa fd [x] (sp w))
 (hsp:∀(w:World) (H:Hp) (a:Addr) (ns:List Int),ns.length<=n->JbJ H->SqL (K w.params) H a (ns.map V.int)->sp w [.ref a] H (fun v _=>v=.bl true) fun _ _ _=>False)
 (hCX:∀(w:World) (H:Hp) (s:Shared) (e:Value) (s':Shared),CX w [] H s (fun _ _ _=>False) e s'->False) :
 PySem.W.WalkO q loose XP YP l.row.toRowW d [] (fun f vs=>PySem.call f vs):=by
 refine Att.attach_call hn hdf fun w s₀ s₁ mg mb fa o pm cd doc a vs ns G Y ho hd hcd hmg hobj hints hlen hg=>?_
 have KX:=hY w _ Y;obtain⟨fd,hb,hF⟩:=F w mg fa _ KX G.T.g hmg;exact Zr KX G.T.g G.T.b G.T.builtins G.T.nolimit hg hobj hints (Nat.le_trans hlen hn2) hr hF hb (fun H hO hS=>hsp w H a ns hlen hO hS) fun H e s'=>hCX w H s₁ e s'
end L2

namespace L2
open PySem PySem.Spec PyProof.Rows

noncomputable def JO(s:Stmt):Arguments:=match s with
 | .FunctionDef _ a _ _ _ _ _ _ _ _=>a
 | _=>{ posonlyargs:=[],args:=[],vararg:=none,kwonlyargs:=[],kw_defaults:=[],kwarg:=none,defaults:=[] }
noncomputable def JE(s:Stmt):List Stmt:=match s with
 | .FunctionDef _ _ b _ _ _ _ _ _ _=>b
 | _=>[]
noncomputable def Jf(s:Stmt):Scope:=match s with
 | .FunctionDef _ _ _ _ _ _ sc _ _ _=>sc
 | _=>{ kind:=.function,names:=[],isGenerator:=false,isCoroutine:=false }

noncomputable abbrev CX0:CXT:=fun _ _ _ _ _ _=>False
noncomputable abbrev E0:XK:=fun _ _ _=>False
theorem JdX{X:Cx}:VP CX0 X E0:=fun _ _ _ _ _ _ _ h=>h.elim

structure Fun (K:Frag) (x qual:Str) (st:Stmt) (f:Addr) (fd:FuncData):Prop where
 ex:∃(oc:Value) (od:Option Addr) (kV doc pm:Value) (an:Option Addr) (cdv ct:Value) (osl:Array (Option Value)),
  fd=fnOf x qual (JO st) (JE st) (Jf st) .none kV doc pm an cdv ct/\K.lookup f=some ⟨oc,od,.func fd,osl⟩/\codeIn K cdv qual=true
 kp:keepIn K (.ref f)=true
section
variable{P:Program}{w:World}{K:Frag}{mg:Str->Option Value}{base:Heap}
theorem Fun.ok{x qual:Str}{st:Stmt}{f:Addr}{fd:FuncData}{N ps:List Str}{k:Nat}{sp:Sp}(F:Fun K x qual st f fd)(S:FnScope N ps (Jf st))(len:∀vs H Q E,sp vs H Q E->vs.length=ps.length)
 (hbody:∀(cdv:Value) (A:Around) (outer:List Env) (s:Shared) (H:Hp) (vs:List V) (Q:VK) (E:XK),Room k (A.deeper (envOfC qual (Jf st) s.heap.objs.size f cdv))->sp vs H Q E ->
  ∃t,PSs (VT CX0 P w K mg base N qual (Jf st) f cdv A outer s H E).nox (JE st) t/\t { nx:=fun _ H'=>Q .non H',rt:=Q } (Yg N vs) H):FnOk P w K mg base CX0 (k+1) f fd ps sp:=by
 obtain⟨oc,od,kV,doc,pm,an,cdv,ct,osl,rfl,lk,hcd⟩:=F.ex;refine JdM lk hcd S len fun A outer s H vs Q E hr hsp=>?_
 obtain⟨t,h,q⟩:=hbody cdv A outer s H vs Q E hr hsp;exact⟨t,h.nox,q⟩
theorem Fun.binds{x qual:Str}{st:Stmt}{f:Addr}{fd:FuncData}{ps:List Str}(F:Fun K x qual st f fd)
 (h:∀(kV doc pm:Value) (an:Option Addr) (cdv ct:Value) (us:List Value),us.length=ps.length->bindArgs (fnOf x qual (JO st) (JE st) (Jf st) .none kV doc pm an cdv ct) ⟨us,[]⟩=pure (ps.zip us)):Binds K fd ps []:=by
 obtain⟨oc,od,kV,doc,pm,an,cdv,ct,osl,rfl,lk,hcd⟩:=F.ex;exact .all (h kV doc pm an cdv ct)
theorem YC{x qual:Str}{st:Stmt}{f:Addr}{oc:Value}{od an:Option Addr}{osl:Array (Option Value)}{kV doc pm cdv ct:Value}(l:K.lookup f=some ⟨oc,od,.func (fnOf x qual (JO st) (JE st) (Jf st) .none kV doc pm an cdv ct),osl⟩)
 (c:codeIn K cdv qual=true) (k:keepIn K (.ref f)=true):Fun K x qual st f (fnOf x qual (JO st) (JE st) (Jf st) .none kV doc pm an cdv ct):=⟨⟨oc,od,kV,doc,pm,an,cdv,ct,osl,rfl,l,c⟩,k⟩
end
section
variable{X:Cx}
theorem pv(i:Nat){x:Str}{pos:Pos}(hN:X.N[i]?=some x:=by rfl)(hv:Vis X.env.scope x:=by first | exact Or.inl rfl | exact Or.inr (.inl rfl) | exact Or.inr (.inr rfl))(hd:(x == ("__debug__":Str))=false:=by decide)
 (hcd:(x == ("__classdict__":Str))=false:=by decide):PE X (.Name x pos) (Jbm i):=JcE hN hv hd hcd
end

noncomputable def Same(H H':Hp):Prop:=∀b o,H b=some o->H' b=some o
theorem Same.refl(H:Hp):Same H H:=fun _ _ h=>h
theorem Same.trans{H H1 H2:Hp}(a:Same H H1)(b:Same H1 H2):Same H H2:=fun c o h=>b c o (a c o h)
theorem Same.free{H H':Hp}(e:Same H H'){l:Addr}(h:H' l=Option.none):H l=Option.none:=by
 cases q:H l with
 | none=>rfl
 | some o=>rw[e l o q] at h;cases h
theorem Same.seq{K:Frag}{H H':Hp}{a:Addr}{xs:List V}(e:Same H H')(h:SqL K H a xs):SqL K H' a xs:=by
 rcases h with (h|⟨o,h⟩)|h
 ·exact .inl (.inl (e _ _ h))
 ·exact .inl (.inr ⟨o,e _ _ h⟩)
 ·exact .inr h

end L2

namespace L2
open PySem PySem.Spec PyProof.Rows

section
variable{κ:Type}[DecidableEq κ]
noncomputable def Y5(kvs:List (κ×V))(k:κ):Option V:=(kvs.find? fun kv=>decide (kv.1=k)).map (·.2)
noncomputable def VC(kvs:List (κ×V))(k:κ)(v:V):List (κ×V) :=
 if (kvs.any fun kv=>decide (kv.1=k))=true then kvs.map (fun kv=>if kv.1=k then(kv.1,v) else kv) else kvs++[(k,v)]
noncomputable def Jbs(kvs:List (κ×V))(k:κ):List (κ×V):=kvs.filter fun kv=>decide (kv.1≠k)

theorem Uz{p:κ×V}{r:List (κ×V)}{k:κ}(e:p.1=k):Y5 (p::r) k=some p.2:=by simp[Y5,List.find?_cons,e]
theorem Uy{p:κ×V}{r:List (κ×V)}{k:κ}(e:¬p.1=k):Y5 (p::r) k=Y5 r k:=by simp[Y5,List.find?_cons,e]
theorem VO(k:κ):∀kvs:List (κ×V),(kvs.any fun kv=>decide (kv.1=k))=(Y5 kvs k).isSome
 | []=>rfl
 | p::r=>by
  rw[List.any_cons]
  by_cases e:p.1=k
  ·simp only[Uz e,decide_eq_true e,Bool.true_or,Option.isSome_some]
  ·rw[Uy e,decide_eq_false e,Bool.false_or];exact VO k r
theorem RelO.isSome_eq{o:Option V}{u:Option Value}(r:RelO o u):o.isSome=u.isSome:=by
 cases o with
 | none=>cases u with
  | none=>rfl
  | some _=>exact(show False from r).elim
 | some _=>cases u with
  | none=>exact(show False from r).elim
  | some _=>rfl
theorem RelO.getD{o:Option V}{u:Option Value}{d:V}{d':Value}(r:RelO o u)(rd:RelV d d'):RelV (o.getD d) (u.getD d'):=by
 cases o with
 | none=>cases u with
  | none=>exact rd
  | some _=>exact(show False from r).elim
 | some _=>cases u with
  | none=>exact(show False from r).elim
  | some _=>exact r

theorem KV.val{kvs:List (κ×V)}{vs:List (κ×Value)}(r:KV kvs vs)(k:κ):RelO (Y5 kvs k) (valueAt vs k):=by
 unfold KV at r
 induction r with
 | nil=>exact True.intro
 | @cons p q ps qs h t ih =>
  obtain⟨h1,h2⟩:=h
  by_cases e:p.1=k
  ·have e':q.1=k:=h1.symm.trans e
   have b:valueAt (q::qs) k=some q.2:=by simp[valueAt,List.find?_cons,e']
   rw[Uz e,b];exact h2
  ·have e':¬q.1=k:=fun z=>e (h1.trans z)
   have b:valueAt (q::qs) k=valueAt qs k:=by simp[valueAt,List.find?_cons,e']
   rw[Uy e,b];exact ih
theorem KV.any{kvs:List (κ×V)}{vs:List (κ×Value)}(r:KV kvs vs)(k:κ):(kvs.any fun kv=>decide (kv.1=k))=vs.any fun kv=>decide (kv.1=k):=by
 unfold KV at r
 induction r with
 | nil=>rfl
 | cons h t ih=>rw[List.any_cons,List.any_cons,ih,h.1]
theorem KV.repl{kvs:List (κ×V)}{vs:List (κ×Value)}(r:KV kvs vs)(k:κ){y:V}{u:Value}(ry:RelV y u) :
 KV (kvs.map fun kv=>if kv.1=k then(kv.1,y) else kv) (vs.map fun kv=>if kv.1=k then(kv.1,u) else kv):=by
 unfold KV at r ⊢
 induction r with
 | nil=>exact .nil
 | @cons p q ps qs h t ih =>
  rw[List.map_cons,List.map_cons];refine .cons ?_ ih;obtain⟨h1,h2⟩:=h
  by_cases e:p.1=k
  ·rw[if_pos e,if_pos (h1.symm.trans e)];exact⟨h1,ry⟩
  ·rw[if_neg e,if_neg (fun z=>e (h1.trans z))];exact⟨h1,h2⟩
theorem KV.put{kvs:List (κ×V)}{vs:List (κ×Value)}(r:KV kvs vs)(k:κ){y:V}{u:Value}(ry:RelV y u):KV (VC kvs k y) (stored vs k u):=by
 unfold VC stored;rw[r.any k]
 by_cases e:(vs.any fun kv=>decide (kv.1=k))=true
 ·rw[if_pos e,if_pos e];exact r.repl k ry
 ·rw[if_neg e,if_neg e];exact Paired.snoc r ⟨rfl,ry⟩
theorem KV.drop{kvs:List (κ×V)}{vs:List (κ×Value)}(r:KV kvs vs)(k:κ):KV (Jbs kvs k) (without vs k):=by
 unfold KV at r ⊢;unfold Jbs without
 induction r with
 | nil=>exact .nil
 | @cons p q ps qs h t ih =>
  obtain⟨h1,h2⟩:=h;rw[List.filter_cons,List.filter_cons]
  by_cases e:p.1=k
  ·have a:¬decide (p.1≠k)=true:=by simp[e]
   have b:¬decide (q.1≠k)=true:=by simp[h1.symm.trans e]
   rw[if_neg a,if_neg b];exact ih
  ·have e':¬q.1=k:=fun z=>e (h1.trans z)
   have a:decide (p.1≠k)=true:=by simp[e]
   have b:decide (q.1≠k)=true:=by simp[e']
   rw[if_pos a,if_pos b];exact .cons ⟨h1,h2⟩ ih
theorem KV.keys{kvs:List (κ×V)}{vs:List (κ×Value)}(r:KV kvs vs):kvs.map (·.1)=vs.map (·.1):=by
 unfold KV at r
 induction r with
 | nil=>rfl
 | cons h t ih=>rw[List.map_cons,List.map_cons,ih,h.1]
theorem KV.length{kvs:List (κ×V)}{vs:List (κ×Value)}(r:KV kvs vs):kvs.length=vs.length:=Paired.length r
end

noncomputable abbrev KT(H:Hp):List (List Key×V)->List (List Key×Addr×Value)->Prop:=Paired fun p q=>p.1=q.1/\H q.2.1=some (.tup (p.1.map kV))/\RelV p.2 q.2.2
theorem KT.val{H:Hp}{kvs:List (List Key×V)}{xs:List (List Key×Addr×Value)}(r:KT H kvs xs)(k:List Key):RelO (Y5 kvs k) ((atKey xs k).map (·.2)):=by
 induction r with
 | nil=>exact True.intro
 | @cons p q ps qs h t ih =>
  obtain⟨h1,_,h2⟩:=h
  by_cases e:p.1=k
  ·have e':q.1=k:=h1.symm.trans e
   have b:atKey (q::qs) k=some q.2:=by simp[atKey,List.find?_cons,e']
   rw[Uz e,b];exact h2
  ·have e':¬q.1=k:=fun z=>e (h1.trans z)
   have b:atKey (q::qs) k=atKey qs k:=by simp[atKey,List.find?_cons,e']
   rw[Uy e,b];exact ih
theorem KT.repl{H:Hp}{kvs:List (List Key×V)}{xs:List (List Key×Addr×Value)}(r:KT H kvs xs)(k:List Key){y:V}{u:Value}(ry:RelV y u) :
 KT H (kvs.map fun kv=>if kv.1=k then(kv.1,y) else kv) (xs.map (putAt k u)):=by
 induction r with
 | nil=>exact .nil
 | @cons p q ps qs h t ih =>
  rw[List.map_cons,List.map_cons];refine .cons ?_ ih;obtain⟨h1,h2,h3⟩:=h;unfold putAt
  by_cases e:p.1=k
  ·rw[if_pos e,if_pos (h1.symm.trans e)];exact⟨h1,h2,ry⟩
  ·rw[if_neg e,if_neg (fun z=>e (h1.trans z))];exact⟨h1,h2,h3⟩
theorem KT.put{H:Hp}{kvs:List (List Key×V)}{xs:List (List Key×Addr×Value)}(r:KT H kvs xs)(k:List Key){b:Addr}{y:V}{u:Value}(hb:H b=some (.tup (k.map kV)))(ry:RelV y u) :
 KT H (VC kvs k y) (storedH xs k b u):=by
 have e:(kvs.any fun kv=>decide (kv.1=k))=(atKey xs k).isSome:=by rw[VO,(r.val k).isSome_eq,Option.isSome_map]
 unfold VC storedH;rw[e]
 by_cases q:(atKey xs k).isSome=true
 ·rw[if_pos q,if_pos q];exact r.repl k ry
 ·rw[if_neg q,if_neg q];exact Paired.snoc r ⟨rfl,hb,ry⟩
theorem KT.keeps{H H':Hp}{kvs:List (List Key×V)}{xs:List (List Key×Addr×Value)}(r:KT H kvs xs)(ht:∀b ys,H b=some (.tup ys)->H' b=some (.tup ys)):KT H' kvs xs :=
 Paired.mapP r fun _ _ z=>⟨z.1,ht _ _ z.2.1,z.2.2⟩

section
variable{P:Program}{w:World}{H:Hp}{h:Heap}{a:Addr}
end

noncomputable def DGet(H:Hp)(a:Addr)(y:V)(r:Option V):Prop :=
 (∃kvs k,Rd H a (.dK kvs)/\y=kV k/\r=Y5 kvs k)\/∃kvs k b,Rd H a (.dT kvs)/\y=.ref b/\H b=some (.tup (k.map kV))/\r=Y5 kvs k
noncomputable def DPut(H:Hp)(a:Addr)(y v:V)(H':Hp):Prop :=
 (∃kvs k,H a=some (.dK kvs)/\y=kV k/\kvs.length<sizeLine/\H'=upd H a (.dK (VC kvs k v))) ∨
 ∃kvs k b,H a=some (.dT kvs)/\y=.ref b/\H b=some (.tup (k.map kV))/\kvs.length<sizeLine/\H'=upd H a (.dT (VC kvs k v))
theorem DGet.k{H:Hp}{a:Addr}{kvs:List (Key×V)}{k:Key}(e:H a=some (.dK kvs)):DGet H a (kV k) (Y5 kvs k):=.inl ⟨kvs,k,.inl e,rfl,rfl⟩
theorem DGet.t{H:Hp}{a b:Addr}{kvs:List (List Key×V)}{k:List Key}(e:H a=some (.dT kvs))(eb:H b=some (.tup (k.map kV))):DGet H a (.ref b) (Y5 kvs k):=.inr ⟨kvs,k,b,.inl e,rfl,eb,rfl⟩
theorem DPut.k{H:Hp}{a:Addr}{kvs:List (Key×V)}{k:Key}{v:V}(e:H a=some (.dK kvs))(hl:kvs.length<sizeLine):DPut H a (kV k) v (upd H a (.dK (VC kvs k v))):=.inl ⟨kvs,k,e,rfl,hl,rfl⟩
theorem DPut.t{H:Hp}{a b:Addr}{kvs:List (List Key×V)}{k:List Key}{v:V}(e:H a=some (.dT kvs))(eb:H b=some (.tup (k.map kV)))(hl:kvs.length<sizeLine) :
 DPut H a (.ref b) v (upd H a (.dT (VC kvs k v))):=.inr ⟨kvs,k,b,e,rfl,eb,hl,rfl⟩

section
variable{X:Cx}{pins:List (Addr×Obj)}{σ:St}{H:Hp}{s:Shared}{a:Addr}{y v:V}{u r:Value}{o:Option V}{A:Around}{E:Value->Shared->Prop}

theorem Inv.big(I:Inv X pins σ H s):sysModules<s.heap.objs.size:=by have h:mainGlobals<s.heap.objs.size:=(I.mod.glob.keeps I.bk).lt;exact Nat.lt_trans (by decide) h

end

section
variable{X:Cx}{pins:List (Addr×Obj)}{σ:St}{H:Hp}{s:Shared}{a:Addr}{kvs:List (Key×V)}{k:Key}{u:Value}{A:Around}{E:Value->Shared->Prop}
end

section
variable{X:Cx}{o i e value:Expr}{pos pos' tpos:Pos}{td ty tv:TE}
end

section
variable{X:Cx}{pos:Pos}
end

structure M1 (X:Cx) (o:Expr) (m:Str) (apos:Pos) (e:Expr) (cpos:Pos):Prop where
 base:attributeBase o m X.env (eval o X.env)=eval o X.env
 few:((backTo cpos (starEach [e] X.env)).all (fun x=>!x.1) && (backToKw cpos (keywordEach [] X.env)).all (fun x=>x.1.isSome)
  && decide (([e]:List Expr).length+([]:List Keyword).length+(if ([]:List Keyword).isEmpty then 0 else 1)<30))=true
 line:(apos.endLine == cpos.line)=true
 trees:backTo cpos (starEach [e] X.env)=[(false,eval e X.env)]
structure M2 (X:Cx) (o:Expr) (m:Str) (apos:Pos) (e f:Expr) (cpos:Pos):Prop where
 base:attributeBase o m X.env (eval o X.env)=eval o X.env
 few:((backTo cpos (starEach [e,f] X.env)).all (fun x=>!x.1) && (backToKw cpos (keywordEach [] X.env)).all (fun x=>x.1.isSome)
  && decide (([e,f]:List Expr).length+([]:List Keyword).length+(if ([]:List Keyword).isEmpty then 0 else 1)<30))=true
 line:(apos.endLine == cpos.line)=true
 trees:backTo cpos (starEach [e,f] X.env)=[(false,eval e X.env),(false,eval f X.env)]

section
variable{X:Cx}{pins:List (Addr×Obj)}{σ:St}{H:Hp}{s:Shared}{a:Addr}{y d:V}{u r:Value}{o:Option V}{A:Around}{E:Value->Shared->Prop}
end

section
variable{X:Cx}{o e f:Expr}{apos cpos:Pos}{td ty tx:TE}
end

section
variable{X:Cx}{pins:List (Addr×Obj)}{σ:St}{H:Hp}{s:Shared}{a:Addr}{kvs:List (Key×V)}{A:Around}{E:Value->Shared->Prop}
end

section
variable{X:Cx}{pins:List (Addr×Obj)}{σ:St}{H:Hp}{s:Shared}{a:Addr}{y:V}{u:Value}{A:Around}{E:Value->Shared->Prop}
end
end L2
namespace L2
open PySem PySem.Spec PyProof.Rows

noncomputable def JbK(X:Cx)(ifs:List Expr)(t:TT):Prop :=
 ∀(pins:List (Addr×Obj)) (s:Shared) (σ:St) (H:Hp) (Q:Bool->Hp->Prop),Inv X pins σ H s->t σ H Q ->
  wpAny (model X.prog X.w) X.A (forIn ifs true fun c r=>if r=true then do let ok <- isTrue c X.env (eval c X.env);pure (ForInStep.yield ok) else pure (ForInStep.yield r)) (TP X pins σ Q) X.xe s
noncomputable def Jdr:TT:=fun _ H Q=>Q true H
theorem ZH{X:Cx}:JbK X [] Jdr:=fun _ _ _ H _ I h=>wpAny_tests_nil ⟨H,I,h⟩
noncomputable def blk(X:Cx)(sc:Scope)(cl:List (Str×Addr))(N':List Str)(C:Addr)(s:Shared)(H:Hp)(fp:List Addr):Cx where
 prog:=X.prog
 w:=X.w
 K:=X.K
 mg:=X.mg
 base:=X.base
 A:=X.A
 N:=N'
 s₀:=s
 H₀:=H
 env:=compEnvC sc cl C X.env
 outer:=X.stack
 stack:=X.stack
 ex:=fp
 fn:=fun _=>false
 calm:=X.calm
 pn:=[]
 xe:=fun _ _=>False

noncomputable def Vr(imp:List (Option Nat))(σ:St):St:=imp.map fun o=>match o with
 | none=>none
 | some k=>(σ[k]?).join

structure Blk (X:Cx) (sc:Scope) (cl:List (Str×Addr)) (N':List Str) (imp:List (Option Nat)):Prop where
 clos:closureFor sc X.env=pure cl
 kind:sc.kind=.function
 nocell:∀y∈sc.names,y.2≠.cell
 names:∀y∈sc.names,y.2=.local->sc.names.lookup y.1=some .local
 sub:∀p∈cl,X.env.cells.lookup p.1=some p.2
 has:∀y∈(relabel sc X.env).names,(y.2=.cell\/y.2=.free)->(cl.lookup y.1).isSome=true
 len:imp.length=N'.length
 im:∀p∈imp.zip N',∀k,p.1=some k->X.N[k]?=some p.2/\(X.env.scope.names.lookup p.2=some .cell\/X.env.scope.names.lookup p.2=some .free)/\((relabel sc X.env).names.lookup p.2=some .cell\/(relabel sc X.env).names.lookup p.2=some .free)

noncomputable def JbE(wi:TI)(g:TG)(tt:TT)(te:TE)(imp:List (Option Nat)):TE:=fun σ H Q=>wi σ H fun J H1=>∃W:Nat->Nat->List V->St->Hp->Prop,(∃m,W 0 m [] (Vr imp σ) H1)/\∀i m ys σ' H',W i m ys σ' H' ->
 (J.stop i H'/\ys.length<=sizeLine/\∀D,H' D=none->Q (.ref D) (upd H' D (.lst ys))) ∨
 (J.go i H'/\ys.length<sizeLine/\∃N:List V->St->Hp->Prop,(∀ys' σ2 H2,N ys' σ2 H2->∃m',m'<m/\W (i+1) m' ys' σ2 H2) ∧
  ∀x H2,J.yld i H' x H2->g x σ' H2 fun σ2 H3=>tt σ2 H3 fun b H4=>if b=true then te σ2 H4 fun y H5=>N (ys++[y]) σ2 H5 else N ys σ2 H4)

section
variable{P:Program}{w:World}{H:Hp}{h h':Heap}
theorem HOk.sameBut{C:Addr}(x:HOk P w H h)(hC:H C=none)(k:∀b o,b≠C->h.get? b=some o->h'.get? b=some o):HOk P w H h':=fun a o e =>
 (x a o e).stay (fun b u hb q=>k b u (by
  rintro rfl;rcases hb with z|z
  ·rw[<- z,hC] at e;cases e
  ·rw[hC] at z;cases z) q) (fun _ q=>q) fun _ _ q=>q
theorem HOk.track{D:Addr}{o:HO}(x:HOk P w H h)(hD:H D=none)(new:ObjOk P w (upd H D o) h D o):HOk P w (upd H D o) h:=fun b u e=>by
 by_cases hb:b=D
 ·subst hb;rw[J3] at e;cases e;exact new
 ·rw[Jg hb] at e;exact(x b u e).stay (fun c v _ q=>q) (fun c q=>by rw[Jg (Jn q hD)];exact q) fun c xs q=>by rw[Jg (Jn q hD)];exact q
end

theorem YD{α:Type}{x:Str}{c:α}:∀{l:List (Str×α)},l.lookup x=some c->(x,c)∈l:=fun h=>PySem.mem_of_lookup h

section
variable{X:Cx}{tg iter elt:Expr}{ifs:List Expr}{sc:Scope}{cl:List (Str×Addr)}{N':List Str}{imp:List (Option Nat)}{pos:Pos}{wi:TI}{g:TG}{tt:TT}{te:TE}

theorem Blk.subL(B:Blk X sc cl N' imp):∀x c,cl.lookup x=some c->X.env.cells.lookup x=some c:=fun x c e=>B.sub (x,c) (YD e)

theorem Jad{pins:List (Addr×Obj)}{σ:St}{H:Hp}{s:Shared}{fp:List Addr}{h₁:Heap}{C:Addr}(B:Blk X sc cl N' imp)(I:Inv X pins σ H s)(hf:∀b∈fp,FpOk X pins H b)(hfo:∀b∈fp,∃o,s.heap.get? b=some o)
 (hC:s.heap.objs.size<C) (old:∀b o,s.heap.get? b=some o->h₁.get? b=some o) (ns:h₁.Ns C fun _=>none) :
 Inv (blk X sc cl N' C s H fp) [] (Vr imp σ) H { s with heap:=h₁,toks:=s.toks }:=by
 have hlt:∀b∈fp,b<s.heap.objs.size:=fun b hb=>let ⟨_,e⟩:=hfo b hb;Heap.lt_size e
 have clt:∀x c,X.env.cells.lookup x=some c->c<s.heap.objs.size:=fun x c e=>let ⟨_,q⟩:=I.cell x c e;q.lt
 have ok:(blk X sc cl N' C s H fp).Ok:={
  mod:=I.ok.mod
  kind:=B.kind
  glob:=I.ok.glob
  blt:=I.ok.blt
  above:=Nat.le_of_lt hC
  inj:=fun x y c h1 h2=>I.ok.inj x y c (B.subL x c h1) (B.subL y c h2)
  has:=fun x hx=>by
   have hx':(relabel sc X.env).names.lookup x=some .cell\/(relabel sc X.env).names.lookup x=some .free:=hx
   have:(cl.lookup x).isSome=true:=by
    rcases hx' with z|z
    ·exact B.has (x,.cell) (YD z) (.inl rfl)
    ·exact B.has (x,.free) (YD z) (.inr rfl)
   exact Option.isSome_iff_exists.mp this
  cab:=fun x c z=>nomatch z
  hd:=I.ok.hd
  frames:=I.ok.frames
  stk:=.inl rfl
  exf:=fun b hb=>⟨Nat.ne_of_lt (Nat.lt_trans (hlt b hb) hC),fun x c e=>(hf b hb).2.2.2.2.1 x c (B.subL x c e)⟩
  bs:=I.bs
  bsz:=Nat.le_trans I.ok.bsz I.sz
  noex:=fun b o e hb=>by
   rcases(hf b hb).2.2.2.1 with z|z
   ·exact I.ok.noex b o e z
   ·exact absurd (Nat.lt_of_lt_of_le (Heap.lt_size e) (Nat.le_trans I.ok.bsz z)) (Nat.lt_irrefl _)
  exfs:=fun b hb z=>by
   rcases List.mem_cons.mp (I.stkSub b z) with q|q
   ·exact(hf b hb).2.1 q
   ·exact(hf b hb).2.2.1 q
  funs:=I.stack
  frf:=I.stkFree }
 refine⟨ok,rfl,I.bare,Un.kept old,⟨_,ns,fun i x v h1 h2 h3=>?_⟩,fun x c e=>?_,I.hok.fresh (Nat.le_of_lt hC),fun x c e=>I.freeC x c (B.subL x c e),fun p hp=>absurd (show p∈([]:List (Addr×Obj)) from hp) (by simp),I.hok.kept old,?_⟩
 ·have h1':N'[i]?=some x:=h1
  have h2':(imp.map fun o=>match o with|none=>none|some k=>(σ[k]?).join)[i]?=some (some v):=h2;rw[List.getElem?_map] at h2'
  cases e:imp[i]? with
  | none=>rw[e] at h2';cases h2'
  | some q =>
   rw[e] at h2'
   cases q with
   | none=>cases h2'
   | some k =>
    have h2'':(σ[k]?).join=some v:=Option.some.inj h2'
    have hk:σ[k]?=some (some v):=by
     cases e':σ[k]? with
     | none=>rw[e'] at h2'';cases h2''
     | some z=>rw[e'] at h2'';cases z with
      | none=>cases h2''
      | some z=>cases h2'';rfl
    have hm:(some k,x)∈imp.zip N':=by refine List.mem_of_getElem? (i:=i) ?_;rw[List.getElem?_zip_eq_some];exact⟨e,h1'⟩
    obtain⟨b1,b2,b3⟩:=B.im _ hm k rfl;obtain⟨m,hn,hl⟩:=I.loc;obtain⟨u,r,l⟩:=hl k x v b1 hk (b2.elim (fun z=>.inr (.inl z)) fun z=>.inr (.inr z));refine⟨u,r,.inr ⟨b3,?_⟩⟩
    have hc:∃c,X.env.cells.lookup x=some c/\s.heap.IsCell c (some u):=by
     rcases l with ⟨z,_⟩|⟨_,z⟩
     ·have z':X.env.scope.names.lookup x=some .local:=z;rcases b2 with y|y <;> rw[y] at z' <;> cases z'
     ·exact z
    obtain⟨c,hc,oc,ho,hd⟩:=hc;obtain⟨c',hc'⟩:=ok.has x b3;have e2:=B.subL x c' hc';rw[hc] at e2;cases e2;exact⟨c,hc',oc,old c oc ho,hd⟩
 ·obtain⟨v,o,ho,hd⟩:=I.cell x c (B.subL x c e);exact⟨v,o,old c o ho,hd⟩
 ·show(imp.map _).length=N'.length;rw[List.length_map];exact B.len

theorem Jac{pins pn:List (Addr×Obj)}{σ σ':St}{H2 H':Hp}{s2 s4:Shared}{fp:List Addr}{C D:Addr}{Cs:Addr}{ys:List V}{its:List Value}{k:Nat}{h':Heap}(I2:Inv X pins σ H2 s2)(f2:∀b∈fp,FpOk X pins H2 b)
 (I5:Inv (blk X sc cl N' C s2 H2 fp) pn σ' H' s4) (hC:s2.heap.objs.size<C) (hD:H' D=none) (hDs:s2.heap.objs.size<=D) (hDC:D≠C) (eD:s4.heap.get? D=some { cls:=.type "list",data:=.seq its.toArray k })
 (rv:Vals ys its) (hz:ys.length<=sizeLine) (hsb:Heap.SameBut C s4.heap h'):Inv X pins σ (upd H' D (.lst ys)) { s4 with heap:=h' }:=by
 have U:Un (frs X.stack) fp H2 H' s2.heap s4.heap:=I5.base
 have kk:∀b o,b≠C->s4.heap.get? b=some o->h'.get? b=some o:=hsb.extBut
 have hC':H' C=none:=I5.free
 have ok1:HOk X.prog X.w H' h':=HOk.sameBut (C:=C) I5.hok hC' kk
 have ok2:HOk X.prog X.w (upd H' D (.lst ys)) h':=ok1.track hD ⟨hz,its,k,rv,kk _ _ hDC eD⟩
 have lt:∀b o,s2.heap.get? b=some o->b≠C/\b≠D:=fun b o e=>⟨Nat.ne_of_lt (Nat.lt_trans (Heap.lt_size e) hC),Nat.ne_of_lt (Nat.lt_of_lt_of_le (Heap.lt_size e) hDs)⟩
 refine I2.call' (s':={ s4 with heap:=h' }) (ch:=fp) I5.os ⟨fun b o e n hb hx=>kk b o (lt b o e).1 (U.keep b o e n hb hx),fun b o e n hb hx=>?_,fun b o e n hx=>?_,fun b o e hx=>?_,fun b xs e=>?_,fun b o u e=>?_,fun b ps e=>?_⟩ ok2 I5.bare
  fun b hb=>⟨(f2 b hb).2.2.2.1,(f2 b hb).2.1,(f2 b hb).2.2.2.2.1,(f2 b hb).2.2.2.2.2⟩
 ·obtain⟨sl,q⟩:=U.slot b o e n hb hx;exact⟨sl,kk b _ (lt b o e).1 q⟩
 ·rw[Jg (lt b o e).2];exact U.free b o e n hx
 ·obtain⟨o',q⟩:=U.there b o e hx;exact⟨o',kk b o' (lt b o e).1 q⟩
 ·have q:=U.tups b xs e;rw[Jg (Jn q hD)];exact q
 ·have q:=U.frzs b o u e;rw[Jg (Jn q hD)];exact q
 ·obtain⟨more,q⟩:=U.tbls b ps e;exact⟨more,by rw[Jg (Jn q hD)];exact q⟩

noncomputable def JdB(g:TG)(tt:TT)(te:TE)(imp:List (Option Nat))(σ:St)(Q:VK)(J:It)(H1:Hp):Prop:=∃W:Nat->Nat->List V->St->Hp->Prop,(∃m,W 0 m [] (Vr imp σ) H1)/\∀i m ys σ' H',W i m ys σ' H' ->
 (J.stop i H'/\ys.length<=sizeLine/\∀D,H' D=none->Q (.ref D) (upd H' D (.lst ys))) ∨
 (J.go i H'/\ys.length<sizeLine/\∃N:List V->St->Hp->Prop,(∀ys' σ2 H2,N ys' σ2 H2->∃m',m'<m/\W (i+1) m' ys' σ2 H2) ∧
  ∀x H2,J.yld i H' x H2->g x σ' H2 fun σ2 H3=>tt σ2 H3 fun b H4=>if b=true then te σ2 H4 fun y H5=>N (ys++[y]) σ2 H5 else N ys σ2 H4)
theorem WH{pins:List (Addr×Obj)}{σ:St}{Q:VK}{itv:Value}{s2:Shared}{RR:Value->Addr->Result->Shared->Prop}{E:Value->Shared->Prop}(hc:X.calm=true)(B:Blk X sc cl N' imp)
 (hg:∀C s H fp,PG (blk X sc cl N' C s H fp) tg g) (ht:∀C s H fp,JbK (blk X sc cl N' C s H fp) ifs tt) (he:∀C s H fp,PE (blk X sc cl N' C s H fp) elt te)
 (h2:PIE X pins σ tg (JdB g tt te imp σ Q) itv s2)
 (fin:∀(C D:Addr) (s4:Shared) (H':Hp) (ys:List V) (m:Str->Option Value),s2.heap.objs.size<C->s4.heap.Ns C m->H' C=none->(∀h',Heap.SameBut C s4.heap h'->Inv X pins σ H' { s4 with heap:=h' })->Q (.ref D) H'->RR (.ref D) C (.ok .next) s4) :
 wpAny (model X.prog X.w) X.A (newList []) (fun acc s₃=>wpAny (model X.prog X.w) X.A (newFunctionEnv sc X.env.globals cl [] X.env.qual none .none (some X.env)) (fun cenv s₄=>codeAny (model X.prog X.w) X.A (.compStart (.ListComp elt [⟨tg,iter,ifs,0⟩] sc pos) 0 itv acc { cenv with scope:=relabel sc X.env }) (RR acc cenv.locals) s₄) E s₃) E s2:=by
 obtain⟨it,fp,tn,J,H2,e,I2,T,st2,f2,W,⟨m0,w0⟩,Z7⟩:=h2;subst e;refine wpAny_newObj_type (wpAny_newFunctionEnv B.nocell (by intro y hy;simp at hy) (fun h₁ hns₁ hsb₁=>?_) B.kind);dsimp only at hns₁ hsb₁ ⊢
 generalize hG:s2.heap.push { cls:=.type "list",dict:=none,data:=.seq ([]:List Value).toArray }=G at hns₁ hsb₁ ⊢
 have hCs:G.objs.size=s2.heap.objs.size+1:=by rw[<- hG,Heap.size_push]
 have hC:s2.heap.objs.size<G.objs.size:=by rw[hCs];exact Nat.lt_succ_self _
 have below:∀b,b<s2.heap.objs.size->b≠G.objs.size:=fun b hb=>Nat.ne_of_lt (Nat.lt_trans hb hC)
 have old:∀b o,s2.heap.get? b=some o->h₁.get? b=some o:=fun b o e=>hsb₁.extBut b o (below b (Heap.lt_size e)) (Heap.get?_push_of_some _ (hG▸Heap.get?_push_of_some _ e))
 have hD1:h₁.get? s2.heap.objs.size=some { cls:=.type "list",data:=.seq ([]:List Value).toArray }:=hsb₁.extBut _ _ (Nat.ne_of_lt hC) (Heap.get?_push_of_some _ (hG▸Heap.get?_push_size _ rfl))
 have fpo:∀b∈fp,∃o,s2.heap.get? b=some o:=fun b hb=>let ⟨o,e,_⟩:=T.obj 0 _ st2 b hb;⟨o,e⟩
 have I4:=Jad B I2 f2 fpo hC old (show h₁.Ns G.objs.size fun _=>none from hns₁)
 -- the records of the block: the list that grows,the iterator's
 have stD:∀{H':Hp} {pn:List (Addr×Obj)},(∀b∈s2.heap.objs.size::fp,H' b=none)->(∀p∈pn,p.1∉s2.heap.objs.size::fp)->∀b∈s2.heap.objs.size::fp,FpOk (blk X sc cl N' G.objs.size s2 H2 fp) pn H' b:=fun {H' pn} hn hp b hb=>by
  have hp':∀p∈([]++pn:List (Addr×Obj)),p.1≠b:=fun p z q=>hp p (by simpa using z) (q▸hb)
  rcases List.mem_cons.mp hb with z|z
  ·subst z;refine⟨hn _ hb,Nat.ne_of_lt hC,fun q=>?_,.inr (Nat.le_refl _),fun x c e q=>?_,hp'⟩
   ·rcases List.mem_cons.mp (I2.stkSub _ q) with q|q
    ·exact absurd I2.lt (by rw[<- q];exact Nat.lt_irrefl _)
    ·exact I2.nofs (Nat.le_refl _) q
   ·obtain⟨v,qc⟩:=I2.cell x c (B.subL x c e);exact absurd qc.lt (by rw[q];exact Nat.lt_irrefl _)
  ·refine⟨hn _ hb,below b (let ⟨_,e⟩:=fpo b z;Heap.lt_size e),fun q=>?_,.inl z,fun x c e=>(f2 b z).2.2.2.2.1 x c (B.subL x c e),hp'⟩;rcases List.mem_cons.mp (I2.stkSub b q) with q|q
   ·exact(f2 b z).2.1 q
   ·exact(f2 b z).2.2.1 q
 have nDf:s2.heap.objs.size∉fp:=fun z=>let ⟨_,e⟩:=fpo _ z;absurd (Heap.lt_size e) (Nat.lt_irrefl _)
 have loop:codeAny (model X.prog X.w) X.A (.compLoop (.ListComp elt [⟨tg,iter,ifs,0⟩] sc pos) 0 (.ref it) (.ref s2.heap.objs.size) (compEnvC sc cl G.objs.size X.env))
  (RR (.ref s2.heap.objs.size) G.objs.size) { s2 with heap:=h₁,toks:=s2.toks }:=by
  refine codeAny_loop rfl (fun n s'=>∃i ys its k σ' H',Inv (blk X sc cl N' G.objs.size s2 H2 fp) [] σ' H' s'/\tn i s'.heap/\(∀b∈s2.heap.objs.size::fp,H' b=none)/\Vals ys its/\s'.heap.get? s2.heap.objs.size=some { cls:=.type "list",data:=.seq its.toArray k }/\W i n ys σ' H') ?_ m0
   ⟨0,[],[],0,_,H2,I4,T.keep _ _ _ st2 (fun b _ o e=>old b o e),fun b hb=>?_,.nil,hD1,w0⟩
  ·rintro n s3 ⟨i,ys,its,k,σ3,H3,I3,st3,fr3,rv3,hD3,w3⟩;have fr3':∀b∈fp,FpOk (blk X sc cl N' G.objs.size s2 H2 fp) [] H3 b:=fun b hb=>stD (pn:=[]) fr3 (fun p z=>nomatch z) b (List.mem_cons_of_mem _ hb)
   show wpAny _ X.A ((compTurn (.ListComp elt [⟨tg,iter,ifs,0⟩] sc pos) 0 (.ref it) (.ref s2.heap.objs.size) (compEnvC sc cl G.objs.size X.env)).onRaise (fun x=>do noteFrame x (compEnvC sc cl G.objs.size X.env);theTreesLotGoes x)) _ _ s3;refine wpAny_noted (wpAny_noRaise ?_);rw[compTurn_list];refine wpAny_bind (wpAny_standAt (wpAny_bind ?_))
   have fD:=stD (pn:=[]) fr3 (fun p z=>nomatch z) s2.heap.objs.size List.mem_cons_self
   have hDH:H3 s2.heap.objs.size=none:=fr3 _ List.mem_cons_self
   have I3p:Inv (blk X sc cl N' G.objs.size s2 H2 fp) [(s2.heap.objs.size,{ cls:=.type "list",data:=.seq its.toArray k })] σ3 H3 s3:=I3.pins_of fun p hp=>by
    have e:p=(s2.heap.objs.size,{ cls:=.type "list",data:=.seq its.toArray k }):=by simpa using hp
    subst e;exact⟨hD3,hDH,fD.2.1,fD.2.2.1,fun v z=>by cases z⟩
   have pfp:∀p∈[(s2.heap.objs.size,({ cls:=.type "list",data:=.seq its.toArray k }:Obj))],p.1∉fp:=fun p hp=>by
    have e:p=(s2.heap.objs.size,{ cls:=.type "list",data:=.seq its.toArray k }):=by simpa using hp
    subst e;exact nDf
   have fpP:∀{H':Hp},(∀b∈fp,H' b=none)->∀b∈fp,FpOk (blk X sc cl N' G.objs.size s2 H2 fp) [(s2.heap.objs.size,({ cls:=.type "list",data:=.seq its.toArray k }:Obj))] H' b:=fun {H'} hn b hb =>
    have f:=stD (pn:=[]) fr3 (fun p z=>nomatch z) b (List.mem_cons_of_mem _ hb)
    ⟨hn b hb,f.2.1,f.2.2.1,f.2.2.2.1,f.2.2.2.2.1,fun p hp q=>pfp p ((List.mem_append.mp hp).elim (fun z=>nomatch (show p∈([]:List (Addr×Obj)) from z)) id) (q▸hb)⟩
   rcases Z7 i n ys σ3 H3 w3 with ⟨stop,hz,q⟩|⟨go,hz,N,hN,step⟩
   ·refine thn (T.done (blk X sc cl N' G.objs.size s2 H2 fp) rfl rfl rfl hc i _ s3 σ3 H3 _ I3p (fpP fun b hb=>fr3 b (List.mem_cons_of_mem _ hb)) st3 stop) fun r s4 ⟨hr,I5⟩=>?_
    subst hr;refine wpAny_pure ?_;obtain⟨m,hn,_⟩:=I5.loc;have eD:=(I5.pin (s2.heap.objs.size,{ cls:=.type "list",data:=.seq its.toArray k }) (by simp)).1;have hCf:H3 G.objs.size=none:=I5.free;exact fin G.objs.size s2.heap.objs.size s4 _ ys m hC hn (by rw[Jg (Nat.ne_of_gt hC)];exact hCf) (fun h' hsb=>Jac (Cs:=0) I2 f2 I5 hC hDH (Nat.le_refl _) (Nat.ne_of_lt hC) eD rv3 hz hsb) (q _ hDH)
   ·refine thn (T.item (blk X sc cl N' G.objs.size s2 H2 fp) rfl rfl rfl hc i _ s3 σ3 H3 _ I3p (fpP fun b hb=>fr3 b (List.mem_cons_of_mem _ hb)) st3 go) fun r s4 ⟨u,hr,h4⟩=>?_
    subst hr;refine wpAny_bind (thn h4 fun _ s5 ⟨x,H5,I5,r5,y5,st5,fr5⟩=>?_);have I5':=I5.pinned (fpP fr5) (T.obj _ _ st5);refine wpAny_bind (thn (hg G.objs.size s2 H2 fp _ s5 σ3 H5 x u _ I5' r5 (step x H5 y5)) fun _ s6 ⟨σ6,H6,I6,q6⟩=>?_);refine wpAny_bind (thn (ht G.objs.size s2 H2 fp _ s6 σ6 H6 _ I6 q6) fun ok s7 ⟨H7,I7,q7⟩=>?_)
    -- what stays of the records
    have recs:∀{σ':St} {H':Hp} {s':Shared},Inv (blk X sc cl N' G.objs.size s2 H2 fp) ([(s2.heap.objs.size,({ cls:=.type "list",data:=.seq its.toArray k }:Obj))]++Ur fp s5.heap) σ' H' s' ->
     tn (i+1) s'.heap/\(∀b∈s2.heap.objs.size::fp,H' b=none)/\s'.heap.get? s2.heap.objs.size=some { cls:=.type "list",data:=.seq its.toArray k }:=fun {σ' H' s'} I'=>by
     have pd:=I'.pin (s2.heap.objs.size,{ cls:=.type "list",data:=.seq its.toArray k }) (by simp)
     have pf:∀b∈fp,∀o,s5.heap.get? b=some o->s'.heap.get? b=some o/\H' b=none:=fun b hb o e=>by have z:=I'.pin (b,o) (List.mem_append_right _ (List.mem_append_right _ (YE hb e)));exact⟨z.1,z.2.1⟩
     refine⟨T.keep _ _ _ st5 fun b hb o e=>(pf b hb o e).1,fun b hb=>?_,pd.1⟩;rcases List.mem_cons.mp hb with z|z
     ·subst z;exact pd.2.1
     ·obtain⟨o,e,d⟩:=T.obj _ _ st5 b z;exact(pf b z o e).2
    cases ok with
    | false=>obtain⟨m',hm,w7⟩:=hN _ _ _ (show N ys σ6 H7 from by simpa using q7);obtain⟨r1,r2,r3⟩:=recs I7;exact wpAny_pure ⟨rfl,m',hm,i+1,ys,its,k,σ6,H7,I7.pins_of (fun p hp=>nomatch hp),r1,r2,rv3,r3,w7⟩
    | true =>
     have q7':te σ6 H7 fun y H5=>N (ys++[y]) σ6 H5:=by simpa using q7
     refine wpAny_bind (wpAny_bind (thn (he G.objs.size s2 H2 fp _ s7 σ6 H7 _ I7 q7') fun y s8 ⟨y8,H8,I8,ry,q8⟩=>wpAny_bind ?_));obtain⟨r1,r2,r3⟩:=recs I8;have hl:=rv3.length;refine wpAny_list_append_plain (hsz:=by rw[List.size_toArray];omega) ⟨k,r3⟩ fun h9 ⟨k9,hl9⟩ hs9=>wpAny_pure (wpAny_pure ?_)
     have hD8:H8 s2.heap.objs.size=none:=r2 _ List.mem_cons_self
     have f8:=stD (pn:=[]) r2 (fun p z=>nomatch z) s2.heap.objs.size List.mem_cons_self
     have I8':Inv (blk X sc cl N' G.objs.size s2 H2 fp) [] σ6 H8 s8:=I8.pins_of (fun p hp=>nomatch hp)
     have I9:Inv (blk X sc cl N' G.objs.size s2 H2 fp) [] σ6 H8 { s8 with heap:=h9 }:=I8'.turned (t':=s8.toks) (it:=s2.heap.objs.size) (fun b o hb e=>hs9.extBut b o hb e) hD8 f8.2.1 f8.2.2.2.1 f8.2.2.2.2.1 f8.2.2.2.2.2;obtain⟨m',hm,w8⟩:=hN _ _ _ q8;refine⟨rfl,m',hm,i+1,ys++[y8],its++[y],k9,σ6,H8,I9,?_,r2,rv3.append (.cons ry .nil),?_,w8⟩
     ·exact T.keep _ _ _ r1 fun b hb o e=>hs9.extBut b o (fun z=>nDf (z▸hb)) e
     ·rw[hl9];simp
  ·rcases List.mem_cons.mp hb with z|z
   ·subst z;exact I2.hok.fresh (Nat.le_refl _)
   ·exact(f2 b z).1
 exact codeAny_compStart_list loop (T.self _ 0 _ _ _ (T.keep _ _ _ st2 fun b _ o e=>old b o e) loop)

theorem JaQ(hc:X.calm=true)(hi:PI X tg iter wi)(B:Blk X sc cl N' imp)
 (hg:∀C s H fp,PG (blk X sc cl N' C s H fp) tg g) (ht:∀C s H fp,JbK (blk X sc cl N' C s H fp) ifs tt) (he:∀C s H fp,PE (blk X sc cl N' C s H fp) elt te)
 (hs:∀x,foldedSetIterable iter X.env x=pure x:=by intro _;rfl):PE X (.ListComp elt [⟨tg,iter,ifs,0⟩] sc pos) (JbE wi g tt te imp):=by
 intro pins s σ H Q I h;rw[eval_ListComp];refine wpAny_comprehension_free (use:=none) rfl hs B.clos B.kind B.names (thn (hi pins s σ H _ I h) fun v s1 h1=>thn h1 fun itv s2 h2=>?_);refine WH (RR:=fun acc C=>compPost (model X.prog X.w) X.A X.xe none (EP X pins σ Q) acc C) hc B hg ht he h2 fun C D s4 H' ys m hC hn hCf hI q=>?_
 exact⟨m,hn,fun h' hsb=>⟨.ref D,H',hI h' hsb,rfl,q⟩⟩
end
end L2

namespace L2
open PySem PySem.Spec PyProof.Rows

inductive Rep (K:Frag) (H:Hp):V->PyData->Prop
 | non:Rep K H .non .none
 | bl (b:Bool):Rep K H (.bl b) (.bool b)
 | int (i:Int):Rep K H (.int i) (.int i)
 | str (x:Str):Rep K H (.str x) (.str x)
 | tup {a:Addr} {xs:List V} {ds:List PyData}:SqT K H a xs->xs.length=ds.length->(∀(i:Nat) (x:V) (d:PyData),xs[i]?=some x->ds[i]?=some d->Rep K H x d)->Rep K H (.ref a) (.tuple ds)
 | lst {a:Addr} {xs:List V} {ds:List PyData}:SqL K H a xs->xs.length=ds.length->(∀(i:Nat) (x:V) (d:PyData),xs[i]?=some x->ds[i]?=some d->Rep K H x d)->Rep K H (.ref a) (.list ds)

noncomputable def RepL(K:Frag)(H:Hp)(xs:List V)(ds:List PyData):Prop :=
 xs.length=ds.length/\∀(i:Nat) (x:V) (d:PyData),xs[i]?=some x->ds[i]?=some d->Rep K H x d

section
variable{K:Frag}{H H':Hp}
theorem RepL.nil:RepL K H [] []:=⟨rfl,fun i x d e=>by simp at e⟩
theorem RepL.cons{x:V}{d:PyData}{xs:List V}{ds:List PyData}(h:Rep K H x d)(r:RepL K H xs ds):RepL K H (x::xs) (d::ds):=by
 refine⟨by simp[r.1],fun i y e h1 h2=>?_⟩
 cases i with
 | zero=>simp at h1 h2;subst h1 h2;exact h
 | succ i=>exact r.2 i y e (by simpa using h1) (by simpa using h2)
theorem RepL.append{xs ys:List V}{ds es:List PyData}(r:RepL K H xs ds)(q:RepL K H ys es):RepL K H (xs++ys) (ds++es):=by
 refine⟨by simp[r.1,q.1],fun i x d h1 h2=>?_⟩
 by_cases hi:i<xs.length
 ·rw[List.getElem?_append_left hi] at h1;rw[List.getElem?_append_left (by rw[<- r.1];exact hi)] at h2;exact r.2 i x d h1 h2
 ·rw[List.getElem?_append_right (by omega)] at h1;rw[List.getElem?_append_right (by rw[<- r.1];omega)] at h2;rw[<- r.1] at h2;exact q.2 _ x d h1 h2
theorem RepL.snoc{xs:List V}{ds:List PyData}{x:V}{d:PyData}(r:RepL K H xs ds)(h:Rep K H x d):RepL K H (xs++[x]) (ds++[d]):=r.append (.cons h .nil)
theorem RepL.get{xs:List V}{ds:List PyData}{i:Nat}{d:PyData}(r:RepL K H xs ds)(e:ds[i]?=some d):∃x,xs[i]?=some x/\Rep K H x d:=by
 have hi:=(List.getElem?_eq_some_iff.mp e).1
 have hx:i<xs.length:=by rw[r.1];exact hi
 exact⟨xs[i],by simp[hx],r.2 i _ d (by simp[hx]) e⟩
theorem RepL.get'{xs:List V}{ds:List PyData}{i:Nat}{x:V}(r:RepL K H xs ds)(e:xs[i]?=some x):∃d,ds[i]?=some d/\Rep K H x d:=by
 have hi:=(List.getElem?_eq_some_iff.mp e).1
 have hx:i<ds.length:=by rw[<- r.1];exact hi
 exact⟨ds[i],by simp[hx],r.2 i x _ e (by simp[hx])⟩
theorem Rep.tupL{a:Addr}{xs:List V}{ds:List PyData}(h:SqT K H a xs)(r:RepL K H xs ds):Rep K H (.ref a) (.tuple ds):=.tup h r.1 r.2
theorem Rep.lstL{a:Addr}{xs:List V}{ds:List PyData}(h:SqL K H a xs)(r:RepL K H xs ds):Rep K H (.ref a) (.list ds):=.lst h r.1 r.2
theorem Rep.tupI{v:V}{ds:List PyData}(r:Rep K H v (.tuple ds)):∃a xs,v=.ref a/\SqT K H a xs/\RepL K H xs ds:=by
 cases r with
 | tup h l q=>exact⟨_,_,rfl,h,l,q⟩
theorem Rep.lstI{v:V}{ds:List PyData}(r:Rep K H v (.list ds)):∃a xs,v=.ref a/\SqL K H a xs/\RepL K H xs ds:=by
 cases r with
 | lst h l q=>exact⟨_,_,rfl,h,l,q⟩
theorem Rep.intI{v:V}{i:Int}(r:Rep K H v (.int i)):v=.int i:=by cases r;rfl
theorem Rep.strI{v:V}{i:Str}(r:Rep K H v (.str i)):v=.str i:=by cases r;rfl
theorem Rep.blI{v:V}{i:Bool}(r:Rep K H v (.bool i)):v=.bl i:=by cases r;rfl
theorem Same.seqT{a:Addr}{xs:List V}(e:Same H H')(h:SqT K H a xs):SqT K H' a xs:=by
 rcases h with (h|⟨o,h⟩)|h
 ·exact .inl (.inl (e _ _ h))
 ·exact .inl (.inr ⟨o,e _ _ h⟩)
 ·exact .inr h
theorem Rep.mono{v:V}{d:PyData}(e:Same H H')(r:Rep K H v d):Rep K H' v d:=by
 induction r with
 | non=>exact .non
 | bl b=>exact .bl b
 | int i=>exact .int i
 | str x=>exact .str x
 | tup h l _ ih=>exact .tup (e.seqT h) l ih
 | lst h l _ ih=>exact .lst (e.seq h) l ih
theorem RepL.mono{xs:List V}{ds:List PyData}(e:Same H H')(r:RepL K H xs ds):RepL K H' xs ds:=⟨r.1,fun i x d h1 h2=>(r.2 i x d h1 h2).mono e⟩

noncomputable def SameEx(l:Addr)(H H':Hp):Prop:=∀b o,b≠l->H b=some o->H' b=some o
theorem SameEx.upd{l:Addr}{o:HO}:SameEx l H (upd H l o):=fun b o' hb e=>by rw[Jg hb];exact e
theorem Same.ex{H0:Hp}{l:Addr}(s:Same H0 H)(hn:H0 l=none)(e:SameEx l H H'):Same H0 H':=fun b o h=>e b o (Jn h hn) (s b o h)
theorem Same.new{p:Addr}{o:HO}(hn:H p=none):Same H (upd H p o):=fun b o' e=>by rw[Jg (Jn e hn)];exact e
theorem SameEx.sqT{l a:Addr}{ys xs:List V}(e:SameEx l H H')(hl:H l=some (.lst ys))(h:SqT K H a xs):SqT K H' a xs:=by
 rcases h with (h|⟨o,h⟩)|h
 ·exact .inl (.inl (e _ _ (Jbv h hl (by intro z;cases z)) h))
 ·exact .inl (.inr ⟨o,e _ _ (Jbv h hl (by intro z;cases z)) h⟩)
 ·exact .inr h
inductive NoLst:PyData->Prop
 | non:NoLst .none
 | bl (b:Bool):NoLst (.bool b)
 | int (i:Int):NoLst (.int i)
 | str (x:Str):NoLst (.str x)
 | tup {ds:List PyData}:(∀d∈ds,NoLst d)->NoLst (.tuple ds)
end

theorem Vals.get':∀{xs:List V} {us:List Value} {i:Nat} {u:Value},Vals xs us->us[i]?=some u->∃x,xs[i]?=some x/\RelV x u
 | _,_,_,_,.nil,e=>by simp at e
 | _,_,0,_,.cons r _,e=>by simp at e;subst e;exact⟨_,rfl,r⟩
 | _,_,i+1,u,.cons _ t,e=>by obtain⟨x,h1,h2⟩:=Vals.get' (i:=i) (u:=u) t (by simpa using e);exact⟨x,by simpa using h1,h2⟩
theorem Yt{h:Heap}:∀(us:List Value) (ds:List PyData),us.length=ds.length->(∀(i:Nat) (u:Value) (d:PyData),us[i]?=some u->ds[i]?=some d->∃as,Reads h u d as)->∃as,ReadsAll h us ds as
 | [],[],_,_=>⟨_,.nil⟩
 | [],_::_,e,_=>by simp at e
 | _::_,[],e,_=>by simp at e
 | u::us,d::ds,e,f=>by
  obtain⟨as,h1⟩:=f 0 u d rfl rfl;obtain⟨bs,h2⟩:=Yt us ds (by simpa using e) fun i v c q1 q2=>f (i+1) v c (by simpa using q1) (by simpa using q2)
  exact⟨_,.cons h1 h2⟩
section
variable{X:Cx}{pins:List (Addr×Obj)}{σ:St}{H:Hp}{s:Shared}
theorem Rep.reads{v:V}{d:PyData}(I:Inv X pins σ H s)(r:Rep X.K H v d):∀u,RelV v u->∃as,Reads s.heap u d as:=by
 induction r with
 | non=>intro u r;cases r;exact⟨_,.none⟩
 | bl b=>intro u r;cases r;exact⟨_,.bool b⟩
 | int i=>intro u r;obtain⟨t,rfl⟩:=r;exact⟨_,.int i t⟩
 | str x=>intro u r;obtain⟨t,rfl⟩:=r;exact⟨_,.str x t⟩
 | tup h l _ ih =>
  intro u r;cases r;obtain⟨its,rv,p,hz⟩:=I.tuple h;obtain⟨o,ho,hc,n,hd⟩:=p
  obtain⟨as,q⟩:=Yt (h:=s.heap) its _ (rv.length.symm.trans l) fun i u d h1 h2=>by obtain⟨x,e1,e2⟩:=rv.get' h1;exact ih i x d e1 h2 u e2
  exact⟨_,.tuple ho hc hd q⟩
 | lst h l _ ih =>
  intro u r;cases r;obtain⟨its,rv,p,hz⟩:=I.list h;obtain⟨o,ho,hc,n,hd⟩:=p.isList
  obtain⟨as,q⟩:=Yt (h:=s.heap) its _ (rv.length.symm.trans l) fun i u d h1 h2=>by obtain⟨x,e1,e2⟩:=rv.get' h1;exact ih i x d e1 h2 u e2
  exact⟨_,.list ho hc hd q⟩
end

section
variable{X:Cx}
noncomputable def Wr(K:Frag):R2:=fun x y H Q=>rI0 (fun i j=>.int (i+j)) x y H Q\/(∃i j,x=.str i/\y=.str j/\i.length+j.length<=sizeLine/\Q (.str (i++j)) H)\/Jd0 x y H Q
theorem JaK:OpR X (binaryOp .Add) (Wr X.K):=op_add.or (op_add_str.or Jcx)
noncomputable def Jd1(K:Frag):R2:=fun x y H Q=>∃d e,Rep K H x d/\Rep K H y e/\d.canLay0=true/\e.canLay0=true/\min d.depth e.depth<=60/\Q (.bl (PyData.eqv d e)) H
noncomputable def Jd5(K:Frag):R2:=fun x y H Q=>∃d e,Rep K H x d/\Rep K H y e/\d.canLay0=true/\e.canLay0=true/\min d.depth e.depth<=60/\Q (.bl (!PyData.eqv d e)) H
theorem Jcz(hu:X.A.units+64<cLine):OpR X (compareOp .Eq) (Jd1 X.K):=by intro pins s σ H x y v u Q I rx ry h;obtain⟨d,e,h1,h2,c1,c2,hd,q⟩:=h;obtain⟨as,r1⟩:=h1.reads I v rx;obtain⟨bs,r2⟩:=h2.reads I u ry;exact SeqAt.compareEq_reads r1 r2 c1 c2 (by omega) ⟨.bl _,H,I,rfl,q⟩
theorem JcC(hu:X.A.units+64<cLine):OpR X (compareOp .NotEq) (Jd5 X.K):=by intro pins s σ H x y v u Q I rx ry h;obtain⟨d,e,h1,h2,c1,c2,hd,q⟩:=h;obtain⟨as,r1⟩:=h1.reads I v rx;obtain⟨bs,r2⟩:=h2.reads I u ry;exact SeqAt.compareNe_reads r1 r2 c1 c2 (by omega) ⟨.bl _,H,I,rfl,q⟩
noncomputable def ZM(K:Frag):R2:=fun x y H Q=>rEq x y H Q\/Jd1 K x y H Q
noncomputable def ZN(K:Frag):R2:=fun x y H Q=>rNe x y H Q\/Jd5 K x y H Q
theorem Jcy(hu:X.A.units+64<cLine):OpR X (compareOp .Eq) (ZM X.K):=op_eq.or (Jcz hu)
theorem JcB(hu:X.A.units+64<cLine):OpR X (compareOp .NotEq) (ZN X.K):=op_ne.or (JcC hu)
noncomputable def V5(K:Frag):List V->Hp->VK->Prop:=fun xs H Q=>∃x n,xs=[x]/\JdC K x H n/\Q (.int n) H
theorem WG:CallR X (.builtin "len") (V5 X.K):=W9
inductive TyS (K:Frag) (H:Hp):V->Value->Prop where
 | of {x:V} {t:Value} (h:TyOf K H x t):TyS K H x t
 | sqT {a:Addr} {xs:List V} (h:SqT K H a xs):TyS K H (.ref a) (.type "tuple")
 | sqL {a:Addr} {xs:List V} (h:SqL K H a xs):TyS K H (.ref a) (.type "list")
theorem VY{pins:List (Addr×Obj)}{σ:St}{H:Hp}{s:Shared}{A:Around}{E:Value->Shared->Prop}{Q:Value->Shared->Prop}{c:Value}{b:Bool}{x:V}{u t:Value}(I:Inv X pins σ H s)(rx:RelV x u)(ty:TyS X.K H x t)(e:kitOne X.K t c=some b)(h:∀tk,Q (.bool b) { s with toks:=tk }) :
 wpAny (model X.prog X.w) A (call (.builtin "isinstance") [u,c]) Q E s:=by
 cases ty with
 | of z=>exact WS I rx z e h
 | @sqT a xs z=>cases (show u=Value.ref a from rx);obtain⟨its,_,p,_⟩:=I.tuple z;obtain⟨o,h1,h2,_⟩:=p;exact kia_one PySem.W.kitx_tuple I.kIn ⟨o,h1,h2⟩ e (fun z=>nomatch z) h
 | @sqL a xs z=>cases (show u=Value.ref a from rx);obtain⟨its,_,p,_⟩:=I.list z;obtain⟨o,h1,h2,_⟩:=p.isList;exact kia_one kitx_list I.kIn ⟨o,h1,h2⟩ e (fun z=>nomatch z) h
noncomputable def JaU(K:Frag):List V->Hp->VK->Prop:=fun vs H Q=>∃x c t tc b,vs=[x,c]/\TyS K H x t/\(∀u,RelV c u->u=tc)/\kitOne K t tc=some b/\Q (.bl b) H
theorem W8:CallR X (.builtin "isinstance") (JaU X.K):=by intro pins s σ H xs us Q I r h;obtain⟨x,c,t,tc,b,rfl,ty,hc,e,q⟩:=h;obtain⟨u,w',rfl,r1,r2⟩:=Jes r;cases hc w' r2;exact VY I r1 ty e fun tk=>⟨.bl b,H,I.tok tk,rfl,q⟩
noncomputable def JcK:R2:=fun x y H Q=>y=.non/\Q (.bl (decide (x=.non))) H
noncomputable def Jd6:R2:=fun x y H Q=>y=.non/\Q (.bl (!decide (x=.non))) H
theorem Wm:OpR X (compareOp .Is) JcK:=JcA
noncomputable def JeH:List V->Hp->VK->Prop:=fun xs H Q=>∃i j,xs=[.int i,.int j]/\Q (.int (if j>i then j else i)) H
noncomputable def JeI:List V->Hp->VK->Prop:=fun xs H Q=>∃i j,xs=[.int i,.int j]/\Q (.int (if j<i then j else i)) H
noncomputable def Jbl(K:Frag)(ta:TE):TT:=fun σ H Q=>ta σ H fun x H1=>∃k,WD K x H1 k/\Q k H1
theorem JcH{a:Expr}{ta:TE}(ha:PE X a ta)(he:∀whole,isTrue a X.env whole=(do let v <- whole;standAt a.pos;holding [v] (truthy v))):PT X a (Jbl X.K ta):=ZJ ha he
noncomputable def GV(mg:Str->Option Value)(x:Str)(v:V):Prop:=∃u,mg x=some u/\RelV v u
theorem VA{x:Str}{v:V}{pos:Pos}(hg:Gl X x)(hm:GV X.mg x v)(hd:(x == ("__debug__":Str))=false:=by decide):PE X (.Name x pos) (tC v):=by obtain⟨u,h1,h2⟩:=hm;exact JaR hg h1 h2 hd
end
theorem Ue:bootBuiltins "len"=some (.builtin "len"):=by decide +kernel
theorem Yb:bootBuiltins "isinstance"=some (.builtin "isinstance"):=by decide +kernel
theorem JbN:bootBuiltins "all"=some (.builtin "all"):=by decide +kernel
theorem VR:bootBuiltins "int"=some (.type "int"):=by decide +kernel
theorem Jae:bootBuiltins "bool"=some (.type "bool"):=by decide +kernel
theorem VS:bootBuiltins "str"=some (.type "str"):=by decide +kernel
structure Cal (P:Program) (w:World) (K:Frag) (mg:Str->Option Value) (base:Heap) (x:Str) (k:Nat) (ps:List Str) (sp:Sp):Prop where
 ex:∃(f:Addr) (fd:FuncData),FnOk P w K mg base CX0 k f fd ps sp/\mg x=some (.ref f)/\keepIn K (.ref f)=true/\Binds K fd ps []
structure CalM (P:Program) (w:World) (K:Frag) (mg:Str->Option Value) (base:Heap) (x:Str) (C:Addr) (k:Nat) (ps:List Str) (sp:Sp):Prop where
 ex:∃(f:Addr) (fd:FuncData),Mk K C f/\FnOk P w K mg base CX0 k f fd ps sp/\mg x=some (.ref C)/\Binds K fd ps []
section
variable{X:Cx}{k:Nat}{C:Addr}{ps:List Str}{sp:Sp}{x:Str}{p pos:Pos}{e:Expr}{es:List Expr}{t:TA}
theorem J2(c:Cal X.prog X.w X.K X.mg X.base x k ps sp)(hr:Room k X.A)(hg:Gl X x)(ha:PA X (e::es) t)(hdb:(x == ("__debug__":Str))=false:=by decide)
 (he:starEach (e::es) X.env=(false,eval e X.env)::starEach es X.env:=by rfl) (hpl:(backTo pos (starEach es X.env)).any (·.1)=false:=by rfl):PE X (.Call (.Name x p) (e::es) [] pos) (Wy sp [] E0 t):=by
 obtain⟨f,fd,F,h1,h2,h3⟩:=c.ex;exact JaP F hr hg h1 h2 h3 .nil JdX ha hdb he hpl
end

noncomputable def Jb5(K:Frag)(tl:TE):TI:=fun σ H R=>Jbt K tl σ H R\/JdO K tl σ H R
theorem JcF{X:Cx}{tg l:Expr}{tl:TE}(hl:PE X l tl):PI X tg l (Jb5 X.K tl):=by
 intro pins s σ H R I h;rcases h with h|h
 ·exact JaS hl pins s σ H R I h
 ·exact JcG hl pins s σ H R I h

theorem Jew{X:Cx}{sc:Scope}{N':List Str}{imp:List (Option Nat)}(h1:sc.kind=.function)
 (h2:(sc.names.all (fun y=>y.2 != .free && y.2 != .cell && (y.2 != .local || sc.names.lookup y.1 == some .local)) && imp.all (·.isNone) && (imp.length == N'.length))=true):Blk X sc [] N' imp:=by
 simp only[Bool.and_eq_true,List.all_eq_true] at h2;obtain⟨⟨h2,h3⟩,h4⟩:=h2
 have nofree:∀y∈sc.names,y.2≠.free:=fun y hy=>by
  have:=(h2 y hy).1.1
  simpa using this
 have nocell:∀y∈sc.names,y.2≠.cell:=fun y hy=>by
  have:=(h2 y hy).1.2
  simpa using this
 refine⟨closureFor_none nofree,h1,nocell,fun y hy hl=>?_,(fun p hp=>nomatch hp),fun y hy hk=>?_,by simpa using h4,fun p hp k e=>?_⟩
 ·have:=(h2 y hy).2;rw[hl] at this
  simpa using this
 ·have:(relabel sc X.env).names=sc.names:=by
   unfold relabel;refine map_eq_self fun x hx=>?_
   obtain⟨n,q⟩:=x;have:(q == NameKind.free)=false:=by simpa using nofree _ hx
   simp[this]
  rw[this] at hy;rcases hk with z|z
  ·exact absurd z (nocell y hy)
  ·exact absurd z (nofree y hy)
 ·have:=h3 p.1 (List.of_mem_zip hp).1;rw[e] at this;cases this

section
variable{K:Frag}{σ:St}{H H1:Hp}{Q:VK}{i:Nat}{v:V}{ta tb te:TE}{r:R2}{D:Ends}{t u:TS}{c:TT}
theorem Jdb(h:σ[i]?=some (some v))(q:Q v H):Jbm i σ H Q:=⟨v,h,q⟩
theorem JeJ(q:Q v H):tC v σ H Q:=q
theorem Jee(q:ta σ H fun x H1=>tb σ H1 fun y H2=>r x y H2 Q):tOp r ta tb σ H Q:=q
theorem Jeh{r:V->Hp->VK->Prop}(q:ta σ H fun x H1=>r x H1 Q):tUn r ta σ H Q:=q
theorem Jec{g:Int->Int->V}{a b:Int}(q:Q (g a b) H):rI0 g (.int a) (.int b) H Q:=⟨a,b,rfl,rfl,q⟩
theorem JeK{C:Int->Int->Prop}{g:Int->Int->V}{a b:Int}(h:C a b)(q:Q (g a b) H):rI C g (.int a) (.int b) H Q:=⟨a,b,rfl,rfl,h,q⟩
theorem JeL{g:Int->V}{a:Int}(q:Q (g a) H):rU g (.int a) H Q:=⟨a,rfl,q⟩
theorem JaV{a b:Int}(q:Q (.int (a+b)) H):Wr K (.int a) (.int b) H Q:=.inl ⟨a,b,rfl,rfl,q⟩
theorem JcP{a b:Int}(q:Q (.bl (decide (a=b))) H):ZM K (.int a) (.int b) H Q:=.inl ⟨rfl,by
 have:decide (V.int a=V.int b)=decide (a=b):=by simp
 rw[this];exact q⟩
theorem Jc2{a b:Int}(q:Q (.bl (!decide (a=b))) H):ZN K (.int a) (.int b) H Q:=.inl ⟨rfl,by
 have:decide (V.int a=V.int b)=decide (a=b):=by simp
 rw[this];exact q⟩
theorem JcQ{a b:Str}(q:Q (.bl (decide (a=b))) H):ZM K (.str a) (.str b) H Q:=.inl ⟨rfl,by
 have:decide (V.str a=V.str b)=decide (a=b):=by simp
 rw[this];exact q⟩
theorem Jc3{a b:Str}(q:Q (.bl (!decide (a=b))) H):ZN K (.str a) (.str b) H Q:=.inl ⟨rfl,by
 have:decide (V.str a=V.str b)=decide (a=b):=by simp
 rw[this];exact q⟩
theorem JcU{x:V}(q:Q (.bl (decide (x=.non))) H):JcK x .non H Q:=⟨rfl,q⟩
theorem Ja6{x:V}(q:Q (.bl (!decide (x=.non))) H):Jd6 x .non H Q:=⟨rfl,q⟩
theorem Jc0{a b:Int}(q:Q (.int (max a b)) H):JeH [.int a,.int b] H Q:=⟨a,b,rfl,by
 have e:(if b>a then b else a)=max a b:=by rw[Int.max_def];split <;> split <;> omega
 rw[e];exact q⟩
theorem Jc1{a b:Int}(q:Q (.int (min a b)) H):JeI [.int a,.int b] H Q:=⟨a,b,rfl,by
 have e:(if b<a then b else a)=min a b:=by rw[Int.min_def];split <;> split <;> omega
 rw[e];exact q⟩
theorem Jba{Qb:Bool->Hp->Prop}(q:ta σ H fun x H1=>∃k,WD K x H1 k/\Qb k H1):Jbl K ta σ H Qb:=q
theorem JcR{f:Str}(q:ta σ H fun x H1=>∃a C dx fs v,x=.ref a/\H1 a=some (.ins C dx fs)/\Cls K C/\Ud K C f/\fs.lookup f=some v/\Q v H1):JeQ K ta f σ H Q:=q
theorem Ja9{Qb:Bool->Hp->Prop}(q:te σ H fun x H'=>∃k,x=.bl k/\Qb k H'):Z5 te σ H Qb:=q
theorem Jeg{Qb:Bool->Hp->Prop}(q:te σ H fun x H'=>∃k,x=.bl k/\Qb k H'):tB te σ H Qb:=q
theorem JcN{c':TT}{Qb:Bool->Hp->Prop}(q:c σ H fun b H1=>if b=true then c' σ H1 Qb else Qb false H1):Jdm c c' σ H Qb:=q
theorem Jef{c':TT}{Qb:Bool->Hp->Prop}(q:c σ H fun b H1=>if b=true then Qb true H1 else c' σ H1 Qb):tOr c c' σ H Qb:=q
theorem Jc5{Qb:Bool->Hp->Prop}(q:c σ H fun b H1=>Qb (!b) H1):Jdp c σ H Qb:=q
theorem Ja7(q:te σ H fun x H1=>∃b,x=.bl b/\Q (.bl (!b)) H1):Z4 te σ H Q:=q
theorem JaW(q:ta σ H fun x H1=>∃b,x=.bl b/\if b=true then tb σ H1 Q else Q (.bl false) H1):Z2 ta tb σ H Q:=q
theorem Jc6(q:ta σ H fun x H1=>∃b,x=.bl b/\if b=true then Q (.bl true) H1 else tb σ H1 Q):JeR ta tb σ H Q:=q
theorem JcS(q:c σ H fun b H1=>if b=true then ta σ H1 Q else tb σ H1 Q):tIf c ta tb σ H Q:=q
theorem Jc8(q:t { D with nx:=u D } σ H):Jbk t u D σ H:=q
theorem JcO{g:TG}(q:te σ H fun x H1=>g x σ H1 D.nx):Jbh te g D σ H:=q
theorem ZQ{Qs:St->Hp->Prop}(q:Qs (σ.set i (some v)) H):UL i v σ H Qs:=q
theorem JcT(q:c σ H fun b H1=>if b=true then t D σ H1 else u D σ H1):Jdo c t u D σ H:=q
theorem Jc7(q:te σ H D.rt):Jdq te D σ H:=q
theorem JaY(q:te σ H fun _ H1=>D.nx σ H1):Jeo te D σ H:=q
theorem Ja5(q:D.nx σ H):Z3 D σ H:=q
theorem JaX{tr:TA}{Ql:List V->Hp->Prop}(q:ta σ H fun x H1=>tr σ H1 fun xs H2=>Ql (x::xs) H2):UP ta tr σ H Ql:=q
theorem Jc4{Ql:List V->Hp->Prop}(q:Ql [] H):Jbj σ H Ql:=q
theorem Jeb{r:List V->Hp->VK->Prop}{ts:TA}(q:ts σ H fun vs H1=>r vs H1 Q):tCB r ts σ H Q:=q
theorem Wt{sp:Sp}{E:XK}{ts:TA}(q:ts σ H fun vs H1=>sp vs H1 Q E):Wy sp [] E ts σ H Q:=by
 have e:(fun vs H1=>sp (vs++[]) H1 Q E)=fun vs H1=>sp vs H1 Q E:=by funext vs H1;rw[List.append_nil]
 show ts σ H fun vs H1=>sp (vs++[]) H1 Q E
 rw[e];exact q
noncomputable def JbH(xs:List V)(H:Hp)(Q:VK):Prop:=xs.length<=sizeLine/\∀p,H p=none->Q (.ref p) (upd H p (.tup xs))
noncomputable def JbG(xs:List V)(H:Hp)(Q:VK):Prop:=xs.length<=sizeLine/\∀p,H p=none->Q (.ref p) (upd H p (.lst xs))
theorem Jda{ts:TA}(q:ts σ H fun xs H1=>JbH xs H1 Q):JeS ts σ H Q:=q
theorem JcZ{ts:TA}(q:ts σ H fun xs H1=>JbG xs H1 Q):Jbi ts σ H Q:=q
theorem Ja1{a:Addr}{xs:List V}(h:SqL K H a xs)(q:Q (.int xs.length) H):V5 K [.ref a] H Q:=⟨_,_,rfl,.inl ⟨xs,h,rfl⟩,q⟩
theorem Ja3{a:Addr}{xs:List V}(h:SqT K H a xs)(q:Q (.int xs.length) H):V5 K [.ref a] H Q:=⟨_,_,rfl,.inr ⟨xs,h,rfl⟩,q⟩
theorem Ja2{x:Str}(h:x.length<=sizeLine)(q:Q (.int x.length) H):V5 K [.str x] H Q:=⟨_,_,rfl,⟨h,rfl⟩,q⟩
theorem JcW{a:Addr}{xs:List V}{j:Int}{v:V}(h:SqL K H a xs)(e:atI xs j=some v)(q:Q v H):rIx K (.ref a) (.int j) H Q:=.inl ⟨a,xs,j,v,rfl,rfl,h,e,q⟩
theorem JcY{a:Addr}{xs:List V}{j:Int}{v:V}(h:SqT K H a xs)(e:atI xs j=some v)(q:Q v H):rIx K (.ref a) (.int j) H Q:=.inr (.inl ⟨a,xs,j,v,rfl,rfl,h,e,q⟩)
theorem JcX{z:Str}{j:Int}{c:Nat}(hz:z.length<=sizeLine)(e:atI z.cps.toList j=some c)(q:Q (.str ⟨#[c]⟩) H):rIx K (.str z) (.int j) H Q:=.inr (.inr ⟨z,j,c,rfl,rfl,hz,e,q⟩)
theorem JcV{x:V}{n:String}{t:Value}{b:Bool}(ty:TyS K H x t)(e:kitOne K t (.type n)=some b)(q:Q (.bl b) H):JaU K [x,.ty n] H Q:=⟨x,_,t,_,b,rfl,ty,fun _ r=>r,e,q⟩
theorem Jed{T:String}{rm:V->List V->Hp->VK->Prop}{to:TE}{ts:TA}(q:to σ H fun x H1=>tyV K T x H1/\ts σ H1 fun xs H2=>rm x xs H2 Q):tBM K T rm to ts σ H Q:=q
theorem Ja0{to ti:TE}{ts:JdE}{Qs:St->Hp->Prop}(q:to σ H fun o H1=>ti σ H1 fun i H2=>ts o i v H2 fun H3=>Qs σ H3):JeD to ti ts v σ H Qs:=q
theorem ZP{t:TG}{u:TGs}{x:V}{xs:List V}{Qs:St->Hp->Prop}(q:t x σ H fun σ' H'=>u xs σ' H' Qs):JdN t u (x::xs) σ H Qs:=⟨x,xs,rfl,q⟩
theorem JaZ{Qs:St->Hp->Prop}(q:Qs σ H):JeC [] σ H Qs:=⟨rfl,q⟩
theorem Ja8{f:Str}{tv:TE}(q:tv σ H fun y H1=>ta σ H1 fun x H2=>∃a C dx fs,x=.ref a/\H2 a=some (.ins C dx fs)/\Cls K C/\Ud K C f/\fs.length<1000/\D.nx σ (upd H2 a (.ins C dx (JcI f y fs)))):JeM K ta tv f D σ H:=q
theorem ZO{r':R2}{tc:TE}(q:ta σ H fun x H1=>tb σ H1 fun y H2=>r x y H2 fun z H3=>∃k,z=.bl k/\(if k=true then tc σ H3 fun w' H4=>r' y w' H4 Q else Q (.bl false) H3)):Jdn r r' ta tb tc σ H Q:=q
theorem Jdc{Qb:Bool->Hp->Prop}(q:Qb true H):Jdr σ H Qb:=q
end
end L2
namespace L2
open PySem PySem.Spec PyProof.Rows
section
variable{X:Cx}{K:Frag}{pos:Pos}
theorem JaL(hK:X.K=K):OpR X (binaryOp .Add) (Wr K):=hK▸JaK
theorem Yq(hK:X.K=K)(hu:X.A.units+64<cLine):OpR X (compareOp .Eq) (ZM K):=hK▸Jcy hu
theorem V0(hK:X.K=K)(hu:X.A.units+64<cLine):OpR X (compareOp .NotEq) (ZN K):=hK▸JcB hu
theorem Yc(hK:X.K=K):CallR X (.builtin "len") (V5 K):=hK▸WG
theorem YU(hK:X.K=K):CallR X (.builtin "isinstance") (JaU K):=hK▸W8
theorem UZ(hK:X.K=K):IxR X (rIx K):=hK▸Jcb
theorem Wn{tg l:Expr}{tl:TE}(hK:X.K=K)(hl:PE X l tl):PI X tg l (Jb5 K tl):=hK▸JcF hl
theorem Yy{a:Expr}{ta:TE}(hK:X.K=K)(ha:PE X a ta)(he:∀whole,isTrue a X.env whole=(do let v <- whole;standAt a.pos;holding [v] (truthy v))):PT X a (Jbl K ta):=hK▸JcH ha he
theorem Zz{o e:Expr}{es:List Expr}{to:TE}{t:TA}{name:Str}{apos cpos:Pos}{T id:String}{r:V->List V->Hp->VK->Prop}(hK:X.K=K)(pa:PlainAttrs T)(slot:Slot T name id)(hty:typeOf (.builtin id)=pure (.type "method_descriptor"))(hm:MtR X id r)(ho:PE X o to)(ha:PA X (e::es) t)
 (hbase:attributeBase o name X.env (eval o X.env)=eval o X.env:=by rfl)
 (hfew:((backTo cpos (starEach (e::es) X.env)).all (fun x=>!x.1) && (backToKw cpos (keywordEach [] X.env)).all (fun x=>x.1.isSome)
  && decide ((e::es).length+([]:List Keyword).length+(if ([]:List Keyword).isEmpty then 0 else 1)<30))=true:=by rfl)
 (hline:(apos.endLine == cpos.line)=true:=by rfl) (hs:starEach (e::es) X.env=(false,eval e X.env)::starEach es X.env:=by rfl) (hplain:(backTo cpos (starEach es X.env)).any (·.1)=false:=by rfl) :
 PE X (.Call (.Attribute o name apos) (e::es) [] cpos) (tBM K T r to t):=hK▸JdY pa slot hty hm ho ha hbase hfew hline hs hplain
end
end L2

namespace LR
open PySem L2

theorem Jdu(K:Frag)(H:Hp)(k:Bool):WD K (.bl k) H k:=rfl
noncomputable abbrev Pr:=Int×Int
noncomputable def prD(p:Pr):PyData:=.tuple [.int p.1,.int p.2]
section
variable{K:Frag}{H H':Hp}
theorem JaT{v:V}{p:Pr}(r:Rep K H v (prD p)):∃a,v=.ref a/\SqT K H a [.int p.1,.int p.2]:=by
 obtain⟨a,xs,rfl,h,l,q⟩:=r.tupI
 match xs,l,q,h with
 | [x,y],_,q,h =>
  have e1:=(q 0 x (.int p.1) rfl rfl).intI
  have e2:=(q 1 y (.int p.2) rfl rfl).intI;subst e1 e2;exact⟨a,rfl,h⟩
noncomputable abbrev Prs(K:Frag)(H:Hp)(vs:List V)(ps:List Pr):Prop:=RepL K H vs (ps.map prD)
theorem Prs.len{vs:List V}{ps:List Pr}(r:Prs K H vs ps):vs.length=ps.length:=by have:=r.1;rwa [List.length_map] at this
theorem Prs.at{vs:List V}{ps:List Pr}{i:Nat}{v:V}(r:Prs K H vs ps)(e:vs[i]?=some v):∃p a,ps[i]?=some p/\v=.ref a/\SqT K H a [.int p.1,.int p.2]:=by
 obtain⟨d,h1,h2⟩:=r.get' e;rw[List.getElem?_map] at h1
 cases hp:ps[i]? with
 | none=>rw[hp] at h1;cases h1
 | some p=>rw[hp] at h1;cases h1;obtain⟨a,e1,e2⟩:=JaT h2;exact⟨p,a,rfl,e1,e2⟩
theorem Prs.snoc{vs:List V}{ps:List Pr}{v:V}{p:Pr}(r:Prs K H vs ps)(h:Rep K H v (prD p)):Prs K H (vs++[v]) (ps++[p]):=by show RepL K H _ _;rw[List.map_append];exact RepL.snoc r h
end

structure Good (ps:List Pr):Prop where
 one:∀(i:Nat) (p:Pr),ps[i]?=some p->1<=p.2
 gap:∀(i:Nat) (p q:Pr),ps[i]?=some p->ps[i+1]?=some q->p.1+p.2<q.1
theorem Good.nil:Good []:=⟨fun i p e=>by simp at e,fun i p q e=>by simp at e⟩
theorem Good.snoc{ps:List Pr}{p:Pr}(g:Good ps)(h1:1<=p.2)(h2:∀q,ps[ps.length-1]?=some q->q.1+q.2<p.1):Good (ps++[p]):=by
 refine⟨fun i q e=>?_,fun i q r e1 e2=>?_⟩
 ·by_cases hi:i<ps.length
  ·rw[List.getElem?_append_left hi] at e;exact g.one i q e
  ·rw[List.getElem?_append_right (by omega)] at e;obtain⟨h3,h4⟩:=List.getElem?_eq_some_iff.mp e;have:i-ps.length=0:=by simp at h3;omega
   rw[this] at e;simp at e;subst e;exact h1
 ·by_cases hi:i+1<ps.length
  ·rw[List.getElem?_append_left (by omega)] at e1;rw[List.getElem?_append_left hi] at e2;exact g.gap i q r e1 e2
  ·rw[List.getElem?_append_right (by omega)] at e2;obtain⟨h3,h4⟩:=List.getElem?_eq_some_iff.mp e2;have h5:i+1-ps.length=0:=by simp at h3;omega
   rw[h5] at e2;simp at e2;subst e2;have h6:i=ps.length-1:=by omega
   have h7:i<ps.length:=by omega
   rw[List.getElem?_append_left h7] at e1;rw[h6] at e1;exact h2 q e1

noncomputable def Jei(t:Addr):List (Str×V):=[("stretches",.ref t)]
noncomputable def RowAt(C:Addr)(K:Frag)(H:Hp)(v:V)(ps:List Pr):Prop :=
 ∃x dx t ts,v=.ref x/\H x=some (.ins C dx (Jei t))/\H t=some (.tup ts)/\Prs K H ts ps
theorem RowAt.mono{C:Addr}{K:Frag}{H H':Hp}{v:V}{ps:List Pr}(e:Same H H')(r:RowAt C K H v ps):RowAt C K H' v ps:=by obtain⟨x,dx,t,ts,h0,h1,h2,h3⟩:=r;exact⟨x,dx,t,ts,h0,e _ _ h1,e _ _ h2,RepL.mono e h3⟩
structure RowC (K:Frag) (C:Addr):Prop where
 cl:Cls K C
 ns:Ud K C "stretches"
noncomputable def Jbp(C:Addr)(sp:Sp)(E:XK)(vs:List V)(H1:Hp)(Q:VK):Prop:=∀x dx,H1 x=none->H1 dx=none->dx≠x ->
 sp (.ref x::vs) (upd (upd H1 dx (.own x)) x (.ins C dx [])) (fun v H2=>v=.non/\Q (.ref x) H2) E
theorem Ja4{C:Addr}{sp:Sp}{E:XK}{ts:TA}{σ:St}{H:Hp}{Q:VK}(q:ts σ H fun vs H1=>Jbp C sp E vs H1 Q):Jeq C sp [] E ts σ H Q:=by
 have e:(fun vs H1=>Jbp C sp E vs H1 Q)=fun vs H1=>∀x dx,H1 x=none->H1 dx=none->dx≠x->sp (.ref x::(vs++[])) (upd (upd H1 dx (.own x)) x (.ins C dx [])) (fun v H2=>v=.non/\Q (.ref x) H2) E:=by funext vs H1;rw[List.append_nil];rfl
 show ts σ H _;rw[<- e];exact q
noncomputable def cell(ns:List Int)(k:Int):Int:=ns.getD k.toNat 0
end LR

namespace LR
open PySem L2

theorem ZR{K:Frag}{a:Addr}{xs:List V}{H:Hp}{Q:VK}(h:SqL K H a xs\/SqT K H a xs)(q:Q (.int xs.length) H):V5 K [.ref a] H Q:=by
 rcases h with h|h
 ·exact Ja1 h q
 ·exact Ja3 h q
noncomputable def Ww(K:Frag):Sp:=fun vs H Q _=>∃(a:Addr) (ns:List Int),vs=[.ref a]/\SqL K H a (ns.map V.int)/\ns.length<=63/\∀H',Q (.bl true) H'
end LR
namespace LR
open PySem L2
end LR

namespace L2
open PySem PySem.Spec PyProof.Rows

section
variable{X:Cx}{pins:List (Addr×Obj)}{σ:St}{H:Hp}{s:Shared}
theorem WT{A':Around}{E:Value->Shared->Prop}{Q:Value->Shared->Prop}{a:Addr}{vs:List V}(hh:A'.handled=none)(I:Inv X pins σ H s)(hq:SqL X.K H a vs\/SqT X.K H a vs)
 (h:∀(its:List Value) (J:Addr) (fp wr:List Addr) (Sx:Nat->Heap->Prop) (s2:Shared),Vals vs its->Walks X.prog X.w A' J fp wr its.toArray.size (fun i v=>its.toArray[i]?=some v) Sx->Sx 0 s2.heap->(∀b∈fp,b<s2.heap.objs.size) ->
  (∀h' tk,(∀b o,b∉wr->s2.heap.get? b=some o->h'.get? b=some o)->Inv X pins σ H { s2 with heap:=h',toks:=tk })->Q (.ref J) s2):wpAny (model X.prog X.w) A' (pyIter (.ref a)) Q E s:=by
 have nin:∀b o,s.heap.get? b=some o->b∉[s.heap.objs.size]:=fun b o e z=>by
  have:b=s.heap.objs.size:=by simpa using z
  exact absurd (Heap.lt_size e) (by rw[this];exact Nat.lt_irrefl _)
 rcases hq with hq|hq
 ·obtain⟨its,rv,p,hz⟩:=I.list hq;have hlt:a<s.heap.objs.size:=by obtain⟨_,e,_⟩:=p.isList;exact Heap.lt_size e
  refine wpAny_pyIter_list p.isList ?_;refine h its _ _ _ _ _ rv (Walks.list hh _ a (Nat.ne_of_lt hlt) its.toArray) ⟨⟨_,Heap.get?_push_size _ rfl,rfl,rfl⟩,p.isList.push _⟩ (fun b hb=>?_) fun h' tk hk=>I.kept fun b o e=>hk b o (nin b o e) (Heap.get?_push_of_some _ e)
  show b<(s.heap.push _).objs.size;rw[Heap.size_push];rcases List.mem_cons.mp hb with z|z
  ·rw[z];exact Nat.lt_succ_self _
  ·have:b=a:=by simpa using z
   rw[this];exact Nat.lt_succ_of_lt hlt
 ·obtain⟨its,rv,p,hz⟩:=I.tuple hq;have ht:s.heap.IsTuple a its.toArray:=p;have hlt:a<s.heap.objs.size:=by obtain⟨_,e,_⟩:=ht;exact Heap.lt_size e
  refine wpAny_pyIter_tuple ht ?_;refine h its _ _ _ _ _ rv (Walks.tuple hh _ a (Nat.ne_of_lt hlt) its.toArray) ⟨⟨_,Heap.get?_push_size _ rfl,rfl,rfl⟩,?_⟩ (fun b hb=>?_) fun h' tk hk=>I.kept fun b o e=>hk b o (nin b o e) (Heap.get?_push_of_some _ e)
  ·obtain⟨o,e,c⟩:=ht;exact⟨o,Heap.get?_push_of_some _ e,c⟩
  ·show b<(s.heap.push _).objs.size;rw[Heap.size_push];rcases List.mem_cons.mp hb with z|z
   ·rw[z];exact Nat.lt_succ_self _
   ·have:b=a:=by simpa using z
    rw[this];exact Nat.lt_succ_of_lt hlt
end

section
variable{X:Cx}
noncomputable def JcJ(K:Frag):List V->Hp->VK->Prop:=fun xs H Q=>∃(a:Addr) (bs:List Bool),xs=[.ref a]/\(SqL K H a (bs.map V.bl)\/SqT K H a (bs.map V.bl))/\Q (.bl (bs.all id)) H
theorem W1(bs:List Bool):(List.range bs.length).all (fun i=>bs.getD i false)=bs.all id:=by
 rw[Bool.eq_iff_iff];simp only[List.all_eq_true,List.mem_range,id];constructor
 ·intro h b hb;obtain⟨i,hi,e⟩:=List.mem_iff_getElem.mp hb;have:=h i hi;simp[List.getD_eq_getElem?_getD,hi] at this;rw[<- e];exact this
 ·intro h i hi;simp[List.getD_eq_getElem?_getD,hi];exact h _ (List.getElem_mem hi)
theorem VM{A:Around}{bs:List Bool}{its:List Value}(rv:Vals (bs.map V.bl) its):TruthOf X.prog X.w A (fun i v=>its.toArray[i]?=some v) (fun i=>bs.getD i false):=by
 intro i v s Q E e q;have e':its[i]?=some v:=by simpa using e
 obtain⟨x,e1,e2⟩:=rv.get' e';rw[List.getElem?_map] at e1
 cases hn:bs[i]? with
 | none=>rw[hn] at e1;cases e1
 | some n =>
  rw[hn] at e1;cases e1;cases e2;have:bs.getD i false=n:=by simp[List.getD_eq_getElem?_getD,hn]
  have q':Q (bs.getD i false) s:=q;rw[this] at q';exact wpAny_truthy_bool q'
theorem WF(hc:X.calm=true):CallR X (.builtin "all") (JcJ X.K):=by intro pins s σ H xs us Q I r h;obtain⟨a,bs,rfl,hq,q⟩:=h;obtain⟨u,rfl,rx⟩:=WC r;cases rx;refine call_all_walk (WT (A':=X.A.in1) (I.ok.hd hc) I hq fun its J fp wr Sx s2 rv W st hfp hI=>?_);have hl:=rv.length;rw[List.length_map] at hl;refine⟨J,fp,wr,_,_,Sx,_,rfl,W,st,VM rv,fun h' tk hk=>⟨.bl _,H,hI h' tk hk,rfl,?_⟩⟩;rw[show its.toArray.size=bs.length by simp[hl],W1];exact q
noncomputable def strI(i:Int):Str:=(toString i:String)
noncomputable def JcM:List V->Hp->VK->Prop:=fun xs H Q=>∃i,xs=[.int i]/\i.natAbs.log2<1920/\Q (.str (strI i)) H
theorem UK:CallR X (.type "str") JcM:=UT
end
section
variable{X:Cx}{K:Frag}
theorem WE(hK:X.K=K)(hc:X.calm=true):CallR X (.builtin "all") (JcJ K):=hK▸WF hc
end
section
variable{K:Frag}{H:Hp}{Q:VK}
theorem Jc9{i:Int}(h:i.natAbs.log2<1920)(q:Q (.str (strI i)) H):JcM [.int i] H Q:=⟨i,rfl,h,q⟩
end
end L2
namespace L2
open PySem PySem.Spec PyProof.Rows
noncomputable def AllP{α:Type}(P:α->Prop):List α->Prop
 | []=>True
 | x::xs=>P x/\AllP P xs
theorem AllP.mem{α:Type}{P:α->Prop}:∀{l:List α},AllP P l->∀x∈l,P x
 | [],_,x,hx=>nomatch hx
 | y::l,h,x,hx=>by
  rcases List.mem_cons.mp hx with z|z
  ·rw[z];exact h.1
  ·exact AllP.mem h.2 x z
end L2

namespace LR
open PySem L2

noncomputable def Small(i:Int):Prop:=i.natAbs.log2<1920
theorem Small.of{i:Int}(h:i.natAbs<2 ^ 1920):Small i:=by
 unfold Small
 by_cases h0:i.natAbs=0
 ·rw[h0];decide
 ·exact(Nat.log2_lt h0).mpr h
end LR

namespace LE
open PySem L2 LR

inductive D where
 | non|bl (b:Bool)|int (i:Int)|str (x:Str)|tup (l:List D)|lst (l:List D)|fz (l:List D)|row (l:List D)|dct (ks:List Int) (l:List D)|dfz (ks:List Int) (l:List D)|exc (n:Str)
noncomputable def dkO(ks:List Int)(xs:List V):HO:=.dK ((ks.map Sum.inl).zip xs)
noncomputable def XO(a:Addr)(c:Value):HO:=.ext fun h=>∃o,h.get? a=some o/\o.cls=c/\PySem.W.notCls o=true/\o.dict=none

section
variable(K:Frag)(C:Addr)
inductive RD (H:Hp):V->D->Prop
 | non:RD H .non .non
 | bl (b:Bool):RD H (.bl b) (.bl b)
 | int (i:Int):RD H (.int i) (.int i)
 | str (x:Str):RD H (.str x) (.str x)
 | tup {a:Addr} {xs:List V} {ds:List D}:SqT K H a xs->xs.length=ds.length->(∀(i:Nat) (x:V) (d:D),xs[i]?=some x->ds[i]?=some d->RD H x d)->RD H (.ref a) (.tup ds)
 | lst {a:Addr} {xs:List V} {ds:List D}:H a=some (.lst xs)->xs.length=ds.length->(∀(i:Nat) (x:V) (d:D),xs[i]?=some x->ds[i]?=some d->RD H x d)->RD H (.ref a) (.lst ds)
 | fz {a:Addr} {xs:List V} {ds:List D}:SqL K H a xs->xs.length=ds.length->(∀(i:Nat) (x:V) (d:D),xs[i]?=some x->ds[i]?=some d->RD H x d)->RD H (.ref a) (.fz ds)
 | row {x dx t:Addr} {ts:List V} {ds:List D}:H x=some (.ins C dx (Jei t))->SqT K H t ts->ts.length=ds.length->(∀(i:Nat) (x:V) (d:D),ts[i]?=some x->ds[i]?=some d->RD H x d)->RD H (.ref x) (.row ds)
 | dct {a:Addr} {ks:List Int} {xs:List V} {ds:List D}:H a=some (dkO ks xs)->ks.length=ds.length->xs.length=ds.length->(∀(i:Nat) (x:V) (d:D),xs[i]?=some x->ds[i]?=some d->RD H x d)->RD H (.ref a) (.dct ks ds)
 | dfz {a:Addr} {ks:List Int} {xs:List V} {ds:List D} {o:Obj}:H a=some (.frz o (dkO ks xs))->ks.length=ds.length->xs.length=ds.length->(∀(i:Nat) (x:V) (d:D),xs[i]?=some x->ds[i]?=some d->RD H x d)->RD H (.ref a) (.dfz ks ds)
 | exc {a c:Addr} {n:Str}:H a=some (XO a (.ref c))->nsIn K mainGlobals n=some (some (.ref c))->RD H (.ref a) (.exc n)
noncomputable def RDL(H:Hp)(xs:List V)(ds:List D):Prop:=xs.length=ds.length/\∀(i:Nat) (x:V) (d:D),xs[i]?=some x->ds[i]?=some d->RD K C H x d
end

section
variable{K:Frag}{C:Addr}{H H':Hp}
theorem RD.mono{v:V}{d:D}(e:Same H H')(r:RD K C H v d):RD K C H' v d:=by
 induction r with
 | non=>exact .non
 | bl b=>exact .bl b
 | int i=>exact .int i
 | str x=>exact .str x
 | tup h l _ ih=>exact .tup (e.seqT h) l ih
 | lst h l _ ih=>exact .lst (e _ _ h) l ih
 | fz h l _ ih=>exact .fz (e.seq h) l ih
 | row h1 h2 l _ ih=>exact .row (e _ _ h1) (e.seqT h2) l ih
 | dct h1 h2 l _ ih=>exact .dct (e _ _ h1) h2 l ih
 | dfz h1 h2 l _ ih=>exact .dfz (e _ _ h1) h2 l ih
 | exc h1 h2=>exact .exc (e _ _ h1) h2
theorem RDL.mono{xs:List V}{ds:List D}(e:Same H H')(r:RDL K C H xs ds):RDL K C H' xs ds:=⟨r.1,fun i x d h1 h2=>(r.2 i x d h1 h2).mono e⟩
theorem RDL.nil:RDL K C H [] []:=⟨rfl,fun i x d e=>by simp at e⟩
theorem RDL.cons{x:V}{d:D}{xs:List V}{ds:List D}(h:RD K C H x d)(r:RDL K C H xs ds):RDL K C H (x::xs) (d::ds):=by
 refine⟨by simp[r.1],fun i y e h1 h2=>?_⟩
 cases i with
 | zero=>simp at h1 h2;subst h1 h2;exact h
 | succ i=>exact r.2 i y e (by simpa using h1) (by simpa using h2)
theorem RDL.append{xs ys:List V}{ds es:List D}(r:RDL K C H xs ds)(q:RDL K C H ys es):RDL K C H (xs++ys) (ds++es):=by
 refine⟨by simp[r.1,q.1],fun i x d h1 h2=>?_⟩
 by_cases hi:i<xs.length
 ·rw[List.getElem?_append_left hi] at h1;rw[List.getElem?_append_left (by rw[<- r.1];exact hi)] at h2;exact r.2 i x d h1 h2
 ·rw[List.getElem?_append_right (by omega)] at h1;rw[List.getElem?_append_right (by rw[<- r.1];omega)] at h2;rw[<- r.1] at h2;exact q.2 _ x d h1 h2
theorem RDL.snoc{xs:List V}{ds:List D}{x:V}{d:D}(r:RDL K C H xs ds)(h:RD K C H x d):RDL K C H (xs++[x]) (ds++[d]):=r.append (.cons h .nil)
theorem RDL.get{xs:List V}{ds:List D}{i:Nat}{d:D}(r:RDL K C H xs ds)(e:ds[i]?=some d):∃x,xs[i]?=some x/\RD K C H x d:=by
 have hi:=(List.getElem?_eq_some_iff.mp e).1
 have hx:i<xs.length:=by rw[r.1];exact hi
 exact⟨xs[i],by simp[hx],r.2 i _ d (by simp[hx]) e⟩
theorem RDL.get'{xs:List V}{ds:List D}{i:Nat}{x:V}(r:RDL K C H xs ds)(e:xs[i]?=some x):∃d,ds[i]?=some d/\RD K C H x d:=by
 have hi:=(List.getElem?_eq_some_iff.mp e).1
 have hx:i<ds.length:=by rw[<- r.1];exact hi
 exact⟨ds[i],by simp[hx],r.2 i x _ e (by simp[hx])⟩
theorem RDL.head{x:V}{xs:List V}{d:D}{ds:List D}(r:RDL K C H (x::xs) (d::ds)):RD K C H x d:=r.2 0 x d rfl rfl
theorem RDL.tail{x:V}{xs:List V}{d:D}{ds:List D}(r:RDL K C H (x::xs) (d::ds)):RDL K C H xs ds:=⟨by have:=r.1;simpa using this,fun i y e h1 h2=>r.2 (i+1) y e (by simpa using h1) (by simpa using h2)⟩
theorem RDL.take{xs:List V}{ds:List D}(n:Nat)(r:RDL K C H xs ds):RDL K C H (xs.take n) (ds.take n):=by
 refine⟨by simp[r.1],fun i x d h1 h2=>?_⟩;rw[List.getElem?_take] at h1 h2;split at h1
 ·rw[if_pos (by assumption)] at h2;exact r.2 i x d h1 h2
 ·cases h1
theorem RDL.drop{xs:List V}{ds:List D}(n:Nat)(r:RDL K C H xs ds):RDL K C H (xs.drop n) (ds.drop n):=by refine⟨by simp[r.1],fun i x d h1 h2=>?_⟩;rw[List.getElem?_drop] at h1 h2;exact r.2 _ x d h1 h2
theorem RDL.set{xs:List V}{ds:List D}{v:V}{e:D}(n:Nat)(r:RDL K C H xs ds)(h:RD K C H v e):RDL K C H (xs.set n v) (ds.set n e):=by
 refine⟨by simp[r.1],fun i x d h1 h2=>?_⟩;rw[List.getElem?_set] at h1 h2;split at h1
 ·rw[if_pos (by assumption)] at h2;split at h1
  ·rw[if_pos (by rw[<- r.1];assumption)] at h2;cases h1;cases h2;exact h
  ·cases h1
 ·rw[if_neg (by assumption)] at h2;exact r.2 i x d h1 h2
theorem RDL.reverse{xs:List V}{ds:List D}(r:RDL K C H xs ds):RDL K C H xs.reverse ds.reverse:=by
 refine⟨by simp[r.1],fun i x d h1 h2=>?_⟩;have hi:i<xs.length:=by have:=(List.getElem?_eq_some_iff.mp h1).1;simpa using this
 rw[List.getElem?_reverse hi] at h1;rw[List.getElem?_reverse (by rw[<- r.1];exact hi)] at h2;rw[<- r.1] at h2;exact r.2 _ x d h1 h2
theorem RDL.ints:∀{xs:List V} {ns:List Int},RDL K C H xs (ns.map D.int)->xs=ns.map V.int
 | [],[],_=>rfl
 | [],_::_,r=>by have:=r.1;simp at this
 | _::_,[],r=>by have:=r.1;simp at this
 | x::xs,n::ns,r=>by have h:=r.head;cases h;rw[RDL.ints r.tail];rfl
theorem RDL.ofInts:∀(ns:List Int),RDL K C H (ns.map V.int) (ns.map D.int)
 | []=>.nil
 | n::ns=>.cons (.int n) (RDL.ofInts ns)
theorem RDL.bls:∀{xs:List V} {ns:List Bool},RDL K C H xs (ns.map D.bl)->xs=ns.map V.bl
 | [],[],_=>rfl
 | [],_::_,r=>by have:=r.1;simp at this
 | _::_,[],r=>by have:=r.1;simp at this
 | x::xs,n::ns,r=>by have h:=r.head;cases h;rw[RDL.bls r.tail];rfl
theorem RDL.strs:∀{xs:List V} {ns:List Str},RDL K C H xs (ns.map D.str)->xs=ns.map V.str
 | [],[],_=>rfl
 | [],_::_,r=>by have:=r.1;simp at this
 | _::_,[],r=>by have:=r.1;simp at this
 | x::xs,n::ns,r=>by have h:=r.head;cases h;rw[RDL.strs r.tail];rfl
theorem RD.mkT{a:Addr}{xs:List V}{ds:List D}(h:SqT K H a xs)(r:RDL K C H xs ds):RD K C H (.ref a) (.tup ds):=.tup h r.1 r.2
theorem RD.mkL{a:Addr}{xs:List V}{ds:List D}(h:H a=some (.lst xs))(r:RDL K C H xs ds):RD K C H (.ref a) (.lst ds):=.lst h r.1 r.2
theorem RD.mkF{a:Addr}{xs:List V}{ds:List D}(h:SqL K H a xs)(r:RDL K C H xs ds):RD K C H (.ref a) (.fz ds):=.fz h r.1 r.2
theorem RD.tupI{v:V}{ds:List D}(r:RD K C H v (.tup ds)):∃a xs,v=.ref a/\SqT K H a xs/\RDL K C H xs ds:=by
 cases r with
 | tup h l q=>exact⟨_,_,rfl,h,l,q⟩
theorem RD.lstI{v:V}{ds:List D}(r:RD K C H v (.lst ds)):∃a xs,v=.ref a/\H a=some (.lst xs)/\RDL K C H xs ds:=by
 cases r with
 | lst h l q=>exact⟨_,_,rfl,h,l,q⟩
theorem RD.fzI{v:V}{ds:List D}(r:RD K C H v (.fz ds)):∃a xs,v=.ref a/\SqL K H a xs/\RDL K C H xs ds:=by
 cases r with
 | fz h l q=>exact⟨_,_,rfl,h,l,q⟩
theorem RD.mkD{a:Addr}{ks:List Int}{xs:List V}{ds:List D}(h:H a=some (dkO ks xs))(hk:ks.length=ds.length)(r:RDL K C H xs ds):RD K C H (.ref a) (.dct ks ds):=.dct h hk r.1 r.2
theorem RD.dctI{v:V}{ks:List Int}{ds:List D}(r:RD K C H v (.dct ks ds)):∃a xs,v=.ref a/\H a=some (dkO ks xs)/\ks.length=ds.length/\RDL K C H xs ds:=by
 cases r with
 | dct h hk l q=>exact⟨_,_,rfl,h,hk,l,q⟩
theorem RD.dfzI{v:V}{ks:List Int}{ds:List D}(r:RD K C H v (.dfz ks ds)):∃a xs o,v=.ref a/\H a=some (.frz o (dkO ks xs))/\ks.length=ds.length/\RDL K C H xs ds:=by
 cases r with
 | dfz h hk l q=>exact⟨_,_,_,rfl,h,hk,l,q⟩
theorem RD.intI{v:V}{i:Int}(r:RD K C H v (.int i)):v=.int i:=by cases r;rfl
theorem RD.strI{v:V}{i:Str}(r:RD K C H v (.str i)):v=.str i:=by cases r;rfl
theorem RD.blI{v:V}{i:Bool}(r:RD K C H v (.bl i)):v=.bl i:=by cases r;rfl
theorem RD.nonI{v:V}(r:RD K C H v .non):v=.non:=by cases r;rfl
end

mutual
noncomputable def D.py:D->PyData
 | .non=>.none
 | .bl b=>.bool b
 | .int i=>.int i
 | .str x=>.str x
 | .tup l=>.tuple (D.pyL l)
 | .lst l=>.list (D.pyL l)
 | .fz l=>.list (D.pyL l)
 | .row _=>.dict []
 | .dct _ _=>.dict []
 | .dfz _ _=>.dict []
 | .exc _=>.dict []
noncomputable def D.pyL:List D->List PyData
 | []=>[]
 | d::ds=>d.py::D.pyL ds
end
theorem Wq:∀ds:List D,D.pyL ds=ds.map D.py
 | []=>rfl
 | d::ds=>by rw[D.pyL,Wq ds];rfl
theorem Uk:∀{ds:List PyData},PyData.canLayAll0 ds=true->∀d∈ds,d.canLay0=true
 | [],_,d,hd=>nomatch hd
 | x::ds,h,d,hd=>by
  have h':(PyData.canLay0 x && PyData.canLayAll0 ds)=true:=h;rw[Bool.and_eq_true] at h';rcases List.mem_cons.mp hd with z|z
  ·rw[z];exact h'.1
  ·exact Uk h'.2 d z
theorem RD.rep{K:Frag}{C:Addr}{H:Hp}{v:V}{d:D}(r:RD K C H v d):d.py.canLay0=true->Rep K H v d.py:=by
 have all:∀{xs:List V} {ds:List D},xs.length=ds.length->(∀(i:Nat) (x:V) (d:D),xs[i]?=some x->ds[i]?=some d->d.py.canLay0=true->Rep K H x d.py)->PyData.canLayAll0 (D.pyL ds)=true->RepL K H xs (D.pyL ds):=by
  intro xs ds l ih hc;rw[Wq] at hc ⊢;refine⟨by simpa using l,fun i x d h1 h2=>?_⟩;rw[List.getElem?_map] at h2
  cases e:ds[i]? with
  | none=>rw[e] at h2;cases h2
  | some q=>rw[e] at h2;cases h2;exact ih i x q h1 e (Uk hc _ (List.mem_map.mpr ⟨q,List.mem_of_getElem? e,rfl⟩))
 induction r with
 | non=>intro _;exact .non
 | bl b=>intro _;exact .bl b
 | int i=>intro _;exact .int i
 | str x=>intro _;exact .str x
 | tup h l _ ih=>intro hc;exact .tupL h (all l ih hc)
 | lst h l _ ih=>intro hc;exact .lstL (.of h) (all l ih hc)
 | fz h l _ ih=>intro hc;exact .lstL h (all l ih hc)
 | row h1 h2 l _ ih=>intro hc;cases hc
 | dct h1 h2 l _ ih=>intro hc;cases hc
 | dfz h1 h2 l _ ih=>intro hc;cases hc
 | exc h1 h2=>intro hc;cases hc

inductive Sl where
 | no|sh (d:D)|bo (ds:List D)|own (ds:List D)|bd (ks:List Int) (ds:List D)|od (ks:List Int) (ds:List D)
noncomputable def JG:Sl->Bool
 | .own _=>true
 | .od _ _=>true
 | _=>false
noncomputable def Jb9:Sl->Bool
 | .bo _=>true
 | .bd _ _=>true
 | _=>false

section
variable(K:Frag)(C:Addr)
noncomputable def RR(Hs H0 H:Hp)(v:V):Sl->Prop
 | .no=>False
 | .sh d=>RD K C H0 v d
 | .bo ds=>∃l xs,v=.ref l/\H l=some (.lst xs)/\RDL K C H0 xs ds
 | .own ds=>∃l xs,v=.ref l/\H l=some (.lst xs)/\H0 l=none/\Hs l=none/\RDL K C H0 xs ds
 | .bd ks ds=>∃l xs,v=.ref l/\H l=some (dkO ks xs)/\ks.length=ds.length/\RDL K C H0 xs ds
 | .od ks ds=>∃l xs,v=.ref l/\H l=some (dkO ks xs)/\H0 l=none/\Hs l=none/\ks.length=ds.length/\RDL K C H0 xs ds
noncomputable def RSl(B H0 H:Hp)(v:V):Sl->Prop
 | .no=>True
 | .sh d=>RD K C H0 v d
 | .bo ds=>∃l xs,v=.ref l/\B l=some (.lst xs)/\RDL K C H0 xs ds
 | .own ds=>∃l xs,v=.ref l/\H l=some (.lst xs)/\H0 l=none/\B l=none/\RDL K C H0 xs ds
 | .bd ks ds=>∃l xs,v=.ref l/\B l=some (dkO ks xs)/\ks.length=ds.length/\RDL K C H0 xs ds
 | .od ks ds=>∃l xs,v=.ref l/\H l=some (dkO ks xs)/\H0 l=none/\B l=none/\ks.length=ds.length/\RDL K C H0 xs ds
structure EnvR (B H0 H:Hp) (σ:St) (E:List Sl):Prop where
 b:Same B H
 h:Same H0 H
 len:σ.length=E.length
 at':∀(i:Nat) (s:Sl),E[i]?=some s->s=.no\/∃v,σ[i]?=some (some v)/\RSl K C B H0 H v s
 sep:∀(i j:Nat) (s t:Sl) (v:V),i≠j->E[i]?=some s->E[j]?=some t->JG s=true->JG t=true->σ[i]?=some (some v)->σ[j]?≠some (some v)
end
noncomputable def isT:HO->Bool
 | .tup _=>true
 | .frz _ (.tup _)=>true
 | _=>false
structure Step (Hs H0 H H0' H':Hp):Prop where
 h:Same H H'
 z:Same H0 H0'
 n:∀a o,H0' a=some o->H0 a=some o\/Hs a=none\/isT o=true
 i:Same H0' H'
structure SStep (B H0 H0' H':Hp):Prop where
 b:Same B H'
 z:Same H0 H0'
 n:∀a o,H0' a=some o->H0 a=some o\/B a=none\/isT o=true
 i:Same H0' H'

section
variable{K:Frag}{C:Addr}{B Hs H0 H H0' H' H0'' H'':Hp}{σ:St}{E:List Sl}{v:V}{s:Sl}
theorem Step.refl(i:Same H0 H):Step Hs H0 H H0 H:=⟨Same.refl _,Same.refl _,fun _ _ e=>.inl e,i⟩
theorem Step.comp{Hs':Hp}(s1:Step Hs H0 H H0' H')(s2:Step Hs' H0' H' H0'' H'')(w:∀a,Hs' a=none->Hs a=none):Step Hs H0 H H0'' H'' :=
 ⟨s1.h.trans s2.h,s1.z.trans s2.z,fun a o e=>(s2.n a o e).elim (fun q=>s1.n a o q) fun q=>.inr (q.imp (w a) id),s2.i⟩
theorem Step.trans(s1:Step H H0 H H0' H')(s2:Step H' H0' H' H0'' H''):Step H H0 H H0'' H'':=s1.comp s2 fun _ q=>Same.free s1.h q
theorem Step.ss(b:Same B H)(s:Step H H0 H H0' H'):SStep B H0 H0' H':=⟨b.trans s.h,s.z,fun a o e=>(s.n a o e).imp id fun q=>q.imp (fun q=>Same.free b q) id,s.i⟩
theorem SStep.refl(b:Same B H)(i:Same H0 H):SStep B H0 H0 H:=⟨b,Same.refl _,fun _ _ e=>.inl e,i⟩
theorem SStep.trans(s1:SStep B H0 H0' H')(s2:SStep B H0' H0'' H''):SStep B H0 H0'' H'':=⟨s2.b,s1.z.trans s2.z,fun a o e=>(s2.n a o e).elim (fun q=>s1.n a o q) .inr,s2.i⟩
theorem RR.step(r:RR K C Hs H0 H v s)(st:Step H H0 H H0' H'):RR K C Hs H0' H' v s:=by
 cases s with
 | no=>exact r
 | sh d=>exact RD.mono st.z r
 | bo ds=>obtain⟨l,xs,e,h,q⟩:=r;exact⟨l,xs,e,st.h _ _ h,q.mono st.z⟩
 | bd ks ds=>obtain⟨l,xs,e,h,hk,q⟩:=r;exact⟨l,xs,e,st.h _ _ h,hk,q.mono st.z⟩
 | own ds =>
  obtain⟨l,xs,e,h,n,m,q⟩:=r;refine⟨l,xs,e,st.h _ _ h,?_,m,q.mono st.z⟩
  cases z:H0' l with
  | none=>rfl
  | some o =>
   rcases st.n l o z with y|y|y
   ·rw[n] at y;cases y
   ·rw[h] at y;cases y
   ·have:=st.i l o z;rw[st.h _ _ h] at this;cases this;cases y
 | od ks ds =>
  obtain⟨l,xs,e,h,n,m,hk,q⟩:=r;refine⟨l,xs,e,st.h _ _ h,?_,m,hk,q.mono st.z⟩
  cases z:H0' l with
  | none=>rfl
  | some o =>
   rcases st.n l o z with y|y|y
   ·rw[n] at y;cases y
   ·rw[h] at y;cases y
   ·have:=st.i l o z;rw[st.h _ _ h] at this;cases this;cases y
theorem RR.weak{Hs':Hp}(r:RR K C Hs' H0 H v s)(w:∀a,Hs' a=none->Hs a=none):RR K C Hs H0 H v s:=by
 cases s with
 | own ds=>obtain⟨l,xs,e,h,n,m,q⟩:=r;exact⟨l,xs,e,h,n,w _ m,q⟩
 | od ks ds=>obtain⟨l,xs,e,h,n,m,q⟩:=r;exact⟨l,xs,e,h,n,w _ m,q⟩
 | _=>exact r
theorem RSl.owned(r:RSl K C B H0 H v s)(o:JG s=true):∃l,v=.ref l/\H l≠none/\H0 l=none/\B l=none:=by
 cases s with
 | own ds=>obtain⟨l,xs,e,h,n,m,q⟩:=r;exact⟨l,e,(by rw[h];intro z;cases z),n,m⟩
 | od ks ds=>obtain⟨l,xs,e,h,n,m,q⟩:=r;exact⟨l,e,(by rw[h];intro z;cases z),n,m⟩
 | _=>cases o
theorem RR.owned(r:RR K C Hs H0 H v s)(o:JG s=true):∃l,v=.ref l/\H l≠none/\H0 l=none/\Hs l=none:=by
 cases s with
 | own ds=>obtain⟨l,xs,e,h,n,m,q⟩:=r;exact⟨l,e,(by rw[h];intro z;cases z),n,m⟩
 | od ks ds=>obtain⟨l,xs,e,h,n,m,q⟩:=r;exact⟨l,e,(by rw[h];intro z;cases z),n,m⟩
 | _=>cases o
theorem EnvR.step(I:EnvR K C B H0 H σ E)(st:Step H H0 H H0' H'):EnvR K C B H0' H' σ E:=by
 refine⟨I.b.trans st.h,st.i,I.len,fun i s e=>?_,I.sep⟩;rcases I.at' i s e with z|⟨v,h1,h2⟩
 ·exact .inl z
 ·refine .inr ⟨v,h1,?_⟩
  cases s with
  | no=>trivial
  | sh d=>exact RD.mono st.z h2
  | bo ds=>obtain⟨l,xs,e,h,q⟩:=h2;exact⟨l,xs,e,h,q.mono st.z⟩
  | own ds=>exact RR.step (Hs:=B) (s:=.own ds) h2 st
  | bd ks ds=>obtain⟨l,xs,e,h,hk,q⟩:=h2;exact⟨l,xs,e,h,hk,q.mono st.z⟩
  | od ks ds=>exact RR.step (Hs:=B) (s:=.od ks ds) h2 st
theorem EnvR.sub{E':List Sl}(I:EnvR K C B H0 H σ E)(hl:E'.length=E.length)(h:∀(i:Nat) (s:Sl),E'[i]?=some s->s=.no\/E[i]?=some s):EnvR K C B H0 H σ E':=by
 refine⟨I.b,I.h,I.len.trans hl.symm,fun i s e=>?_,fun i j s t v hij e1 e2 o1 o2=>?_⟩
 ·rcases h i s e with z|z
  ·exact .inl z
  ·exact I.at' i s z
 ·rcases h i _ e1 with z|z
  ·subst z;cases o1
  ·rcases h j _ e2 with y|y
   ·subst y;cases o2
   ·exact I.sep i j s t v hij z y o1 o2
theorem EnvR.put(I:EnvR K C B H0 H σ E){i:Nat}(hi:i<E.length){Hs:Hp}(hB:∀a,Hs a=none->B a=none)(hf:∀(j:Nat) (t:Sl) (l:Addr),E[j]?=some t->JG t=true->σ[j]?=some (some (.ref l))->Hs l≠none)(r:RR K C Hs H0 H v s)(hb:Jb9 s=false):EnvR K C B H0 H (σ.set i (some v)) (E.set i s):=by
 refine⟨I.b,I.h,by simp[I.len],fun j t e=>?_,fun j k s1 s2 u hjk e1 e2 o1 o2 e3 e4=>?_⟩
 ·rw[List.getElem?_set] at e
  by_cases hj:i=j
  ·subst hj;rw[if_pos rfl,if_pos hi] at e;cases e;refine .inr ⟨v,by rw[List.getElem?_set];simp[I.len,hi],?_⟩
   cases s with
   | no=>trivial
   | sh d=>exact r
   | bo ds=>cases hb
   | own ds=>obtain⟨l,xs,e,h,n,m,q⟩:=r;exact⟨l,xs,e,h,n,hB _ m,q⟩
   | bd ks ds=>cases hb
   | od ks ds=>obtain⟨l,xs,e,h,n,m,q⟩:=r;exact⟨l,xs,e,h,n,hB _ m,q⟩
  ·rw[if_neg hj] at e;rcases I.at' j t e with z|⟨u,h1,h2⟩
   ·exact .inl z
   ·exact .inr ⟨u,by rw[List.getElem?_set,if_neg hj];exact h1,h2⟩
 ·rw[List.getElem?_set] at e1 e2 e3 e4
  by_cases hj:i=j
  ·subst hj;rw[if_neg hjk] at e2 e4;rw[if_pos rfl,if_pos hi] at e1;rw[if_pos rfl,if_pos (by rw[I.len];exact hi)] at e3;cases e3;cases e1;obtain⟨l,e,_,_,m⟩:=r.owned o1;subst e;exact hf k _ l e2 o2 e4 m
  ·rw[if_neg hj] at e1 e3
   by_cases hk:i=k
   ·subst hk;rw[if_pos rfl,if_pos hi] at e2;rw[if_pos rfl,if_pos (by rw[I.len];exact hi)] at e4;cases e2;have e4':v=u:=Option.some.inj (Option.some.inj e4);subst e4';obtain⟨l,e,_,_,m⟩:=r.owned o2;subst e;exact hf j _ l e1 o1 e3 m
   ·rw[if_neg hk] at e2 e4;exact I.sep j k _ _ u hjk e1 e2 o1 o2 e3 e4
theorem EnvR.ownG(I:EnvR K C B H0 H σ E){j:Nat}{t:Sl}{l:Addr}(e1:E[j]?=some t)(ho:JG t=true)(e2:σ[j]?=some (some (.ref l))):H l≠none/\H0 l=none/\B l=none:=by
 rcases I.at' j _ e1 with z|⟨v,h1,h2⟩
 ·subst z;cases ho
 ·rw[e2] at h1;cases h1;obtain⟨l',e,h⟩:=h2.owned ho;cases e;exact h
theorem EnvR.put'{H1 H01:Hp}(I:EnvR K C B H0 H σ E)(st:Step H H0 H H01 H1){i:Nat}(hi:i<E.length)(r:RR K C H H01 H1 v s)(hb:Jb9 s=false):EnvR K C B H01 H1 (σ.set i (some v)) (E.set i s) :=
 (I.step st).put hi (fun a q=>Same.free I.b q) (fun j t l e1 o1 e2=>(I.ownG e1 o1 e2).1) r hb
noncomputable def Zp:Option HO->Option HO
 | some o=>if isT o=true then some o else none
 | none=>none
noncomputable def YI(Hs H0 H:Hp):Hp:=fun a=>match H0 a with
 | some o=>some o
 | none=>match Hs a with
  | none=>H a
  | some _=>Zp (H a)
theorem Uj{o:Option HO}{u:HO}(e:Zp o=some u):o=some u/\isT u=true:=by
 cases o with
 | none=>cases e
 | some w =>
  unfold Zp at e;dsimp only at e;split at e
  ·cases e;exact⟨rfl,by assumption⟩
  ·cases e
theorem J8(i:Same H0 H):Step Hs H0 H (YI Hs H0 H) H:=by
 refine⟨Same.refl _,fun a o e=>by unfold YI;rw[e],fun a o e=>?_,fun a o e=>?_⟩
 ·unfold YI at e
  cases h:H0 a with
  | some u=>rw[h] at e;exact .inl e
  | none =>
   rw[h] at e
   cases h2:Hs a with
   | none=>exact .inr (.inl rfl)
   | some u=>rw[h2] at e;exact .inr (.inr (Uj e).2)
 ·unfold YI at e
  cases h:H0 a with
  | some u=>rw[h] at e;cases e;exact i a _ h
  | none =>
   rw[h] at e
   cases h2:Hs a with
   | none=>rw[h2] at e;exact e
   | some u=>rw[h2] at e;exact(Uj e).1
theorem Wk{a:Addr}{o:HO}(i:Same H0 H)(n:Hs a=none)(h:H a=some o):YI Hs H0 H a=some o:=by
 unfold YI
 cases z:H0 a with
 | some u=>rw[i a u z] at h;exact h
 | none=>dsimp only;rw[n];exact h
noncomputable def Sl.frz:Sl->Option D
 | .sh d=>some d
 | .own ds=>some (.lst ds)
 | .od ks ds=>some (.dct ks ds)
 | _=>none
theorem RR.frz{d:D}(i:Same H0 H)(r:RR K C Hs H0 H v s)(e:s.frz=some d):RD K C (YI Hs H0 H) v d:=by
 have st:Step Hs H0 H (YI Hs H0 H) H:=J8 i
 cases s with
 | no=>cases e
 | sh d'=>cases e;exact RD.mono st.z r
 | bo ds=>cases e
 | own ds=>cases e;obtain⟨l,xs,e,h,n,m,q⟩:=r;subst e;exact .mkL (Wk i m h) (q.mono st.z)
 | bd ks ds=>cases e
 | od ks ds=>cases e;obtain⟨l,xs,e,h,n,m,hk,q⟩:=r;subst e;exact .mkD (Wk i m h) hk (q.mono st.z)
end
end LE

namespace LE
open PySem L2 LR

noncomputable abbrev En:=List Sl
noncomputable abbrev Ev:=En->Option Sl
section
variable(K:Frag)(C:Addr)
noncomputable def SE(te:TE)(ev:Ev):Prop:=∀(B H0 H:Hp) (σ:St) (E:En) (r:Sl) (Q:VK),EnvR K C B H0 H σ E->ev E=some r ->
 (∀v H0' H',Step H H0 H H0' H'->RR K C H H0' H' v r->Q v H')->te σ H Q
noncomputable def ST(t:TT)(ev:En->Option Bool):Prop:=∀(B H0 H:Hp) (σ:St) (E:En) (r:Bool) (Q:Bool->Hp->Prop),EnvR K C B H0 H σ E->ev E=some r ->
 (∀H0' H',Step H H0 H H0' H'->Q r H')->t σ H Q
inductive RRL (Hs H0 H:Hp):List V->List Sl->Prop
 | nil:RRL Hs H0 H [] []
 | cons {v:V} {s:Sl} {vs:List V} {ss:List Sl}:RR K C Hs H0 H v s->RRL Hs H0 H vs ss->RRL Hs H0 H (v::vs) (s::ss)
noncomputable def SA(t:TA)(ev:En->Option (List Sl)):Prop:=∀(B H0 H:Hp) (σ:St) (E:En) (r:List Sl) (Q:List V->Hp->Prop),EnvR K C B H0 H σ E->ev E=some r ->
 (∀vs H0' H',Step H H0 H H0' H'->RRL K C H H0' H' vs r->Q vs H')->t σ H Q
noncomputable def OpS(r:R2)(f:Sl->Sl->Option Sl):Prop:=∀(Hs H0 H:Hp) (x y:V) (a b c:Sl) (Q:VK),Same H0 H->Same Hs H->RR K C Hs H0 H x a->RR K C Hs H0 H y b->f a b=some c ->
 (∀v H0' H',Step Hs H0 H H0' H'->RR K C Hs H0' H' v c->Q v H')->r x y H Q
noncomputable def UnS(r:V->Hp->VK->Prop)(f:Sl->Option Sl):Prop:=∀(Hs H0 H:Hp) (x:V) (a c:Sl) (Q:VK),Same H0 H->Same Hs H->RR K C Hs H0 H x a->f a=some c ->
 (∀v H0' H',Step Hs H0 H H0' H'->RR K C Hs H0' H' v c->Q v H')->r x H Q
noncomputable def Vf(r:List V->Hp->VK->Prop)(f:List Sl->Option Sl):Prop:=∀(Hs H0 H:Hp) (xs:List V) (as:List Sl) (c:Sl) (Q:VK),Same H0 H->Same Hs H->RRL K C Hs H0 H xs as->f as=some c ->
 (∀v H0' H',Step Hs H0 H H0' H'->RR K C Hs H0' H' v c->Q v H')->r xs H Q
end

noncomputable def Ja(i:Nat):Ev:=fun E=>match E[i]? with
 | some (.sh d)=>some (.sh d)
 | some (.bo ds)=>some (.bo ds)
 | some (.own ds)=>some (.bo ds)
 | some (.bd ks ds)=>some (.bd ks ds)
 | some (.od ks ds)=>some (.bd ks ds)
 | _=>none
noncomputable def eC(d:D):Ev:=fun _=>some (.sh d)
noncomputable def e2(f:Sl->Sl->Option Sl)(a b:Ev):Ev:=fun E=>(a E).bind fun x=>(b E).bind fun y=>f x y
noncomputable def e1(f:Sl->Option Sl)(a:Ev):Ev:=fun E=>(a E).bind f
noncomputable def a0:En->Option (List Sl):=fun _=>some []
noncomputable def aC(a:Ev)(as:En->Option (List Sl)):En->Option (List Sl):=fun E=>(a E).bind fun x=>(as E).bind fun xs=>some (x::xs)
noncomputable def eF(f:List Sl->Option Sl)(as:En->Option (List Sl)):Ev:=fun E=>(as E).bind f
noncomputable def bool?:Sl->Option Bool
 | .sh (.bl b)=>some b
 | _=>none
noncomputable def Jag(a b:Ev):Ev:=fun E=>((a E).bind bool?).bind fun k=>if k=true then b E else some (.sh (.bl false))
noncomputable def JbO(a:Ev):Ev:=fun E=>((a E).bind bool?).bind fun k=>some (.sh (.bl (!k)))
noncomputable def eIf(c:En->Option Bool)(a b:Ev):Ev:=fun E=>(c E).bind fun k=>if k=true then a E else b E
noncomputable def sh?:Sl->Option D
 | .sh d=>some d
 | _=>none
noncomputable def tB?(a:Ev):En->Option Bool:=fun E=>(a E).bind bool?
noncomputable def tAnd?(a b:En->Option Bool):En->Option Bool:=fun E=>(a E).bind fun k=>if k=true then b E else some false
noncomputable def tOr?(a b:En->Option Bool):En->Option Bool:=fun E=>(a E).bind fun k=>if k=true then some true else b E
noncomputable def tNot?(a:En->Option Bool):En->Option Bool:=fun E=>(a E).bind fun k=>some (!k)

section
variable{K:Frag}{C:Addr}
theorem bind_some{α β:Type}{x:Option α}{f:α->Option β}{b:β}(e:x.bind f=some b):∃a,x=some a/\f a=some b:=by
 cases x with
 | none=>cases e
 | some a=>exact⟨a,rfl,e⟩
theorem YT{s:Sl}{b:Bool}(e:bool? s=some b):s=.sh (.bl b):=by
 cases s with
 | sh d=>cases d with
  | bl x=>cases e;rfl
  | _=>cases e
 | _=>cases e
variable{ta tb tc te:TE}{ea eb ec:Ev}
theorem Jd(i:Nat):SE K C (Jbm i) (Ja i):=by
 intro B H0 H σ E r Q I e q;unfold Ja at e
 cases h:E[i]? with
 | none=>rw[h] at e;cases e
 | some s =>
  rw[h] at e;rcases I.at' i s h with z|⟨v,h1,h2⟩
  ·subst z;cases e
  ·refine⟨v,h1,q v H0 H (.refl I.h) ?_⟩
   cases s with
   | no=>cases e
   | sh d=>cases e;exact h2
   | bo ds=>cases e;obtain⟨l,xs,e,hl,r⟩:=h2;exact⟨l,xs,e,I.b _ _ hl,r⟩
   | own ds=>cases e;obtain⟨l,xs,e,hl,_,_,r⟩:=h2;exact⟨l,xs,e,hl,r⟩
   | bd ks ds=>cases e;obtain⟨l,xs,e,hl,r⟩:=h2;exact⟨l,xs,e,I.b _ _ hl,r⟩
   | od ks ds=>cases e;obtain⟨l,xs,e,hl,_,_,r⟩:=h2;exact⟨l,xs,e,hl,r⟩
theorem Y3:SE K C (tC .non) (eC .non):=fun _ _ _ _ _ _ _ I e q=>by cases e;exact q _ _ _ (.refl I.h) .non
theorem Jdf{b:Bool}:SE K C (tC (.bl b)) (eC (.bl b)):=fun _ _ _ _ _ _ _ I e q=>by cases e;exact q _ _ _ (.refl I.h) (.bl b)
theorem Jv{i:Int}:SE K C (tC (.int i)) (eC (.int i)):=fun _ _ _ _ _ _ _ I e q=>by cases e;exact q _ _ _ (.refl I.h) (.int i)
theorem JK{x:Str}:SE K C (tC (.str x)) (eC (.str x)):=fun _ _ _ _ _ _ _ I e q=>by cases e;exact q _ _ _ (.refl I.h) (.str x)
theorem Jr{r:R2}{f:Sl->Sl->Option Sl}(ho:OpS K C r f)(ha:SE K C ta ea)(hb:SE K C tb eb):SE K C (tOp r ta tb) (e2 f ea eb):=by
 intro B H0 H σ E c Q I e q;obtain⟨a,e1,e⟩:=bind_some e;obtain⟨b,e2,e⟩:=bind_some e;exact ha B H0 H σ E a _ I e1 fun x H1 H1' s1 r1=>hb B H1 H1' σ E b _ (I.step s1) e2 fun y H2 H2' s2 r2=>ho H H2 H2' x y a b c Q s2.i (s1.h.trans s2.h) (r1.step s2) (r2.weak fun a q=>Same.free s1.h q) e fun v H3 H3' s3 r3=>q v H3 H3' ((s1.trans s2).comp s3 fun _ z=>z) r3
theorem JeP{r:V->Hp->VK->Prop}{f:Sl->Option Sl}(ho:UnS K C r f)(ha:SE K C ta ea):SE K C (tUn r ta) (e1 f ea):=by intro B H0 H σ E c Q I e q;obtain⟨a,e1,e⟩:=bind_some e;exact ha B H0 H σ E a _ I e1 fun x H1 H1' s1 r1=>ho H H1 H1' x a c Q s1.i s1.h r1 e fun v H3 H3' s3 r3=>q v H3 H3' (s1.comp s3 fun _ z=>z) r3
theorem JA:SA K C Jbj a0:=fun _ _ _ _ _ _ _ I e q=>by cases e;exact q _ _ _ (.refl I.h) .nil
theorem RRL.step{Hs H0 H H0' H':Hp}{vs:List V}{ss:List Sl}(r:RRL K C Hs H0 H vs ss)(st:Step H H0 H H0' H'):RRL K C Hs H0' H' vs ss:=by
 induction r with
 | nil=>exact .nil
 | cons h _ ih=>exact .cons (h.step st) ih
theorem RRL.weak{Hs Hs' H0 H:Hp}{vs:List V}{ss:List Sl}(r:RRL K C Hs' H0 H vs ss)(w:∀a,Hs' a=none->Hs a=none):RRL K C Hs H0 H vs ss:=by
 induction r with
 | nil=>exact .nil
 | cons h _ ih=>exact .cons (h.weak w) ih
theorem Ji{tr:TA}{er:En->Option (List Sl)}(ha:SE K C ta ea)(hr:SA K C tr er):SA K C (UP ta tr) (aC ea er):=by
 intro B H0 H σ E c Q I e q;obtain⟨a,e1,e⟩:=bind_some e;obtain⟨b,e2,e⟩:=bind_some e;cases e;exact ha B H0 H σ E a _ I e1 fun x H1 H1' s1 r1=>hr B H1 H1' σ E b _ (I.step s1) e2 fun y H2 H2' s2 r2=>q _ H2 H2' (s1.trans s2) (.cons (r1.step s2) (r2.weak fun a q=>Same.free s1.h q))
theorem UD{r:List V->Hp->VK->Prop}{t:TA}{ev:En->Option (List Sl)}{f:List Sl->Option Sl}(hc:Vf K C r f)(ha:SA K C t ev):SE K C (tCB r t) (eF f ev):=by intro B H0 H σ E c Q I e q;obtain⟨a,e1,e⟩:=bind_some e;exact ha B H0 H σ E a _ I e1 fun x H1 H1' s1 r1=>hc H H1 H1' x a c Q s1.i s1.h r1 e fun v H3 H3' s3 r3=>q v H3 H3' (s1.comp s3 fun _ z=>z) r3
theorem JbB(ha:SE K C ta ea)(hb:SE K C tb eb):SE K C (Z2 ta tb) (Jag ea eb):=by
 intro B H0 H σ E c Q I e q;obtain⟨k,e1,e⟩:=bind_some e;obtain⟨a,e0,e1⟩:=bind_some e1;refine ha B H0 H σ E a _ I e0 fun x H1 H1' s1 r1=>?_
 rw[YT e1] at r1;refine⟨k,RD.blI r1,?_⟩
 cases k with
 | true=>exact hb B H1 H1' σ E c Q (I.step s1) e fun y H2 H2' s2 r2=>q y H2 H2' (s1.trans s2) (r2.weak fun a q=>Same.free s1.h q)
 | false=>cases e;exact q _ _ _ s1 (RD.bl false)
theorem Jem(ha:SE K C ta ea):SE K C (Z4 ta) (JbO ea):=by
 intro B H0 H σ E c Q I e q;obtain⟨k,e1,e⟩:=bind_some e;obtain⟨a,e0,e1⟩:=bind_some e1;refine ha B H0 H σ E a _ I e0 fun x H1 H1' s1 r1=>?_
 rw[YT e1] at r1;cases e;exact⟨k,RD.blI r1,q _ _ _ s1 (RD.bl _)⟩
theorem Jel{c:TT}{cv:En->Option Bool}(hc:ST K C c cv)(ha:SE K C ta ea)(hb:SE K C tb eb):SE K C (tIf c ta tb) (eIf cv ea eb):=by
 intro B H0 H σ E r Q I e q;obtain⟨k,e1,e⟩:=bind_some e;refine hc B H0 H σ E k _ I e1 fun H1 H1' s1=>?_
 cases k with
 | true=>exact ha B H1 H1' σ E r Q (I.step s1) e fun y H2 H2' s2 r2=>q y H2 H2' (s1.trans s2) (r2.weak fun a q=>Same.free s1.h q)
 | false=>exact hb B H1 H1' σ E r Q (I.step s1) e fun y H2 H2' s2 r2=>q y H2 H2' (s1.trans s2) (r2.weak fun a q=>Same.free s1.h q)
theorem JX(ha:SE K C te ea):ST K C (Z5 te) (tB? ea):=by
 intro B H0 H σ E k Q I e q;obtain⟨a,e1,e⟩:=bind_some e;refine ha B H0 H σ E a _ I e1 fun x H1 H1' s1 r1=>?_
 rw[YT e] at r1;exact⟨k,RD.blI r1,q _ _ s1⟩
theorem ZU{c d:TT}{ev ew:En->Option Bool}(hc:ST K C c ev)(hd:ST K C d ew):ST K C (Jdm c d) (tAnd? ev ew):=by
 intro B H0 H σ E k Q I e q;obtain⟨a,e1,e⟩:=bind_some e;refine hc B H0 H σ E a _ I e1 fun H1 H1' s1=>?_
 cases a with
 | true=>exact hd B H1 H1' σ E k Q (I.step s1) e fun H2 H2' s2=>q H2 H2' (s1.trans s2)
 | false=>cases e;exact q _ _ s1
theorem VG{c d:TT}{ev ew:En->Option Bool}(hc:ST K C c ev)(hd:ST K C d ew):ST K C (tOr c d) (tOr? ev ew):=by
 intro B H0 H σ E k Q I e q;obtain⟨a,e1,e⟩:=bind_some e;refine hc B H0 H σ E a _ I e1 fun H1 H1' s1=>?_
 cases a with
 | false=>exact hd B H1 H1' σ E k Q (I.step s1) e fun H2 H2' s2=>q H2 H2' (s1.trans s2)
 | true=>cases e;exact q _ _ s1
theorem U8{c:TT}{ev:En->Option Bool}(hc:ST K C c ev):ST K C (Jdp c) (tNot? ev):=by intro B H0 H σ E k Q I e q;obtain⟨a,e1,e⟩:=bind_some e;cases e;exact hc B H0 H σ E a _ I e1 fun H1 H1' s1=>q _ _ s1
end

noncomputable def Sl.m:Sl->Option (List D)
 | .sh (.lst ds)=>some ds
 | .bo ds=>some ds
 | .own ds=>some ds
 | _=>none
noncomputable def Sl.r:Sl->Option (List D)
 | .sh (.lst ds)=>some ds
 | .sh (.fz ds)=>some ds
 | .bo ds=>some ds
 | .own ds=>some ds
 | _=>none
noncomputable def Sl.q:Sl->Option (List D)
 | .sh (.lst ds)=>some ds
 | .sh (.fz ds)=>some ds
 | .sh (.tup ds)=>some ds
 | .bo ds=>some ds
 | .own ds=>some ds
 | _=>none
noncomputable def Sl.d:Sl->Option D
 | .sh d=>some d
 | .bo ds=>some (.lst ds)
 | .own ds=>some (.lst ds)
 | .bd ks ds=>some (.dct ks ds)
 | .od ks ds=>some (.dct ks ds)
 | .no=>none
section
variable{K:Frag}{C:Addr}{Hs H0 H:Hp}{v:V}{s:Sl}{ds:List D}{d:D}
theorem RR.m(r:RR K C Hs H0 H v s)(i:Same H0 H)(e:s.m=some ds):∃l xs,v=.ref l/\H l=some (.lst xs)/\RDL K C H0 xs ds:=by
 cases s with
 | no=>cases e
 | bo es=>cases e;exact r
 | own es=>cases e;obtain⟨l,xs,h1,h2,_,_,h3⟩:=r;exact⟨l,xs,h1,h2,h3⟩
 | bd _ _=>cases e
 | od _ _=>cases e
 | sh d=>cases d with
  | lst es=>cases e;obtain⟨l,xs,h1,h2,h3⟩:=RD.lstI r;exact⟨l,xs,h1,i _ _ h2,h3⟩
  | _=>cases e
theorem RR.r(r:RR K C Hs H0 H v s)(i:Same H0 H)(e:s.r=some ds):∃l xs,v=.ref l/\SqL K H l xs/\RDL K C H0 xs ds:=by
 cases s with
 | no=>cases e
 | bo es=>cases e;obtain⟨l,xs,h1,h2,h3⟩:=r;exact⟨l,xs,h1,.of h2,h3⟩
 | own es=>cases e;obtain⟨l,xs,h1,h2,_,_,h3⟩:=r;exact⟨l,xs,h1,.of h2,h3⟩
 | bd _ _=>cases e
 | od _ _=>cases e
 | sh d=>cases d with
  | lst es=>cases e;obtain⟨l,xs,h1,h2,h3⟩:=RD.lstI r;exact⟨l,xs,h1,.of (i _ _ h2),h3⟩
  | fz es=>cases e;obtain⟨l,xs,h1,h2,h3⟩:=RD.fzI r;exact⟨l,xs,h1,i.seq h2,h3⟩
  | _=>cases e
theorem RR.q(r:RR K C Hs H0 H v s)(i:Same H0 H)(e:s.q=some ds):∃l xs,v=.ref l/\(SqL K H l xs\/SqT K H l xs)/\RDL K C H0 xs ds:=by
 cases s with
 | no=>cases e
 | bo es=>cases e;obtain⟨l,xs,h1,h2,h3⟩:=r;exact⟨l,xs,h1,.inl (.of h2),h3⟩
 | own es=>cases e;obtain⟨l,xs,h1,h2,_,_,h3⟩:=r;exact⟨l,xs,h1,.inl (.of h2),h3⟩
 | bd _ _=>cases e
 | od _ _=>cases e
 | sh d=>cases d with
  | lst es=>cases e;obtain⟨l,xs,h1,h2,h3⟩:=RD.lstI r;exact⟨l,xs,h1,.inl (.of (i _ _ h2)),h3⟩
  | fz es=>cases e;obtain⟨l,xs,h1,h2,h3⟩:=RD.fzI r;exact⟨l,xs,h1,.inl (i.seq h2),h3⟩
  | tup es=>cases e;obtain⟨l,xs,h1,h2,h3⟩:=RD.tupI r;exact⟨l,xs,h1,.inr (i.seqT h2),h3⟩
  | _=>cases e
theorem RR.dat(r:RR K C Hs H0 H v s)(i:Same H0 H)(e:s.d=some d):RD K C H v d:=by
 cases s with
 | no=>cases e
 | bo es=>cases e;obtain⟨l,xs,h1,h2,h3⟩:=r;subst h1;exact .mkL h2 (h3.mono i)
 | own es=>cases e;obtain⟨l,xs,h1,h2,_,_,h3⟩:=r;subst h1;exact .mkL h2 (h3.mono i)
 | bd _ _=>cases e;obtain⟨l,xs,h1,h2,hk,h3⟩:=r;subst h1;exact .mkD h2 hk (h3.mono i)
 | od _ _=>cases e;obtain⟨l,xs,h1,h2,_,_,hk,h3⟩:=r;subst h1;exact .mkD h2 hk (h3.mono i)
 | sh d'=>cases e;exact RD.mono i r
theorem Ua{p:Addr}{xs:List V}{Q:VK}(i:Same H0 H)(hs:Same Hs H)(hp:H p=none)(r:RDL K C H0 xs ds)(q:∀v H0' H',Step Hs H0 H H0' H'->RR K C Hs H0' H' v (.own ds)->Q v H'):Q (.ref p) (upd H p (.lst xs)) :=
 q _ H0 _ ⟨.new hp,Same.refl _,fun _ _ e=>.inl e,i.trans (.new hp)⟩ ⟨p,xs,rfl,J3,Same.free i hp,Same.free hs hp,r⟩
theorem WA{p:Addr}{xs:List V}{Q:VK}(i:Same H0 H)(hs:Same Hs H)(hp:H p=none)(r:RDL K C H0 xs ds)(q:∀v H0' H',Step Hs H0 H H0' H'->RR K C Hs H0' H' v (.sh (.tup ds))->Q v H'):Q (.ref p) (upd H p (.tup xs)):=by
 have h0:H0 p=none:=Same.free i hp;refine q _ (upd H0 p (.tup xs)) _ ⟨.new hp,.new h0,fun a o e=>?_,fun a o e=>?_⟩ ?_
 ·by_cases h:a=p
  ·subst h;exact .inr (.inl (Same.free hs hp))
  ·rw[Jg h] at e;exact .inl e
 ·by_cases h:a=p
  ·subst h;rw[J3] at e ⊢;exact e
  ·rw[Jg h] at e ⊢;exact i a o e
 ·exact RD.mkT (.of J3) (r.mono (.new h0))
end

noncomputable def fI(g:Int->Int->D):Sl->Sl->Option Sl
 | .sh (.int a),.sh (.int b)=>some (.sh (g a b))
 | _,_=>none
noncomputable def fIc(c:Int->Int->Bool)(g:Int->Int->D):Sl->Sl->Option Sl
 | .sh (.int a),.sh (.int b)=>if c a b=true then some (.sh (g a b)) else none
 | _,_=>none
noncomputable def WI(x y:Sl):Option Sl:=x.m.bind fun a=>y.m.bind fun b=>if a.length+b.length<=sizeLine then some (.own (a++b)) else none
noncomputable def JS:Sl->Sl->Option Sl
 | .sh (.int a),.sh (.int b)=>some (.sh (.int (a+b)))
 | .sh (.str a),.sh (.str b)=>if a.length+b.length<=sizeLine then some (.sh (.str (a++b))) else none
 | .sh (.tup a),.sh (.tup b)=>if a.isEmpty=false/\b.isEmpty=false/\a.length+b.length<=sizeLine then some (.sh (.tup (a++b))) else none
 | .sh (.lst a),y=>WI (.sh (.lst a)) y
 | .bo a,y=>WI (.bo a) y
 | .own a,y=>WI (.own a) y
 | _,_=>none
noncomputable abbrev fGt:=fI fun a b=>.bl (decide (b<a))
noncomputable def Vb(a:Int):Bool:=Nat.ble a.natAbs 18446744073709551615
theorem Uv{a:Int}:Vb a=true↔-18446744073709551616<a/\a<18446744073709551616:=by unfold Vb;rw[Nat.ble_eq];omega
noncomputable def Vc(a:Int):Bool:=Nat.ble a.natAbs 1073741823 && decide (0<a)
theorem smallP_ok{a:Int}:Vc a=true↔0<a/\a<1073741824:=by unfold Vc;rw[Bool.and_eq_true,Nat.ble_eq,decide_eq_true_eq];omega
noncomputable abbrev J1:=fIc (fun _ b=>decide (0<b)) fun a b=>.int (a % b)
noncomputable abbrev Yo:=fIc (fun _ b=>Vc b) fun a b=>.int (a / b)
noncomputable abbrev YB:=fIc (fun a b=>decide (0<=b) && Nat.ble b.natAbs 1000000 && Vb a) fun a b=>.int (a ^ b.toNat)
noncomputable def VW:Sl->Option Sl
 | .sh (.int a)=>some (.sh (.int (-a)))
 | _=>none
noncomputable def eqD(d e:D):Option Bool:=if (d.py.canLay0 && e.py.canLay0 && decide (min d.py.depth e.py.depth<=60))=true then some (PyData.eqv d.py e.py) else none
noncomputable def eqA:D->D->Option Bool
 | .int a,.int b=>some (decide (a=b))
 | .str a,.str b=>some (decide (a=b))
 | .bl a,.bl b=>some (decide (a=b))
 | .non,.non=>some true
 | .non,.int _=>some false
 | .int _,.non=>some false
 | .non,.str _=>some false
 | .str _,.non=>some false
 | .non,.bl _=>some false
 | .bl _,.non=>some false
 | .int _,.str _=>some false
 | .str _,.int _=>some false
 | d,e=>eqD d e
noncomputable def fEq(x y:Sl):Option Sl:=x.d.bind fun d=>y.d.bind fun e=>(eqA d e).map fun k=>.sh (.bl k)
noncomputable def fNe(x y:Sl):Option Sl:=x.d.bind fun d=>y.d.bind fun e=>(eqA d e).map fun k=>.sh (.bl (!k))
noncomputable def D.isNon:D->Bool
 | .non=>true
 | _=>false
noncomputable def fIs:Sl->Sl->Option Sl
 | x,.sh .non=>x.d.map fun d=>.sh (.bl d.isNon)
 | _,_=>none
noncomputable def fIx:Sl->Sl->Option Sl
 | .sh (.str z),.sh (.int i)=>if z.length<=sizeLine then(atI z.cps.toList i).map fun c=>.sh (.str ⟨#[c]⟩) else none
 | x,.sh (.int i)=>x.q.bind fun ds=>(atI ds i).map .sh
 | _,_=>none
section
variable{K:Frag}{C:Addr}
theorem o_I{g:Int->Int->V}{g':Int->Int->D}(h:∀i j H,RD K C H (g i j) (g' i j)):OpS K C (rI0 g) (fI g'):=by
 intro Hs H0 H x y a b c Q i hs ra rb e q;unfold fI at e;split at e
 ·cases e;exact⟨_,_,RD.intI ra,RD.intI rb,q _ _ _ (.refl i) (h _ _ _)⟩
 ·cases e
theorem Jcq{P:Int->Int->Prop}{c':Int->Int->Bool}{g:Int->Int->V}{g':Int->Int->D}(hp:∀i j,c' i j=true->P i j)(h:∀i j H,RD K C H (g i j) (g' i j)):OpS K C (rI P g) (fIc c' g'):=by
 intro Hs H0 H x y a b c Q i hs ra rb e q;unfold fIc at e;split at e
 ·split at e
  ·cases e;exact⟨_,_,RD.intI ra,RD.intI rb,hp _ _ (by assumption),q _ _ _ (.refl i) (h _ _ _)⟩
  ·cases e
 ·cases e
theorem JdU:OpS K C (rI0 fun i j=>.bl (decide (j<i))) fGt:=o_I fun _ _ _=>.bl _
theorem Y2:OpS K C (rI (fun _ j=>0<j) fun i j=>.int (i % j)) J1:=Jcq (fun i j h=>by simpa using h) fun _ _ _=>.int _
theorem Vw:OpS K C (rI Jdz fun i j=>.int (i / j)) Yo:=Jcq (fun i j h=>smallP_ok.mp h) fun _ _ _=>.int _
theorem Zv:OpS K C (rI JdA fun i j=>.int (i ^ j.toNat)) YB:=Jcq (fun i j h=>by simp only[Bool.and_eq_true,decide_eq_true_eq,Nat.ble_eq,Uv] at h;refine⟨h.1.1,by omega,?_⟩;show i.natAbs<18446744073709551616;omega) fun _ _ _=>.int _
theorem Jer:UnS K C (rU fun i=>.int (-i)) VW:=by
 intro Hs H0 H x a c Q i hs ra e q;unfold VW at e;split at e
 ·cases e;exact⟨_,RD.intI ra,q _ _ _ (.refl i) (RD.int _)⟩
 ·cases e
noncomputable def ZL(K:Frag):R2:=fun x y H Q=>Wr K x y H Q\/Jbx K x y H Q
theorem JP{X:Cx}(hK:X.K=K):OpR X (binaryOp .Add) (ZL K):=(JaL hK).or (hK▸JaM)
theorem Yl:OpS K C (ZL K) JS:=by
 intro Hs H0 H x y a b c Q i hs ra rb e q
 have cat:∀{a b:Sl},RR K C Hs H0 H x a->RR K C Hs H0 H y b->WI a b=some c->ZL K x y H Q:=by
  intro a b ra rb e;obtain⟨xs,e1,e⟩:=bind_some e;obtain⟨ys,e2,e⟩:=bind_some e;split at e
  ·next hz=>cases e;obtain⟨l,us,rfl,h1,r1⟩:=ra.m i e1;obtain⟨l',ws,rfl,h2,r2⟩:=rb.m i e2;exact .inl (.inr (.inr ⟨l,l',us,ws,rfl,rfl,h1,h2,by rw[r1.1,r2.1];exact hz,fun p hp=>Ua i hs hp (r1.append r2) q⟩))
  ·cases e
 unfold JS at e;split at e
 ·cases e;exact .inl (.inl ⟨_,_,RD.intI ra,RD.intI rb,q _ _ _ (.refl i) (RD.int _)⟩)
 ·split at e
  ·cases e;exact .inl (.inr (.inl ⟨_,_,RD.strI ra,RD.strI rb,by assumption,q _ _ _ (.refl i) (RD.str _)⟩))
  ·cases e
 ·split at e
  ·next hz =>
   cases e;obtain⟨l,us,rfl,h1,r1⟩:=RD.tupI ra;obtain⟨l',ws,rfl,h2,r2⟩:=RD.tupI rb;have n1:us≠[]:=by rintro rfl;have:=r1.1;have z:=hz.1;simp at this;rw[List.eq_nil_of_length_eq_zero this.symm] at z;cases z
   have n2:ws≠[]:=by rintro rfl;have:=r2.1;have z:=hz.2.1;simp at this;rw[List.eq_nil_of_length_eq_zero this.symm] at z;cases z
   exact .inr ⟨l,l',us,ws,rfl,rfl,i.seqT h1,i.seqT h2,n1,by rw[r1.1,r2.1];exact hz.2.2,fun z=>absurd z n2,fun _ p hp=>WA i hs hp (r1.append r2) q⟩
  ·cases e
 ·exact cat ra rb e
 ·exact cat ra rb e
 ·exact cat ra rb e
 ·cases e
theorem Vo{d e:D}{k:Bool}(h:eqD d e=some k):d.py.canLay0=true/\e.py.canLay0=true/\min d.py.depth e.py.depth<=60/\k=PyData.eqv d.py e.py:=by
 unfold eqD at h;split at h
 ·next z=>cases h;simp only[Bool.and_eq_true,decide_eq_true_eq] at z;exact⟨z.1.1,z.1.2,z.2,rfl⟩
 ·cases h
theorem map_some{α β:Type}{x:Option α}{f:α->β}{b:β}(e:x.map f=some b):∃a,x=some a/\f a=b:=by
 cases x with
 | none=>cases e
 | some a=>cases e;exact⟨a,rfl,rfl⟩
theorem Vn{H:Hp}{x y:V}{d e:D}{k:Bool}(h:eqA d e=some k)(rx:RD K C H x d)(ry:RD K C H y e):(Jdj x y=true/\decide (x=y)=k)\/eqD d e=some k:=by
 unfold eqA at h;split at h
 ·cases h;rw[RD.intI rx,RD.intI ry];exact .inl ⟨rfl,by simp⟩
 ·cases h;rw[RD.strI rx,RD.strI ry];exact .inl ⟨rfl,by simp⟩
 ·cases h;rw[RD.blI rx,RD.blI ry];exact .inl ⟨rfl,by simp⟩
 ·cases h;rw[RD.nonI rx,RD.nonI ry];exact .inl ⟨rfl,by simp⟩
 ·cases h;rw[RD.nonI rx,RD.intI ry];exact .inl ⟨rfl,by simp⟩
 ·cases h;rw[RD.intI rx,RD.nonI ry];exact .inl ⟨rfl,by simp⟩
 ·cases h;rw[RD.nonI rx,RD.strI ry];exact .inl ⟨rfl,by simp⟩
 ·cases h;rw[RD.strI rx,RD.nonI ry];exact .inl ⟨rfl,by simp⟩
 ·cases h;rw[RD.nonI rx,RD.blI ry];exact .inl ⟨rfl,by simp⟩
 ·cases h;rw[RD.blI rx,RD.nonI ry];exact .inl ⟨rfl,by simp⟩
 ·cases h;rw[RD.intI rx,RD.strI ry];exact .inl ⟨rfl,by simp⟩
 ·cases h;rw[RD.strI rx,RD.intI ry];exact .inl ⟨rfl,by simp⟩
 ·exact .inr h
theorem Vx:OpS K C (ZM K) fEq:=by
 intro Hs H0 H x y a b c Q i hs ra rb e q;obtain⟨d,e1,e⟩:=bind_some e;obtain⟨d',e2,e⟩:=bind_some e;obtain⟨k,e3,rfl⟩:=map_some e;have r1:=ra.dat i e1;have r2:=rb.dat i e2;rcases Vn e3 r1 r2 with ⟨h1,h2⟩|h
 ·exact .inl ⟨h1,by rw[h2];exact q _ _ _ (.refl i) (RD.bl _)⟩
 ·obtain⟨h1,h2,h3,rfl⟩:=Vo h;exact .inr ⟨_,_,r1.rep h1,r2.rep h2,h1,h2,h3,q _ _ _ (.refl i) (RD.bl _)⟩
theorem Jcs:OpS K C (ZN K) fNe:=by
 intro Hs H0 H x y a b c Q i hs ra rb e q;obtain⟨d,e1,e⟩:=bind_some e;obtain⟨d',e2,e⟩:=bind_some e;obtain⟨k,e3,rfl⟩:=map_some e;have r1:=ra.dat i e1;have r2:=rb.dat i e2;rcases Vn e3 r1 r2 with ⟨h1,h2⟩|h
 ·exact .inl ⟨h1,by rw[h2];exact q _ _ _ (.refl i) (RD.bl _)⟩
 ·obtain⟨h1,h2,h3,rfl⟩:=Vo h;exact .inr ⟨_,_,r1.rep h1,r2.rep h2,h1,h2,h3,q _ _ _ (.refl i) (RD.bl _)⟩
theorem Zm{H:Hp}{x:V}{d:D}(r:RD K C H x d):decide (x=.non)=d.isNon:=by cases r <;> simp[D.isNon]
theorem JdW:OpS K C JcK fIs:=by
 intro Hs H0 H x y a b c Q i hs ra rb e q;unfold fIs at e;split at e
 ·obtain⟨d,e1,rfl⟩:=map_some e;refine⟨RD.nonI rb,?_⟩;rw[Zm (ra.dat i e1)];exact q _ _ _ (.refl i) (RD.bl _)
 ·cases e
theorem RDL.atI{H:Hp}{xs:List V}{ds:List D}{i:Int}{d:D}(r:RDL K C H xs ds)(e:L2.atI ds i=some d):∃x,L2.atI xs i=some x/\RD K C H x d:=by unfold L2.atI at e ⊢;rw[r.1];obtain⟨j,e1,e⟩:=bind_some e;obtain⟨x,e2,r2⟩:=r.get e;exact⟨x,by rw[e1];exact e2,r2⟩
theorem Jcr:OpS K C (rIx K) fIx:=by
 intro Hs H0 H x y a b c Q i hs ra rb e q;unfold fIx at e;split at e
 ·split at e
  ·obtain⟨z,e1,rfl⟩:=map_some e;rw[RD.strI ra,RD.intI rb];exact JcX (by assumption) e1 (q _ _ _ (.refl i) (RD.str _))
  ·cases e
 ·obtain⟨ds,e1,e⟩:=bind_some e;obtain⟨d,e2,rfl⟩:=map_some e;obtain⟨l,xs,rfl,h,r⟩:=ra.q i e1;obtain⟨v,e3,r3⟩:=r.atI e2;rw[RD.intI rb];rcases h with h|h
  ·exact JcW h e3 (q _ _ _ (.refl i) r3)
  ·exact JcY h e3 (q _ _ _ (.refl i) r3)
 ·cases e
end
end LE

namespace LE
open PySem L2 LR

noncomputable def UX:List Sl->Option (List D)
 | []=>some []
 | s::ss=>s.frz.bind fun d=>(UX ss).bind fun ds=>some (d::ds)
noncomputable def VU(as:En->Option (List Sl)):Ev:=fun E=>(as E).bind fun ss=>(UX ss).bind fun ds=>if ds.length<=100 then some (.own ds) else none
section
variable{K:Frag}{C:Addr}{t:TA}{ev:En->Option (List Sl)}{Hs H0 H:Hp}{ta te:TE}{ea:Ev}
theorem RRL.frz{vs:List V}{ss:List Sl}(i:Same H0 H)(r:RRL K C Hs H0 H vs ss):∀{ds:List D},UX ss=some ds->RDL K C (YI Hs H0 H) vs ds:=by
 induction r with
 | nil=>intro ds e;cases e;exact .nil
 | cons h _ ih=>intro ds e;obtain⟨d,e1,e⟩:=bind_some e;obtain⟨ds',e2,e⟩:=bind_some e;cases e;exact .cons (h.frz i e1) (ih e2)
theorem VE(ha:SA K C t ev):SE K C (Jbi t) (VU ev):=by
 intro B H0 H σ E c Q I e q;obtain⟨ss,e1,e⟩:=bind_some e;obtain⟨ds,e2,e⟩:=bind_some e;split at e
 ·next hl =>
  cases e;refine ha B H0 H σ E ss _ I e1 fun vs H1 H1' s1 r1=>?_
  have f:=J8 (Hs:=H) s1.i
  have r2:=r1.frz s1.i e2;exact⟨by rw[r2.1];exact Nat.le_trans hl (by decide),fun p hp=>Ua f.i s1.h hp r2 fun v H2 H2' s2 r2=>q v H2 H2' ((s1.comp f fun _ z=>z).comp s2 fun _ z=>z) r2⟩
 ·cases e

noncomputable def Sl.pass:Sl->Option Sl
 | .sh d=>some (.sh d)
 | .own ds=>some (.sh (.lst ds))
 | .bo ds=>some (.bo ds)
 | .bd ks ds=>some (.bd ks ds)
 | .od ks ds=>some (.sh (.dct ks ds))
 | .no=>none
end
noncomputable def Ub:List Sl->Option (List Sl)
 | []=>some []
 | s::ss=>s.pass.bind fun d=>(Ub ss).bind fun ds=>some (d::ds)
noncomputable def spE(K:Frag)(C:Addr)(n:Nat)(f:List Sl->Option Sl):Sp:=fun vs H Q _=>∃H0 as r,Same H0 H/\RRL K C H H0 H vs as/\as.all (fun s=>!JG s)=true/\as.length=n/\f as=some r ∧
 ∀v H0' H',Step H H0 H H0' H'->RR K C H H0' H' v r->Q v H'
noncomputable def eU(n:Nat)(f:List Sl->Option Sl)(as:En->Option (List Sl)):Ev:=fun E=>(as E).bind fun ss=>(Ub ss).bind fun bs=>if bs.length=n then f bs else none
section
variable{K:Frag}{C:Addr}{t:TA}{ev:En->Option (List Sl)}{Hs H0 H:Hp}{ta te:TE}{ea:Ev}
theorem RRL.len{vs:List V}{ss:List Sl}(r:RRL K C Hs H0 H vs ss):vs.length=ss.length:=by
 induction r with
 | nil=>rfl
 | cons _ _ ih=>simp[ih]
theorem Yk{n:Nat}{f:List Sl->Option Sl}{vs:List V}{Q:VK}{E:XK}(h:spE K C n f vs H Q E):vs.length=n:=by obtain⟨H0,as,r,_,h1,_,h2,_⟩:=h;rw[h1.len];exact h2
theorem RR.pass{v:V}{s s':Sl}(i:Same H0 H)(r:RR K C Hs H0 H v s)(e:s.pass=some s'):RR K C H (YI Hs H0 H) H v s'/\JG s'=false:=by
 have st:Step Hs H0 H (YI Hs H0 H) H:=J8 i
 cases s with
 | no=>cases e
 | sh d=>cases e;exact⟨RD.mono st.z r,rfl⟩
 | own ds=>cases e;exact⟨RR.frz (s:=.own ds) i r rfl,rfl⟩
 | bo ds=>cases e;obtain⟨l,xs,h1,h2,h3⟩:=r;exact⟨⟨l,xs,h1,h2,h3.mono st.z⟩,rfl⟩
 | od ks ds=>cases e;exact⟨RR.frz (s:=.od ks ds) i r rfl,rfl⟩
 | bd ks ds=>cases e;obtain⟨l,xs,h1,h2,hk,h3⟩:=r;exact⟨⟨l,xs,h1,h2,hk,h3.mono st.z⟩,rfl⟩
theorem RRL.pass{vs:List V}{ss:List Sl}(i:Same H0 H)(r:RRL K C Hs H0 H vs ss):∀{bs:List Sl},Ub ss=some bs->RRL K C H (YI Hs H0 H) H vs bs/\bs.all (fun s=>!JG s)=true:=by
 induction r with
 | nil=>intro bs e;cases e;exact⟨.nil,rfl⟩
 | cons h _ ih=>intro bs e;obtain⟨d,e1,e⟩:=bind_some e;obtain⟨ds',e2,e⟩:=bind_some e;cases e;obtain⟨h1,h2⟩:=h.pass i e1;obtain⟨h3,h4⟩:=ih e2;exact⟨.cons h1 h3,by rw[List.all_cons,h2,h4];rfl⟩
theorem Yu{n:Nat}{f:List Sl->Option Sl}{X:XK}(ha:SA K C t ev):SE K C (Wy (spE K C n f) [] X t) (eU n f ev):=by
 intro B H0 H σ E c Q I e q;obtain⟨ss,e1,e⟩:=bind_some e;obtain⟨bs,e2,e⟩:=bind_some e;split at e
 ·next hl=>refine Wt (ha B H0 H σ E ss _ I e1 fun vs H1 H1' s1 r1=>?_);obtain⟨h1,h2⟩:=r1.pass s1.i e2;have f:=J8 (Hs:=H) s1.i;exact⟨_,bs,c,f.i,h1,h2,hl,e,fun v H2 H2' s2 r2=>q v H2 H2' ((s1.comp f fun _ z=>z).comp s2 fun a z=>Same.free s1.h z) (r2.weak fun a z=>Same.free s1.h z)⟩
 ·cases e

noncomputable def prE(p:Pr):D:=.tup [.int p.1,.int p.2]
end
section
variable{K:Frag}{C:Addr}{t:TA}{ev:En->Option (List Sl)}{Hs H0 H:Hp}{ta te:TE}{ea:Ev}
noncomputable def ints?:List D->Option (List Int)
 | []=>some []
 | .int i::ds=>(ints? ds).map (i::·)
 | _::_=>none
noncomputable def bls?:List D->Option (List Bool)
 | []=>some []
 | .bl i::ds=>(bls? ds).map (i::·)
 | _::_=>none
end
theorem Vs:∀ns:List Int,ints? (ns.map .int)=some ns
 | []=>rfl
 | n::ns=>by rw[List.map_cons,ints?,Vs ns];rfl
theorem We:∀ns:List Bool,bls? (ns.map .bl)=some ns
 | []=>rfl
 | n::ns=>by rw[List.map_cons,bls?,We ns];rfl
theorem Vg:∀{ds:List D} {ns:List Bool},bls? ds=some ns->ds=ns.map .bl
 | [],_,e=>by cases e;rfl
 | .bl i::ds,_,e=>by obtain⟨ns,e1,e2⟩:=map_some (show(bls? ds).map (i::·)=_ from e);rw[<- e2,Vg e1];rfl
 | .non::_,_,e|.int _::_,_,e|.str _::_,_,e|.tup _::_,_,e|.lst _::_,_,e|.fz _::_,_,e|.row _::_,_,e=>by cases e
noncomputable def YW:List Sl->Option Sl
 | [.sh (.str x)]=>if x.length<=sizeLine then some (.sh (.int x.length)) else none
 | [s]=>s.q.map fun ds=>.sh (.int ds.length)
 | _=>none
noncomputable def Zf:List Sl->Option Sl
 | [s]=>s.q.bind fun ds=>(bls? ds).map fun ns=>.sh (.bl (ns.all id))
 | _=>none
section
variable{K:Frag}{C:Addr}{Hs H0 H:Hp}
theorem RRL.one{vs:List V}{s:Sl}(r:RRL K C Hs H0 H vs [s]):∃v,vs=[v]/\RR K C Hs H0 H v s:=by
 cases r with
 | cons h t=>cases t;exact⟨_,rfl,h⟩
theorem Vh:Vf K C (V5 K) YW:=by
 intro Hs H0 H xs as c Q i hs r e q;unfold YW at e;split at e
 ·split at e
  ·cases e;obtain⟨v,rfl,r0⟩:=r.one;rw[RD.strI r0];exact Ja2 (by assumption) (q _ _ _ (.refl i) (RD.int _))
  ·cases e
 ·obtain⟨v,rfl,r0⟩:=r.one;obtain⟨ds,e1,rfl⟩:=map_some e;obtain⟨l,xs,rfl,h,r1⟩:=r0.q i e1;have z:=q (.int ds.length) _ _ (.refl i) (RD.int _);rw[<- r1.1] at z;exact ZR h z
 ·cases e
theorem JdF:Vf K C (JcJ K) Zf:=by
 intro Hs H0 H xs as c Q i hs r e q;unfold Zf at e;split at e
 ·obtain⟨v,rfl,r0⟩:=r.one;obtain⟨ds,e1,e⟩:=bind_some e;obtain⟨ns,e2,rfl⟩:=map_some e;obtain⟨l,ys,rfl,h,r1⟩:=r0.q i e1;rw[Vg e2] at r1;have:=r1.bls;subst this;exact⟨l,ns,rfl,h,q _ _ _ (.refl i) (RD.bl _)⟩
 ·cases e
end

noncomputable def Jdt:Sl->Option Bool
 | .sh .non=>some false
 | .sh (.bl b)=>some b
 | .sh (.int i)=>some (i != 0)
 | .sh (.str y)=>if y.length<=sizeLine then some ((y.length:Int) != 0) else none
 | s=>s.q.map fun ds=>!ds.isEmpty
noncomputable def tTru?(a:Ev):En->Option Bool:=fun E=>(a E).bind Jdt
noncomputable def tyN:D->Option String
 | .non=>some "NoneType"
 | .bl _=>some "bool"
 | .int _=>some "int"
 | .str _=>some "str"
 | .tup _=>some "tuple"
 | .lst _=>some "list"
 | .fz _=>some "list"
 | .row _=>none
 | .dct _ _=>none
 | .dfz _ _=>none
 | .exc _=>none
noncomputable def Vt(t n:String):Bool:=t == n || (t == "bool" && n == "int")
noncomputable def UV(n:String)(a:Ev):Ev:=fun E=>(a E).bind fun s=>s.d.bind fun d=>(tyN d).map fun t=>.sh (.bl (Vt t n))
noncomputable def D.isRow:D->Bool
 | .row _=>true
 | _=>false
section
variable{K:Frag}{C:Addr}{Hs H0 H:Hp}{te:TE}{ea:Ev}
theorem RDL.empty{xs:List V}{ds:List D}(r:RDL K C H xs ds):xs.isEmpty=ds.isEmpty:=by cases xs <;> cases ds <;> first|rfl|(have:=r.1;simp at this)
theorem UO(ha:SE K C te ea):ST K C (Jbl K te) (tTru? ea):=by
 intro B H0 H σ E k Q I e q;obtain⟨a,e1,e⟩:=bind_some e;refine ha B H0 H σ E a _ I e1 fun x H1 H1' s1 r1=>?_
 have seq:∀{a:Sl},RR K C H H1 H1' x a->a.q.map (fun ds=>!ds.isEmpty)=some k->∃k',WD K x H1' k'/\Q k' H1':=fun {a} r1 e=>by
  obtain⟨ds,e2,rfl⟩:=map_some e;obtain⟨l,xs,rfl,h,r⟩:=r1.q s1.i e2;have z:=q _ _ s1;rw[<- r.empty] at z;rcases h with h|h
  ·exact⟨_,.inl ⟨xs,h,rfl⟩,z⟩
  ·exact⟨_,.inr (.inl ⟨xs,h,rfl⟩),z⟩
 unfold Jdt at e;split at e
 ·cases e;rw[RD.nonI r1];exact⟨_,rfl,q _ _ s1⟩
 ·cases e;rw[RD.blI r1];exact⟨_,rfl,q _ _ s1⟩
 ·cases e;rw[RD.intI r1];exact⟨_,rfl,q _ _ s1⟩
 ·split at e
  ·cases e;rw[RD.strI r1];exact⟨_,⟨by assumption,rfl⟩,q _ _ s1⟩
  ·cases e
 ·exact seq r1 e
theorem RD.ty{x:V}{d:D}{t:String}(r:RD K C H x d)(e:tyN d=some t):TyS K H x (.type t):=by
 cases r with
 | non=>cases e;exact .of .non
 | bl b=>cases e;exact .of (.bl b)
 | int i=>cases e;exact .of (.int i)
 | str i=>cases e;exact .of (.str i)
 | tup h _ _=>cases e;exact .sqT h
 | lst h _ _=>cases e;exact .sqL (.of h)
 | fz h _ _=>cases e;exact .sqL h
 | row _ _ _ _=>cases e
 | dct _ _ _ _=>cases e
 | dfz _ _ _ _=>cases e
 | exc _ _=>cases e
noncomputable def Wb(K:Frag)(n:String):Prop:=∀t∈["NoneType","bool","int","str","tuple","list"],kitOne K (.type t) (.type n)=some (Vt t n)
theorem Jbn{d:D}{t:String}(e:tyN d=some t):t∈["NoneType","bool","int","str","tuple","list"]:=by cases d <;> cases e <;> simp
theorem ZS{n:String}(hk:Wb K n)(ha:SE K C te ea):SE K C (tCB (JaU K) (UP te (UP (tC (.ty n)) Jbj))) (UV n ea):=by
 intro B H0 H σ E c Q I e q;obtain⟨a,e1,e⟩:=bind_some e;obtain⟨d,e2,e⟩:=bind_some e;obtain⟨t,e3,rfl⟩:=map_some e;refine ha B H0 H σ E a _ I e1 fun x H1 H1' s1 r1=>?_
 exact JcV (RD.ty (r1.dat s1.i e2) e3) (hk t (Jbn e3)) (q _ _ _ s1 (RD.bl _))
end
theorem JaG{K:Frag}:Wb K "int":=fun t ht=>by simp only[List.mem_cons,List.mem_nil_iff,or_false] at ht;rcases ht with rfl | rfl | rfl | rfl | rfl | rfl <;> kernel_rfl
theorem Zq{K:Frag}:Wb K "bool":=fun t ht=>by simp only[List.mem_cons,List.mem_nil_iff,or_false] at ht;rcases ht with rfl | rfl | rfl | rfl | rfl | rfl <;> kernel_rfl
theorem JaH{K:Frag}:Wb K "str":=fun t ht=>by simp only[List.mem_cons,List.mem_nil_iff,or_false] at ht;rcases ht with rfl | rfl | rfl | rfl | rfl | rfl <;> kernel_rfl
end LE

namespace LE
open PySem L2 LR

mutual
inductive Pt where
 | nm (i:Nat)
 | tp (l:Pts)
inductive Pts where
 | nil
 | cons (p:Pt) (l:Pts)
end
mutual
noncomputable def Pt.bind:Pt->D->En->Option En
 | .nm i,d,E=>if i<E.length then some (E.set i (.sh d)) else none
 | .tp l,.tup ds,E=>l.bind ds E
 | .tp _,_,_=>none
noncomputable def Pts.bind:Pts->List D->En->Option En
 | .nil,[],E=>some E
 | .cons p l,d::ds,E=>(p.bind d E).bind fun E'=>l.bind ds E'
 | _,_,_=>none
end
mutual
noncomputable def Pt.slots:Pt->List Nat
 | .nm i=>[i]
 | .tp l=>l.slots
noncomputable def Pts.slots:Pts->List Nat
 | .nil=>[]
 | .cons p l=>p.slots++l.slots
end
mutual
theorem Pt.keep:∀{p:Pt} {d:D} {E E':En},p.bind d E=some E'->E'.length=E.length/\∀i,i∉p.slots->E'[i]?=E[i]?
 | .nm i,d,E,E',e=>by
  unfold Pt.bind at e;split at e
  ·cases e;refine⟨by simp,fun j hj=>?_⟩;rw[List.getElem?_set,if_neg];intro z;exact hj (by simp[Pt.slots,z])
  ·cases e
 | .tp l,d,E,E',e=>by
  cases d with
  | tup ds=>exact Pts.keep (p:=l) (ds:=ds) (by simpa [Pt.bind] using e)
  | _=>simp[Pt.bind] at e
theorem Pts.keep:∀{p:Pts} {ds:List D} {E E':En},p.bind ds E=some E'->E'.length=E.length/\∀i,i∉p.slots->E'[i]?=E[i]?
 | .nil,[],E,E',e=>by simp[Pts.bind] at e;subst e;exact⟨rfl,fun _ _=>rfl⟩
 | .nil,_::_,_,_,e=>by simp[Pts.bind] at e
 | .cons _ _,[],_,_,e=>by simp[Pts.bind] at e
 | .cons p l,d::ds,E,E',e=>by rw[Pts.bind] at e;obtain⟨E1,e1,e2⟩:=bind_some e;obtain⟨h1,h2⟩:=Pt.keep e1;obtain⟨h3,h4⟩:=Pts.keep e2;refine⟨h3.trans h1,fun i hi=>?_⟩;simp[Pts.slots] at hi;rw[h4 i hi.2,h2 i hi.1]
end
section
variable(K:Frag)(C:Addr)
noncomputable def SG(g:TG)(p:Pt):Prop:=∀(B H0 H:Hp) (σ:St) (E E':En) (x:V) (d:D) (Q:St->Hp->Prop),EnvR K C B H0 H σ E->RD K C H0 x d->p.bind d E=some E'->(∀σ',EnvR K C B H0 H σ' E'->Q σ' H)->g x σ H Q
end
section
variable{K:Frag}{C:Addr}
theorem EnvR.setSh{B H0 H:Hp}{σ:St}{E:En}{i:Nat}{v:V}{d:D}(I:EnvR K C B H0 H σ E)(hi:i<E.length)(r:RD K C H0 v d):EnvR K C B H0 H (σ.set i (some v)) (E.set i (.sh d)) :=
 I.put' (s:=.sh d) (.refl I.h) hi r rfl
theorem JaC(i:Nat):SG K C (UL i) (.nm i):=by
 intro B H0 H σ E E' x d Q I r e q;rw[Pt.bind] at e;split at e
 ·cases e;exact q _ (I.setSh (by assumption) r)
 ·cases e
noncomputable def Pts.len:Pts->Nat
 | .nil=>0
 | .cons _ l=>l.len+1
end

section
variable(K:Frag)(C:Addr)
noncomputable def JbI(A:Hp)(J:It)(ds:List D)(H0:Hp):Prop:=∀H0' H',SStep A H0 H0' H'->(∀(i:Nat) (d:D),ds[i]?=some d->J.go i H'/\∀x H2,J.yld i H' x H2->∃H02,Step H' H0' H' H02 H2/\RD K C H02 x d)/\J.stop ds.length H'
noncomputable def SI(m:Bool)(wi:TI)(ev:En->Option (List D)):Prop:=∀(B H0 H:Hp) (σ:St) (E:En) (ds:List D) (R:It->Hp->Prop),EnvR K C B H0 H σ E->ev E=some ds ->
 (∀J H0' H',Step H H0 H H0' H'->JbI K C (if m=true then H' else B) J ds H0'->R J H')->wi σ H R
end
noncomputable def Sl.it(m:Bool):Sl->Option (List D)
 | .bo ds=>if m=true then some ds else none
 | s=>s.q
noncomputable def iE(m:Bool)(a:Ev):En->Option (List D):=fun E=>(a E).bind (Sl.it m)
noncomputable def rng(lo:Int)(n:Nat):List D:=(List.range n).map fun(i:Nat)=>.int (lo+(i:Int))
noncomputable def JdQ(a:Int):Bool:=Nat.ble a.natAbs 4611686018427387903
section
variable{K:Frag}{C:Addr}{te:TE}{ea:Ev}{m:Bool}
theorem Y9{A H0:Hp}{a:Addr}{xs:List V}{ds:List D}(hd:∀H0' H',SStep A H0 H0' H'->SqL K H' a xs)(r:RDL K C H0 xs ds):JbI K C A (Itl K a) ds H0:=by intro H0' H' st;have hq:=hd H0' H' st;refine⟨fun i d e=>?_,⟨xs,hq,by rw[r.1];exact Nat.le_refl _⟩⟩;obtain⟨x,e1,r1⟩:=r.get e;refine⟨⟨xs,x,hq,e1⟩,fun y H2 ⟨e2,e3⟩=>?_⟩;subst e2;have:=e3 xs hq;rw[e1] at this;cases this;exact⟨H0',.refl st.i,r1.mono st.z⟩
theorem Jca{A H0:Hp}{a:Addr}{xs:List V}{ds:List D}(hd:∀H0' H',SStep A H0 H0' H'->SqT K H' a xs)(r:RDL K C H0 xs ds):JbI K C A (Itt K a) ds H0:=by intro H0' H' st;have hq:=hd H0' H' st;refine⟨fun i d e=>?_,⟨xs,hq,by rw[r.1];exact Nat.le_refl _⟩⟩;obtain⟨x,e1,r1⟩:=r.get e;refine⟨⟨xs,x,hq,e1⟩,fun y H2 ⟨e2,e3⟩=>?_⟩;subst e2;have:=e3 xs hq;rw[e1] at this;cases this;exact⟨H0',.refl st.i,r1.mono st.z⟩
theorem Jek(ha:SE K C te ea):SI K C m (Jb5 K te) (iE m ea):=by
 intro B H0 H σ E ds R I e q;obtain⟨s,e1,e⟩:=bind_some e
 cases s with
 | no=>cases e
 | bd _ _=>cases e
 | od _ _=>cases e
 | bo es =>
  unfold Sl.it at e;dsimp only at e;split at e
  ·next hm=>cases e;refine .inl (ha B H0 H σ E _ _ I e1 fun x H1 H1' s1 r1=>?_);obtain⟨l,xs,rfl,h,r⟩:=r1;refine⟨l,rfl,⟨xs,.of h⟩,q _ _ _ s1 ?_⟩;rw[if_pos hm];exact Y9 (fun H0' H' st=>.of (st.b _ _ h)) r
  ·cases e
 | own es=>cases (show some es=some ds from e);refine .inl (ha B H0 H σ E _ _ I e1 fun x H1 H1' s1 r1=>?_);have f:=J8 (Hs:=H) s1.i;have r2:=RR.frz s1.i r1 rfl;obtain⟨l,xs,rfl,h,r⟩:=RD.lstI r2;exact⟨l,rfl,⟨xs,.of (f.i _ _ h)⟩,q _ _ _ (s1.comp f fun _ z=>z) (Y9 (fun H0' H' st=>.of (st.i _ _ (st.z _ _ h))) r)⟩
 | sh d =>
  cases d with
  | lst es=>cases (show some es=some ds from e);refine .inl (ha B H0 H σ E _ _ I e1 fun x H1 H1' s1 r1=>?_);obtain⟨l,xs,rfl,h,r⟩:=RD.lstI r1;exact⟨l,rfl,⟨xs,.of (s1.i _ _ h)⟩,q _ _ _ s1 (Y9 (fun H0' H' st=>.of (st.i _ _ (st.z _ _ h))) r)⟩
  | fz es=>cases (show some es=some ds from e);refine .inl (ha B H0 H σ E _ _ I e1 fun x H1 H1' s1 r1=>?_);obtain⟨l,xs,rfl,h,r⟩:=RD.fzI r1;exact⟨l,rfl,⟨xs,s1.i.seq h⟩,q _ _ _ s1 (Y9 (fun H0' H' st=>(st.z.trans st.i).seq h) r)⟩
  | tup es=>cases (show some es=some ds from e);refine .inr (ha B H0 H σ E _ _ I e1 fun x H1 H1' s1 r1=>?_);obtain⟨l,xs,rfl,h,r⟩:=RD.tupI r1;exact⟨l,rfl,⟨xs,s1.i.seqT h⟩,q _ _ _ s1 (Jca (fun H0' H' st=>(st.z.trans st.i).seqT h) r)⟩
  | _=>cases (show none=some ds from e)
end

noncomputable def yes?:En->Option Bool:=fun _=>some true
noncomputable def YL(imp:List (Option Nat))(E:En):En:=imp.map fun o=>match o with
 | none=>.no
 | some k=>match E[k]? with
  | some (.own ds)=>.bo ds
  | some (.od ks ds)=>.bd ks ds
  | some s=>s
  | none=>.no
noncomputable def Yz(p:Pt)(c:En->Option Bool)(a:Ev)(E1:En):List D->Option (List D)
 | []=>some []
 | d::ds=>(p.bind d E1).bind fun E2=>(c E2).bind fun k=>if k=true then(a E2).bind fun s=>s.frz.bind fun y=>(Yz p c a E1 ds).bind fun ys=>some (y::ys) else Yz p c a E1 ds
noncomputable def Zd(it:En->Option (List D))(p:Pt)(c:En->Option Bool)(a:Ev)(imp:List (Option Nat)):Ev:=fun E=>(it E).bind fun ds=>if ds.length<=sizeLine then(Yz p c a (YL imp E) ds).map .own else none
section
variable{K:Frag}{C:Addr}
theorem Jen:ST K C Jdr yes?:=fun _ _ _ _ _ _ _ I e q=>by cases e;exact q _ _ (.refl I.h)
theorem Jak{B H0 H:Hp}{σ:St}{E:En}{imp:List (Option Nat)}(I:EnvR K C B H0 H σ E):EnvR K C H H0 H (Vr imp σ) (YL imp E):=by
 have get:∀(i:Nat) (s:Sl),(YL imp E)[i]?=some s->s=.no\/∃v,(Vr imp σ)[i]?=some (some v)/\RSl K C H H0 H v s/\JG s=false:=fun i s e=>by
  unfold YL at e;unfold Vr;rw[List.getElem?_map] at e ⊢
  cases h:imp[i]? with
  | none=>rw[h] at e;cases e
  | some o =>
   rw[h] at e
   cases o with
   | none=>cases e;exact .inl rfl
   | some k =>
    have e':(match E[k]? with|some (.own ds)=>Sl.bo ds|some (.od ks ds)=>Sl.bd ks ds|some s=>s|none=>.no)=s:=Option.some.inj e
    cases hE:E[k]? with
    | none=>rw[hE] at e';exact .inl e'.symm
    | some s' =>
     rw[hE] at e';rcases I.at' k s' hE with z|⟨v,h1,h2⟩
     ·subst z;exact .inl e'.symm
     ·have g:(σ[k]?).join=some v:=by rw[h1];rfl
      cases s' with
      | no=>exact .inl e'.symm
      | sh d=>dsimp only at e';subst e';exact .inr ⟨v,by show some ((σ[k]?).join)=_;rw[g],h2,rfl⟩
      | bo ds=>dsimp only at e';subst e';obtain⟨l,xs,q1,q2,q3⟩:=h2;exact .inr ⟨v,by show some ((σ[k]?).join)=_;rw[g],⟨l,xs,q1,I.b _ _ q2,q3⟩,rfl⟩
      | own ds=>dsimp only at e';subst e';obtain⟨l,xs,q1,q2,_,_,q3⟩:=h2;exact .inr ⟨v,by show some ((σ[k]?).join)=_;rw[g],⟨l,xs,q1,q2,q3⟩,rfl⟩
      | bd ks ds=>dsimp only at e';subst e';obtain⟨l,xs,q1,q2,q3⟩:=h2;exact .inr ⟨v,by show some ((σ[k]?).join)=_;rw[g],⟨l,xs,q1,I.b _ _ q2,q3⟩,rfl⟩
      | od ks ds=>dsimp only at e';subst e';obtain⟨l,xs,q1,q2,_,_,q3⟩:=h2;exact .inr ⟨v,by show some ((σ[k]?).join)=_;rw[g],⟨l,xs,q1,q2,q3⟩,rfl⟩
 refine⟨Same.refl _,I.h,by simp[Vr,YL],fun i s e=>?_,fun i j s t v hij e1 e2 o1 o2=>?_⟩
 ·rcases get i s e with z|⟨v,h1,h2,_⟩
  ·exact .inl z
  ·exact .inr ⟨v,h1,h2⟩
 ·rcases get i _ e1 with z|⟨v,h1,h2,h3⟩
  ·subst z;cases o1
  ·rw[h3] at o1;cases o1
theorem Jdg{wi:TI}{g:TG}{tt:TT}{te:TE}{imp:List (Option Nat)}{it:En->Option (List D)}{p:Pt}{c:En->Option Bool}{a:Ev}(hi:SI K C true wi it)(hg:SG K C g p)(hc:ST K C tt c)(ha:SE K C te a)
 (hp:(p.slots.all fun i=>match imp[i]? with|some none=>true|_=>false)=true):SE K C (JbE wi g tt te imp) (Zd it p c a imp):=by
 intro B H0 H σ E r Q I e q;obtain⟨ds,e1,e⟩:=bind_some e;split at e
 ·next hl =>
  obtain⟨es,e2,rfl⟩:=map_some e;refine hi B H0 H σ E ds _ I e1 fun J H1 H1' s1 ok=>?_
  rw[if_pos rfl] at ok;have I1:EnvR K C H1' H1 H1' (Vr imp σ) (YL imp E):=Jak (I.step s1)
  -- the loop: what was gathered,what comes
  refine⟨fun i m ys σ' H'=>m=ds.length-i/\i<=ds.length/\∃H0' gs rs,EnvR K C H1' H0' H' σ' (YL imp E)/\Step H1' H1 H1' H0' H'/\RDL K C H0' ys gs/\Yz p c a (YL imp E) (ds.drop i)=some rs/\es=gs++rs/\gs.length<=i,
   ⟨ds.length,by simp,Nat.zero_le _,H1,[],es,I1,.refl s1.i,.nil,e2,rfl,Nat.le_refl _⟩,?_⟩
  rintro i m ys σ' H' ⟨rfl,hi',H0',gs,rs,I',st,rys,er,ees,hgl⟩;have stop:=ok H0' H' ⟨st.h,st.z,st.n,st.i⟩
  by_cases hlt:i<ds.length
  ·have hd:ds[i]?=some ds[i]:=by simp[hlt]
   obtain⟨go,yl⟩:=stop.1 i _ hd;refine .inr ⟨go,by rw[rys.1];omega,fun ys' σ2 H2=>∃H02 gs rs,EnvR K C H1' H02 H2 σ2 (YL imp E)/\Step H1' H1 H1' H02 H2/\RDL K C H02 ys' gs/\Yz p c a (YL imp E) (ds.drop (i+1))=some rs/\es=gs++rs/\gs.length<=i+1,
    fun ys' σ2 H2 h=>⟨ds.length-(i+1),by omega,rfl,hlt,h⟩,fun x H2 y=>?_⟩
   obtain⟨H02,st2,rx⟩:=yl x H2 y;rw[List.drop_eq_getElem_cons hlt,Yz] at er;obtain⟨E2,b1,er⟩:=bind_some er;obtain⟨k,b2,er⟩:=bind_some er;refine hg H1' H02 H2 σ' (YL imp E) E2 x _ _ (I'.step st2) rx b1 fun σ2 I2=>?_
   have back:∀{H03 H3:Hp},EnvR K C H1' H03 H3 σ2 E2->EnvR K C H1' H03 H3 σ2 (YL imp E):=fun {H03 H3} J=>by
    obtain⟨k1,k2⟩:=Pt.keep b1;refine J.sub k1.symm fun j s ej=>?_
    by_cases hj:j∈p.slots
    ·have:=List.all_eq_true.mp hp j hj
     have ej':=ej;unfold YL at ej';rw[List.getElem?_map] at ej'
     cases hm:imp[j]? with
     | none=>rw[hm] at this;cases this
     | some o =>
      rw[hm] at this ej'
      cases o with
      | none=>cases ej';exact .inl rfl
      | some _=>cases this
    ·exact .inr (by rw[k2 j hj];exact ej)
   refine hc H1' H02 H2 σ2 E2 k _ I2 b2 fun H03 H3 st3=>?_
   have st13:Step H1' H1 H1' H03 H3:=(st.trans st2).trans st3
   cases k with
   | false=>rw[if_neg (by simp)];rw[if_neg (by simp)] at er;exact⟨H03,gs,rs,back (I2.step st3),st13,rys.mono (st2.z.trans st3.z),er,ees,by omega⟩
   | true =>
    rw[if_pos rfl];rw[if_pos rfl] at er;obtain⟨s,b3,er⟩:=bind_some er;obtain⟨y',b4,er⟩:=bind_some er;obtain⟨ws,b5,er⟩:=bind_some er;cases er;refine ha H1' H03 H3 σ2 E2 s _ (I2.step st3) b3 fun v H04 H4 st4 r4=>?_
    have f:=J8 (Hs:=H3) st4.i
    have st5:Step H3 H03 H3 (YI H3 H04 H4) H4:=st4.comp f fun _ z=>z
    exact⟨_,gs++[y'],ws,back ((I2.step st3).step st5),st13.trans st5,(rys.mono ((st2.z.trans st3.z).trans st5.z)).snoc (RR.frz st4.i r4 b4),b5,by rw[ees,List.append_assoc];rfl,by rw[List.length_append];simp;exact hgl⟩
  ·have e3:i=ds.length:=by omega
   subst e3;refine .inl ⟨stop.2,by rw[rys.1];omega,fun p hp=>?_⟩;rw[List.drop_length,Yz] at er;cases er;rw[List.append_nil] at ees;subst ees;exact Ua (Hs:=H) st.i (s1.h.trans st.h) hp rys fun v H2 H2' s2 r2=>q v H2 H2' ((s1.trans st).comp s2 fun _ z=>z) r2
 ·cases e
end
end LE

namespace LE
open PySem L2 LR

inductive Out where
 | nx (E:En)|rt (r:Sl)|bk (E:En)|ct (E:En)
noncomputable abbrev Es:=En->Option Out
section
variable(K:Frag)(C:Addr)
noncomputable def Fin(B H0:Hp)(D:Ends):Out->Prop
 | .nx E=>∀σ' H0' H',SStep B H0 H0' H'->EnvR K C B H0' H' σ' E->D.nx σ' H'
 | .bk E=>∀σ' H0' H',SStep B H0 H0' H'->EnvR K C B H0' H' σ' E->D.bk σ' H'
 | .ct E=>∀σ' H0' H',SStep B H0 H0' H'->EnvR K C B H0' H' σ' E->D.ct σ' H'
 | .rt r=>∀v H0' H',SStep B H0 H0' H'->RR K C B H0' H' v r->D.rt v H'
noncomputable def SS(ts:TS)(ev:Es):Prop:=∀(B H0 H:Hp) (σ:St) (E:En) (o:Out) (D:Ends),EnvR K C B H0 H σ E->ev E=some o->Fin K C B H0 D o->ts D σ H
end
noncomputable def Ju:Es:=fun E=>some (.nx E)
noncomputable def ZW(b:Es):Out->Option Out
 | .nx E=>b E
 | .rt r=>some (.rt r)
 | .bk E=>some (.bk E)
 | .ct E=>some (.ct E)
noncomputable def Jz(a b:Es):Es:=fun E=>(a E).bind (ZW b)
noncomputable def xIf(c:En->Option Bool)(a b:Es):Es:=fun E=>(c E).bind fun k=>if k=true then a E else b E
noncomputable def keep?:Sl->Option Sl
 | .sh d=>some (.sh d)
 | .own ds=>some (.own ds)
 | .od ks ds=>some (.od ks ds)
 | _=>none
noncomputable def Jw(i:Nat)(a:Ev):Es:=fun E=>(a E).bind fun s=>s.frz.bind fun d=>if i<E.length then some (.nx (E.set i (.sh d))) else none
noncomputable def JY(a:Ev):Es:=fun E=>(a E).bind fun s=>(keep? s).map .rt
noncomputable def Jb4(i:Nat)(E:En):En:=match E[i]? with
 | some (.own ds)=>E.set i (.sh (.lst ds))
 | some (.od ks ds)=>E.set i (.sh (.dct ks ds))
 | _=>E
noncomputable def Yh(p:Pt)(b:Es):List D->Es
 | [],E=>some (.nx E)
 | d::ds,E=>(p.bind d E).bind fun E1=>(b E1).bind fun o=>match o with
  | .nx E2=>Yh p b ds E2
  | .ct E2=>Yh p b ds E2
  | .bk E2=>some (.nx E2)
  | .rt r=>some (.rt r)
noncomputable def Ve(it:En->Option (List D))(p:Pt)(b:Es):Es:=fun E=>(it E).bind fun ds=>Yh p b ds E
section
variable{K:Frag}{C:Addr}{B H0 H H0' H':Hp}{σ:St}{E:En}{D:Ends}{o:Out}{te:TE}{ea:Ev}{t u:TS}{et eu:Es}
theorem Fin.step(st:SStep B H0 H0' H')(f:Fin K C B H0 D o):Fin K C B H0' D o:=by
 cases o with
 | nx E=>exact fun σ' H1 H1' s1 I=>f σ' H1 H1' (st.trans s1) I
 | bk E=>exact fun σ' H1 H1' s1 I=>f σ' H1 H1' (st.trans s1) I
 | ct E=>exact fun σ' H1 H1' s1 I=>f σ' H1 H1' (st.trans s1) I
 | rt r=>exact fun v H1 H1' s1 I=>f v H1 H1' (st.trans s1) I
theorem EnvR.ss(I:EnvR K C B H0 H σ E):SStep B H0 H0 H:=.refl I.b I.h
theorem J4:SS K C Z3 Ju:=fun _ _ _ _ _ _ _ I e f=>by cases e;exact f _ _ _ I.ss I
theorem JN(ht:SS K C t et)(hu:SS K C u eu):SS K C (Jbk t u) (Jz et eu):=by
 intro B H0 H σ E o D I e f;obtain⟨o1,e1,e⟩:=bind_some e;refine ht B H0 H σ E o1 _ I e1 ?_
 cases o1 with
 | nx E1=>exact fun σ1 H1 H1' s1 I1=>hu B H1 H1' σ1 E1 o D I1 e (f.step s1)
 | bk E1=>cases e;exact f
 | ct E1=>cases e;exact f
 | rt r=>cases e;exact f
theorem Y6{c:TT}{ec:En->Option Bool}(hc:ST K C c ec)(ht:SS K C t et)(hu:SS K C u eu):SS K C (Jdo c t u) (xIf ec et eu):=by
 intro B H0 H σ E o D I e f;obtain⟨k,e1,e⟩:=bind_some e;refine hc B H0 H σ E k _ I e1 fun H1 H1' s1=>?_
 cases k with
 | true=>rw[if_pos rfl];exact ht B H1 H1' σ E o D (I.step s1) e (f.step (s1.ss I.b))
 | false=>rw[if_neg (by simp)];exact hu B H1 H1' σ E o D (I.step s1) e (f.step (s1.ss I.b))
theorem WU{s r:Sl}(e:keep? s=some r):s=r/\Jb9 r=false:=by cases s <;> cases e <;> exact⟨rfl,rfl⟩
theorem J5{i:Nat}(ha:SE K C te ea):SS K C (Jbh te (UL i)) (Jw i ea):=by
 intro B H0 H σ E o D I e f;obtain⟨s,e1,e⟩:=bind_some e;obtain⟨d,e2,e⟩:=bind_some e;split at e
 ·cases e;refine ha B H0 H σ E _ _ I e1 fun v H1 H1' s1 r1=>?_
  have s2:Step H H0 H (YI H H1 H1') H1':=s1.comp (J8 s1.i) fun _ z=>z
  exact f _ _ _ (s2.ss I.b) ((I.step s2).setSh (by assumption) (RR.frz s1.i r1 e2))
 ·cases e
theorem J6(ha:SE K C te ea):SS K C (Jdq te) (JY ea):=by intro B H0 H σ E o D I e f;obtain⟨s,e1,e⟩:=bind_some e;obtain⟨s',e2,rfl⟩:=map_some e;obtain⟨rfl,hb⟩:=WU e2;exact ha B H0 H σ E _ _ I e1 fun v H1 H1' s1 r1=>f _ _ _ (s1.ss I.b) (r1.weak fun a z=>Same.free I.b z)
theorem EnvR.slot{i:Nat}{ds:List LE.D}(I:EnvR K C B H0 H σ E)(e1:E[i]?=some (.own ds)):∃l xs,σ[i]?=some (some (.ref l))/\H l=some (.lst xs)/\H0 l=none/\B l=none/\RDL K C H0 xs ds:=by
 rcases I.at' i _ e1 with z|⟨v,h1,l,xs,rfl,h2,h3,h4,h5⟩
 ·cases z
 ·exact⟨l,xs,h1,h2,h3,h4,h5⟩
theorem EnvR.slotD{i:Nat}{ks:List Int}{ds:List LE.D}(I:EnvR K C B H0 H σ E)(e1:E[i]?=some (.od ks ds)):∃l xs,σ[i]?=some (some (.ref l))/\H l=some (dkO ks xs)/\H0 l=none/\B l=none/\ks.length=ds.length/\RDL K C H0 xs ds:=by
 rcases I.at' i _ e1 with z|⟨v,h1,l,xs,rfl,h2,h3,h4,h5⟩
 ·cases z
 ·exact⟨l,xs,h1,h2,h3,h4,h5⟩
theorem EnvR.frzG(I:EnvR K C B H0 H σ E){i:Nat}{t:Sl}{l:Addr}{o:HO}{d:LE.D}(h:E[i]?=some t)(ho:JG t=true)(g1:σ[i]?=some (some (.ref l)))(g2:H l=some o)(g5:∀H1,Same H0 H1->H1 l=some o->RD K C H1 (.ref l) d):∃H0',SStep B H0 H0' H/\EnvR K C B H0' H σ (E.set i (.sh d)):=by
 obtain⟨_,g3,g4⟩:=I.ownG h ho g1;have hi:i<E.length:=(List.getElem?_eq_some_iff.mp h).1;have s0:Same H0 (upd H0 l o):=.new g3
 have s1:Same (upd H0 l o) H:=fun a o e=>by
  by_cases ha:a=l
  ·subst ha;rw[J3] at e;cases e;exact g2
  ·rw[Jg ha] at e;exact I.h a o e
 refine⟨upd H0 l o,⟨I.b,s0,fun a o e=>?_,s1⟩,I.b,s1,by simp[I.len],fun j s e=>?_,fun j k u1 u2 v hjk a1 a2 w1 w2 a3=>?_⟩
 ·by_cases ha:a=l
  ·subst ha;exact .inr (.inl g4)
  ·rw[Jg ha] at e;exact .inl e
 ·rw[List.getElem?_set] at e
  by_cases hj:i=j
  ·subst hj;rw[if_pos rfl,if_pos hi] at e;cases e;exact .inr ⟨_,g1,g5 _ s0 J3⟩
  ·rw[if_neg hj] at e;rcases I.at' j s e with z|⟨v,q1,q2⟩
   ·exact .inl z
   ·refine .inr ⟨v,q1,?_⟩
    cases s with
    | no=>trivial
    | sh d=>exact RD.mono s0 q2
    | bo es=>obtain⟨l',ys,p1,p2,p3⟩:=q2;exact⟨l',ys,p1,p2,p3.mono s0⟩
    | bd ks es=>obtain⟨l',ys,p1,p2,hk,p3⟩:=q2;exact⟨l',ys,p1,p2,hk,p3.mono s0⟩
    | own es =>
     obtain⟨l',ys,p1,p2,p3,p4,p5⟩:=q2;subst p1;have:l'≠l:=fun z=>by subst z;exact I.sep i j t _ (.ref l') hj h e ho rfl g1 q1
     exact⟨l',ys,rfl,p2,by rw[Jg this];exact p3,p4,p5.mono s0⟩
    | od ks es =>
     obtain⟨l',ys,p1,p2,p3,p4,hk,p5⟩:=q2;subst p1;have:l'≠l:=fun z=>by subst z;exact I.sep i j t _ (.ref l') hj h e ho rfl g1 q1
     exact⟨l',ys,rfl,p2,by rw[Jg this];exact p3,p4,hk,p5.mono s0⟩
 ·have own:∀{j:Nat} {u:Sl},(E.set i (.sh d))[j]?=some u->JG u=true->E[j]?=some u:=fun {j u} a w=>by
   rw[List.getElem?_set] at a
   by_cases hj:i=j
   ·subst hj;rw[if_pos rfl,if_pos hi] at a;cases a;cases w
   ·rw[if_neg hj] at a;exact a
  exact I.sep j k u1 u2 v hjk (own a1 w1) (own a2 w2) w1 w2 a3
theorem EnvR.frz(I:EnvR K C B H0 H σ E)(i:Nat):∃H0',SStep B H0 H0' H/\EnvR K C B H0' H σ (Jb4 i E):=by
 unfold Jb4;split
 ·next ds h=>obtain⟨l,xs,g1,g2,g3,g4,g5⟩:=I.slot h;exact I.frzG h rfl g1 g2 fun H1 s0 hl=>.mkL hl (g5.mono s0)
 ·next ks ds h=>obtain⟨l,xs,g1,g2,g3,g4,hk,g5⟩:=I.slotD h;exact I.frzG h rfl g1 g2 fun H1 s0 hl=>.mkD hl hk (g5.mono s0)
 ·exact⟨H0,I.ss,I⟩
theorem Z8{wi:TI}{g:TG}{it:En->Option (List LE.D)}{p:Pt}(hi:SI K C false wi it)(hg:SG K C g p)(ht:SS K C t et):SS K C (Jep wi g t) (Ve it p et):=by
 intro B H0 H σ E o D I e f;obtain⟨ds,e1,e⟩:=bind_some e;refine hi B H0 H σ E ds _ I e1 fun J H1 H1' s1 ok=>?_
 rw[if_neg (by simp)] at ok;refine⟨fun i m σ' H'=>m=ds.length-i/\i<=ds.length/\∃H0' E',EnvR K C B H0' H' σ' E'/\SStep B H1 H0' H'/\Yh p et (ds.drop i) E'=some o,
  ⟨ds.length,by simp,Nat.zero_le _,H1,E,I.step s1,.refl (I.b.trans s1.h) s1.i,e⟩,?_⟩
 rintro i m σ' H' ⟨rfl,hi',H0',E',I',st,er⟩;have stop:=ok H0' H' st;have f':Fin K C B H0' D o:=(f.step (s1.ss I.b)).step st
 by_cases hlt:i<ds.length
 ·have hd:ds[i]?=some ds[i]:=by simp[hlt]
  obtain⟨go,yl⟩:=stop.1 i _ hd;refine .inr ⟨go,fun σ2 H2=>∃H02 E2,EnvR K C B H02 H2 σ2 E2/\SStep B H1 H02 H2/\Yh p et (ds.drop (i+1)) E2=some o,fun σ2 H2 h=>⟨ds.length-(i+1),by omega,rfl,hlt,h⟩,fun x H2 y=>?_⟩;obtain⟨H02,st2,rx⟩:=yl x H2 y;rw[List.drop_eq_getElem_cons hlt,Yh] at er;obtain⟨E1,b1,er⟩:=bind_some er;obtain⟨o1,b2,er⟩:=bind_some er;have ss2:SStep B H0' H02 H2:=st2.ss I'.b;refine hg B H02 H2 σ' E' E1 x _ _ (I'.step st2) rx b1 fun σ2 I2=>?_
  refine ht B H02 H2 σ2 E1 o1 _ I2 b2 ?_
  cases o1 with
  | nx E2=>exact fun σ3 H3 H3' s3 I3=>⟨H3,E2,I3,(st.trans ss2).trans s3,er⟩
  | ct E2=>exact fun σ3 H3 H3' s3 I3=>⟨H3,E2,I3,(st.trans ss2).trans s3,er⟩
  | bk E2=>cases er;exact f'.step ss2
  | rt r=>cases er;exact f'.step ss2
 ·have e3:i=ds.length:=by omega
  subst e3;rw[List.drop_length,Yh] at er;cases er;exact .inl ⟨stop.2,f' _ _ _ I'.ss I'⟩
end

noncomputable def JbP:Out->Option Sl
 | .nx _=>some (.sh .non)
 | .rt r=>some r
 | .bk _=>none
 | .ct _=>none
noncomputable def Uh(N:Nat)(b:Es):List Sl->Option Sl:=fun as=>(b (as++List.replicate (N-as.length) .no)).bind JbP
section
variable{K:Frag}{C:Addr}
theorem RRL.get{Hs H0 H:Hp}:∀{vs:List V} {ss:List Sl} {i:Nat} {s:Sl},RRL K C Hs H0 H vs ss->ss[i]?=some s->∃v,vs[i]?=some v/\RR K C Hs H0 H v s
 | _,_,_,_,.nil,e=>by simp at e
 | _,_,0,_,.cons h _,e=>by simp at e;subst e;exact⟨_,rfl,h⟩
 | _,_,i+1,s,.cons _ t,e=>by obtain⟨v,h1,h2⟩:=RRL.get (i:=i) (s:=s) t (by simpa using e);exact⟨v,by simpa using h1,h2⟩
theorem Yj{N:List Str}{n:Nat}{b:Es}{ts:TS}{vs:List V}{H:Hp}{Q:VK}{E:XK}(hb:SS K C ts b)(h:spE K C n (Uh N.length b) vs H Q E):ts { nx:=fun _ H'=>Q .non H',rt:=Q } (L2.Yg N vs) H:=by
 obtain⟨H0,as,r,i,ra,ho,hl,e,q⟩:=h;have lens:=ra.len
 have noOwn:∀(j:Nat) (s:Sl),as[j]?=some s->JG s=false:=fun j s e=>by
  have:=List.all_eq_true.mp ho s (List.mem_of_getElem? e)
  simpa using this
 have get:∀(j:Nat) (s:Sl),(as++List.replicate (N.length-as.length) Sl.no)[j]?=some s->s=.no\/as[j]?=some s:=fun j s e=>by
  by_cases hj:j<as.length
  ·rw[List.getElem?_append_left hj] at e;exact .inr e
  ·rw[List.getElem?_append_right (by omega),List.getElem?_replicate] at e;split at e
   ·cases e;exact .inl rfl
   ·cases e
 have I:EnvR K C H H0 H (L2.Yg N vs) (as++List.replicate (N.length-as.length) .no):=by
  refine⟨Same.refl _,i,by simp[L2.Yg,lens],fun j s e=>?_,fun j k s1 s2 v hjk e1 e2 w1 w2=>?_⟩
  ·rcases get j s e with z|z
   ·exact .inl z
   ·obtain⟨v,h1,h2⟩:=ra.get z;refine .inr ⟨v,?_,?_⟩
    ·unfold L2.Yg;rw[List.getElem?_append_left (by have:=(List.getElem?_eq_some_iff.mp h1).1;simpa using this),List.getElem?_map,h1];rfl
    ·cases s with
     | no=>trivial
     | sh d=>exact h2
     | bo ds=>exact h2
     | own ds=>exact absurd (noOwn j _ z) (by simp[JG])
     | bd ks ds=>exact h2
     | od ks ds=>exact absurd (noOwn j _ z) (by simp[JG])
  ·rcases get j _ e1 with z|z
   ·subst z;cases w1
   ·rw[noOwn j _ z] at w1;cases w1
 obtain⟨o,e1,e⟩:=bind_some e;refine hb H H0 H _ _ o _ I e1 ?_
 cases o with
 | nx E1=>cases e;exact fun σ' H1 H1' s1 I1=>q _ H1 H1' ⟨s1.b,s1.z,s1.n,s1.i⟩ RD.non
 | rt r'=>cases e;exact fun v H1 H1' s1 r1=>q v H1 H1' ⟨s1.b,s1.z,s1.n,s1.i⟩ r1
 | bk _=>cases e
 | ct _=>cases e
theorem JaI{P:Program}{w:World}{mg:Str->Option Value}{base:Heap}{k:Nat}{f:Addr}{fd:FuncData}{ps:List Str}{ev:List Sl->Option Sl}(F:FnOk P w K mg base CX0 k f fd ps (spE K C 1 ev))
 (h:∀ns:List Int,ns.length<=63->ev [.sh (.fz (ns.map .int))]=some (.sh (.bl true))):FnOk P w K mg base CX0 k f fd ps (Ww K) :=
 F.imp fun vs H Q E ⟨a,ns,e,hS,hl,q⟩=>by subst e;exact⟨H,[.sh (.fz (ns.map .int))],_,Same.refl _,.cons (show RD K C H _ _ from RD.mkF hS (RDL.ofInts ns)) .nil,rfl,rfl,h ns hl,fun v H0' H' _ r=>by rw[RD.blI r];exact q H'⟩
structure RowK (K:Frag) (C:Addr):Prop where
 t:RowC K C
 k1:findIn K (.ref C) "__class__"=some (some (.builtin "object.__class__"))
 k2:specialIn K (.builtin "object.__class__") "__get__"=some (some (.builtin "getset_descriptor.__get__"))
 k3:takesIn K (.builtin "object.__class__")=some true
 k4:mroIn K C (.type "object")=some true
end
end LE

namespace L2
open PySem PySem.Spec PyProof.Rows
end L2
namespace LE
open PySem L2 LR
noncomputable def Jb6(a:Int):Bool:=Nat.ble a.natAbs 1152921504606846975
theorem in60_ok{a:Int}:Jb6 a=true↔-1152921504606846976<a/\a<1152921504606846976:=by unfold Jb6;rw[Nat.ble_eq];omega
section
variable{K:Frag}{C:Addr}{m:Bool}
noncomputable def UW:List Sl->Option Sl
 | [.sh (.int i)]=>if i.natAbs.log2<1920 then some (.sh (.str (strI i))) else none
 | _=>none
theorem Jbr:Vf K C JcM UW:=by
 intro Hs H0 H xs as c Q i hs r e q;unfold UW at e;split at e
 ·split at e
  ·next hl=>cases e;obtain⟨v,rfl,r0⟩:=r.one;rw[RD.intI r0];exact Jc9 hl (q _ _ _ (.refl i) (RD.str _))
  ·cases e
 ·cases e
noncomputable def MtS(K:Frag)(C:Addr)(rm:V->List V->Hp->VK->Prop)(f:Str->List Sl->Option Sl):Prop:=∀(Hs H0 H:Hp) (z:Str) (xs:List V) (as:List Sl) (c:Sl) (Q:VK),Same H0 H->Same Hs H->RRL K C Hs H0 H xs as->f z as=some c ->
 (∀v H0' H',Step Hs H0 H H0' H'->RR K C Hs H0' H' v c->Q v H')->rm (.str z) xs H Q
noncomputable def str?:Sl->Option Str
 | .sh (.str z)=>some z
 | _=>none
noncomputable def eM(f:Str->List Sl->Option Sl)(o:Ev)(as:En->Option (List Sl)):Ev:=fun E=>(o E).bind fun a=>(str? a).bind fun z=>(as E).bind fun xs=>f z xs
theorem Ux{s:Sl}{z:Str}(e:str? s=some z):s=.sh (.str z):=by
 cases s with
 | sh d=>cases d with
  | str x=>cases e;rfl
  | _=>cases e
 | _=>cases e
theorem Jej{rm:V->List V->Hp->VK->Prop}{f:Str->List Sl->Option Sl}{to:TE}{eo:Ev}{t:TA}{ev:En->Option (List Sl)}(hm:MtS K C rm f)(ho:SE K C to eo)(ha:SA K C t ev):SE K C (tBM K "str" rm to t) (eM f eo ev):=by
 intro B H0 H σ E c Q I e q;obtain⟨a,e1,e⟩:=bind_some e;obtain⟨z,e2,e0⟩:=bind_some e;obtain⟨as,e3,e4⟩:=bind_some e0;obtain rfl:=Ux e2;refine ho B H0 H σ E _ _ I e1 fun x H1 H1' s1 r1=>?_
 rw[RD.strI r1];refine⟨rfl,ha B H1 H1' σ E as _ (I.step s1) e3 fun xs H2 H2' s2 r2=>?_⟩;exact hm H H2 H2' z xs as c Q s2.i (s1.h.trans s2.h) (r2.weak fun a q=>Same.free s1.h q) e4 fun v H3 H3' s3 r3=>q v H3 H3' ((s1.trans s2).comp s3 fun _ z=>z) r3
end
end LE

namespace LE
open PySem L2 LR
noncomputable def okS(P:En->Prop):Option Out->Prop
 | some (.nx E)=>P E
 | some (.ct E)=>P E
 | _=>False
theorem Jcv{P:En->Prop}{E:En}:okS P (some (.nx E))=P E:=rfl
theorem Jcu{P:En->Prop}{E:En}:okS P (some (.ct E))=P E:=rfl
theorem Zw{P:En->Prop}{o:Option Out}(h:okS P o):∃E,(o=some (.nx E)\/o=some (.ct E))/\P E:=by
 unfold okS at h;split at h
 ·exact⟨_,.inl rfl,h⟩
 ·exact⟨_,.inr rfl,h⟩
 ·exact h.elim
theorem Vm{α:Type}{p:Pt}{a:Ev}{E1:En}{f g:α->D}:∀{xs:List α},(∀x∈xs,((p.bind (f x) E1).bind a).bind Sl.frz=some (g x))->Yz p yes? a E1 (xs.map f)=some (xs.map g)
 | [],_=>rfl
 | x::xs,h=>by have h1:=h x List.mem_cons_self;obtain⟨s,e1,e2⟩:=bind_some h1;obtain⟨E2,e3,e4⟩:=bind_some e1;rw[List.map_cons,Yz,e3];simp only[Option.bind_some,yes?,if_true,e4,e2];rw[Vm fun y hy=>h y (List.mem_cons_of_mem _ hy)];rfl
theorem Jbf:sizeLine=16777216:=rfl
structure Kd {α:Type} (f:α->D) (n:Nat):Prop where
 lay:∀a,(f a).py.canLay0=true
 dep:∀a,(f a).py.depth<=n
 eqv:∀a b,PyData.eqv (f a).py (f b).py=true↔a=b
theorem Kd.eq{α:Type}[DecidableEq α]{f:α->D}{n:Nat}(k:Kd f n)(h:n<=60)(a b:α):eqD (f a) (f b)=some (decide (a=b)):=by unfold eqD;have:=k.dep a;rw[k.lay a,k.lay b,if_pos (by simp;omega)];congr 1;rw[Bool.eq_iff_iff,k.eqv];simp
theorem Jcd:Kd D.int 1:=⟨fun _=>rfl,fun _=>by simp[D.py,PyData.depth],fun a b=>by show(a == b)=true↔_;simp⟩
theorem YX{α:Type}{f:α->D}{n:Nat}(k:Kd f n):(∀xs:List α,PyData.canLayAll0 (D.pyL (xs.map f))=true)/\(∀xs:List α,PyData.depthAll (D.pyL (xs.map f))<=n)/\∀xs ys:List α,PyData.eqvAll (D.pyL (xs.map f)) (D.pyL (ys.map f))=true↔xs=ys:=by
 refine⟨fun xs=>?_,fun xs=>?_,fun xs=>?_⟩
 ·induction xs with
  | nil=>rfl
  | cons x xs ih=>show(PyData.canLay0 _ && PyData.canLayAll0 _)=true;rw[k.lay,ih];rfl
 ·induction xs with
  | nil=>simp[D.pyL,PyData.depthAll]
  | cons x xs ih=>have:=k.dep x;simp only[List.map_cons,D.pyL,PyData.depthAll];omega
 ·induction xs with
  | nil=>intro ys;cases ys with
   | nil=>simp[D.pyL,PyData.eqvAll]
   | cons y ys=>simp[D.pyL,PyData.eqvAll]
  | cons x xs ih=>intro ys;cases ys with
   | nil=>simp[D.pyL,PyData.eqvAll]
   | cons y ys=>simp only[List.map_cons,D.pyL,PyData.eqvAll,Bool.and_eq_true,k.eqv,ih,List.cons.injEq]
theorem Zo{α:Type}{f:α->D}{n:Nat}(k:Kd f n):Kd (fun xs:List α=>D.lst (xs.map f)) (n+1) :=
 ⟨fun xs=>(YX k).1 xs,fun xs=>by have:=(YX k).2.1 xs;simp only[D.py,PyData.depth];omega,fun xs ys=>by simp only[D.py,PyData.eqv];exact(YX k).2.2 xs ys⟩
theorem Jce{α:Type}{f:α->D}{n:Nat}(k:Kd f n):Kd (fun xs:List α=>D.tup (xs.map f)) (n+1) :=
 ⟨fun xs=>(YX k).1 xs,fun xs=>by have:=(YX k).2.1 xs;simp only[D.py,PyData.depth];omega,fun xs ys=>by simp only[D.py,PyData.eqv];exact(YX k).2.2 xs ys⟩
theorem kd_pr:Kd prE 2:=⟨fun _=>rfl,fun _=>by simp[prE,D.py,D.pyL,PyData.depth,PyData.depthAll],fun a b=>by obtain⟨a1,a2⟩:=a;obtain⟨b1,b2⟩:=b;simp[prE,D.py,D.pyL,PyData.eqv,PyData.eqvAll]⟩
theorem JbX(a b:Pr):eqD (prE a) (prE b)=some (decide (a=b)):=kd_pr.eq (by decide) a b
theorem Jal(a b:List Pr):eqD (.lst (a.map prE)) (.lst (b.map prE))=some (decide (a=b)):=(Zo kd_pr).eq (by decide) a b
theorem Jam(a b:List Pr):eqD (.tup (a.map prE)) (.tup (b.map prE))=some (decide (a=b)):=(Jce kd_pr).eq (by decide) a b
theorem Ze(a b:List Int):eqD (.lst (a.map .int)) (.lst (b.map .int))=some (decide (a=b)):=(Zo Jcd).eq (by decide) a b
section
variable{a b:Int}{xs ys:List D}{d:D}{x y:Str}{E:En}{B:Es}{r:Sl}
theorem Jbd:ZW B (.nx E)=B E:=rfl
theorem Jbe:ZW B (.rt r)=some (.rt r):=rfl
theorem Jbb:ZW B (.bk E)=some (.bk E):=rfl
theorem Jbc:ZW B (.ct E)=some (.ct E):=rfl
theorem Jai:JbP (.nx E)=some (.sh .non):=rfl
theorem Jaj:JbP (.rt r)=some r:=rfl
theorem JdG{g:Int->Int->D}:fI g (.sh (.int a)) (.sh (.int b))=some (.sh (g a b)):=rfl
theorem Jay(h:0<b):J1 (.sh (.int a)) (.sh (.int b))=some (.sh (.int (a % b))):=by show(if _ then _ else _)=_;rw[if_pos (by simpa using h)]
theorem Jax(h:0<b/\b<1073741824):Yo (.sh (.int a)) (.sh (.int b))=some (.sh (.int (a / b))):=by show(if _ then _ else _)=_;rw[if_pos (smallP_ok.mpr h)]
theorem JaA(h:0<=b/\b<=1000000/\-1000<a/\a<1000):YB (.sh (.int a)) (.sh (.int b))=some (.sh (.int (a ^ b.toNat))):=by show(if _ then _ else _)=_;rw[if_pos];simp only[Bool.and_eq_true,decide_eq_true_eq,Nat.ble_eq,Uv];omega
theorem Jaz:VW (.sh (.int a))=some (.sh (.int (-a))):=rfl
theorem Jaq:JS (.sh (.int a)) (.sh (.int b))=some (.sh (.int (a+b))):=rfl
theorem Ya(h:x.length+y.length<=16777216):JS (.sh (.str x)) (.sh (.str y))=some (.sh (.str (x++y))):=if_pos h
theorem Yi{p q:Sl}(h1:p.m=some xs)(h2:q.m=some ys)(h:xs.length+ys.length<=16777216):WI p q=some (.own (xs++ys)):=by unfold WI;rw[h1,h2];exact if_pos h
theorem Wj(h:xs.length+ys.length<=16777216):JS (.own xs) (.own ys)=some (.own (xs++ys)):=Yi rfl rfl h
theorem Jat(h:xs.length+ys.length<=16777216):JS (.own xs) (.bo ys)=some (.own (xs++ys)):=Yi rfl rfl h
theorem Jao(h:xs.length+ys.length<=16777216):JS (.bo xs) (.own ys)=some (.own (xs++ys)):=Yi rfl rfl h
theorem Jan(h:xs.length+ys.length<=16777216):JS (.bo xs) (.bo ys)=some (.own (xs++ys)):=Yi rfl rfl h
theorem Jau(h:xs.length+ys.length<=16777216):JS (.own xs) (.sh (.lst ys))=some (.own (xs++ys)):=Yi rfl rfl h
theorem Jav(h:xs.length+ys.length<=16777216):JS (.sh (.lst xs)) (.own ys)=some (.own (xs++ys)):=Yi rfl rfl h
theorem Jar(h:xs.length+ys.length<=16777216):JS (.sh (.lst xs)) (.bo ys)=some (.own (xs++ys)):=Yi rfl rfl h
theorem Jap(h:xs.length+ys.length<=16777216):JS (.bo xs) (.sh (.lst ys))=some (.own (xs++ys)):=Yi rfl rfl h
theorem Jas(h:xs.length+ys.length<=16777216):JS (.sh (.lst xs)) (.sh (.lst ys))=some (.own (xs++ys)):=Yi rfl rfl h
theorem Jb2(h:x.length<=16777216):YW [.sh (.str x)]=some (.sh (.int x.length)):=if_pos h
theorem Jb0:YW [.sh (.lst xs)]=some (.sh (.int xs.length)):=rfl
theorem JbZ:YW [.sh (.fz xs)]=some (.sh (.int xs.length)):=rfl
theorem Jb3:YW [.sh (.tup xs)]=some (.sh (.int xs.length)):=rfl
theorem JbY:YW [.bo xs]=some (.sh (.int xs.length)):=rfl
theorem Jb1:YW [.own xs]=some (.sh (.int xs.length)):=rfl
theorem JdJ:fIx (.sh (.lst xs)) (.sh (.int a))=(atI xs a).map .sh:=rfl
theorem JdI:fIx (.sh (.fz xs)) (.sh (.int a))=(atI xs a).map .sh:=rfl
theorem JdL:fIx (.sh (.tup xs)) (.sh (.int a))=(atI xs a).map .sh:=rfl
theorem JdH:fIx (.bo xs) (.sh (.int a))=(atI xs a).map .sh:=rfl
theorem JdK:fIx (.own xs) (.sh (.int a))=(atI xs a).map .sh:=rfl
theorem JaB(h:a.natAbs.log2<1920):UW [.sh (.int a)]=some (.sh (.str (strI a))):=if_pos h
theorem JbU:eqA (.int a) (.int b)=some (decide (a=b)):=rfl
theorem JbW:eqA (.str x) (.str y)=some (decide (x=y)):=rfl
theorem JbT{p q:Bool}:eqA (.bl p) (.bl q)=some (decide (p=q)):=rfl
theorem JbV(p q:Pr):eqA (prE p) (prE q)=some (decide (p=q)):=JbX p q
theorem JbR(p q:List Pr):eqA (.lst (p.map prE)) (.lst (q.map prE))=some (decide (p=q)):=Jal p q
theorem JbS(p q:List Pr):eqA (.tup (p.map prE)) (.tup (q.map prE))=some (decide (p=q)):=Jam p q
theorem JbQ(p q:List Int):eqA (.lst (p.map .int)) (.lst (q.map .int))=some (decide (p=q)):=Ze p q
theorem Jb8(h:-4611686018427387904<a/\a<4611686018427387904):JdQ a=true:=by unfold JdQ;rw[Nat.ble_eq];omega
theorem Jb7(h:-1152921504606846976<a/\a<1152921504606846976):Jb6 a=true:=in60_ok.mpr h
theorem ZY(h:0<a/\a<1073741824):Vc a=true:=smallP_ok.mpr h
theorem Jaw{s:Sl}{ns:List Bool}(e:s.q=some (ns.map .bl)):Zf [s]=some (.sh (.bl (ns.all id))):=by show(s.q.bind _)=_;rw[e,Option.bind_some,We];rfl
theorem Jbq{i:Nat}:(Pt.nm i).bind d E=if i<E.length then some (E.set i (.sh d)) else none:=by rw[Pt.bind]
theorem JdD{l:Pts}:(Pt.tp l).bind (.tup xs) E=l.bind xs E:=by rw[Pt.bind]
theorem Jaa:Pts.nil.bind [] E=some E:=by rw[Pts.bind]
theorem W5{q:Pt}{l:Pts}:(Pts.cons q l).bind (d::xs) E=(q.bind d E).bind fun E'=>l.bind xs E':=by rw[Pts.bind]
theorem Jex:((0:Nat):Int)=0:=rfl
theorem Jey:((1:Nat):Int)=1:=rfl
theorem Jez:((2:Nat):Int)=2:=rfl
theorem JeA:((3:Nat):Int)=3:=rfl
theorem JeB:((4:Nat):Int)=4:=rfl
theorem WO:D.isNon .non=true:=rfl
theorem WM:D.isNon (.int a)=false:=rfl
theorem Zl{k:Bool}:D.isNon (.bl k)=false:=rfl
theorem WQ:D.isNon (.str x)=false:=rfl
theorem WR:D.isNon (.tup xs)=false:=rfl
theorem WN:D.isNon (.lst xs)=false:=rfl
theorem Zn:D.isNon (.fz xs)=false:=rfl
theorem WP:D.isNon (.row xs)=false:=rfl
theorem Jck:Vt "int" "int"=true:=by decide
theorem JaF:Vt "int" "bool"=false:=by decide
theorem Jcj:Vt "bool" "bool"=true:=by decide
theorem Jcn:Vt "tuple" "tuple"=true:=by decide
theorem Jcl:Vt "list" "list"=true:=by decide
theorem Jcm:Vt "str" "str"=true:=by decide
end
end LE

namespace HT
open PySem PySem.Spec PyProof.Rows
section
variable{prog:Program}{w:World}{A:Around}{E:Value->Shared->Prop}{s:Shared}
theorem YJ{t sl:Addr}{items:Array Value}{vl vu:Value}{lo hi:Option Int}{Q:Value->Shared->Prop}(ht:IsTup s.heap t items)(hs:s.heap.IsSliceOf sl vl vu .none)(pl:IsPart vl lo)(pu:IsPart vu hi)
 (hw:sIx items.size 0 lo=0/\sIx items.size items.size hi=items.size) (h:Q (.ref t) s):wpAny (model prog w) A (getItem (.ref t) (.ref sl)) Q E s:=by
 obtain⟨os,hos,hcs,hds⟩:=id hs;have hTs:s.TypeIs (.ref sl) "slice":=⟨os,hos,hcs⟩
 unfold getItem
 try with_reducible refine wpAny_holding ?_
 first|refine wpAny_bind (wpAny_pure ?_)|skip
 refine wpAny_bind (wpAny_sequenceKey ht.typeIs (by decide) ?_);refine wpAny_bind (wpAny_callSpecial?_slot (name:=Str.ofString "__getitem__") ht.typeIs PyProof.Rows.slot_tuple_getitem
  (wpAny_call_entry PyProof.Rows.slot_tuple_getitem ht.typeIs entry_tuple_getitem ?_ (args_tuple_getitem _ _)))
 show wpAny _ _ (Builtin.Tuple.tupleItemsOf (.ref t) >>= _) _ _ s;refine wpAny_bind (tupleItemsOf_ ht ?_);refine wpAny_bind (wpAny_typeOf hTs ?_);rw[if_pos (by decide)];refine wpAny_bind (Yf hs pl pu ?_)
 have yes:(((sIx items.size 0 lo:Nat):Int) == 0 && (1:Int) == 1 && (sIx items.size items.size hi-sIx items.size 0 lo) == items.size)=true:=by rw[hw.1,hw.2];simp
 show wpAny _ _ (if (((sIx items.size 0 lo:Nat):Int) == 0 && (1:Int) == 1 && (sIx items.size items.size hi-sIx items.size 0 lo) == items.size)=true then _ else _) _ _ s;rw[if_pos yes];unfold Builtin.Tuple.tupleIsExact;refine wpAny_bind (wpAny_bind (wpAny_typeOf ht.typeIs (wpAny_pure ?_)));rw[if_pos (by decide)];refine wpAny_bind (wpAny_rule ?_);exact wpAny_pure ⟨_,rfl,wpAny_pure h⟩
end
end HT
namespace L2
open PySem PySem.Spec PyProof.Rows
section
variable{X:Cx}{K:Frag}
noncomputable def Jea(K:Frag):V->Option Int->Option Int->Hp->VK->Prop:=fun x lo hi H Q=>∃a xs,x=.ref a/\SqT K H a xs/\(HT.sIx xs.length 0 lo=0/\HT.sIx xs.length xs.length hi=xs.length)/\Q (.ref a) H
theorem ZX:SlR X (Jea X.K):=by
 intro pins s σ H x v vl vu lo hi sl Q I rx hs pl pu h;obtain⟨a,xs,rfl,hx,hw,q⟩:=h;cases rx;obtain⟨its,r,ht,hz⟩:=I.tuple hx;have hlen:its.toArray.size=xs.length:=by rw[List.size_toArray];exact r.length.symm
 refine⟨"tuple",_,PyProof.Rows.slot_tuple_getitem.lookup,ht.typeIs,?_⟩;exact HT.YJ ht hs pl pu (by rw[hlen];exact hw) ⟨.ref a,H,I,rfl,q⟩
noncomputable def JcL(K:Frag):V->Option Int->Option Int->Hp->VK->Prop:=fun x lo hi H Q=>Jd7 K x lo hi H Q\/Jd9 K x lo hi H Q\/Jea K x lo hi H Q
theorem Jbg(hK:X.K=K):SlR X (JcL K):=by subst hK;exact sl_list.or (sl_tup.or ZX)
end
end L2
namespace LE
open PySem L2 LR
noncomputable def YV{α:Type}(xs:List α)(lo hi:Option Int):List α:=(xs.drop (HT.sIx xs.length 0 lo)).take (HT.sIx xs.length xs.length hi-HT.sIx xs.length 0 lo)
noncomputable def fSl(s:Sl)(lo hi:Option Int):Option Sl:=match s with
 | .sh (.tup ds)=>some (.sh (.tup (YV ds lo hi)))
 | s=>s.r.map fun ds=>.own (YV ds lo hi)
noncomputable def Yn(o:Option Ev):En->Option (Option Int):=fun E=>match o with
 | none=>some none
 | some a=>(a E).bind fun s=>match s with
  | .sh (.int i)=>some (some i)
  | _=>none
noncomputable def eSl(a:Ev)(lo hi:Option Ev):Ev:=fun E=>(a E).bind fun s=>(Yn lo E).bind fun l=>(Yn hi E).bind fun h=>fSl s l h
section
variable{K:Frag}{C:Addr}{te:TE}{ea:Ev}{tl th:TO}{el eh:Option Ev}
noncomputable def SP'(K:Frag)(C:Addr)(t:TO)(ev:En->Option (Option Int)):Prop:=∀(B H0 H:Hp) (σ:St) (E:En) (r:Option Int) (Q:Option Int->Hp->Prop),EnvR K C B H0 H σ E->ev E=some r ->
 (∀H0' H',Step H H0 H H0' H'->Q r H')->t σ H Q
theorem YY:SP' K C Wz (Yn none):=fun _ _ _ _ _ _ _ I e q=>by cases e;exact q _ _ (.refl I.h)
theorem YZ(ha:SE K C te ea):SP' K C (JbF te) (Yn (some ea)):=by
 intro B H0 H σ E r Q I e q;obtain⟨s,e1,e⟩:=bind_some e;split at e
 ·cases e;exact ha B H0 H σ E _ _ I e1 fun x H1 H1' s1 r1=>⟨_,RD.intI r1,q _ _ s1⟩
 ·cases e
theorem RDL.cut{H:Hp}{xs:List V}{ds:List D}{lo hi:Option Int}(r:RDL K C H xs ds):RDL K C H (UA xs lo hi) (YV ds lo hi):=by unfold UA YV;rw[r.1];exact(r.drop _).take _
theorem JeO(ha:SE K C te ea)(hl:SP' K C tl (Yn el))(hh:SP' K C th (Yn eh)):SE K C (tSl (JcL K) te tl th) (eSl ea el eh):=by
 intro B H0 H σ E c Q I e q;obtain⟨s,e1,e⟩:=bind_some e;obtain⟨l,e2,e⟩:=bind_some e;obtain⟨h,e3,e⟩:=bind_some e;refine ha B H0 H σ E _ _ I e1 fun x H1 H1' s1 r1=>hl B H1 H1' σ E l _ (I.step s1) e2 fun H2 H2' s2=>hh B H2 H2' σ E h _ (I.step (s1.trans s2)) e3 fun H3 H3' s3=>?_
 have s13:=(s1.trans s2).trans s3
 have r3:=(r1.step s2).step s3
 have lst:∀{ds:List D},s.r=some ds->c=.own (YV ds l h)->JcL K x l h H3' Q:=fun {ds} er ec=>by subst ec;obtain⟨a,xs,rfl,hq,r⟩:=r3.r s13.i er;exact .inl ⟨a,xs,rfl,hq,fun p hp=>Ua s13.i s13.h hp r.cut fun v H4 H4' s4 r4=>q v H4 H4' (s13.comp s4 fun _ z=>z) r4⟩
 unfold fSl at e;split at e
 ·cases e;obtain⟨a,xs,rfl,hq,r⟩:=RD.tupI r3
  by_cases hw:HT.sIx xs.length 0 l=0/\HT.sIx xs.length xs.length h=xs.length
  ·refine .inr (.inr ⟨a,xs,rfl,s13.i.seqT hq,hw,q _ _ _ s13 ?_⟩);have e5:UA xs l h=xs:=by unfold UA;rw[hw.1,hw.2];simp
   have r5:=r.cut (lo:=l) (hi:=h);rw[e5] at r5;exact RD.mkT hq r5
  ·exact .inr (.inl ⟨a,xs,rfl,s13.i.seqT hq,hw,fun p hp=>WA s13.i s13.h hp r.cut fun v H4 H4' s4 r4=>q v H4 H4' (s13.comp s4 fun _ z=>z) r4⟩)
 ·obtain⟨ds,e4,e5⟩:=map_some e;exact lst e4 e5.symm
end
end LE

namespace PySem
section
variable{prog:Program}{w:World}{A:Around}
theorem Draws.tup(hh:A.handled=none)(j a:Addr)(ne:a≠j)(xs:Array Value):Draws prog w A j [j,a] xs.size (fun i v=>xs[i]?=some v) (fun i h=>h.IsTupleIter j a i/\h.IsTuple a xs) where
 live:=fun _ _ q=>let ⟨o,ho,_⟩:=q.1;⟨o,ho⟩
 frame:=fun _ _ _ q k=>⟨q.1.at fun o e=>k j (by simp) o e,q.2.at fun o e=>k a (by simp) o e⟩
 item:=fun i s Q E hi q hQ=>by
  obtain⟨o,ho,hc,hd⟩:=id q.1;obtain⟨ol,hol,_,nl,hdl⟩:=id q.2;have hx:xs[i]?=some xs[i]:=by simp[hi]
  unfold Builtin.SmallTypes.nextOf;refine wpAny_bind (wpAny_callSpecial?_slot (name:=Str.ofString "__next__") q.1.typeIs F.slot_tuple_iterator_next (wpAny_call_entry F.slot_tuple_iterator_next q.1.typeIs F.entry_tuple_iterator_next ?_ (F.args_tuple_iterator_next_1 _)));show wpAny _ _ (field (.ref j) 0 >>= _) _ _ s;refine wpAny_bind (wpAny_field ho hd (x:=.ref a) rfl ?_);show wpAny _ _ (if (Value.ref a == Value.none)=true then _ else _) _ _ s;rw[if_neg (show ¬((Value.ref a == Value.none)=true) from Bool.false_ne_true)]
  show wpAny _ _ (field (.ref j) 1 >>= _) _ _ s;refine wpAny_bind (wpAny_field ho hd (x:=.int i 0) rfl (show wpAny _ _ (seqItems? (.ref a) >>= _) _ _ s from wpAny_bind (wpAny_seqItems hol hdl ?_)));simp only[Int.toNat_natCast,hx];refine wpAny_bind (wpAny_setField ho hd (by simp) (wpAny_pure ⟨xs[i],rfl,wpAny_pure (hQ _ _ s.toks hx ⟨⟨_,Heap.get?_update_self _ ho (Obj.isFreed_of_fields (Obj.data_mapFields hd _)),(Obj.cls_mapFields ..).trans hc,?_⟩,q.2.extBut (Heap.SameBut.update ..).extBut ne⟩ (Heap.SameBut.update ..))⟩))
  rw[Obj.data_mapFields hd];simp[rawInt]
 done:=fun s Q E q hE=>by
  obtain⟨o,ho,hc,hd⟩:=id q.1;obtain⟨ol,hol,_,nl,hdl⟩:=id q.2;have hx:xs[xs.size]?=none:=by simp
  unfold Builtin.SmallTypes.nextOf;refine wpAny_bind (wpAny_callSpecial?_slot (name:=Str.ofString "__next__") q.1.typeIs F.slot_tuple_iterator_next (wpAny_call_entry F.slot_tuple_iterator_next q.1.typeIs F.entry_tuple_iterator_next ?_ (F.args_tuple_iterator_next_1 _)));show wpAny _ _ (field (.ref j) 0 >>= _) _ _ s;refine wpAny_bind (wpAny_field ho hd (x:=.ref a) rfl ?_);show wpAny _ _ (if (Value.ref a == Value.none)=true then _ else _) _ _ s;rw[if_neg (show ¬((Value.ref a == Value.none)=true) from Bool.false_ne_true)]
  show wpAny _ _ (field (.ref j) 1 >>= _) _ _ s;refine wpAny_bind (wpAny_field ho hd (x:=.int xs.size 0) rfl (show wpAny _ _ (seqItems? (.ref a) >>= _) _ _ s from wpAny_bind (wpAny_seqItems hol hdl ?_)));simp only[Int.toNat_natCast,hx];refine wpAny_bind (wpAny_rule (wpAny_bind (wpAny_setField ho hd (by simp) (show wpAny _ _ (newExc (.type "StopIteration") [] >>= _) _ _ _ from wpAny_bind ?_))));simp only[newExc,newTuple];refine wpAny_bind (wpAny_newObj_type (wpAny_bind (m:=firstArgMember _ _) (wpAny_of_eq (a:=Value.none) (by first | rfl | (simp only[firstArgMember];rfl)) (wpAny_newObj_type ?_ (by size_fits)))) (by size_fits))
  simp only[raiseNew];refine wpAny_bind (wpAny_handled ?_)
  first|rw[show A.in1.handled=none from hh]|rw[hh]
  refine wpAny_bind (wpAny_pure (wpAny_throw ?_));exact hE _ _ (((Heap.SameBut.update ..).extBut.push _).push _) ⟨_,Heap.get?_push_size _ rfl,rfl⟩
end

structure ZA (z TI TO i1 i2:Addr) (p1 p2:List Addr):Prop where
 a1:TI≠z
 a2:TO≠z
 a3:TI≠TO
 m1:i1∈p1
 m2:i2∈p2
 z1:z∉p1
 z2:z∉p2
 t1:TI∉p1
 t2:TI∉p2
 o1:TO∉p1
 o2:TO∉p2
 x1:i1∉p2
 x2:i2∉p1
section
variable{prog:Program}{w:World}{A:Around}{E:Value->Shared->Prop}{s:Shared}{z TI TO i1 i2:Addr}{p1 p2:List Addr}{n1 n2 k:Nat}{P1 P2:Nat->Value->Prop}{S1 S2:Nat->Heap->Prop}
end
end PySem

namespace PySem
def IsSq(b:Bool)(h:Heap)(a:Addr)(xs:Array Value):Prop:=match b with
 | true=>h.IsTuple a xs
 | false=>h.IsList a xs
def IsItr(b:Bool)(h:Heap)(j a:Addr)(i:Nat):Prop:=match b with
 | true=>h.IsTupleIter j a i
 | false=>h.IsListIter j a i
def itO(b:Bool)(a:Addr):Obj:=match b with
 | true=>{ cls:=.type "tuple_iterator",data:=.fields #[.ref a,.int 0 0] }
 | false=>{ cls:=.type "list_iterator",data:=.fields #[.ref a,.int 0 0] }
section
variable{prog:Program}{w:World}{A:Around}{E:Value->Shared->Prop}{s:Shared}{b b1 b2:Bool}{a a1 a2:Addr}{xs ys:Array Value}
theorem IsSq.push{h:Heap}(q:IsSq b h a xs)(o:Obj):IsSq b (h.push o) a xs:=by
 cases b with
 | true=>exact Heap.IsTuple.push q o
 | false=>exact Heap.IsList.push q o
theorem IsSq.lt{h:Heap}(q:IsSq b h a xs):a<h.objs.size:=by
 cases b with
 | true=>obtain⟨o,e,_⟩:=q;exact Heap.lt_size e
 | false=>obtain⟨o,e,_⟩:=q;exact Heap.lt_size e
theorem IsItr.new{h:Heap}(e:h.get? a1=some (itO b a)):IsItr b h a1 a 0:=by
 cases b with
 | true=>exact⟨_,e,rfl,rfl⟩
 | false=>exact⟨_,e,rfl,rfl⟩
end
end PySem

namespace L2
open PySem PySem.Spec PyProof.Rows
section
variable{X:Cx}{pins:List (Addr×Obj)}{σ:St}{H:Hp}{s:Shared}{h':Heap}
noncomputable def Sq(b:Bool)(K:Frag)(H:Hp)(a:Addr)(xs:List V):Prop:=match b with
 | true=>SqT K H a xs
 | false=>SqL K H a xs
theorem Sq.heap{b:Bool}{a:Addr}{xs:List V}(I:Inv X pins σ H s)(q:Sq b X.K H a xs):∃its:List Value,Vals xs its/\IsSq b s.heap a its.toArray:=by
 cases b with
 | true=>obtain⟨its,r,p,_⟩:=I.tuple q;exact⟨its,r,p⟩
 | false=>obtain⟨its,r,p,_⟩:=I.list q;exact⟨its,r,p.isList⟩
theorem Sq.inj{b:Bool}{a:Addr}{xs ys:List V}(I:Inv X pins σ H s)(q:Sq b X.K H a xs)(q':Sq b X.K H a ys):xs=ys:=by
 cases b with
 | true=>exact I.tuple_inj q q'
 | false=>exact I.list_inj q q'
theorem FpOk.off{b:Bool}{a c:Addr}{xs:List V}(I:Inv X pins σ H s)(q:Sq b X.K H a xs)(f:FpOk X pins H c):a≠c:=by
 intro e;subst e;have own:∀{o:HO},H a=some o->False:=fun h=>by rw[f.1] at h;cases h
 have mod:∀{o:Obj},X.K.lookup a=some o->False:=fun {o} h=>by
  have hb:=I.ok.mod.kin a o h;rcases f.2.2.2.1 with z|z
  ·exact I.ok.noex a o hb z
  ·exact absurd (Heap.lt_size hb) (Nat.not_lt.mpr (Nat.le_trans I.ok.bsz z))
 cases b with
 | true =>
  rcases q with (h|⟨o,h⟩)|⟨o,its,n,h,_⟩
  ·exact own h
  ·exact own h
  ·exact mod h
 | false =>
  rcases q with (h|⟨o,h⟩)|⟨o,its,n,h,_⟩
  ·exact own h
  ·exact own h
  ·exact mod h
theorem IsItr.keep{b:Bool}{h h':Heap}{j a:Addr}{i:Nat}(q:IsItr b h j a i)(k:∀o,h.get? j=some o->h'.get? j=some o):IsItr b h' j a i:=by
 cases b with
 | true=>obtain⟨o,e,r⟩:=q;exact⟨o,k o e,r⟩
 | false=>obtain⟨o,e,r⟩:=q;exact⟨o,k o e,r⟩
theorem IsItr.obj{b:Bool}{h:Heap}{j a:Addr}{i:Nat}(q:IsItr b h j a i):∃o,h.get? j=some o/\∀v,o.data≠.cell v:=by
 cases b with
 | true=>obtain⟨o,e,_,d⟩:=q;exact⟨o,e,fun v z=>by rw[d] at z;cases z⟩
 | false=>obtain⟨o,e,_,d⟩:=q;exact⟨o,e,fun v z=>by rw[d] at z;cases z⟩
end
end L2

namespace LE
open PySem L2 LR
section
variable{K:Frag}{C:Addr}{m:Bool}
end
end LE

namespace PySem
namespace F
end F
section
variable{prog:Program}{w:World}{A:Around}{E:Value->Shared->Prop}{s:Shared}{a r:Addr}{xs:Array Value}
end
end PySem
namespace L2
open PySem PySem.Spec PyProof.Rows
end L2
namespace LE
open PySem L2 LR
section
variable{K:Frag}{C:Addr}{m:Bool}
end
end LE

namespace PySem
open AutoSeq1 (wpAny_loadPart')
section
variable{prog:Program}{w:World}{A:Around}{E:Value->Shared->Prop}{s:Shared}{b:Bool}{a e it:Addr}{xs:Array Value}
end
end PySem
namespace L2
open PySem PySem.Spec PyProof.Rows
end L2
namespace LE
open PySem L2 LR
section
variable{K:Frag}{C:Addr}{m:Bool}
end
end LE

namespace L2
open PySem PySem.Spec PyProof.Rows
section
variable{X:Cx}
end
end L2
namespace LE
open PySem L2 LR
section
variable{K:Frag}{C:Addr}
end
end LE

namespace PySem
namespace F
end F
section
variable{prog:Program}{w:World}{A:Around}{E:Value->Shared->Prop}{s:Shared}{l:Addr}{lo hi:Int}{t u v:Tok}
end
end PySem
namespace L2
open PySem PySem.Spec PyProof.Rows
end L2
namespace LE
open PySem L2 LR
section
variable{K:Frag}{C:Addr}{m:Bool}
end
end LE

namespace PySem
namespace F
end F
structure ZB (z TI TO i1 i2 i3:Addr) (p1 p2 p3:List Addr):Prop where
 a1:TI≠z
 a2:TO≠z
 a3:TI≠TO
 m1:i1∈p1
 m2:i2∈p2
 m3:i3∈p3
 z1:z∉p1
 z2:z∉p2
 z3:z∉p3
 t1:TI∉p1
 t2:TI∉p2
 t3:TI∉p3
 o1:TO∉p1
 o2:TO∉p2
 o3:TO∉p3
 x12:i1∉p2
 x13:i1∉p3
 x21:i2∉p1
 x23:i2∉p3
 x31:i3∉p1
 x32:i3∉p2
section
variable{prog:Program}{w:World}{A:Around}{E:Value->Shared->Prop}{s:Shared}{z TI TO i1 i2 i3:Addr}{p1 p2 p3:List Addr}{n1 n2 n3 k:Nat}{P1 P2 P3:Nat->Value->Prop}{S1 S2 S3:Nat->Heap->Prop}
end
end PySem

namespace PySem
section
variable{prog:Program}{w:World}{A:Around}{E:Value->Shared->Prop}{s:Shared}{b1 b2 b3:Bool}{a1 a2 a3:Addr}{xs ys zs:Array Value}
end
end PySem
namespace L2
open PySem PySem.Spec PyProof.Rows
end L2
namespace LE
open PySem L2 LR
section
variable{K:Frag}{C:Addr}{m:Bool}
end
end LE

namespace L2
open PySem PySem.Spec PyProof.Rows
section
variable{X:Cx}
end
end L2
namespace LE
open PySem L2 LR
section
variable{K:Frag}{C:Addr}
end
end LE

namespace PySem

section
variable{prog:Program}{w:World}{A:Around}{R:Result->Shared->Prop}{I:Addr}{fp wr:List Addr}{n:Nat}{P:Nat->Value->Prop}{St:Nat->Heap->Prop}
end
section
variable{prog:Program}{w:World}{A:Around}{E:Value->Shared->Prop}{s:Shared}{l:Addr}{xs:Array (Int×Tok)}
end

section
variable{prog:Program}{w:World}{A:Around}{R:Result->Shared->Prop}{I:Addr}{fp wr:List Addr}{n:Nat}{P:Nat->Value->Prop}{St:Nat->Heap->Prop}
end
section
variable{prog:Program}{w:World}{A:Around}{E:Value->Shared->Prop}{s:Shared}{l:Addr}{xs:Array (Int×Tok)}
end

end PySem

namespace L2
open PySem PySem.Spec PyProof.Rows

section
variable{X:Cx}
end
section
variable{X:Cx}
end
end L2
namespace LE
open PySem L2 LR

end LE

namespace LE
open PySem L2 LR

noncomputable def look{α:Type}:List Int->List α->Int->Option α
 | k::ks,d::ds,n=>if k=n then some d else look ks ds n
 | _,_,_=>none
section
variable{K:Frag}{C:Addr}{Hs H0 H:Hp}
theorem RDL.look:∀{ks:List Int} {xs:List V} {ds:List D} {n:Int},RDL K C H xs ds->(LE.look ks xs n=none/\LE.look ks ds n=none)\/∃x d,LE.look ks xs n=some x/\LE.look ks ds n=some d/\RD K C H x d
 | [],_,_,_,_=>.inl ⟨rfl,rfl⟩
 | _::_,[],[],_,_=>.inl ⟨rfl,rfl⟩
 | _::_,[],_::_,_,h=>by have:=h.1;simp at this
 | _::_,_::_,[],_,h=>by have:=h.1;simp at this
 | k::ks,x::xs,d::ds,n,h=>by
  simp only[LE.look]
  by_cases e:k=n
  ·rw[if_pos e,if_pos e];exact .inr ⟨x,d,rfl,rfl,h.head⟩
  ·rw[if_neg e,if_neg e];exact RDL.look h.tail
end
noncomputable def Sl.dk:Sl->Option (List Int×List D)
 | .sh (.dct ks ds)=>some (ks,ds)
 | .sh (.dfz ks ds)=>some (ks,ds)
 | .bd ks ds=>some (ks,ds)
 | .od ks ds=>some (ks,ds)
 | _=>none
noncomputable def int?:Sl->Option Int
 | .sh (.int i)=>some i
 | _=>none
section
variable{K:Frag}{C:Addr}{Hs H0 H:Hp}{td ty tx te:TE}{ed ek ex ea:Ev}
theorem RR.dk{v:V}{s:Sl}{p:List Int×List D}(r:RR K C Hs H0 H v s)(i:Same H0 H)(e:s.dk=some p):∃l xs,v=.ref l/\Rd H l (dkO p.1 xs)/\p.1.length=p.2.length/\RDL K C H0 xs p.2:=by
 cases s with
 | bd ks ds=>cases e;obtain⟨l,xs,h1,h2,h3⟩:=r;exact⟨l,xs,h1,.inl h2,h3⟩
 | od ks ds=>cases e;obtain⟨l,xs,h1,h2,_,_,h3⟩:=r;exact⟨l,xs,h1,.inl h2,h3⟩
 | sh d=>cases d with
  | dct ks ds=>cases e;obtain⟨l,xs,h1,h2,h3⟩:=RD.dctI r;exact⟨l,xs,h1,.inl (i _ _ h2),h3⟩
  | dfz ks ds=>cases e;obtain⟨l,xs,o,h1,h2,h3⟩:=RD.dfzI r;exact⟨l,xs,h1,.inr ⟨o,i _ _ h2⟩,h3⟩
  | _=>cases e
 | _=>cases e
end

section
variable{K:Frag}{C:Addr}{H:Hp}
theorem RDL.rep{xs:List V}{ds:List D}(r:RDL K C H xs ds):∀k:Nat,RDL K C H (List.replicate k xs).flatten (List.replicate k ds).flatten
 | 0=>.nil
 | k+1=>by rw[List.replicate_succ,List.replicate_succ,List.flatten_cons,List.flatten_cons];exact r.append (RDL.rep r k)
end
end LE

namespace L2
open PySem PySem.Spec PyProof.Rows
theorem KV.get{κ:Type}:∀{kvs:List (κ×V)} {vs:List (κ×Value)} {i:Nat} {p:κ×V},KV kvs vs->kvs[i]?=some p->∃u,vs[i]?=some (p.1,u)/\RelV p.2 u
 | _,_,0,p,.cons h _,e=>by simp at e;subst e;obtain⟨h1,h2⟩:=h;rename_i q _ _;exact⟨_,by simp;exact Prod.ext h1.symm rfl,h2⟩
 | _,_,i+1,p,.cons _ t,e=>by obtain⟨u,h1,h2⟩:=KV.get (i:=i) t (by simpa using e);exact⟨u,by simpa using h1,h2⟩
 | _,_,_,_,.nil,e=>by simp at e
end L2
namespace LE
open PySem L2 LR
noncomputable def JdS:List Int->List D->List D:=List.zipWith fun k d=>.tup [.int k,d]
section
variable{K:Frag}{C:Addr}{m:Bool}{t:TS}{et:Es}{td:TE}{ed:Ev}
end
end LE

namespace L2
open PySem PySem.Spec PyProof.Rows
section
variable{prog:Program}{w:World}{A:Around}{E:Value->Shared->Prop}{s:Shared}{T:String}{r d:Addr}{n:Nat}{P:Nat->Value->Prop}{OK:Heap->Prop}
end
end L2
namespace LE
open PySem L2 LR
section
variable{K:Frag}{C:Addr}{td:TE}{ed:Ev}
theorem Rd.put{H:Hp}{l p:Addr}{o u:HO}(h:Rd H l o)(hp:H p=none):Rd (upd H p u) l o:=by
 rcases h with h|⟨ob,h⟩
 ·exact .inl (by rw[Jg (Jn h hp)];exact h)
 ·exact .inr ⟨ob,by rw[Jg (Jn h hp)];exact h⟩
end
end LE

namespace L2
open PySem PySem.Spec PyProof.Rows
theorem Inv.more{X:Cx}{pins:List (Addr×Obj)}{σ:St}{H H':Hp}{s:Shared}{h':Heap}{t':Nat}(I:Inv X pins σ H s)(k:∀b u,s.heap.get? b=some u->h'.get? b=some u)(hx:∀b,b<s.heap.objs.size->H' b=H b)
 (new:∀b o,s.heap.objs.size<=b->H' b=some o->ObjOk X.prog X.w H' h' b o):Inv X pins σ H' { s with heap:=h',toks:=t' }:=by
 have old:∀b o,H b=some o->H' b=some o:=fun b o e=>by rw[hx b (I.hok.lt e)];exact e
 refine I.un ⟨fun b u q _ _ _=>k b u q,fun b u q _ _ _=>⟨u.slots,k b u q⟩,fun b u q n _=>by rw[hx b (Heap.lt_size q)];exact n,fun b u q _=>⟨u,k b u q⟩,fun b xs q=>old b _ q,fun b u xs q=>old b _ q,fun b ps q=>⟨#[],by rw[old b _ q];simp⟩⟩ fun b o e=>?_
 rcases Nat.lt_or_ge b s.heap.objs.size with z|z
 ·rw[hx b z] at e;exact(I.hok b o e).stay (fun c u _ q=>k c u q) (fun c q=>old c _ q) fun c xs q=>old c _ q
 ·exact new b o z e
end L2
namespace LE
open PySem L2 LR
section
variable{K:Frag}{C:Addr}{td:TE}{ed:Ev}
theorem RDL.items:∀{ks:List Int} {xs:List V} {ds:List D} {as:List Addr} {H:Hp},ks.length=ds.length->as.length=ks.length->(∀(j:Nat) (a:Addr) (k:Int) (x:V),as[j]?=some a->ks[j]?=some k->xs[j]?=some x->H a=some (.tup [.int k,x]))->RDL K C H xs ds->RDL K C H (as.map V.ref) (JdS ks ds)
 | [],[],[],[],_,_,_,_,_=>.nil
 | [],_,_,a::as,_,_,h,_,_=>by simp at h
 | [],_,d::ds,_,_,h,_,_,_=>by simp at h
 | k::ks,_,[],_,_,h,_,_,_=>by simp at h
 | k::ks,_,_,[],_,_,h,_,_=>by simp at h
 | [],x::xs,[],[],_,_,_,_,h=>by have:=h.1;simp at this
 | k::ks,[],d::ds,a::as,_,_,_,_,h=>by have:=h.1;simp at this
 | k::ks,x::xs,d::ds,a::as,H,h1,h2,h3,h4=>by show RDL K C H (V.ref a::as.map V.ref) (.tup [.int k,d]::JdS ks ds);refine .cons (.mkT (.of (h3 0 a k x rfl rfl rfl)) (.cons (.int k) (.cons h4.head .nil))) (RDL.items (by simpa using h1) (by simpa using h2) (fun j a k x e1 e2 e3=>h3 (j+1) a k x (by simpa using e1) (by simpa using e2) (by simpa using e3)) h4.tail)
end
end LE

namespace L2
open PySem PySem.Spec PyProof.Rows
theorem ObjOk.there{P:Program}{w:World}{H:Hp}{h:Heap}{a:Addr}{o:HO}(x:ObjOk P w H h a o):∃u,h.get? a=some u:=by
 cases o with
 | lst xs=>obtain⟨_,_,_,_,e⟩:=x;exact⟨_,e⟩
 | tup xs=>obtain⟨_,_,_,p⟩:=x;obtain⟨o,e,_⟩:=p;exact⟨_,e⟩
 | dK kvs=>obtain⟨_,_,_,_,o,_,_,e,_⟩:=x;exact⟨_,e⟩
 | dT kvs=>obtain⟨_,_,_,_,o,_,_,e,_⟩:=x;exact⟨_,e⟩
 | set S n=>obtain⟨o,_,_,_,e,_⟩:=x;exact⟨_,e⟩
 | ins C dx fs=>obtain⟨_,_,_,e,_⟩:=x;exact⟨_,e⟩
 | own y=>obtain⟨_,e⟩:=x;exact⟨_,e⟩
 | xd fs=>obtain⟨_,⟨_,_,_,e,_⟩,_⟩:=x;exact⟨_,e⟩
 | rng lo hi=>obtain⟨_,_,_,e⟩:=x;exact⟨_,e⟩
 | frz ob u=>obtain⟨e,_⟩:=x;exact⟨_,e⟩
 | tbl ps=>exact⟨_,(show h.get? a=some _ from x)⟩
 | met f y=>exact⟨_,(show h.get? a=some _ from x)⟩
 | ext φ=>obtain⟨_,⟨_,e⟩,_⟩:=x;exact⟨_,e⟩

noncomputable def TrD(h base:Heap)(e:Addr)(cls:Value)(dct:Option Addr)(fl:Value):Prop :=
 ∃oe vs T oT ts,h.get? e=some oe/\(oe.cls=cls/\oe.dict=dct)/\oe.data=.fields vs/\vs[1]?=some (.ref T)/\base.get? T=none/\T≠e/\h.get? T=some oT/\oT.data=.fields ts/\ts[3]?=some fl
noncomputable def Fl(base:Heap)(l:List Env)(e:Addr)(cls:Value)(h:Heap):Prop :=
 base.StaysIn h/\base.get? e=none/\h.FunFrames base l/\(TrD h base e cls none .none\/∃oe vs,h.get? e=some oe/\(oe.cls=cls/\oe.dict=none)/\oe.data=.fields vs/\vs[1]?=some .none)
noncomputable def Cov(fs:List Addr)(H':Hp)(h h' base:Heap):Prop:=∀b o,(H' b≠none\/∃u,h.get? b=some u)->b∉fs->h'.get? b=some o->base.get? b=some o
structure XF (P:Program) (w:World) (l:List Env) (H:Hp) (h:Heap) (a:Addr) (cls:Value) (H':Hp) (base h':Heap):Prop where
 un:Un (frs l) [] H H' h h'
 hok:HOk P w H' h'
 fl:Fl base l a cls h'
 cov:Cov (frs l) H' h h' base
 free:H' a=none
 new:h.get? a=none
noncomputable def CX1(P:Program)(w:World):CXT:=fun l H s E e s'=>∃(a:Addr) (cls:Value) (H':Hp) (base:Heap),e=.ref a/\s'.os=s.os/\AllBare s'.gens/\XF P w l H s.heap a cls H' base s'.heap/\E cls (some a) H'
section
variable{P:Program}{w:World}{l:List Env}{H H':Hp}{h h1 h2 base base0:Heap}{a:Addr}{cls:Value}
end
section
variable{M:Model}{A:Around}{E:Value->Shared->Prop}{s:Shared}{base:Heap}{env:Env}{outer l:List Env}{L e:Addr}{cls fl:Value}{dct:Option Addr}{Q:Unit->Shared->Prop}
end

noncomputable def XP(X:Cx)(pins:List (Addr×Obj))(σ:St)(E:XK)(e:Value)(s':Shared):Prop:=∃H s,Inv X pins σ H s/\CX1 X.prog X.w X.stack H s E e s'
section
variable{X:Cx}{pins:List (Addr×Obj)}{σ:St}{H H':Hp}{s s':Shared}{base:Heap}{a:Addr}{cls:Value}{E:XK}{e:Value}
end
end L2

namespace L2
open PySem PySem.Spec PyProof.Rows PySem.Calls
abbrev VEm:List Value:=[.type "ValueError",.type "Exception",.type "BaseException",.type "object"]
section
variable{P:Program}{w:World}{K:Frag}{mg:Str->Option Value}{base:Heap}{N:List Str}{qual:Str}{scope:Scope}{f:Addr}{cd:Value}{A:Around}{outer:List Env}{s:Shared}{H:Hp}{E:XK}
end
section
variable{X:Cx}{x:Str}{np cpos pos:Pos}{C:Addr}{E:XK}{e:Expr}{es:List Expr}{t:TA}
end
end L2

namespace L2
open PySem PySem.Spec PyProof.Rows PySem.Calls
structure CalX (P:Program) (w:World) (K:Frag) (mg:Str->Option Value) (base:Heap) (x:Str) (k:Nat) (ps:List Str) (sp:Sp):Prop where
 ex:∃(f:Addr) (fd:FuncData),FnOk P w K mg base (CX1 P w) k f fd ps sp/\mg x=some (.ref f)/\keepIn K (.ref f)=true/\Binds K fd ps []
section
variable{X:Cx}{k:Nat}{C:Addr}{ps:List Str}{sp:Sp}{x:Str}{p pos:Pos}{e:Expr}{es:List Expr}{t:TA}{st:Stmt}{rest:List Stmt}{T:XK->TE}{TS1:(St->XK)->TS}{u:TS}
end
end L2
namespace L2
open PySem PySem.Spec PyProof.Rows PySem.Calls LE
section
variable{X:Cx}{pins:List (Addr×Obj)}{σ:St}{H:Hp}{s:Shared}{a:Addr}
theorem Inv.track{o:HO}(I:Inv X pins σ H s)(hx:X.ex=[])(ha:H a=none)(h0:X.s₀.heap.get? a=none)(hL:a≠X.env.locals)(hC:∀x c,X.env.cells.lookup x=some c->c≠a)(hP:∀p∈X.pn++pins,p.1≠a)(new:ObjOk X.prog X.w (upd H a o) s.heap a o):Inv X pins σ (upd H a o) s:=by
 have nt:∀b u,H b=some u->b≠a:=fun b u e z=>by rw[z,ha] at e;cases e
 refine⟨I.ok,I.os,I.bare,⟨I.base.keep,I.base.slot,fun b u e n hb=>?_,I.base.there,fun b xs e=>?_,fun b u xs e=>?_,fun b ps e=>?_⟩,I.loc,I.cell,?_,fun x c e=>?_,fun p hp=>?_,fun b u e=>?_,I.len⟩
 ·rw[Jg (fun z=>by rw[z,h0] at e;cases e)];exact I.base.free b u e n hb
 ·have:=I.base.tups b xs e;rw[Jg (nt _ _ this)];exact this
 ·have:=I.base.frzs b u xs e;rw[Jg (nt _ _ this)];exact this
 ·obtain⟨m,this⟩:=I.base.tbls b ps e;exact⟨m,by rw[Jg (nt _ _ this)];exact this⟩
 ·rw[Jg (Ne.symm hL)];exact I.free
 ·rw[Jg (hC x c e)];exact I.freeC x c e
 ·obtain⟨h1,h2,h3⟩:=I.pin p hp;exact⟨h1,by rw[Jg (hP p hp)];exact h2,h3⟩
 ·by_cases hb:b=a
  ·subst hb;rw[J3] at e;cases e;exact new
  ·rw[Jg hb] at e;exact(I.hok b u e).stay (fun _ _ _ q=>q) (fun c q=>by rw[Jg (nt _ _ q)];exact q) fun c xs q=>by rw[Jg (nt _ _ q)];exact q
end
section
variable{X:Cx}{body suite:List Stmt}{b₀:Stmt}{i:Nat}{n cn:Str}{np hpos pos:Pos}{CL:Addr}{T:(St->XK)->TS}{th:TS}
end
end L2

namespace L2
open PySem PySem.Spec PyProof.Rows PySem.Calls LE
structure ExcN (K:Frag) (n:Str):Prop where
 ex:∃c,nsIn K mainGlobals n=some (some (.ref c))/\PySem.W.excIn K c VEm "ValueError.__new__"=true
 pl:∀c,nsIn K mainGlobals n=some (some (.ref c))->findIn K (.ref c) "__getattribute__"=some (some (.builtin "BaseException.__getattribute__"))/\findIn K (.ref c) "__getattr__"=some none/\mroIn K c (.type "BaseException")=some true/\hasDictIn K c=true/\findIn K (.ref c) "__class__"=some (some (.builtin "object.__class__"))/\mroIn K c (.type "object")=some true
structure ExcG (K:Frag):Prop where
 hn:specialIn K (.builtin "object.__class__") "__get__"=some (some (.builtin "getset_descriptor.__get__"))
 htk:takesIn K (.builtin "object.__class__")=some true
section
variable{prog:Program}{w:World}{A:Around}{E:Value->Shared->Prop}{s:Shared}{K:Frag}{x C D:Addr}{ox:Obj}
end
section
variable{K:Frag}{x D:Addr}{ox:Obj}
end
section
variable{X:Cx}
inductive TyX (K:Frag) (H:Hp):V->Value->Prop where
 | of {x:V} {t:Value} (h:TyS K H x t):TyX K H x t
 | exc {a c:Addr} {n:Str} (h:H a=some (XO a (.ref c))) (e:nsIn K mainGlobals n=some (some (.ref c))) (N:ExcN K n) (G:ExcG K):TyX K H (.ref a) (.ref c)
end
end L2

namespace LE
open PySem L2 LR
noncomputable abbrev Xv:=En->Option Str
section
variable(K:Frag)(C:Addr)
end
section
variable{K:Frag}{C:Addr}{W:XK}{t:TA}{ev:En->Option (List Sl)}{te:TE}{ts us:TS}{et eu:Es}{xt xu:Xv}{ex:Xv}
end
section
variable{K:Frag}{C:Addr}{B H0 H:Hp}{σ:St}{E:En}
end
section
variable{K:Frag}{C:Addr}
end
noncomputable def exB(n m:Str):Bool:=n == m || m == "LumpError"
section
variable{K:Frag}{C:Addr}{te:TE}{ea:Ev}
structure IsiN (K:Frag) (R:List Str) (m:Str) (c:Addr):Prop where
 own:∀n∈R,ExcN K n
 g:ExcG K
 k:∀n∈R,∀c',nsIn K mainGlobals n=some (some (.ref c'))->kitOne K (.ref c') (.ref c)=some (exB n m)
 o:kitOne K (.type "NoneType") (.ref c)=some false
end
end LE
namespace L2
open PySem PySem.Spec PyProof.Rows PySem.Calls LE
section
variable{X:Cx}
end
end L2
namespace LE
open PySem L2 LR
noncomputable def IsiL(K:Frag)(R:List Str):List Str->List Addr->Prop
 | [],[]=>True
 | m::ms,c::cs=>IsiN K R m c/\IsiL K R ms cs
 | _,_=>False
theorem IsiL.exc{K:Frag}{R:List Str}{n:Str}{c':Addr}(hn:n∈R)(hc:nsIn K mainGlobals n=some (some (.ref c'))):∀{ms:List Str} {cs:List Addr},IsiL K R ms cs->kitAny K (.ref c') (cs.map Value.ref)=some (ms.any (exB n))
 | [],[],_=>rfl
 | m::ms,c::cs,⟨h,t⟩=>by show(match kitOne K (.ref c') (.ref c) with|some true=>some true|some false=>kitAny K (.ref c') (cs.map Value.ref)|none=>none)=_;rw[h.k n hn c' hc,t.exc hn hc,List.any_cons];cases exB n m <;> rfl
theorem IsiL.non{K:Frag}{R:List Str}:∀{ms:List Str} {cs:List Addr},IsiL K R ms cs->kitAny K (.type "NoneType") (cs.map Value.ref)=some false
 | [],[],_=>rfl
 | m::ms,c::cs,⟨h,t⟩=>by show(match kitOne K (.type "NoneType") (.ref c) with | some true=>some true | some false=>kitAny K (.type "NoneType") (cs.map Value.ref) | none=>none)=_;rw[h.o,t.non]
section
variable{K:Frag}{C:Addr}{te:TE}{ea:Ev}
structure IsiV (K:Frag) (R:List Str):Prop where
 own:∀n∈R,ExcN K n
 g:ExcG K
 k:∀n∈R,∀c',nsIn K mainGlobals n=some (some (.ref c'))->kitOne K (.ref c') (.type "ValueError")=some true
end
end LE

namespace L2
open PySem PySem.Spec PyProof.Rows PySem.Calls LE
section
variable{X:Cx}{K:Frag}
end
end L2
namespace LE
open PySem L2 LR
section
variable{K:Frag}{C:Addr}{ts:TS}
structure AtX (K:Frag) (n:Str) (c:Addr):Prop where
 ns:nsIn K mainGlobals n=some (some (.ref c))
 ok:PySem.W.excIn K c VEm "ValueError.__new__"=true
 ga:findIn K (.ref c) "__getattribute__"=some (some (.builtin "BaseException.__getattribute__"))
 gn:findIn K (.ref c) "__getattr__"=some none
 mb:mroIn K c (.type "BaseException")=some true
 hd:hasDictIn K c=true
 fi:findIn K (.ref c) "__class__"=some (some (.builtin "object.__class__"))
 mr:mroIn K c (.type "object")=some true
theorem AtX.n{n:Str}{c:Addr}(h:AtX K n c):ExcN K n:=⟨⟨c,h.ns,h.ok⟩,fun c' e=>by have:=h.ns.symm.trans e;cases this;exact⟨h.ga,h.gn,h.mb,h.hd,h.fi,h.mr⟩⟩
noncomputable def OwnL(K:Frag):List Str->List Addr->Prop
 | [],[]=>True
 | n::ns,c::cs=>AtX K n c/\OwnL K ns cs
 | _,_=>False
theorem OwnL.all:∀{ns:List Str} {cs:List Addr},OwnL K ns cs->∀n∈ns,ExcN K n
 | [],[],_,n,h=>nomatch h
 | m::ns,c::cs,⟨h,t⟩,n,hn=>by
  rcases List.mem_cons.mp hn with e|e
  ·rw[e];exact h.n
  ·exact t.all n e
noncomputable def ExmL(K:Frag)(CL:Addr):List Addr->Prop
 | []=>True
 | c::cs=>PySem.W.exmOne K (.ref c) (.ref CL)=some true/\ExmL K CL cs
theorem ExmL.all{CL:Addr}:∀{ns:List Str} {cs:List Addr},OwnL K ns cs->ExmL K CL cs->∀m∈ns,∀c,nsIn K mainGlobals m=some (some (.ref c))->PySem.W.exmOne K (.ref c) (.ref CL)=some true
 | [],[],_,_,n,h=>nomatch h
 | m::ns,c::cs,⟨h,t⟩,⟨h',t'⟩,n,hn=>fun c' e=>by
  rcases List.mem_cons.mp hn with z|z
  ·rw[z,h.ns] at e;cases e;exact h'
  ·exact t'.all t n z c' e
noncomputable def KitL(K:Frag)(m:Str)(c:Addr):List Str->List Addr->Prop
 | [],[]=>True
 | n::ns,d::ds=>kitOne K (.ref d) (.ref c)=some (exB n m)/\KitL K m c ns ds
 | _,_=>False
theorem KitL.all{m:Str}{c:Addr}:∀{ns:List Str} {cs:List Addr},OwnL K ns cs->KitL K m c ns cs->∀n∈ns,∀c',nsIn K mainGlobals n=some (some (.ref c'))->kitOne K (.ref c') (.ref c)=some (exB n m)
 | [],[],_,_,n,h=>nomatch h
 | m::ns,c::cs,⟨h,t⟩,⟨h',t'⟩,n,hn=>fun c' e=>by
  rcases List.mem_cons.mp hn with z|z
  ·rw[z] at e ⊢;rw[h.ns] at e;cases e;exact h'
  ·exact t'.all t n z c' e
noncomputable def KivL(K:Frag):List Addr->Prop
 | []=>True
 | c::cs=>kitOne K (.ref c) (.type "ValueError")=some true/\KivL K cs
theorem KivL.all:∀{ns:List Str} {cs:List Addr},OwnL K ns cs->KivL K cs->∀n∈ns,∀c',nsIn K mainGlobals n=some (some (.ref c'))->kitOne K (.ref c') (.type "ValueError")=some true
 | [],[],_,_,n,h=>nomatch h
 | m::ns,c::cs,⟨h,t⟩,⟨h',t'⟩,n,hn=>fun c' e=>by
  rcases List.mem_cons.mp hn with z|z
  ·rw[z,h.ns] at e;cases e;exact h'
  ·exact t'.all t n z c' e
end
section
variable(K:Frag)(C:Addr)
end
section
variable{K:Frag}{C:Addr}{W:XK}{ta te:TE}{t tr:TA}{ea:Ev}{xa xr ex:Xv}{wi:TI}
end
end LE

namespace LE
open PySem L2 LR
section
variable{K:Frag}{C:Addr}{W:XK}{t:TS}{et:Es}{xt:Xv}
end
end LE
namespace L2
open PySem PySem.Spec PyProof.Rows PySem.Calls LE
structure RoomH (k:Nat) (A:Around):Prop where
 dp:A.depth+3*k+5<recursionLimit
 un:A.units+16*k+200<cLine
theorem Room.h{k:Nat}{A:Around}(r:Room k A):RoomH k A:=⟨r.dp,r.un⟩
theorem RoomH.mono{j k:Nat}{A:Around}(r:RoomH k A)(h:j<=k):RoomH j A:=⟨by have:=r.dp;omega,by have:=r.un;omega⟩
theorem RoomH.deeper{k:Nat}{A:Around}(r:RoomH (k+1) A)(env:Env):RoomH k (A.deeper env) :=
 ⟨by have:=r.dp;show A.depth+1+3*k+5<_;omega,by have:=r.un;show A.units+3+16*k+200<_;omega⟩
theorem RoomH.units{k:Nat}{A:Around}(r:RoomH k A):A.units+64<cLine:=by have:=r.un;omega
structure FnH (P:Program) (w:World) (K:Frag) (mg:Str->Option Value) (base:Heap) (k:Nat) (f:Addr) (fd:FuncData) (ps:List Str) (sp:Sp):Prop where
 len:∀vs H Q E,sp vs H Q E->vs.length=ps.length
 run:∀(A:Around) (outer:List Env) (s:Shared) (H:Hp) (args:Args) (us:List Value) (vs:List V) (Q:VK) (E:XK),RoomH k A->Env0 P w K mg base A outer s H->BindsTo s fd args (ps.zip us)->Vals vs us->sp vs H Q E ->
  codeAny (model P w) A (.call (.ref f) args) (CR CX0 outer P w H s Q E) s
theorem FnH.ok{P:Program}{w:World}{K:Frag}{mg:Str->Option Value}{base:Heap}{k:Nat}{f:Addr}{fd:FuncData}{ps:List Str}{sp:Sp}(F:FnH P w K mg base k f fd ps sp):FnOk P w K mg base CX0 k f fd ps sp :=
 ⟨F.len,fun A outer s H args us vs Q E hr=>F.run A outer s H args us vs Q E hr.h⟩
structure CalH (P:Program) (w:World) (K:Frag) (mg:Str->Option Value) (base:Heap) (x:Str) (k:Nat) (ps:List Str) (sp:Sp):Prop where
 ex:∃(f:Addr) (fd:FuncData),FnH P w K mg base k f fd ps sp/\mg x=some (.ref f)/\keepIn K (.ref f)=true/\Binds K fd ps []
section
variable{X:Cx}{k:Nat}{ps:List Str}{sp:Sp}{x:Str}{p pos:Pos}{e:Expr}{es:List Expr}{t:TA}
end
end L2

namespace L2
open PySem PySem.Spec PyProof.Rows PySem.Calls LE
structure CalMX (P:Program) (w:World) (K:Frag) (mg:Str->Option Value) (base:Heap) (x:Str) (C:Addr) (k:Nat) (ps:List Str) (sp:Sp):Prop where
 ex:∃(f:Addr) (fd:FuncData),Mk K C f/\FnOk P w K mg base (CX1 P w) k f fd ps sp/\mg x=some (.ref C)/\Binds K fd ps []
section
variable{X:Cx}{k:Nat}{C:Addr}{ps:List Str}{sp:Sp}{x:Str}{p pos:Pos}{e:Expr}{es:List Expr}{t:TA}
end
end L2
namespace LE
open PySem L2 LR
section
variable(K:Frag)(C:Addr)
end
section
variable{K:Frag}{C:Addr}{W:XK}{t:TA}{ev:En->Option (List Sl)}{H0 H H2:Hp}
noncomputable def W6(ss:List Sl):Bool:=ss.all fun s=>!JG s
theorem RRL.more{vs:List V}{ss:List Sl}(st:Same H H2):W6 ss=true->RRL K C H H0 H vs ss->RRL K C H2 H0 H2 vs ss:=fun ho r=>by
 revert ho
 induction r with
 | nil=>exact fun _=>.nil
 | @cons v s vs ss h _ ih =>
  intro ho
  have hs:JG s=false/\W6 ss=true:=by unfold W6 at ho ⊢;rw[List.all_cons,Bool.and_eq_true] at ho;exact⟨by simpa using ho.1,ho.2⟩
  refine .cons ?_ (ih hs.2)
  cases s with
  | no=>exact h
  | sh d=>exact h
  | bo ds=>obtain⟨l,xs,e,g,q⟩:=h;exact⟨l,xs,e,st _ _ g,q⟩
  | bd ks ds=>obtain⟨l,xs,e,g,q⟩:=h;exact⟨l,xs,e,st _ _ g,q⟩
  | own ds=>exact absurd hs.1 (by simp[JG])
  | od ks ds=>exact absurd hs.1 (by simp[JG])
end
end LE

namespace L2
open PySem PySem.Spec PyProof.Rows PySem.Calls
section
variable{X:Cx}
end
end L2
namespace LE
open PySem L2 LR
noncomputable def lst?:Sl->Option (List D)
 | .bo ds=>some ds
 | .own ds=>some ds
 | .sh (.lst ds)=>some ds
 | _=>none
section
variable{K:Frag}{C:Addr}{to te:TE}{eo ea:Ev}{Hs H0 H:Hp}{v:V}
theorem RR.lst{s:Sl}{ds:List D}(i:Same H0 H)(r:RR K C Hs H0 H v s)(e:lst? s=some ds):∃l xs,v=.ref l/\H l=some (.lst xs)/\RDL K C H0 xs ds:=by
 cases s with
 | bo es=>cases e;exact r
 | own es=>cases e;obtain⟨l,xs,e,h,_,_,q⟩:=r;exact⟨l,xs,e,h,q⟩
 | sh d =>
  cases d with
  | lst es=>cases e;obtain⟨l,xs,e,h,q⟩:=RD.lstI r;exact⟨l,xs,e,i _ _ h,q⟩
  | _=>cases e
 | _=>cases e
end
end LE

namespace LE
open PySem L2 LR
section
variable{K:Frag}{C:Addr}
end
end LE

namespace PySem
abbrev JbL(h:Heap)(z TI TO a:Addr)(f:Bool):Prop :=
 h.get? z=some { cls:=.type "zip",dict:=none,data:=.fields #[rawInt a,.bool f,.bool false,.ref TI,.ref TO],slots:=#[] }
section
variable{prog:Program}{w:World}{A:Around}{E:Value->Shared->Prop}{s:Shared}{z TI TO i1 i2 a:Addr}{f:Bool}{oa:Obj}{p1 p2:List Addr}{n1 n2 k:Nat}{P1 P2:Nat->Value->Prop}{S1 S2:Nat->Heap->Prop}
end
end PySem

namespace PySem
section
variable{prog:Program}{w:World}{A:Around}{E:Value->Shared->Prop}{s:Shared}{b1 b2:Bool}{a1 a2 z TI TO i1 i2 S:Addr}{xs ys:Array Value}{i:Nat}
def LzSt(b1 b2:Bool)(a1 a2 z TI TO i1 i2 S:Addr)(xs ys:Array Value)(i:Nat)(h:Heap):Prop :=
 IsPair h TI (.ref i1) (.ref i2)/\(IsItr b1 h i1 a1 i/\IsSq b1 h a1 xs)/\(IsItr b2 h i2 a2 i/\IsSq b2 h a2 ys) ∧
 ((IsZip h z TI TO .none/\∃u v,IsPair h TO u v)\/∃a f oa,JbL h z TI TO a f/\h.get? a=some oa/\a≠S/\a≠z/\a≠i1/\a≠i2)
theorem IsSq.keep{b:Bool}{h h':Heap}{a:Addr}{xs:Array Value}(q:IsSq b h a xs)(k:∀o,h.get? a=some o->h'.get? a=some o):IsSq b h' a xs:=by
 cases b with
 | true=>obtain⟨o,e,r⟩:=q;exact⟨o,k o e,r⟩
 | false=>obtain⟨o,e,r⟩:=q;exact⟨o,k o e,r⟩
theorem IsItr.keep'{b:Bool}{h h':Heap}{j a:Addr}{i:Nat}(q:IsItr b h j a i)(k:∀o,h.get? j=some o->h'.get? j=some o):IsItr b h' j a i:=by
 cases b with
 | true=>obtain⟨o,e,r⟩:=q;exact⟨o,k o e,r⟩
 | false=>obtain⟨o,e,r⟩:=q;exact⟨o,k o e,r⟩
theorem LzSt.keep{h h':Heap}(x:LzSt b1 b2 a1 a2 z TI TO i1 i2 S xs ys i h)(k:∀b o,b≠S->h.get? b=some o->h'.get? b=some o)(n:S∉[z,TI,TO,i1,i2,a1,a2]):LzSt b1 b2 a1 a2 z TI TO i1 i2 S xs ys i h':=by
 simp only[List.mem_cons,List.mem_nil_iff,or_false,not_or] at n;obtain⟨n1,n2,n3,n4,n5,n6,n7⟩:=n;obtain⟨x1,x2,x3,x4⟩:=x;refine⟨k _ _ (Ne.symm n2) x1,⟨IsItr.keep' x2.1 fun o e=>k _ o (Ne.symm n4) e,IsSq.keep x2.2 fun o e=>k _ o (Ne.symm n6) e⟩,⟨IsItr.keep' x3.1 fun o e=>k _ o (Ne.symm n5) e,IsSq.keep x3.2 fun o e=>k _ o (Ne.symm n7) e⟩,?_⟩;rcases x4 with ⟨y1,u,v,y2⟩|⟨a,f,oa,y1,y2,y3⟩
 ·exact .inl ⟨k _ _ (Ne.symm n1) y1,u,v,k _ _ (Ne.symm n3) y2⟩
 ·exact .inr ⟨a,f,oa,k _ _ (Ne.symm n1) y1,k _ _ y3.1 y2,y3⟩
end
structure LzG (xs ys:Array Value) (lo:Addr) (h:Heap) (as:List Addr):Prop where
 rise:as.Pairwise (·<·)
 above:∀a∈as,lo<a
 pairs:∀(j:Nat) (a:Addr),as[j]?=some a->∃u v,xs[j]?=some u/\ys[j]?=some v/\IsPair h a u v
theorem LzG.there{xs ys:Array Value}{lo:Addr}{h:Heap}{as:List Addr}(g:LzG xs ys lo h as){a:Addr}(ha:a∈as):a<h.objs.size:=by obtain⟨j,hj⟩:=List.mem_iff_getElem?.mp ha;obtain⟨_,_,_,_,e⟩:=g.pairs j a hj;exact Heap.lt_size e
section
variable{prog:Program}{w:World}{A:Around}{s:Shared}{R:Result->Shared->Prop}{b1 b2:Bool}{a1 a2 z TI TO i1 i2 S:Addr}{xs ys:Array Value}
end
end PySem

namespace PySem
open PySem.Calls PyProof.Rows PyProof.V PySem.Spec
section
variable{prog:Program}{w:World}{A:Around}{E:Value->Shared->Prop}{s:Shared}{b1 b2:Bool}{a1 a2 z TI TO i1 i2:Addr}{xs ys:Array Value}
end
end PySem

namespace L2
open PySem PySem.Spec PyProof.Rows
end L2

namespace LE
open PySem L2 LR
section
variable{K:Frag}{C:Addr}
end
end LE

namespace L2
open PySem PySem.Spec PyProof.Rows
section
variable{X:Cx}{pins:List (Addr×Obj)}{σ:St}{H:Hp}{s:Shared}{a:Addr}{kvs:List (Key×V)}{k:Key}{z:V}{u r:Value}{A:Around}{E:Value->Shared->Prop}
end
section
variable{X:Cx}{o e f:Expr}{apos cpos:Pos}{td ty tx:TE}
end
end L2
namespace LE
open PySem L2 LR
section
variable(K:Frag)(C:Addr)(j:Nat)
noncomputable def Left(σ:St)(E:En)(σ':St)(E':En):Prop:=σ'[j]?=σ[j]?/\∀(i:Nat) (s:Sl),E'[i]?=some s->JG s=true->E[i]?=some s/\σ'[i]?=σ[i]?
end
section
variable{K:Frag}{C:Addr}{j:Nat}
theorem Left.refl(σ:St)(E:En):Left j σ E σ E:=⟨rfl,fun _ _ e _=>⟨e,rfl⟩⟩
theorem Left.trans{σ σ1 σ2:St}{E E1 E2:En}(a:Left j σ E σ1 E1)(b:Left j σ1 E1 σ2 E2):Left j σ E σ2 E2 :=
 ⟨b.1.trans a.1,fun i s e o=>by obtain⟨h1,h2⟩:=b.2 i s e o;obtain⟨h3,h4⟩:=a.2 i s h1 o;exact⟨h3,h2.trans h4⟩⟩
end
end LE

namespace LE
open PySem L2 LR
section
variable(K:Frag)(C:Addr)
structure Grp (B H0 H:Hp) (σ:St) (E:En) (j c:Nat) (ks:List Int) (dss:List (List D)) (l:Addr) (ls:List Addr):Prop where
 at':σ[j]?=some (some (.ref l))
 dict:H l=some (dkO ks (ls.map V.ref))
 l0:H0 l=none
 lb:B l=none
 len:ks.length=ls.length
 len2:dss.length=ls.length
 cnt:ks.length<=c
 lists:∀(m:Nat) (a:Addr) (ds:List D),ls[m]?=some a->dss[m]?=some ds->ds.length<=c/\∃xs,H a=some (.lst xs)/\H0 a=none/\B a=none/\RDL K C H0 xs ds
 nd:(l::ls).Nodup
 own:∀(i:Nat) (s:Sl) (a:Addr),E[i]?=some s->JG s=true->σ[i]?=some (some (.ref a))->a∉l::ls
end
section
variable{K:Frag}{C:Addr}{B H0 H H0' H':Hp}{σ σ':St}{E E':En}{j c:Nat}{ks:List Int}{dss:List (List D)}{l:Addr}{ls:List Addr}
theorem Grp.there(g:Grp K C B H0 H σ E j c ks dss l ls){a:Addr}(ha:a∈l::ls):∃o,H a=some o/\isT o=false/\H0 a=none/\B a=none:=by
 rcases List.mem_cons.mp ha with z|z
 ·subst z;exact⟨_,g.dict,rfl,g.l0,g.lb⟩
 ·obtain⟨m,hm⟩:=List.mem_iff_getElem?.mp z;have hl:m<dss.length:=by rw[g.len2];exact(List.getElem?_eq_some_iff.mp hm).1
  obtain⟨_,xs,h1,h2,h3,_⟩:=g.lists m a dss[m] hm (List.getElem?_eq_getElem hl);exact⟨_,h1,rfl,h2,h3⟩
theorem Grp.off(g:Grp K C B H0 H σ E j c ks dss l ls)(st:Step H H0 H H0' H'){a:Addr}(ha:a∈l::ls):H0' a=none:=by
 obtain⟨o,h1,h2,h3,_⟩:=g.there ha
 cases z:H0' a with
 | none=>rfl
 | some u =>
  rcases st.n a u z with y|y|y
  ·rw[h3] at y;cases y
  ·rw[h1] at y;cases y
  ·have:=st.i a u z;rw[st.h a o h1] at this;cases this;rw[h2] at y;cases y
theorem Grp.step(g:Grp K C B H0 H σ E j c ks dss l ls)(st:Step H H0 H H0' H'):Grp K C B H0' H' σ E j c ks dss l ls :=
 ⟨g.at',st.h _ _ g.dict,g.off st List.mem_cons_self,g.lb,g.len,g.len2,g.cnt,fun m a ds e1 e2=>by obtain⟨h0,xs,h1,h2,h3,h4⟩:=g.lists m a ds e1 e2;exact⟨h0,xs,st.h _ _ h1,g.off st (List.mem_cons_of_mem _ (List.mem_of_getElem? e1)),h3,h4.mono st.z⟩,g.nd,g.own⟩
theorem Grp.free(g:Grp K C B H0 H σ E j c ks dss l ls){a:Addr}(ha:a∈l::ls):∀(i:Nat) (s:Sl),E[i]?=some s->JG s=true->σ[i]?≠some (some (.ref a)):=fun i s e o q=>g.own i s a e o q ha
theorem EnvR.fresh(I:EnvR K C B H0 H σ E){p:Addr}(hp:H p=none):∀(i:Nat) (s:Sl),E[i]?=some s->JG s=true->σ[i]?≠some (some (.ref p)):=fun i s e o q=>by
 rcases I.at' i s e with z|⟨v,q1,q2⟩
 ·subst z;cases o
 ·rw[q1] at q;cases q
  cases s with
  | own es=>obtain⟨l',ys,p1,p2,_⟩:=q2;cases p1;rw[hp] at p2;cases p2
  | od ks es=>obtain⟨l',ys,p1,p2,_⟩:=q2;cases p1;rw[hp] at p2;cases p2
  | _=>cases o
end
end LE

namespace LE
open PySem L2 LR
section
variable{K:Frag}{C:Addr}{B H0 H H0' H':Hp}{σ σ':St}{E E':En}{j c:Nat}{ks:List Int}{dss:List (List D)}{l:Addr}{ls:List Addr}
noncomputable def WJ(H0 H:Hp)(ls:List Addr):Hp:=fun a=>if a∈ls then H a else H0 a
theorem UN{Hz:Hp}:∀{ls:List Addr} {dss:List (List D)},dss.length=ls.length->(∀(m:Nat) (a:Addr) (ds:List D),ls[m]?=some a->dss[m]?=some ds->∃xs,Hz a=some (.lst xs)/\RDL K C Hz xs ds)->RDL K C Hz (ls.map V.ref) (dss.map .lst)
 | [],[],_,_=>.nil
 | [],_::_,h,_=>by simp at h
 | _::_,[],h,_=>by simp at h
 | a::ls,ds::dss,h,f=>by obtain⟨xs,h1,h2⟩:=f 0 a ds rfl rfl;exact .cons (.mkL h1 h2) (UN (by simpa using h) fun m a ds e1 e2=>f (m+1) a ds (by simpa using e1) (by simpa using e2))
theorem Grp.done(I:EnvR K C B H0 H σ E)(g:Grp K C B H0 H σ E j c ks dss l ls)(hj:j<E.length):SStep B H0 (WJ H0 H ls) H/\EnvR K C B (WJ H0 H ls) H σ (E.set j (.od ks (dss.map .lst))):=by
 have out:∀{a:Addr},a∉ls->WJ H0 H ls a=H0 a:=fun {a} h=>if_neg h
 have inn:∀{a:Addr},a∈ls->WJ H0 H ls a=H a:=fun {a} h=>if_pos h
 have z:Same H0 (WJ H0 H ls):=fun a o e=>by
  by_cases c:a∈ls
  ·rw[inn c];exact I.h a o e
  ·rw[out c];exact e
 have i:Same (WJ H0 H ls) H:=fun a o e=>by
  by_cases c:a∈ls
  ·rw[inn c] at e;exact e
  ·rw[out c] at e;exact I.h a o e
 have ln:l∉ls:=(List.nodup_cons.mp g.nd).1;refine⟨⟨I.b,z,fun a o e=>?_,i⟩,I.b,i,by simp[I.len],fun k s e=>?_,fun k m s t v hkm e1 e2 o1 o2 e3 e4=>?_⟩
 ·by_cases c:a∈ls
  ·exact .inr (.inl (g.there (List.mem_cons_of_mem _ c)).choose_spec.2.2.2)
  ·rw[out c] at e;exact .inl e
 ·rw[List.getElem?_set] at e
  by_cases c:j=k
  ·subst c;rw[if_pos rfl,if_pos hj] at e;have e':=Option.some.inj e;subst e';refine .inr ⟨_,g.at',l,ls.map V.ref,rfl,g.dict,by rw[out ln];exact g.l0,g.lb,by rw[List.length_map,g.len2];exact g.len,UN g.len2 fun m a ds q1 q2=>?_⟩;obtain⟨_,xs,h1,_,_,h4⟩:=g.lists m a ds q1 q2;exact⟨xs,by rw[inn (List.mem_of_getElem? q1)];exact h1,h4.mono z⟩
  ·rw[if_neg c] at e;rcases I.at' k s e with y|⟨v,q1,q2⟩
   ·exact .inl y
   ·refine .inr ⟨v,q1,?_⟩
    cases s with
    | no=>trivial
    | sh d=>exact RD.mono z q2
    | bo es=>obtain⟨l',ys,p1,p2,p3⟩:=q2;exact⟨l',ys,p1,p2,p3.mono z⟩
    | bd ks es=>obtain⟨l',ys,p1,p2,p3,p4⟩:=q2;exact⟨l',ys,p1,p2,p3,p4.mono z⟩
    | own es=>obtain⟨l',ys,p1,p2,p3,p4,p5⟩:=q2;subst p1;have:=g.own k _ l' e rfl q1;exact⟨l',ys,rfl,p2,by rw[out fun m=>this (List.mem_cons_of_mem _ m)];exact p3,p4,p5.mono z⟩
    | od ks es=>obtain⟨l',ys,p1,p2,p3,p4,p5,p6⟩:=q2;subst p1;have:=g.own k _ l' e rfl q1;exact⟨l',ys,rfl,p2,by rw[out fun m=>this (List.mem_cons_of_mem _ m)];exact p3,p4,p5,p6.mono z⟩
 ·have get:∀(i:Nat) (s:Sl),(E.set j (Sl.od ks (dss.map .lst)))[i]?=some s->i=j\/(i≠j/\E[i]?=some s):=fun i s e=>by
   rw[List.getElem?_set] at e
   by_cases c:j=i
   ·exact .inl c.symm
   ·rw[if_neg c] at e;exact .inr ⟨fun z=>c z.symm,e⟩
  rcases get k s e1 with y1|⟨n1,y1⟩
  ·subst y1;rcases get m t e2 with y2|⟨n2,y2⟩
   ·exact hkm y2.symm
   ·rw[g.at'] at e3;have e3':=Option.some.inj (Option.some.inj e3);subst e3';exact g.own m t l y2 o2 e4 List.mem_cons_self
  ·rcases get m t e2 with y2|⟨n2,y2⟩
   ·subst y2;rw[g.at'] at e4;have e4':=Option.some.inj (Option.some.inj e4);subst e4';exact g.own k s l y1 o1 e3 List.mem_cons_self
   ·exact I.sep k m s t v hkm y1 y2 o1 o2 e3 e4
end
end LE

namespace L2
open PySem PySem.Spec PyProof.Rows
section
open PySem.SeqAt
open PySem.AutoSeq1 (wpAny_loadPart')
open PySem.MeetsSeq PySem.MeetsSeq2 PySem.MeetsSeq3
end
section
variable{prog:Program}{w:World}{A:Around}{E:Value->Shared->Prop}{s:Shared}
end
end L2
namespace LE
open PySem L2 LR
section
variable{K:Frag}{C:Addr}
end
end LE

namespace L2
open PySem PySem.Spec PyProof.Rows
section
open PySem.SeqAt
open PySem.AutoSeq1 (wpAny_loadPart')
open PySem.MeetsSeq PySem.MeetsSeq2 PySem.MeetsSeq3
end
section
variable{prog:Program}{w:World}{A:Around}{E:Value->Shared->Prop}{s:Shared}
end
end L2
namespace LE
open PySem L2 LR
section
variable{K:Frag}{C:Addr}
end
end LE

namespace L2
open PySem PySem.Spec PyProof.Rows
end L2
namespace LE
open PySem L2 LR
section
variable{K:Frag}{C:Addr}
end
end LE

namespace LE
open PySem L2 LR
section
variable{K:Frag}{C:Addr}{W:XK}{t:TA}{ev:En->Option (List Sl)}{ts us:TS}{x:Xv}{H:Hp}
end
end LE

namespace PySem
open PySem.Calls PyProof.Rows PyProof.V PySem.Spec
section
variable{prog:Program}{w:World}{A:Around}{E:Value->Shared->Prop}{s:Shared}{r a:Addr}{xs:Array Value}{n:Nat}
end
end PySem
namespace L2
open PySem PySem.Spec PyProof.Rows
end L2
namespace LE
open PySem L2 LR
section
variable{K:Frag}{C:Addr}
end
end LE

namespace L2
open PySem PySem.Spec PyProof.Rows PySem.Calls
section
variable{X:Cx}
noncomputable def Jd8:V->Option Int->Option Int->Hp->VK->Prop:=fun x lo hi H Q=>∃z,x=.str z/\z.length<=sizeLine/\Q (.str (Txt.slice z lo hi)) H
theorem Ut:SlR X Jd8:=by
 intro pins s σ H x v vl vu lo hi sl Q I rx hs pl pu h;obtain⟨z,rfl,hz,q⟩:=h;obtain⟨t,rfl⟩:=rx;have fin:∀t' k,EP X pins σ Q (.str (Txt.slice z lo hi) t') { s with toks:=k }:=fun t' k=>⟨.str _,H,I.tok k,⟨t',rfl⟩,q⟩
 refine⟨"str",_,F.slot_str_getitem.lookup,typeIs_str _ _ _,?_⟩
 cases pl with
 | none =>
  cases pu with
  | none=>exact wpAny_getItem_str_slice (l:=none) (u:=none) (st:=none) hs rfl (post_val_or_str ⟨Nat.le_trans (Txt.slice_le z _ _) hz,fun t' k=>fin t' k⟩)
  | int j u=>exact wpAny_getItem_str_slice (l:=none) (u:=some (j,u)) (st:=none) hs rfl (post_val_or_str ⟨Nat.le_trans (Txt.slice_le z _ _) hz,fun t' k=>fin t' k⟩)
 | int i u' =>
  cases pu with
  | none=>exact wpAny_getItem_str_slice (l:=some (i,u')) (u:=none) (st:=none) hs rfl (post_val_or_str ⟨Nat.le_trans (Txt.slice_le z _ _) hz,fun t' k=>fin t' k⟩)
  | int j u=>exact wpAny_getItem_str_slice (l:=some (i,u')) (u:=some (j,u)) (st:=none) hs rfl (post_val_or_str ⟨Nat.le_trans (Txt.slice_le z _ _) hz,fun t' k=>fin t' k⟩)
noncomputable def Ws:V->List V->Hp->VK->Prop:=fun x vs H Q=>∃z y,x=.str z/\vs=[.str y]/\Q (.bl (Txt.startswith z y)) H
theorem UM:MtM X "str.startswith" Ws:=by intro pins s σ H x vs v us Q I rx rv h;obtain⟨z,y,rfl,rfl,q⟩:=h;obtain⟨t,rfl⟩:=rx;obtain⟨u,rfl,ru⟩:=rv.one;obtain⟨t',rfl⟩:=ru;exact SC.startswith ⟨.bl _,H,I,rfl,q⟩
noncomputable def Jby:List V->Hp->VK->Prop:=fun xs H Q=>∃z n,xs=[.str z]/\intText? z=some n/\z.length<=640/\Q (.int n) H
theorem UJ:CallR X (.type "int") Jby:=by intro pins s σ H xs us Q I r h;obtain⟨z,n,rfl,hn,hl,q⟩:=h;obtain⟨u,rfl,t,rfl⟩:=WC r;exact PySem.W.KIN.call_text hn hl ⟨.int n,H,I.tok _,⟨_,rfl⟩,q⟩
noncomputable def JM(z:Str)(n:Nat):Str:=⟨(List.replicate n z.cps.toList).flatten.toArray⟩
theorem Vq:∀(n:Nat) (a b:Array Nat),((List.replicate n a).foldl (·++·) b).toList=b.toList++(List.replicate n a.toList).flatten
 | 0,a,b=>by simp
 | n+1,a,b=>by rw[List.replicate_succ,List.foldl_cons,Vq n a (b++a),Array.toList_append,List.append_assoc];simp[List.replicate_succ]
theorem Zs(n:Nat)(l:List Nat):(List.replicate n l).flatten.length=n*l.length:=by simp
noncomputable def JbA:R2:=fun x y H Q=>∃z n,x=.str z/\y=.int n/\1<=n/\n<=16777216/\z.length*n.toNat<=sizeLine/\Q (.str (JM z n.toNat)) H
theorem YO:OpR X (binaryOp .Mult) JbA:=by
 intro pins s σ H x y v u Q I rx ry h;obtain⟨z,n,rfl,rfl,h1,h2,hz,q⟩:=h;obtain⟨t,rfl⟩:=rx;obtain⟨t',rfl⟩:=ry;have big:¬n<1:=by omega
 have e0:∀w:Str,w.cps.toList=(List.replicate n.toNat z.cps.toList).flatten->w=JM z n.toNat:=fun w e=>by
  cases w with
  | mk c=>unfold JM;congr 1;apply Array.toList_inj.mp;simpa using e
 refine P.mul_str (by rw[decide_eq_false (by omega),decide_eq_false (by omega)];rfl) (fun _ _=>?_) (fun _ _=>?_) ?_
 ·intro hgt
  have:(z.length:Int)<=(2 ^ 63-1) / n:=by
   rw[Int.le_ediv_iff_mul_le (by omega)];have e:((z.length*n.toNat:Nat):Int)=(z.length:Int)*n:=by rw[Int.natCast_mul];congr 1;omega
   have:=sizeLine_eq;omega
  omega
 ·unfold Builtin.Str.tooLong;simp only[decide_eq_false_iff_not,gt_iff_lt,Nat.not_lt];exact hz
 ·rw[if_neg big];split
  ·next c =>
   rw[Bool.or_eq_true] at c
   have e:z=JM z n.toNat:=e0 z (by
    rcases c with c|c
    ·have:n=1:=by simpa using c
     subst this;simp
    ·have:z.cps.toList=[]:=List.eq_nil_of_length_eq_zero (by simpa [Str.length] using c);rw[this];simp)
   exact⟨.str z,H,I,⟨_,rfl⟩,by rw[e] at q ⊢;rw[<- e] at q ⊢;rw[e];exact q⟩
  ·have e:(⟨(List.replicate n.toNat z.cps).foldl (·++·) #[]⟩:Str)=JM z n.toNat:=e0 _ (by show((List.replicate n.toNat z.cps).foldl (·++·) #[]).toList=_;rw[Vq];simp)
   rw[e];refine⟨?_,⟨.str _,H,I.tok _,⟨_,rfl⟩,q⟩⟩;show(JM z n.toNat).cps.size<=sizeLine;unfold JM;simp only[List.size_toArray,Zs];rw[Nat.mul_comm];exact hz
noncomputable def Jbz:R2:=fun x y H Q=>∃i n,x=.int i/\y=.int n/\0<=n/\(Builtin.Int.intBits i:Int)*n<=2 ^ 27/\Q (.int (i ^ n.toNat)) H
theorem JaN:OpR X (binaryOp .Pow) Jbz:=by intro pins s σ H x y v u Q I rx ry h;obtain⟨i,n,rfl,rfl,h0,hb,q⟩:=h;obtain⟨t,rfl⟩:=rx;obtain⟨t',rfl⟩:=ry;exact pow_int h0 hb ⟨.int _,H,I.tok _,⟨_,rfl⟩,q⟩
noncomputable def Itc(z:Str):It:=⟨fun i _=>i<z.cps.size,fun i H x H'=>H'=H/\∃c,z.cps[i]?=some c/\x=.str ⟨#[c]⟩,fun i _=>i=z.cps.size⟩
theorem VN{P:Program}{w:World}{K:Frag}{tg:Expr}(it:Addr)(z:Str)(t:Tok)(T:String)(hT:T="str_ascii_iterator"\/T="str_iterator"):Turn P w K tg (Itc z) [it] it (fun i h=>h.IsStrIter it T z t i) where
 mem:=by simp
 obj:=fun i h st b hb=>by
  have e:b=it:=by simpa using hb
  subst e;obtain⟨o,e,c,d⟩:=st;exact⟨o,e,fun v z=>by rw[d] at z;cases z⟩
 keep:=fun i h h' st k=>by obtain⟨o,e,r⟩:=st;exact⟨o,k it (by simp) o e,r⟩
 item:=by
  intro X hP hw hK hc i pins s σ H E I hf st hg;subst hP hw hK;obtain⟨f0,f1,f2,f3,f4,f5⟩:=hf it (by simp);have hx:z.cps[i]?=some z.cps[i]:=Array.getElem?_eq_getElem hg
  have go:∀h',h'.IsStrIter it T z t (i+1)->Heap.SameBut it s.heap h'->∃u,some (Value.str ⟨#[z.cps[i]]⟩ s.toks)=some u ∧
   wpAny (model X.prog X.w) X.A (letOwnedTupleGo tg (.ref it) u) (fun _ s2=>∃x H',Inv X pins σ H' s2/\RelV x u/\(Itc z).yld i H x H'/\s2.heap.IsStrIter it T z t (i+1)/\∀b∈[it],H' b=none) E { s with heap:=h',toks:=s.toks+1 }:=fun h' st' sb=>by
   have I1:Inv X pins σ H { s with heap:=h',toks:=s.toks+1 }:=I.turned (fun b o hb e=>(sb.2 b hb).trans e) f0 f1 f3 f4 f5;obtain⟨o,e,c,d⟩:=id st';refine⟨_,rfl,Zh (s:={ s with heap:=h',toks:=s.toks+1 }) e c d ?_ ⟨.str ⟨#[z.cps[i]]⟩,H,I1,⟨_,rfl⟩,⟨rfl,_,hx,rfl⟩,st',fun b hb=>(hf b hb).1⟩⟩;rcases hT with rfl|rfl <;> decide
  rcases hT with rfl|rfl
  ·exact wpAny_pyNext_ascii_item st hx fun h' st' sb=>go h' st' sb
  ·exact wpAny_pyNext_wide_item st hx fun h' st' sb=>go h' st' sb
 done:=by
  intro X hP hw hK hc i pins s σ H E I hf st hg;subst hP hw hK;obtain⟨f0,f1,f2,f3,f4,f5⟩:=hf it (by simp);have hx:z.cps[i]?=none:=Array.getElem?_eq_none (Nat.le_of_eq (show i=z.cps.size from hg).symm);rcases hT with rfl|rfl
  ·exact wpAny_pyNext_ascii_end (I.ok.hd hc) st hx fun h' eb=>⟨rfl,I.turned (t':=s.toks) (fun b o hb e=>eb b o hb e) f0 f1 f3 f4 f5⟩
  ·exact wpAny_pyNext_wide_end (I.ok.hd hc) st hx fun h' eb=>⟨rfl,I.turned (t':=s.toks) (fun b o hb e=>eb b o hb e) f0 f1 f3 f4 f5⟩
 self:=fun _ _ _ _ _ st h=>by
  rcases hT with rfl|rfl
  ·exact wpAny_pyIter_striter_ascii st h
  ·exact wpAny_pyIter_striter_wide st h
noncomputable def JdP(tl:TE):TI:=fun σ H R=>tl σ H fun x H1=>∃z,x=.str z/\R (Itc z) H1
theorem ZF{tg l:Expr}{tl:TE}(hl:PE X l tl):PI X tg l (JdP tl):=by
 intro pins s σ H R I h;refine thn (hl pins s σ H _ I h) fun v s1 ⟨x,H1,I1,r1,q1⟩=>?_
 obtain⟨z,rfl,q⟩:=q1;obtain⟨t,rfl⟩:=r1
 have fr:∀b∈[s1.heap.objs.size],FpOk X pins H1 b:=fun b hb=>by
  have e:b=s1.heap.objs.size:=by simpa using hb
  subst e;exact I1.fpOk (Nat.le_refl _) (I1.hok.fresh (Nat.le_refl _))
 cases ha:z.cps.all (·<128)
 ·exact wpAny_pyIter_wide ha ⟨s1.heap.objs.size,[s1.heap.objs.size],_,_,H1,rfl,I1.kept (t':=s1.toks) fun b o e=>Heap.get?_push_of_some _ e,VN _ z t _ (.inr rfl),⟨_,Heap.get?_push_size _ rfl,rfl,rfl⟩,fr,q⟩
 ·exact wpAny_pyIter_ascii ha ⟨s1.heap.objs.size,[s1.heap.objs.size],_,_,H1,rfl,I1.kept (t':=s1.toks) fun b o e=>Heap.get?_push_of_some _ e,VN _ z t _ (.inl rfl),⟨_,Heap.get?_push_size _ rfl,rfl,rfl⟩,fr,q⟩
end
end L2
namespace L2
open PySem PySem.Spec PyProof.Rows PySem.Calls
section
variable{X:Cx}{es:List Expr}{t:TA}{x:Str}{j:Nat}{p:Pos}
noncomputable def YR:Nat->List Expr->List Str->Option (List Str×List Expr)
 | 0,es,acc=>some (acc.reverse,es)
 | n+1,.Constant (.str x) _ _::es,acc=>YR n es (x::acc)
 | _,_,_=>none
noncomputable def VL:List Str->TA->TA
 | [],t=>t
 | y::ys,t=>UP (tC (.str y)) (VL ys t)
theorem Vz:∀(n:Nat) {es rest:List Expr} {acc ys:List Str} {t:TA},YR n es acc=some (ys,rest)->PA X rest t->∃zs,ys=acc.reverse++zs/\PA X es (VL zs t)
 | 0,es,rest,acc,ys,t,h,hr=>by have h':some (acc.reverse,es)=some (ys,rest):=h;cases h';exact⟨[],by simp,hr⟩
 | n+1,.Constant (.str x) j p::es,rest,acc,ys,t,h,hr=>by obtain⟨zs,e1,e2⟩:=Vz n (show YR n es (x::acc)=some (ys,rest) from h) hr;exact⟨x::zs,by rw[e1];simp,Jc Jy e2 rfl⟩
theorem JaO(n:Nat){rest:List Expr}{ys:List Str}(h:YR n es []=some (ys,rest))(hr:PA X rest t):PA X es (VL ys t):=by
 obtain⟨zs,e1,e2⟩:=Vz n h hr;have:ys=zs:=by simpa using e1
 rw[this];exact e2
structure PSi (X:Cx) (st:Stmt) (ts:TS):Prop where
 out:PS X st ts
theorem VB{i:Nat}{pos pos' lp:Pos}(n:Nat){rest:List Expr}{ys:List Str}(hN:X.N.Nodup)(hi:X.N[i]?=some x)(hx:Loc X.env.scope x)(h:YR n es []=some (ys,rest))(hr:PA X rest t)(hf:X.fn x=true\/X.env.scope.names.lookup x=some .local:=by first|exact .inl rfl|exact .inr rfl|assumption) :
 PSi X (.Assign [.Name x pos'] (.List es lp) pos) (Jbh (Jbi (VL ys t)) (UL i)):=⟨J9 hN hi hx (U6 (JaO n h hr)) rfl hf⟩
structure PSsi (X:Cx) (ss:List Stmt) (ts:TS):Prop where
 out:PSs X ss ts
theorem Ye{s:Stmt}{ss:List Stmt}{ts us:TS}(h:PSi X s ts)(r:PSsi X ss us):PSsi X (s::ss) (Jbk ts us):=⟨Js h.out r.out⟩
theorem ZI{s:Stmt}{ts:TS}(h:PSi X s ts):PSsi X [s] ts:=⟨Jq h.out⟩
theorem Fun.okI{P:Program}{w:World}{K:Frag}{mg:Str->Option Value}{base:Heap}{x qual:Str}{st:Stmt}{f:Addr}{fd:FuncData}{N ps:List Str}{k:Nat}{sp:Sp}(F:Fun K x qual st f fd)(S:FnScope N ps (Jf st))(len:∀vs H Q E,sp vs H Q E->vs.length=ps.length)
 (hbody:∀(cdv:Value) (A:Around) (outer:List Env) (s:Shared) (H:Hp) (vs:List V) (Q:VK) (E:XK),Room k (A.deeper (envOfC qual (Jf st) s.heap.objs.size f cdv))->sp vs H Q E ->
  ∃t,PSsi (VT CX0 P w K mg base N qual (Jf st) f cdv A outer s H E).nox (JE st) t/\t { nx:=fun _ H'=>Q .non H',rt:=Q } (Yg N vs) H):FnOk P w K mg base CX0 (k+1) f fd ps sp :=
 F.ok S len fun cdv A outer s H vs Q E hr h=>(hbody cdv A outer s H vs Q E hr h).elim fun t q=>⟨t,q.1.out,q.2⟩
end
end L2

namespace LE
open PySem L2 LR
noncomputable def inS(i j:Str):Bool:=!(Builtin.Str.occurrences j i 0 j.length 1).isEmpty
noncomputable def Zg:Sl->Sl->Option Sl
 | .sh (.str i),.sh (.str j)=>some (.sh (.bl (inS i j)))
 | _,_=>none
noncomputable def YH:Sl->Sl->Option Sl
 | .sh (.str i),.sh (.str j)=>some (.sh (.bl (!inS i j)))
 | _,_=>none
noncomputable def UB(a:Ev)(lo hi:Option Ev):Ev:=fun E=>(a E).bind fun s=>(Yn lo E).bind fun l=>(Yn hi E).bind fun h=>(str? s).bind fun z=>if z.length<=16777216 then some (.sh (.str (Txt.slice z l h))) else none
noncomputable def JI(z:Str):List Sl->Option Sl
 | [.sh (.str y)]=>some (.sh (.bl (Txt.startswith z y)))
 | _=>none
noncomputable def Vp:List Sl->Option Sl
 | [.sh (.str z)]=>if z.length<=640 then(intText? z).map fun n=>.sh (.int n) else none
 | _=>none
noncomputable def Yp:Sl->Sl->Option Sl
 | .sh (.str z),.sh (.int n)=>if 1<=n/\n<=16777216/\z.length*n.toNat<=16777216 then some (.sh (.str (JM z n.toNat))) else none
 | _,_=>none
noncomputable def Ug:Sl->Sl->Option Sl
 | .sh (.int i),.sh (.int n)=>if i.natAbs.log2<1000/\0<=n/\n<=64 then some (.sh (.int (i ^ n.toNat))) else none
 | _,_=>none
noncomputable def sgE(c:Nat):D:=.str ⟨#[c]⟩
noncomputable def iTx(a:Ev):En->Option (List D):=fun E=>(a E).bind fun s=>(str? s).map fun z=>z.cps.toList.map sgE
noncomputable def Y0(ys:List Str)(r:En->Option (List Sl)):En->Option (List Sl):=fun E=>(r E).map fun ss=>ys.map (fun y=>.sh (.str y))++ss
section
variable{K:Frag}{C:Addr}{te:TE}{ea:Ev}{tl th:TO}{el eh:Option Ev}{m:Bool}
theorem V7{t:TA}{ev:En->Option (List Sl)}(h:SA K C t ev):∀{ys:List Str},SA K C (VL ys t) (Y0 ys ev)
 | []=>by
  have e:Y0 [] ev=ev:=by funext E;unfold Y0;cases ev E <;> rfl
  rw[e];exact h
 | y::ys=>by
  have e:Y0 (y::ys) ev=aC (eC (.str y)) (Y0 ys ev):=by
   funext E
   show Option.map _ (ev E)=(some (Sl.sh (D.str y))).bind fun x=>(Option.map _ (ev E)).bind fun xs=>some (x::xs)
   cases ev E <;> rfl
  rw[e];exact Ji JK (V7 h)
theorem JdV:OpS K C (fun x y H Q=>∃i j,x=.str i/\y=.str j/\Q (.bl (!(Builtin.Str.occurrences j i 0 j.length 1).isEmpty)) H) Zg:=by
 intro Hs H0 H x y a b c Q i hs ra rb e q;unfold Zg at e;split at e
 ·cases e;exact⟨_,_,RD.strI ra,RD.strI rb,q _ _ _ (.refl i) (RD.bl _)⟩
 ·cases e
theorem Zu:OpS K C (fun x y H Q=>∃i j,x=.str i/\y=.str j/\Q (.bl (!(!(Builtin.Str.occurrences j i 0 j.length 1).isEmpty))) H) YH:=by
 intro Hs H0 H x y a b c Q i hs ra rb e q;unfold YH at e;split at e
 ·cases e;exact⟨_,_,RD.strI ra,RD.strI rb,q _ _ _ (.refl i) (RD.bl _)⟩
 ·cases e
theorem Um:OpS K C JbA Yp:=by
 intro Hs H0 H x y a b c Q i hs ra rb e q;unfold Yp at e;split at e
 ·split at e
  ·next h=>cases e;exact⟨_,_,RD.strI ra,RD.intI rb,h.1,h.2.1,h.2.2,q _ _ _ (.refl i) (RD.str _)⟩
  ·cases e
 ·cases e
theorem Jct:OpS K C Jbz Ug:=by
 intro Hs H0 H x y a b c Q i hs ra rb e q;unfold Ug at e;split at e
 ·next u n =>
  split at e
  ·next h =>
   cases e;refine⟨_,_,RD.intI ra,RD.intI rb,h.2.1,?_,q _ _ _ (.refl i) (RD.int _)⟩
   have hb:Builtin.Int.intBits u<=1001:=by unfold Builtin.Int.intBits;split <;> omega
   have:(Builtin.Int.intBits u:Int)*n<=1001*64:=Int.mul_le_mul (by omega) h.2.2 h.2.1 (by omega);omega
  ·cases e
 ·cases e
theorem VF(ha:SE K C te ea)(hl:SP' K C tl (Yn el))(hh:SP' K C th (Yn eh)):SE K C (tSl Jd8 te tl th) (UB ea el eh):=by
 intro B H0 H σ E c Q I e q;obtain⟨s,e1,e⟩:=bind_some e;obtain⟨l,e2,e⟩:=bind_some e;obtain⟨h,e3,e⟩:=bind_some e;obtain⟨z,e4,e⟩:=bind_some e;split at e
 ·next hz =>
  cases e;have e5:=Ux e4;subst e5;refine ha B H0 H σ E _ _ I e1 fun x H1 H1' s1 r1=>hl B H1 H1' σ E l _ (I.step s1) e2 fun H2 H2' s2=>hh B H2 H2' σ E h _ (I.step (s1.trans s2)) e3 fun H3 H3' s3=>?_
  exact⟨z,RD.strI r1,hz,q _ _ _ ((s1.trans s2).trans s3) (RD.str _)⟩
 ·cases e
theorem YM:MtS K C Ws JI:=by
 intro Hs H0 H z xs as c Q i hs r e q;unfold JI at e;split at e
 ·cases e;obtain⟨v,rfl,r0⟩:=r.one;exact⟨z,_,rfl,by rw[RD.strI r0],q _ _ _ (.refl i) (RD.bl _)⟩
 ·cases e
theorem W7:Vf K C Jby Vp:=by
 intro Hs H0 H xs as c Q i hs r e q;unfold Vp at e;split at e
 ·split at e
  ·next hl=>obtain⟨n,e1,rfl⟩:=map_some e;obtain⟨v,rfl,r0⟩:=r.one;exact⟨_,n,by rw[RD.strI r0],e1,hl,q _ _ _ (.refl i) (RD.int _)⟩
  ·cases e
 ·cases e
theorem JbC(ha:SE K C te ea):SI K C m (JdP te) (iTx ea):=by
 intro B H0 H σ E ds R I e q;obtain⟨s,e1,e⟩:=bind_some e;obtain⟨z,e2,rfl⟩:=map_some e;have e5:=Ux e2;subst e5;refine ha B H0 H σ E _ _ I e1 fun x H1 H1' s1 r1=>⟨z,RD.strI r1,q _ _ _ s1 ?_⟩
 intro H0' H' st;refine⟨fun i d e=>?_,by show(z.cps.toList.map sgE).length=z.cps.size;simp⟩;rw[List.getElem?_map,Array.getElem?_toList] at e
 cases hc:z.cps[i]? with
 | none=>rw[hc] at e;cases e
 | some c=>rw[hc] at e;cases e;refine⟨(Array.getElem?_eq_some_iff.mp hc).1,fun x H2 ⟨e1,c',e2,e3⟩=>?_⟩;rw[hc] at e2;cases e2;subst e1 e3;exact⟨H0',.refl st.i,.str _⟩
end
end LE

end
open L2 LR
local macro_rules | `(tactic| walk_at "side")=>`(tactic| first | decide | exact⟨by decide,by decide,by decide⟩ | exact⟨by decide,by decide⟩ | (show(0:Int)<_;omega) | (show(0:Int)<_/\_<(1073741824:Int);omega) | exact Or.inl ⟨by omega,by omega⟩ | exact Or.inr ⟨by omega,by omega⟩ | assumption)
local macro_rules | `(tactic| walk_at "rd1")=>`(tactic| with_reducible first | refine Jc8 ?_ | refine JcO ?_ | refine JcT ?_ | refine Jc7 ?_ | refine JaY ?_ | refine Ja5 ?_ | refine Jee ?_ | refine Jeh ?_ | refine Ja9 ?_ | refine Jeg ?_ | refine Jba ?_ | refine JcN ?_ | refine Jef ?_ | refine Jc5 ?_ | refine Ja7 ?_ | refine JaW ?_ | refine Jc6 ?_ | refine JcS ?_ | refine JaX ?_ | refine Jc4 ?_ | refine Jeb ?_ | refine Wt ?_ | refine LR.Ja4 ?_ | refine Jda ?_ | refine JcZ ?_ | refine Jed ?_ | refine ZQ ?_ | refine Ja0 ?_ | refine ZP ?_ | refine JaZ ?_ | refine JcR ?_ | refine Ja8 ?_ | refine ZO ?_ | refine Jdc ?_ | refine JeJ ?_ | refine Jec ?_ | refine JeL ?_ | refine JaV ?_ | refine JcP ?_ | refine Jc2 ?_ | refine JcQ ?_ | refine Jc3 ?_ | refine JcU ?_ | refine Ja6 ?_ | refine Jc0 ?_ | refine Jc1 ?_ | refine Exists.intro _ (And.intro (LR.Jdu _ _ _) ?_))
local macro_rules | `(tactic| walk_at "rd2")=>`(tactic| first | ((with_reducible refine JeK ?hc ?_);(case hc=>walk_at "side")) | ((with_reducible refine Jdb (v:=?vv) ?hx ?_);(case hx=>exact rfl)) | (with_reducible refine Exists.intro _ (And.intro (Eq.refl (V.bl _)) ?_)))
local macro_rules | `(tactic| walk_at "rd")=>`(tactic| repeat (first | walk_at "rd1" | walk_at "rd2"))
noncomputable section
namespace LK
open PySem L2 LR LE
noncomputable def Jl:List Sl->Option Sl:=Uh 6 (Jz (Jw 2 (VU (Y0 ["0","+","-"," ","_",".","a","1","9","x","e","\n"] a0)))
 (Jz (Jw 3 (e2 fIx (Ja 2) (e2 J1 (Ja 1) (eF YW (aC (Ja 2) a0)))))
 (Jz (Jw 4 (e2 J1 (e2 Yo (Ja 1) (eC (.int 16))) (e2 JS (eF YW (aC (Ja 0) a0)) (eC (.int 1)))))
 (Jz (Jw 5 (VU (Y0 ["","-","-0","00","+5","1_0"," 7","7 ","--3","1e3","0x1"] (aC (e2 JS (eC (.str "1")) (e2 Yp (eC (.str "0")) (eC (.int 199)))) (aC (e2 JS (eC (.str "-1")) (e2 Yp (eC (.str "0")) (eC (.int 199)))) a0)))))
 (Jz (Jw 5 (e2 JS (Ja 5) (VU (aC (e2 JS (eC (.str "1")) (e2 Yp (eC (.str "0")) (eC (.int 200)))) (aC (e2 JS (eC (.str "-1")) (e2 Yp (eC (.str "0")) (eC (.int 200)))) (aC (e2 JS (eC (.str "0")) (e2 Yp (eC (.str "1")) (eC (.int 199)))) a0))))))
 (JY (VU (aC (e2 JS (e2 JS (UB (Ja 0) none (some (Ja 4))) (Ja 3)) (UB (Ja 0) (some (Ja 4)) none)) (aC (e2 fIx (Ja 5) (e2 J1 (e2 Yo (Ja 1) (eC (.int 3))) (eF YW (aC (Ja 5) a0)))) (aC (e2 JS (Ja 0) (Ja 3)) (aC (e2 JS (Ja 3) (Ja 0)) a0)))))))))))
noncomputable def JV:List Sl->Option Sl:=Uh 1 (JY (Jag (UV "int" (Ja 0)) (JbO (UV "bool" (Ja 0)))))
noncomputable def Je:List Sl->Option Sl:=Uh 2 (Jz (xIf (tB? (e2 fIs (Ja 1) (eC .non))) (JY (e2 fIs (Ja 0) (eC .non))) Ju)
 (JY (Jag (eU 1 JV (aC (Ja 0) a0)) (e2 fEq (Ja 0) (Ja 1)))))
noncomputable def Jh:List Sl->Option Sl:=Uh 3 (Jz (Jw 1 (Ja 0))
 (Jz (xIf (tB? (e2 fEq (UB (Ja 0) none (some (eC (.int 1)))) (eC (.str "-")))) (Jw 1 (UB (Ja 0) (some (eC (.int 1))) none)) Ju)
 (Jz (xIf (tOr? (tB? (e2 fEq (Ja 1) (eC (.str "")))) (tOr? (tB? (e2 fGt (eF YW (aC (Ja 1) a0)) (eC (.int 200)))) (tB? (e2 fEq (Ja 0) (eC (.str "-0")))))) (JY (eC .non)) Ju)
 (Jz (xIf (tAnd? (tB? (e2 fEq (e2 fIx (Ja 1) (eC (.int 0))) (eC (.str "0")))) (tB? (e2 fNe (Ja 1) (eC (.str "0"))))) (JY (eC .non)) Ju)
 (Jz (Ve (iTx (Ja 1)) (.nm 2) (xIf (tB? (e2 YH (Ja 2) (eC (.str "0123456789")))) (JY (eC .non)) Ju))
 (JY (eF Vp (aC (Ja 0) a0))))))))
noncomputable def Jb:List Sl->Option Sl:=Uh 2 (Jz (Jw 1 (eIf (tTru? (eM JI (Ja 0) (aC (eC (.str "-")) a0))) (UB (Ja 0) (some (eC (.int 1))) none) (Ja 0)))
 (Jz (xIf (tOr? (tB? (e2 fEq (Ja 1) (eC (.str "")))) (tB? (e2 fGt (eF YW (aC (Ja 1) a0)) (eC (.int 200))))) (JY (eC .non)) Ju)
 (Jz (xIf (tNot? (tTru? (eF Zf (aC (Zd (iTx (Ja 1)) (.nm 0) yes? (e2 Zg (Ja 0) (eC (.str "0123456789"))) [none]) a0)))) (JY (eC .non)) Ju)
 (Jz (xIf (tAnd? (tTru? (eM JI (Ja 1) (aC (eC (.str "0")) a0))) (tB? (e2 fNe (Ja 0) (eC (.str "0"))))) (JY (eC .non)) Ju)
 (JY (eF Vp (aC (Ja 0) a0)))))))
noncomputable def Jm:List Sl->Option Sl:=Uh 1 (JY (eF UW (aC (Ja 0) a0)))
noncomputable def VV:List Sl->Option Sl:=Uh 5 (Jz (Ve (iE false (e2 JS (VU (aC (eC (.int 0)) a0)) (eSl (Ja 0) none (some (eC (.int 60)))))) (.nm 1) (Jz (Jw 2 (e2 J1 (e2 Yo (Ja 1) (eC (.int 3))) (e2 YB (eC (.int 10)) (eC (.int 60)))))
 (Jz (xIf (tB? (e2 fEq (e2 J1 (Ja 1) (eC (.int 3))) (eC (.int 1)))) (Jw 2 (e2 Ug (e2 J1 (e2 Yo (Ja 1) (eC (.int 3))) (e2 YB (eC (.int 10)) (eC (.int 50)))) (eC (.int 4)))) Ju)
 (Jz (xIf (tB? (e2 fEq (e2 J1 (Ja 1) (eC (.int 2))) (eC (.int 1)))) (Jw 2 (e1 VW (Ja 2))) Ju)
 (Jz (Jw 3 (eU 1 Jm (aC (Ja 2) a0)))
 (Jz (xIf (tOr? (tNot? (tTru? (UV "str" (Ja 3)))) (tOr? (tB? (e2 fNe (Ja 3) (eF UW (aC (Ja 2) a0)))) (tNot? (tTru? (eU 2 Je (aC (eU 1 Jb (aC (Ja 3) a0)) (aC (Ja 2) a0))))))) (JY (eC (.bl false))) Ju)
 (Ve (iE false (eU 2 Jl (aC (Ja 3) (aC (e2 J1 (e2 Yo (Ja 1) (eC (.int 6))) (e2 YB (eC (.int 10)) (eC (.int 20)))) a0)))) (.nm 4) (xIf (tNot? (tTru? (eU 2 Je (aC (eU 1 Jb (aC (Ja 4) a0)) (aC (eU 1 Jh (aC (Ja 4) a0)) a0))))) (JY (eC (.bl false))) Ju))))))))
 (JY (eC (.bl true))))
end LK
end
namespace LK
open PySem L2 LR LE
local macro_rules | `(tactic| omega)=>`(tactic| first | lia | omega (config:={}))
local macro_rules | `(tactic| walk_at "sd")=>`(tactic| first | omega (config:={}) | assumption | (simp only[List.length_append,List.length_map,List.length_reverse,List.length_cons,List.length_nil,List.length_singleton];omega (config:={})))
local macro_rules | `(tactic| walk_at "ev")=>`(tactic| simp (disch:=walk_at "sd") only[Uh,Jbf,Int.reduceToNat,List.length_cons,List.length_nil,Nat.reduceAdd,Nat.reduceSub,Nat.reduceLT,Nat.reduceLeDiff,Nat.lt_irrefl,Nat.zero_lt_succ,Nat.succ_lt_succ_iff,List.reduceReplicate,List.cons_append,List.nil_append,List.append_nil,List.set_cons_zero,List.set_cons_succ,List.getElem?_cons_succ,List.getElem?_cons_zero,List.length_map,List.length_reverse,List.length_set,Option.bind_some,Option.map_some,Option.bind_none,Option.map_none,if_true,if_false,ite_true,ite_false,decide_true,decide_false,Bool.not_true,Bool.not_false,Bool.and_true,Bool.true_and,reduceIte,reduceCtorEq,Bool.false_eq_true,List.map_cons,List.map_nil,if_pos,
 Jz,xIf,JY,Ju,Jw,lst?,Y0,UB,Zg,YH,JI,iTx,Sl.dk,int?,Jb4,Ve,tB?,tTru?,tAnd?,tOr?,tNot?,Jdt,e2,e1,Ja,eF,eM,eC,aC,a0,eU,Ub,Sl.pass,VU,UX,Sl.frz,Jag,JbO,eIf,sh?,bool?,str?,keep?,UV,tyN,D.isRow,Jcv,Jcu,Jbd,Jbe,Jbb,Jbc,Jai,Jaj,
 JdG,Jay,Jax,JaA,Jaz,Jaq,Ya,Wj,Jat,Jao,Jan,Jau,Jav,Jar,Jap,Jas,Jb2,Jb0,JbZ,Jb3,JbY,Jb1,JdJ,JdI,JdL,JdH,JdK,JaB,Sl.q,Sl.r,Sl.m,Sl.d,Sl.it,fEq,fNe,JbU,JbW,JbT,JbV,JbR,JbS,JbQ,fIs,WO,WM,Zl,WQ,WR,WN,Zn,WP,iE,Zd,YL,Vs,eSl,Yn,fSl,Jb8,Jb7,ZY,Jck,JaF,Jcj,Jcn,Jcl,Jcm,Jbq,JdD,Jaa,W5,Jex,Jey,Jez,JeA,JeB,eq_self])
noncomputable section
noncomputable def tx(l:List Nat):Str:=⟨l.toArray⟩
theorem Jdw{a b:List Nat}:tx a=tx b↔a=b:=by
 constructor
 ·intro h;have:=congrArg (fun z:Str=>z.cps.toList) h
  simpa [tx] using this
 ·rintro rfl;rfl
theorem WB(z:Str):z=tx z.cps.toList:=rfl
theorem JH(l:List Nat):(tx l).length=l.length:=by simp[tx,Str.length]
theorem JR(l:List Nat):(tx l).cps.toList=l:=rfl
theorem Vd(a b:List Nat):tx a++tx b=tx (a++b):=by
 apply Str.mk.injEq _ _ |>.mpr
 apply Array.toList_inj.mp
 simp[tx]
noncomputable def dig(c:Nat):Bool:=decide (48<=c) && decide (c<=57)
theorem Wx(s:Str)(c i:Nat):Builtin.Str.subAt s ⟨#[c]⟩ i=(((s.cps.toList.drop i).take 1) == [c]):=by rw[StrLaws.subAt_eq];rfl
theorem Uw(l:List Nat)(c:Nat):Txt.startswith (tx l) ⟨#[c]⟩=(l.take 1 == [c]):=by
 unfold Txt.startswith;rw[Wx,JR,List.drop_zero]
 cases l with
 | nil=>rfl
 | cons a r =>
  have:(0+Str.length ⟨#[c]⟩<=(tx (a::r)).length):=by rw[JH];show 0+1<=r.length+1;omega
  rw[decide_eq_true this,Bool.true_and]
theorem ZZ:∀c:Nat,c<128->inS ⟨#[c]⟩ (Str.ofString "0123456789")=dig c:=by decide +kernel
theorem Zj(c:Nat):inS ⟨#[c]⟩ (Str.ofString "0123456789")=dig c:=by
 by_cases h:c<128
 ·exact ZZ c h
 ·have e:(Str.ofString "0123456789").cps.toList=[48,49,50,51,52,53,54,55,56,57]:=by decide +kernel
  have no:∀i,Builtin.Str.subAt (Str.ofString "0123456789") ⟨#[c]⟩ i=false:=fun i=>by
   rw[Wx,e]
   cases hb:((([48,49,50,51,52,53,54,55,56,57]:List Nat).drop i).take 1 == [c]) with
   | false=>rfl
   | true =>
    have e1:(([48,49,50,51,52,53,54,55,56,57]:List Nat).drop i).take 1=[c]:=by simpa using hb
    have m:c∈([48,49,50,51,52,53,54,55,56,57]:List Nat):=List.mem_of_mem_drop (List.mem_of_mem_take (show c∈(([48,49,50,51,52,53,54,55,56,57]:List Nat).drop i).take 1 by rw[e1];exact List.mem_cons_self));simp at m;omega
  unfold inS;rw[StrLaws.occ_eq,(StrLaws.occ_none _ _ _ _ 0 (fun i _=>Nat.zero_le _)).mpr (fun i _ z=>by rw[no i] at z;cases z.2)];unfold dig;rw[decide_eq_false (show ¬c<=57 by omega),Bool.and_false];rfl
theorem Wv(l:List Nat)(k:Nat)(h:k<=l.length):Txt.slice (tx l) (some (k:Int)) none=tx (l.drop k):=by
 have e:=StrLaws.sliceText_from (x:=tx l) (i:=(k:Int)) ⟨by omega,by rw[JR];omega⟩;rw[JR] at e
 show StrLaws.sliceText _ _ _=_;rw[e];unfold tx;congr 2;rw[Int.toNat_natCast,List.take_of_length_le (by rw[List.length_drop];omega)]
theorem JbD(l:List Nat)(k:Nat)(h:k<=l.length):Txt.slice (tx l) none (some (k:Int))=tx (l.take k):=by
 have e:=StrLaws.sliceText_to (x:=tx l) (j:=(k:Int)) ⟨by omega,by rw[JR];omega⟩;rw[JR] at e
 show StrLaws.sliceText _ _ _=_;rw[e];unfold tx;rw[List.drop_zero,show((k:Int)-0).toNat=k by omega]
theorem VI(l:List Nat):Txt.slice (tx l) (some 1) none=tx (l.drop 1):=by
 cases l with
 | nil=>rfl
 | cons a r=>exact Wv (a::r) 1 (by simp)
theorem Jdl(l:List Nat):Txt.slice (tx l) none (some 1)=tx (l.take 1):=by
 cases l with
 | nil=>rfl
 | cons a r=>exact JbD (a::r) 1 (by simp)
noncomputable def Jj:List Nat->List Nat
 | []=>[]
 | c::r=>if c=45 then r else c::r
theorem JZ(c:Nat)(r:List Nat):Jj (c::r)=if c=45 then r else c::r:=rfl
noncomputable def okL(l:List Nat):Bool:=!(Jj l).isEmpty && decide ((Jj l).length<=200) && (Jj l).all dig && !((Jj l).take 1 == [48] && !(l == [48]))
noncomputable def Wa(l:List Nat):Int:=(intText? (tx l)).getD 0
noncomputable def YF(l:List Nat):D:=if okL l=true then .int (Wa l) else .non
theorem US(l:List Nat):(Jj l).length<=l.length/\l.length<=(Jj l).length+1:=by
 cases l with
 | nil=>exact⟨Nat.le_refl _,Nat.le_succ _⟩
 | cons c r=>rw[JZ];split <;> simp
theorem Y7{l:List Nat}(h:l.all dig=true):NumText.AllDigits l:=fun c hc=>by have:=List.all_eq_true.mp h c hc;unfold dig at this;simp at this;exact this
theorem Zk(l:List Nat)(h:okL l=true):intText? (tx l)=some (Wa l):=by
 unfold okL at h;simp only[Bool.and_eq_true,Bool.not_eq_true',decide_eq_true_eq] at h;obtain⟨⟨⟨h1,h2⟩,h3⟩,_⟩:=h;have hb:=US l;have hne:Jj l≠[]:=fun e=>by rw[e] at h1;cases h1
 have some_:∀{n:Int},intText? (tx l)=some n->intText? (tx l)=some (Wa l):=fun {n} e=>by unfold Wa;rw[e];rfl
 cases l with
 | nil=>exact absurd rfl hne
 | cons c r =>
  by_cases hc:c=45
  ·subst hc;have e:Jj (45::r)=r:=by rw[JZ,if_pos rfl]
   rw[e] at h3 hne h2;exact some_ (intText_neg (x:=tx (45::r)) (cs:=r) rfl (Y7 h3) hne (by rw[JH];simp;omega))
  ·have e:Jj (c::r)=c::r:=by rw[JZ,if_neg hc]
   rw[e] at h3 h2;exact some_ (intText_digits (x:=tx (c::r)) (Y7 h3) (by rw[JR];simp) (by rw[JH];omega))
theorem Wu:Str.ofString "-"=tx [45]:=by decide +kernel
theorem ZT:Str.ofString ""=tx []:=by decide +kernel
theorem V8:Str.ofString "0"=tx [48]:=by decide +kernel
theorem JeN:Str.ofString "-0"=tx [45,48]:=by decide +kernel
theorem YA(a b:List Nat):decide (tx a=tx b)=decide (a=b):=by simp only[Jdw]
theorem YS(l:List Nat):Jj l=if l.take 1=[45] then l.drop 1 else l:=by
 cases l with
 | nil=>rfl
 | cons c r =>
  rw[JZ]
  by_cases h:c=45
  ·rw[if_pos h,if_pos (by simp[h])];rfl
  ·rw[if_neg h,if_neg (by simp[h])]
theorem Jah(b:List Nat):Yz (.nm 0) yes? (e2 Zg (Ja 0) (eC (.str (Str.ofString "0123456789")))) [.no] (b.map sgE)=some (b.map fun c=>D.bl (dig c)):=Vm fun c _=>by simp only[sgE];walk_at "ev";rw[Zj]
theorem Y8(l:List Nat){n:Int}(hl:l.length<=640)(h:intText? (tx l)=some n):Vp [.sh (.str (tx l))]=some (.sh (.int n)):=by show(if _ then _ else _)=_;rw[if_pos (by rw[JH];exact hl),h];rfl
theorem Zt(l:List Nat)(hl:l.length<=640):Jb [.sh (.str (tx l))]=some (.sh (YF l)):=by
 have hb:=US l
 have ll:=JH l
 have lb:=JH (Jj l)
 have st:Txt.startswith (tx l) (Str.ofString "-")=decide (l.take 1=[45]):=by rw[Wu];exact(Uw l 45).trans (by rw[Bool.eq_iff_iff];simp)
 have sz:Txt.startswith (tx (Jj l)) (Str.ofString "0")=decide ((Jj l).take 1=[48]):=by rw[V8];exact(Uw _ 48).trans (by rw[Bool.eq_iff_iff];simp)
 have fal:Zf [.own ((Jj l).map fun c=>D.bl (dig c))]=some (.sh (.bl ((Jj l).all dig))):=by
  rw[Jaw (ns:=(Jj l).map dig) (by simp[Sl.q]),List.all_map]
  all_goals rfl
 have fig:∀T:Es,(Jz (Jw 1 (eIf (tTru? (eM JI (Ja 0) (aC (eC (.str "-")) a0))) (UB (Ja 0) (some (eC (.int 1))) none) (Ja 0))) T) [.sh (.str (tx l)),.no]=T [.sh (.str (tx l)),.sh (.str (tx (Jj l)))]:=fun T=>by
  rw[YS];walk_at "ev";rw[st]
  by_cases h:l.take 1=[45]
  ·rw[decide_eq_true h,if_pos h];walk_at "ev";rw[VI]
  ·rw[decide_eq_false h,if_neg h];walk_at "ev"
 unfold Jb Uh;simp only[List.length_cons,List.length_nil,Nat.reduceAdd,Nat.reduceSub,List.reduceReplicate,List.cons_append,List.nil_append];rw[fig];walk_at "ev";rw[ZT,YA];unfold YF okL
 by_cases h1:Jj l=[]
 ·rw[decide_eq_true h1,h1];walk_at "ev"
  all_goals rfl
 ·have h1':(Jj l).isEmpty=false:=by cases e:Jj l with|nil=>exact absurd e h1|cons _ _=>rfl
  rw[decide_eq_false h1,h1'];walk_at "ev"
  by_cases h2:(Jj l).length<=200
  ·rw[decide_eq_false (show ¬(((tx (Jj l)).length:Int)>200) by omega),decide_eq_true h2];walk_at "ev";rw[JR,Jah];walk_at "ev";rw[fal];walk_at "ev"
   cases h3:(Jj l).all dig with
   | false =>
    walk_at "ev"
    all_goals rfl
   | true =>
    walk_at "ev";rw[sz];rw[V8,YA];have io:=Zk l;unfold okL at io;rw[h1',decide_eq_true h2,h3] at io
    by_cases h4:(Jj l).take 1=[48]
    ·by_cases h5:l=[48]
     ·rw[decide_eq_true h4,decide_eq_true h5];have e5:(l == [48])=true:=by simp[h5]
      rw[e5,Bool.not_true,Bool.and_false] at io ⊢;walk_at "ev";rw[Y8 l hl (io rfl)]
      all_goals rfl
     ·rw[decide_eq_true h4,decide_eq_false h5];have e4:((Jj l).take 1 == [48])=true:=by simp[h4]
      have e5:(l == [48])=false:=by simp[h5]
      rw[e4,e5];walk_at "ev"
      all_goals rfl
    ·rw[decide_eq_false h4];have e4:((Jj l).take 1 == [48])=false:=by simp[h4]
     rw[e4] at io ⊢;walk_at "ev";rw[Y8 l hl (io rfl)]
     all_goals rfl
  ·rw[decide_eq_true (show(((tx (Jj l)).length:Int)>200) by omega),decide_eq_false h2];walk_at "ev"
   all_goals rfl
theorem Vv(x y:Sl):∀(b:List Nat) (j:Sl),∃j',Yh (.nm 2) (xIf (tB? (e2 YH (Ja 2) (eC (.str "0123456789")))) (JY (eC .non)) Ju) (b.map sgE) [x,y,j]=if b.all dig=true then some (.nx [x,y,j']) else some (.rt (.sh .non))
 | [],j=>⟨j,rfl⟩
 | c::r,j=>by
  obtain⟨j',ih⟩:=Vv x y r (.sh (sgE c));refine⟨j',?_⟩;rw[List.map_cons,Yh];simp only[sgE] at ih ⊢;walk_at "ev";rw[Zj,List.all_cons]
  cases h:dig c with
  | true=>walk_at "ev";exact ih
  | false =>
   walk_at "ev"
   all_goals rfl
theorem Z6(b:List Nat)(h:b≠[]):∃c r,b=c::r:=by cases b with|nil=>exact absurd rfl h|cons c r=>exact⟨c,r,rfl⟩
theorem JdT(l:List Nat)(hl:l.length<=640):Jh [.sh (.str (tx l))]=some (.sh (YF l)):=by
 have hb:=US l
 have ll:=JH l
 have lb:=JH (Jj l)
 have fig:∀T:Es,(Jz (Jw 1 (Ja 0)) (Jz (xIf (tB? (e2 fEq (UB (Ja 0) none (some (eC (.int 1)))) (eC (.str "-")))) (Jw 1 (UB (Ja 0) (some (eC (.int 1))) none)) Ju) T)) [.sh (.str (tx l)),.no,.no]=T [.sh (.str (tx l)),.sh (.str (tx (Jj l))),.no]:=fun T=>by
  rw[YS];walk_at "ev";rw[Jdl,Wu,YA]
  by_cases h:l.take 1=[45]
  ·rw[decide_eq_true h,if_pos h];walk_at "ev";rw[VI]
  ·rw[decide_eq_false h,if_neg h];walk_at "ev"
 obtain⟨j,hj⟩:=Vv (.sh (.str (tx l))) (.sh (.str (tx (Jj l)))) (Jj l) .no;unfold Jh Uh;simp only[List.length_cons,List.length_nil,Nat.reduceAdd,Nat.reduceSub,List.reduceReplicate,List.cons_append,List.nil_append];rw[fig];have io:=Zk l;walk_at "ev";rw[ZT,YA]
 by_cases h1:Jj l=[]
 ·have ok:okL l=false:=by unfold okL;rw[h1];rfl
  unfold YF;rw[decide_eq_true h1,ok];walk_at "ev"
  all_goals rfl
 ·obtain⟨c,r,hcr⟩:=Z6 _ h1;have h1':(Jj l).isEmpty=false:=by rw[hcr];rfl
  rw[decide_eq_false h1];walk_at "ev"
  by_cases h2:(Jj l).length<=200
  ·rw[decide_eq_false (show ¬(((tx (Jj l)).length:Int)>200) by omega)];walk_at "ev";rw[JeN,YA]
   by_cases h6:l=[45,48]
   ·have ok:okL l=false:=by rw[h6];rfl
    unfold YF;rw[decide_eq_true h6,ok];walk_at "ev"
    all_goals rfl
   ·rw[decide_eq_false h6];walk_at "ev"
    have fx:fIx (.sh (.str (tx (Jj l)))) (.sh (.int 0))=some (.sh (.str (tx [c]))):=by
     rw[hcr];show(if _ then _ else _)=_;rw[if_pos (by rw[JH,<- hcr];show _<=16777216;omega),JR];have ha:=Wc (xs:=c::r) (j:=0) (v:=c) rfl;show Option.map _ (atI (c::r) ((0:Nat):Int))=_;rw[ha]
     all_goals rfl
    rw[fx];walk_at "ev";rw[V8,YA]
    by_cases h4:[c]=[48]
    ·rw[decide_eq_true h4];walk_at "ev";rw[YA]
     by_cases h5:Jj l=[48]
     ·have h7:l=[48]:=by
       rw[YS] at h5;split at h5
       ·next z=>refine absurd ?_ h6;have:=List.take_append_drop 1 l;rw[z,h5] at this;exact this.symm
       ·exact h5
      have ok:okL l=true:=by rw[h7];rfl
      rw[decide_eq_true h5];walk_at "ev";rw[JR,hj,show(Jj l).all dig=true by rw[h5];rfl];walk_at "ev";rw[Y8 l hl (io ok)];unfold YF;rw[ok]
      all_goals rfl
     ·have ok:okL l=false:=by
       unfold okL;rw[show((Jj l).take 1 == [48])=true by rw[hcr];simpa using h4,show(l == [48])=false by
        cases z:(l == [48]) with
        | false=>rfl
        | true=>exact absurd (by rw[show l=[48] by simpa using z];rfl) h5]
       simp
      unfold YF;rw[decide_eq_false h5,ok];walk_at "ev"
      all_goals rfl
    ·rw[decide_eq_false h4];walk_at "ev";rw[JR,hj];have t4:((Jj l).take 1 == [48])=false:=by rw[hcr];simpa using h4
     cases h3:(Jj l).all dig with
     | true =>
      have ok:okL l=true:=by unfold okL;rw[h1',decide_eq_true h2,h3,t4];rfl
      walk_at "ev";rw[Y8 l hl (io ok)];unfold YF;rw[ok]
      all_goals rfl
     | false =>
      have ok:okL l=false:=by unfold okL;rw[h3];simp
      unfold YF;rw[ok];walk_at "ev"
      all_goals rfl
  ·have ok:okL l=false:=by unfold okL;rw[decide_eq_false h2];simp
   unfold YF;rw[decide_eq_true (show(((tx (Jj l)).length:Int)>200) by omega),ok];walk_at "ev"
   all_goals rfl
noncomputable def J7(m:Nat):List Nat:=(Nat.toDigits 10 m).map Char.toNat
theorem Vl:∀d:Nat,d<10->(Nat.digitChar d).toNat=d+48:=by decide
theorem YG{m:Nat}(h:m<10):J7 m=[m+48]:=by unfold J7;rw[Nat.toDigits_of_lt_base h];show [(Nat.digitChar m).toNat]=_;rw[Vl m h]
theorem UU{m:Nat}(h:¬m<10):J7 m=J7 (m / 10)++[m % 10+48]:=by
 have hm:m % 10<10:=Nat.mod_lt m (by decide)
 have t:Nat.toDigits 10 (m / 10)++Nat.toDigits 10 (m % 10)=Nat.toDigits 10 (10*(m / 10)+m % 10):=Nat.toDigits_append_toDigits (by decide) (by omega) hm;rw[Nat.div_add_mod] at t;unfold J7;rw[<- t,List.map_append,Nat.toDigits_of_lt_base hm]
 show _++[(Nat.digitChar _).toNat]=_;rw[Vl _ hm]
theorem Vj(m:Nat):(J7 m).all dig=true:=by
 induction m using Nat.strongRecOn with
 | _ m ih =>
  by_cases h:m<10
  ·rw[YG h];simp[dig];omega
  ·rw[UU h,List.all_append,ih (m / 10) (by omega)];simp[dig];omega
theorem Uf:∀(k m:Nat),m<10 ^ (k+1)->(J7 m).length<=k+1
 | 0,m,h=>by rw[YG (by simpa using h)];simp
 | k+1,m,h=>by
  by_cases z:m<10
  ·rw[YG z];simp
  ·have:=Uf k (m / 10) (by rw[Nat.pow_succ] at h;omega);rw[UU z,List.length_append,List.length_singleton];omega
theorem Vk(m:Nat):∃c r,J7 m=c::r/\(0<m->c≠48):=by
 induction m using Nat.strongRecOn with
 | _ m ih =>
  by_cases h:m<10
  ·exact⟨m+48,[],YG h,fun _=>by omega⟩
  ·obtain⟨c,r,e,n⟩:=ih (m / 10) (by omega);exact⟨c,r++[m % 10+48],by rw[UU h,e];rfl,fun _=>n (by omega)⟩
theorem Z0(m:Nat):strI (m:Int)=tx (J7 m):=by have e:=PySem.W.KIN.signs_num m;rw[WB (strI (m:Int))];exact congrArg tx e
theorem Z1(m:Nat):strI (Int.negSucc m)=tx (45::J7 (m+1)):=by rw[WB (strI (Int.negSucc m))];refine congrArg tx ?_;show(Str.ofString ("-"++Nat.repr (m+1))).cps.toList=_;rw[PyProof.Rows.signs_ofString,String.toList_append,List.map_append,Nat.toList_repr];rfl
theorem Jcp(n:Int)(h:n.natAbs<10 ^ 200):∃l,strI n=tx l/\l.length<=201/\okL l=true/\Wa l=n:=by
 cases n with
 | ofNat m =>
  have hl:=Uf 199 m h;obtain⟨c,r,e,z⟩:=Vk m
  have hd:=Vj m
  have hc:c≠45:=fun q=>by rw[e,q,List.all_cons] at hd;exact absurd hd (by simp[dig])
  have hb:Jj (J7 m)=J7 m:=by rw[e,JZ,if_neg hc]
  refine⟨J7 m,Z0 m,by omega,?_,?_⟩
  ·unfold okL;rw[hb,hd,decide_eq_true hl,e]
   by_cases h0:m=0
   ·subst h0;rw[YG (by decide)] at e
    injection e with e1 e2
    rw[<- e1,<- e2];rfl
   ·have:=z (by omega);simp[this]
  ·unfold Wa;rw[intText_digits (x:=tx (J7 m)) (Y7 hd) (by rw[JR,e];simp) (by rw[JH];omega),JR];show((PySem.NumText.digitsVal (J7 m):Nat):Int)=_;unfold J7;rw[PySem.W.KIN.val_back];rfl
 | negSucc m =>
  have hl:=Uf 199 (m+1) h;obtain⟨c,r,e,z⟩:=Vk (m+1)
  have hd:=Vj (m+1)
  have hb:Jj (45::J7 (m+1))=J7 (m+1):=by rw[JZ,if_pos rfl]
  refine⟨45::J7 (m+1),Z1 m,by rw[List.length_cons];omega,?_,?_⟩
  ·unfold okL;rw[hb,hd,decide_eq_true hl,e];have:=z (by omega);simp[this]
  ·unfold Wa;rw[intText_neg (x:=tx (45::J7 (m+1))) (cs:=J7 (m+1)) rfl (Y7 hd) (by rw[e];simp) (by rw[JH,List.length_cons];omega)];show -((PySem.NumText.digitsVal (J7 (m+1)):Nat):Int)=_;unfold J7;rw[PySem.W.KIN.val_back];rfl
theorem Jdh:Je [.sh .non,.sh .non]=some (.sh (.bl true)):=by unfold Je;walk_at "ev"
theorem ZV(n:Int):Je [.sh (.int n),.sh (.int n)]=some (.sh (.bl true)):=by
 unfold Je JV;walk_at "ev"
 all_goals rfl
theorem Jdi(l:List Nat):Je [.sh (YF l),.sh (YF l)]=some (.sh (.bl true)):=by
 unfold YF;split
 ·exact ZV _
 ·exact Jdh
theorem Wd{xs:List D}{ys:List Str}{i:Int}(e:xs=ys.map D.str)(h0:0<=i)(h1:i<(ys.length:Int)):∃s∈ys,atI xs i=some (.str s):=by
 obtain⟨k,rfl⟩:=Int.eq_ofNat_of_zero_le h0;have hk:k<ys.length:=by omega
 refine⟨ys[k],List.getElem_mem hk,?_⟩;subst e;exact Wc (xs:=ys.map D.str) (j:=k) (v:=.str ys[k]) (by rw[List.getElem?_map,List.getElem?_eq_getElem hk];rfl)
noncomputable def sg12:List Str:=["0","+","-"," ","_",".","a","1","9","x","e","\n"]
noncomputable def JeT:List Str:=["","-","-0","00","+5","1_0"," 7","7 ","--3","1e3","0x1"]
noncomputable def tl16:List Str:=JeT++[("1":Str)++JM "0" 199,("-1":Str)++JM "0" 199,("1":Str)++JM "0" 200,("-1":Str)++JM "0" 200,("0":Str)++JM "1" 199]
theorem Jdk:∀s∈sg12,s.length<=1:=by decide +kernel
theorem Jds:∀s∈tl16,s.length<=202:=by decide +kernel
theorem V6{z:Str}{n:Nat}(h:1<=(n:Int)/\(n:Int)<=16777216/\z.length*(n:Int).toNat<=16777216):Yp (.sh (.str z)) (.sh (.int (n:Int)))=some (.sh (.str (JM z n))):=if_pos h
theorem r0a:Yp (.sh (.str "0")) (.sh (.int 199))=some (.sh (.str (JM "0" 199))):=V6 (n:=199) (by decide +kernel)
theorem r0b:Yp (.sh (.str "0")) (.sh (.int 200))=some (.sh (.str (JM "0" 200))):=V6 (n:=200) (by decide +kernel)
theorem r1a:Yp (.sh (.str "1")) (.sh (.int 199))=some (.sh (.str (JM "1" 199))):=V6 (n:=199) (by decide +kernel)
theorem a1:JS (.sh (.str "1")) (.sh (.str (JM "0" 199)))=some (.sh (.str (("1":Str)++JM "0" 199))):=Ya (by decide +kernel)
theorem a2:JS (.sh (.str "-1")) (.sh (.str (JM "0" 199)))=some (.sh (.str (("-1":Str)++JM "0" 199))):=Ya (by decide +kernel)
theorem a3:JS (.sh (.str "1")) (.sh (.str (JM "0" 200)))=some (.sh (.str (("1":Str)++JM "0" 200))):=Ya (by decide +kernel)
theorem a4:JS (.sh (.str "-1")) (.sh (.str (JM "0" 200)))=some (.sh (.str (("-1":Str)++JM "0" 200))):=Ya (by decide +kernel)
theorem a5:JS (.sh (.str "0")) (.sh (.str (JM "1" 199)))=some (.sh (.str (("0":Str)++JM "1" 199))):=Ya (by decide +kernel)
theorem WX(l:List Nat)(c:Int)(hl:l.length<=201):∃ls:List (List Nat),(∀b∈ls,b.length<=640)/\ls.length=4/\Jl [.sh (.str (tx l)),.sh (.int c)]=some (.own (ls.map fun b=>.str (tx b))):=by
 unfold Jl;have tl:=JH l;obtain⟨s,hs,es⟩:=Wd (xs:=sg12.map D.str) (ys:=sg12) (i:=c % 12) rfl (by omega) (by show _<(12:Int);omega);obtain⟨t,ht,et⟩:=Wd (xs:=tl16.map D.str) (ys:=tl16) (i:=c / 3 % 16) rfl (by omega) (by show _<(16:Int);omega)
 obtain⟨k,hk,kl⟩:∃k:Nat,c / 16 % (((tx l).length:Int)+1)=(k:Int)/\k<=l.length:=by
  have h0:=Int.emod_nonneg (c / 16) (show(((tx l).length:Int)+1)≠0 by omega)
  have h1:=Int.emod_lt_of_pos (c / 16) (show 0<(((tx l).length:Int)+1) by omega);exact⟨(c / 16 % (((tx l).length:Int)+1)).toNat,by omega,by omega⟩
 have sl:=Jdk s hs
 have ul:=Jds t ht;walk_at "ev"
 have es':atI [D.str "0",.str "+",.str "-",.str " ",.str "_",.str ".",.str "a",.str "1",.str "9",.str "x",.str "e",.str "\n"] (c % ((12:Nat):Int))=some (.str s):=es;rw[es']
 clear es es' hs ht;walk_at "ev";rw[r0a];walk_at "ev";rw[a1,a2];walk_at "ev";rw[r0b,r1a];walk_at "ev";rw[a3,a4,a5];walk_at "ev";have et':atI [D.str "",.str "-",.str "-0",.str "00",.str "+5",.str "1_0",.str " 7",.str "7 ",.str "--3",.str "1e3",.str "0x1",.str (("1":Str)++JM "0" 199),.str (("-1":Str)++JM "0" 199),.str (("1":Str)++JM "0" 200),.str (("-1":Str)++JM "0" 200),.str (("0":Str)++JM "1" 199)] (c / 3 % ((16:Nat):Int))=some (.str t):=et
 rw[hk,et',JbD l k kl,Wv l k kl]
 clear et et';obtain⟨u,rfl⟩:∃b,s=tx b:=⟨_,WB s⟩
 obtain⟨v,rfl⟩:∃b,t=tx b:=⟨_,WB t⟩
 rw[JH] at sl ul;have t1:(tx (l.take k)).length<=201:=by rw[JH,List.length_take];omega
 have t2:(tx (l.drop k)).length<=201:=by rw[JH,List.length_drop];omega
 have t3:(tx u).length<=1:=by rw[JH];exact sl
 have t4:(tx (l.take k++u)).length<=202:=by rw[JH,List.length_append,List.length_take];omega
 rw[Ya (by omega),Vd,Option.bind_some,Ya (by omega),Vd,Vd,Vd];refine⟨[l.take k++u++l.drop k,v,l++u,u++l],fun b hb=>?_,rfl,?_⟩
 ·simp only[List.mem_cons,List.not_mem_nil,or_false] at hb;rcases hb with rfl|rfl|rfl|rfl <;> (try simp only[List.length_append,List.length_take,List.length_drop]) <;> omega
 ·walk_at "ev"
  all_goals rfl
theorem U0{α β:Type}{p:Pt}{b:Es}{f:α->D}(R:List α->β->En->Prop)(g:β->α->β):∀{as:List α} {E:En} (s:β) (h0:R as s E)
 (h:∀a as s E,R (a::as) s E->okS (R as (g s a)) ((p.bind (f a) E).bind b)),∃E',R [] (as.foldl g s) E'/\Yh p b (as.map f) E=some (.nx E')
 | [],E,s,h0,_=>⟨E,h0,rfl⟩
 | a::as,E,s,h0,h=>by
  obtain⟨E2,e2,r2⟩:=Zw (h a as s E h0);obtain⟨E',h1,h2⟩:=U0 R g (as:=as) (E:=E2) (g s a) r2 h;refine⟨E',h1,?_⟩;rw[List.map_cons,Yh]
  cases hp:p.bind (f a) E with
  | none=>rw[hp] at e2;rcases e2 with e2|e2 <;> cases e2
  | some E1=>rw[hp,Option.bind_some] at e2;rw[Option.bind_some];rcases e2 with e2|e2 <;> (rw[e2,Option.bind_some];exact h2)
theorem Jco(n:Int)(h:n.natAbs<10 ^ 200):n.natAbs.log2<1920:=by
 by_cases z:n.natAbs=0
 ·rw[z];decide
 ·exact(Nat.log2_lt z).mpr (Nat.lt_of_lt_of_le h (by decide +kernel))
theorem WW{i:Int}(h:i.natAbs.log2<1920):Jm [.sh (.int i)]=some (.sh (.str (strI i))):=by unfold Jm;walk_at "ev"
theorem JdR(z x y w:Sl)(ls:List (List Nat))(hl:∀b∈ls,b.length<=640)(v:Sl):∃v',Yh (.nm 4) (xIf (tNot? (tTru? (eU 2 Je (aC (eU 1 Jb (aC (Ja 4) a0)) (aC (eU 1 Jh (aC (Ja 4) a0)) a0))))) (JY (eC (.bl false))) Ju) (ls.map fun b=>.str (tx b)) [z,x,y,w,v]=some (.nx [z,x,y,w,v']):=by
 obtain⟨E',⟨_,v',e⟩,h⟩:=U0 (p:=.nm 4) (b:=(xIf (tNot? (tTru? (eU 2 Je (aC (eU 1 Jb (aC (Ja 4) a0)) (aC (eU 1 Jh (aC (Ja 4) a0)) a0))))) (JY (eC (.bl false))) Ju)) (f:=fun b=>D.str (tx b)) (fun as (_:Unit) E=>(∀b∈as,b.length<=640)/\∃v,E=[z,x,y,w,v]) (fun _ _=>()) (as:=ls) (E:=[z,x,y,w,v]) () ⟨hl,v,rfl⟩ (by rintro b bs _ E ⟨h,v,rfl⟩;have hb:=h b List.mem_cons_self;walk_at "ev";rw[Zt b hb];walk_at "ev";rw[JdT b hb];walk_at "ev";rw[Jdi];walk_at "ev";exact⟨fun c hc=>h c (List.mem_cons_of_mem _ hc),_,rfl⟩)
 exact⟨v',by rw[h,e]⟩
theorem rest(z x3 x4:Sl)(a n:Int)(h:n.natAbs<10 ^ 200):∃y3 y4,(Jz (Jw 3 (eU 1 Jm (aC (Ja 2) a0))) (Jz (xIf (tOr? (tNot? (tTru? (UV "str" (Ja 3)))) (tOr? (tB? (e2 fNe (Ja 3) (eF UW (aC (Ja 2) a0)))) (tNot? (tTru? (eU 2 Je (aC (eU 1 Jb (aC (Ja 3) a0)) (aC (Ja 2) a0))))))) (JY (eC (.bl false))) Ju) (Ve (iE false (eU 2 Jl (aC (Ja 3) (aC (e2 J1 (e2 Yo (Ja 1) (eC (.int 6))) (e2 YB (eC (.int 10)) (eC (.int 20)))) a0)))) (.nm 4) (xIf (tNot? (tTru? (eU 2 Je (aC (eU 1 Jb (aC (Ja 4) a0)) (aC (eU 1 Jh (aC (Ja 4) a0)) a0))))) (JY (eC (.bl false))) Ju)))) [z,.sh (.int a),.sh (.int n),x3,x4]=some (.nx [z,.sh (.int a),.sh (.int n),y3,y4]):=by
 have lg:=Jco n h;obtain⟨l,el,hl,ok,vl⟩:=Jcp n h
 have ho:YF l=.int n:=by unfold YF;rw[if_pos ok,vl]
 obtain⟨ls,h1,_,h2⟩:=WX l (a / 6 % 10 ^ 20) hl;walk_at "ev";rw[WW lg];walk_at "ev";rw[el,Zt l (by omega),ho];walk_at "ev";rw[ZV];walk_at "ev";rw[h2];walk_at "ev";obtain⟨v,e⟩:=JdR z (.sh (.int a)) (.sh (.int n)) (.sh (.str (tx l))) ls h1 x4;rw[e];exact⟨_,_,rfl⟩
theorem Wo{i:Int}(h:i.natAbs.log2<1000):Ug (.sh (.int i)) (.sh (.int 4))=some (.sh (.int (i ^ 4))):=by show(if _ then _ else _)=_;rw[if_pos ⟨h,by decide,by decide⟩];rfl
theorem head(T:Es)(z x2 x3 x4:Sl)(a:Int):∃n:Int,n.natAbs<10 ^ 200/\(Jz (Jw 2 (e2 J1 (e2 Yo (Ja 1) (eC (.int 3))) (e2 YB (eC (.int 10)) (eC (.int 60))))) (Jz (xIf (tB? (e2 fEq (e2 J1 (Ja 1) (eC (.int 3))) (eC (.int 1)))) (Jw 2 (e2 Ug (e2 J1 (e2 Yo (Ja 1) (eC (.int 3))) (e2 YB (eC (.int 10)) (eC (.int 50)))) (eC (.int 4)))) Ju) (Jz (xIf (tB? (e2 fEq (e2 J1 (Ja 1) (eC (.int 2))) (eC (.int 1)))) (Jw 2 (e1 VW (Ja 2))) Ju) T))) [z,.sh (.int a),x2,x3,x4]=T [z,.sh (.int a),.sh (.int n),x3,x4]:=by
 have b0:(a / 3 % 10 ^ 50).natAbs<10 ^ 50:=by omega
 have lg:(a / 3 % 10 ^ 50).natAbs.log2<1000:=by
  by_cases y:(a / 3 % 10 ^ 50).natAbs=0
  ·rw[y];decide
  ·exact(Nat.log2_lt y).mpr (Nat.lt_of_lt_of_le b0 (by decide +kernel))
 have b1:((a / 3 % 10 ^ 50) ^ 4).natAbs<10 ^ 200:=by rw[Int.natAbs_pow,show(10:Nat) ^ 200=(10 ^ 50) ^ 4 by decide +kernel];exact Nat.pow_lt_pow_left b0 (by decide)
 have b2:(a / 3 % 10 ^ 60).natAbs<10 ^ 200:=by omega
 by_cases h3:a % 3=1 <;> by_cases h2:a % 2=1
 ·refine⟨-((a / 3 % 10 ^ 50) ^ 4),by rw[Int.natAbs_neg];exact b1,?_⟩;walk_at "ev";simp only[h3];walk_at "ev";rw[Wo lg];walk_at "ev";simp only[h2];walk_at "ev"
 ·refine⟨(a / 3 % 10 ^ 50) ^ 4,b1,?_⟩;walk_at "ev";simp only[h3];walk_at "ev";rw[Wo lg];walk_at "ev";simp only[h2];walk_at "ev"
 ·refine⟨-(a / 3 % 10 ^ 60),by rw[Int.natAbs_neg];exact b2,?_⟩;walk_at "ev";simp only[h3];walk_at "ev";simp only[h2];walk_at "ev"
 ·refine⟨a / 3 % 10 ^ 60,b2,?_⟩;walk_at "ev";simp only[h3];walk_at "ev";simp only[h2];walk_at "ev"
theorem Z7(z x1 x2 x3 x4:Sl)(a:Int):∃y2 y3 y4,(Jz (Jw 2 (e2 J1 (e2 Yo (Ja 1) (eC (.int 3))) (e2 YB (eC (.int 10)) (eC (.int 60))))) (Jz (xIf (tB? (e2 fEq (e2 J1 (Ja 1) (eC (.int 3))) (eC (.int 1)))) (Jw 2 (e2 Ug (e2 J1 (e2 Yo (Ja 1) (eC (.int 3))) (e2 YB (eC (.int 10)) (eC (.int 50)))) (eC (.int 4)))) Ju) (Jz (xIf (tB? (e2 fEq (e2 J1 (Ja 1) (eC (.int 2))) (eC (.int 1)))) (Jw 2 (e1 VW (Ja 2))) Ju) (Jz (Jw 3 (eU 1 Jm (aC (Ja 2) a0))) (Jz (xIf (tOr? (tNot? (tTru? (UV "str" (Ja 3)))) (tOr? (tB? (e2 fNe (Ja 3) (eF UW (aC (Ja 2) a0)))) (tNot? (tTru? (eU 2 Je (aC (eU 1 Jb (aC (Ja 3) a0)) (aC (Ja 2) a0))))))) (JY (eC (.bl false))) Ju) (Ve (iE false (eU 2 Jl (aC (Ja 3) (aC (e2 J1 (e2 Yo (Ja 1) (eC (.int 6))) (e2 YB (eC (.int 10)) (eC (.int 20)))) a0)))) (.nm 4) (xIf (tNot? (tTru? (eU 2 Je (aC (eU 1 Jb (aC (Ja 4) a0)) (aC (eU 1 Jh (aC (Ja 4) a0)) a0))))) (JY (eC (.bl false))) Ju))))))) [z,.sh (.int a),x2,x3,x4]=some (.nx [z,.sh (.int a),y2,y3,y4]):=by
 obtain⟨n,h,e⟩:=head (Jz (Jw 3 (eU 1 Jm (aC (Ja 2) a0))) (Jz (xIf (tOr? (tNot? (tTru? (UV "str" (Ja 3)))) (tOr? (tB? (e2 fNe (Ja 3) (eF UW (aC (Ja 2) a0)))) (tNot? (tTru? (eU 2 Je (aC (eU 1 Jb (aC (Ja 3) a0)) (aC (Ja 2) a0))))))) (JY (eC (.bl false))) Ju) (Ve (iE false (eU 2 Jl (aC (Ja 3) (aC (e2 J1 (e2 Yo (Ja 1) (eC (.int 6))) (e2 YB (eC (.int 10)) (eC (.int 20)))) a0)))) (.nm 4) (xIf (tNot? (tTru? (eU 2 Je (aC (eU 1 Jb (aC (Ja 4) a0)) (aC (eU 1 Jh (aC (Ja 4) a0)) a0))))) (JY (eC (.bl false))) Ju)))) z x2 x3 x4 a
 obtain⟨y3,y4,e'⟩:=rest z x3 x4 a n h;exact⟨_,y3,y4,e.trans e'⟩
theorem Zb{α β:Type}(f:α->β)(xs:List α)(lo hi:Option Int):YV (xs.map f) lo hi=(YV xs lo hi).map f:=by unfold YV;rw[List.length_map,List.map_take,List.map_drop]
theorem Za{α:Type}(xs:List α)(lo hi:Option Int):(YV xs lo hi).length<=xs.length:=by unfold YV;rw[List.length_take,List.length_drop];omega
theorem law_true(ns:List Int)(hn:ns.length<=63):VV [.sh (.fz (ns.map .int))]=some (.sh (.bl true)):=by
 unfold VV;have cl:=Za ns none (some 60)
 obtain⟨E',⟨y1,y2,y3,y4,e⟩,h⟩:=U0 (p:=.nm 1) (b:=(Jz (Jw 2 (e2 J1 (e2 Yo (Ja 1) (eC (.int 3))) (e2 YB (eC (.int 10)) (eC (.int 60))))) (Jz (xIf (tB? (e2 fEq (e2 J1 (Ja 1) (eC (.int 3))) (eC (.int 1)))) (Jw 2 (e2 Ug (e2 J1 (e2 Yo (Ja 1) (eC (.int 3))) (e2 YB (eC (.int 10)) (eC (.int 50)))) (eC (.int 4)))) Ju) (Jz (xIf (tB? (e2 fEq (e2 J1 (Ja 1) (eC (.int 2))) (eC (.int 1)))) (Jw 2 (e1 VW (Ja 2))) Ju) (Jz (Jw 3 (eU 1 Jm (aC (Ja 2) a0))) (Jz (xIf (tOr? (tNot? (tTru? (UV "str" (Ja 3)))) (tOr? (tB? (e2 fNe (Ja 3) (eF UW (aC (Ja 2) a0)))) (tNot? (tTru? (eU 2 Je (aC (eU 1 Jb (aC (Ja 3) a0)) (aC (Ja 2) a0))))))) (JY (eC (.bl false))) Ju) (Ve (iE false (eU 2 Jl (aC (Ja 3) (aC (e2 J1 (e2 Yo (Ja 1) (eC (.int 6))) (e2 YB (eC (.int 10)) (eC (.int 20)))) a0)))) (.nm 4) (xIf (tNot? (tTru? (eU 2 Je (aC (eU 1 Jb (aC (Ja 4) a0)) (aC (eU 1 Jh (aC (Ja 4) a0)) a0))))) (JY (eC (.bl false))) Ju)))))))) (f:=D.int) (fun(_:List Int) (_:Unit) E=>∃y1 y2 y3 y4,E=[.sh (.fz (ns.map .int)),y1,y2,y3,y4]) (fun _ _=>()) (as:=0::YV ns none (some 60)) (E:=[.sh (.fz (ns.map .int)),.no,.no,.no,.no]) () ⟨_,_,_,_,rfl⟩ (by
  rintro a _ _ E ⟨y1,y2,y3,y4,rfl⟩;obtain⟨z2,z3,z4,e⟩:=Z7 (.sh (.fz (ns.map .int))) y1 y2 y3 y4 a
  have pb:Pt.bind (.nm 1) (.int a) [.sh (.fz (ns.map .int)),y1,y2,y3,y4]=some [.sh (.fz (ns.map .int)),.sh (.int a),y2,y3,y4]:=by rw[Jbq];rfl
  rw[pb,Option.bind_some,e];exact⟨_,_,_,_,rfl⟩)
 have fa:JS (.own [D.int 0]) (.own (YV (ns.map D.int) none (some 60)))=some (.own ((0::YV ns none (some 60)).map D.int)):=by rw[Zb,Wj (by rw[List.length_map];show 1+_<=16777216;omega)];rfl
 walk_at "ev";rw[fa,Option.bind_some];show((Yh _ _ _ _).bind _).bind _=_;rw[h,e];walk_at "ev"
end
end LK
noncomputable section
namespace LK
open PySem L2 LR LE
noncomputable def top(i:Nat):Stmt:=PySem.Challenge.pw_lumprow_k07_numbers_as_texts.main.body.getD i (.Pass ⟨0,0,0,0⟩)
noncomputable abbrev JB:Stmt:=top 9
noncomputable abbrev JU:Stmt:=top 6
noncomputable abbrev J0:Stmt:=top 8
noncomputable abbrev JJ:Stmt:=top 7
noncomputable abbrev JD:Stmt:=top 4
noncomputable abbrev JC:Stmt:=top 3
noncomputable abbrev YQ:Stmt:=top 10
section
variable{P:Program}{w:World}{K:Frag}{C:Addr}{mg:Str->Option Value}{base:Heap}
theorem sc_law_strange:FnScope ["word","cell","signs","sign","at","more"] ["word","cell"] (Jf JB):=⟨rfl,rfl,rfl,by decide +kernel,rfl,by decide +kernel,by decide +kernel⟩
theorem Uo{f:Addr}{fd:FuncData}(F:Fun K "_law_strange" "_law_strange" JB f fd)(qj:mg "len"=none):FnOk P w K mg base CX0 1 f fd ["word","cell"] (spE K C 2 Jl):=by
 refine Fun.okI F sc_law_strange (fun vs H Q E h=>Yk h) (fun cdv A outer s H vs Q E hr h=>?_);have hu:=hr.units;refine⟨_,(Ye (VB (i:=2) (ys:=["0","+","-"," ","_",".","a","1","9","x","e","\n"]) 12 sc_law_strange.nd rfl (.inl rfl) rfl Jp)
  (Ye (PSi.mk (J9 (i:=3) sc_law_strange.nd rfl (.inl rfl) (ZD (UZ (K:=K) rfl) (pv 2) (Jt Yr (pv 1) (JW (Yc (K:=K) rfl) rfl qj Ue (Jc (pv 2) Jp))) (fun _ _=>rfl))))
  (Ye (PSi.mk (J9 (i:=4) sc_law_strange.nd rfl (.inl rfl) (Jt Yr (Jt YN (pv 1) Jo) (Jt (JP (K:=K) rfl) (JW (Yc (K:=K) rfl) rfl qj Ue (Jc (pv 0) Jp)) Jo))))
  (Ye (VB (i:=5) (ys:=["","-","-0","00","+5","1_0"," 7","7 ","--3","1e3","0x1"]) 11 sc_law_strange.nd rfl (.inl rfl) rfl (Jc (Jt (JP (K:=K) rfl) Jy (Jt YO Jy Jo)) (Jc (Jt (JP (K:=K) rfl) Jy (Jt YO Jy Jo)) Jp)))
  (Ye (PSi.mk (J9 (i:=5) sc_law_strange.nd rfl (.inl rfl) (Jt (JP (K:=K) rfl) (pv 5) (U6 (Jc (Jt (JP (K:=K) rfl) Jy (Jt YO Jy Jo)) (Jc (Jt (JP (K:=K) rfl) Jy (Jt YO Jy Jo)) (Jc (Jt (JP (K:=K) rfl) Jy (Jt YO Jy Jo)) Jp)))))))
  (ZI (PSi.mk (JL (U6 (Jc (Jt (JP (K:=K) rfl) (Jt (JP (K:=K) rfl) (Yd Ut (pv 0) Yw (Yx (pv 4))) (pv 3)) (Yd Ut (pv 0) (Yx (pv 4)) Yw)) (Jc (ZD (UZ (K:=K) rfl) (pv 5) (Jt Yr (Jt YN (pv 1) Jo) (JW (Yc (K:=K) rfl) rfl qj Ue (Jc (pv 5) Jp))) (fun _ _=>rfl)) (Jc (Jt (JP (K:=K) rfl) (pv 0) (pv 3)) (Jc (Jt (JP (K:=K) rfl) (pv 3) (pv 0)) Jp))))))))))))),?_⟩
 exact Yj (N:=["word","cell","signs","sign","at","more"]) (JN (J5 (VE (V7 JA)))
  (JN (J5 (Jr Jcr (Jd 2) (Jr Y2 (Jd 1) (UD Vh (Ji (Jd 2) JA)))))
  (JN (J5 (Jr Y2 (Jr Vw (Jd 1) Jv) (Jr Yl (UD Vh (Ji (Jd 0) JA)) Jv)))
  (JN (J5 (VE (V7 (Ji (Jr Yl JK (Jr Um JK Jv)) (Ji (Jr Yl JK (Jr Um JK Jv)) JA)))))
  (JN (J5 (Jr Yl (Jd 5) (VE (Ji (Jr Yl JK (Jr Um JK Jv)) (Ji (Jr Yl JK (Jr Um JK Jv)) (Ji (Jr Yl JK (Jr Um JK Jv)) JA))))))
  (J6 (VE (Ji (Jr Yl (Jr Yl (VF (Jd 0) YY (YZ (Jd 4))) (Jd 3)) (VF (Jd 0) (YZ (Jd 4)) YY)) (Ji (Jr Jcr (Jd 5) (Jr Y2 (Jr Vw (Jd 1) Jv) (UD Vh (Ji (Jd 5) JA)))) (Ji (Jr Yl (Jd 0) (Jd 3)) (Ji (Jr Yl (Jd 3) (Jd 0)) JA))))))))))) h
theorem U9:FnScope ["found"] ["found"] (Jf JU):=⟨rfl,rfl,rfl,by decide +kernel,rfl,by decide +kernel,by decide +kernel⟩
theorem U2{f:Addr}{fd:FuncData}(F:Fun K "_law_whole" "_law_whole" JU f fd)(qa:mg "isinstance"=none)(qr:mg "bool"=none)(qk:mg "int"=none):FnOk P w K mg base CX0 1 f fd ["found"] (spE K C 1 JV):=by refine F.ok U9 (fun vs H Q E h=>Yk h) (fun cdv A outer s H vs Q E hr h=>?_);have hu:=hr.units;refine⟨_,(Jq (JL (Zx (JW (YU (K:=K) rfl) rfl qa Yb (Jc (pv 0) (Jc (U4 (v:=V.ty "int") rfl qk VR rfl) Jp))) (ZE (JcD (JW (YU (K:=K) rfl) rfl qa Yb (Jc (pv 0) (Jc (U4 (v:=V.ty "bool") rfl qr Jae rfl) Jp)))))))),?_⟩;exact Yj (N:=["found"]) (J6 (JbB (ZS JaG (Jd 0)) (Jem (ZS Zq (Jd 0))))) h
theorem VH:FnScope ["found","due"] ["found","due"] (Jf J0):=⟨rfl,rfl,rfl,by decide +kernel,rfl,by decide +kernel,by decide +kernel⟩
theorem Vy{f:Addr}{fd:FuncData}(F:Fun K "_law_same" "_law_same" J0 f fd)(qi:Cal P w K mg base "_law_whole" 1 ["found"] (spE K C 1 JV)):FnOk P w K mg base CX0 2 f fd ["found","due"] (spE K C 2 Je):=by
 refine F.ok VH (fun vs H Q E h=>Yk h) (fun cdv A outer s H vs Q E hr h=>?_);have hu:=hr.units;refine⟨_,(Js (Ym (JF Wm (pv 1) Ys (JT _)) (Jq (JL (U5 Wm (pv 0) Ys (JT _)))) JQ)
  (Jq (JL (Zx (J2 qi (hr.mono (by decide)) rfl (Jc (pv 0) Jp)) (ZE (U5 (Yq (K:=K) rfl hu) (pv 0) (pv 1) (JT _))))))),?_⟩
 exact Yj (N:=["found","due"]) (JN (Y6 (JX (Jr JdW (Jd 1) Y3)) (J6 (Jr JdW (Jd 0) Y3)) J4)
  (J6 (JbB (Yu (Ji (Jd 0) JA)) (Jr Vx (Jd 0) (Jd 1))))) h
theorem sc_law_number:FnScope ["word","body","sign"] ["word"] (Jf JJ):=⟨rfl,rfl,rfl,by decide +kernel,rfl,by decide +kernel,by decide +kernel⟩
theorem UC{f:Addr}{fd:FuncData}(F:Fun K "_law_number" "_law_number" JJ f fd)(qk:mg "int"=none)(qj:mg "len"=none):FnOk P w K mg base CX0 1 f fd ["word"] (spE K C 1 Jh):=by
 refine F.ok sc_law_number (fun vs H Q E h=>Yk h) (fun cdv A outer s H vs Q E hr h=>?_);have hu:=hr.units;refine⟨_,(Js (J9 (i:=1) sc_law_number.nd rfl (.inl rfl) (pv 0))
  (Js (Ym (JF (Yq (K:=K) rfl hu) (Yd Ut (pv 0) Yw (Yx Jo)) Jy (JT _)) (Jq (J9 (i:=1) sc_law_number.nd rfl (.inl rfl) (Yd Ut (pv 0) (Yx Jo) Yw))) JQ)
  (Js (Ym (PW.pt (VD (JF (Yq (K:=K) rfl hu) (pv 1) Jy (JT _)) (VD (JF Jbw (JW (Yc (K:=K) rfl) rfl qj Ue (Jc (pv 1) Jp)) Jo (JT _)) (V4 (JF (Yq (K:=K) rfl hu) (pv 0) Jy (JT _)))))) (Jq (JL Ys)) JQ)
  (Js (Ym (PW.pt (ZK (JF (Yq (K:=K) rfl hu) (ZD (UZ (K:=K) rfl) (pv 1) Jo (fun _ _=>rfl)) Jy (JT _)) (Wp (JF (V0 (K:=K) rfl hu) (pv 1) Jy (JT _))))) (Jq (JL Ys)) JQ)
  (Js (V3 PassesOwn.never rfl (ZF (pv 1)) (Uc (i:=2) sc_law_number.nd rfl (.inl rfl)) (Jq (Ym (JF U3 (pv 2) Jy rfl) (Jq (JL Ys)) JQ)))
  (Jq (JL (Yv UJ rfl qk VR (Jc (pv 0) Jp))))))))),?_⟩
 exact Yj (N:=["word","body","sign"]) (JN (J5 (Jd 0))
  (JN (Y6 (JX (Jr Vx (VF (Jd 0) YY (YZ Jv)) JK)) (J5 (VF (Jd 0) (YZ Jv) YY)) J4)
  (JN (Y6 (VG (JX (Jr Vx (Jd 1) JK)) (VG (JX (Jr JdU (UD Vh (Ji (Jd 1) JA)) Jv)) (JX (Jr Vx (Jd 0) JK)))) (J6 Y3) J4)
  (JN (Y6 (ZU (JX (Jr Vx (Jr Jcr (Jd 1) Jv) JK)) (JX (Jr Jcs (Jd 1) JK))) (J6 Y3) J4)
  (JN (Z8 (JbC (Jd 1)) (JaC 2) (Y6 (JX (Jr Zu (Jd 2) JK)) (J6 Y3) J4))
  (J6 (UD W7 (Ji (Jd 0) JA)))))))) h
theorem sc_number_told:FnScope ["text","figures"] ["text"] (Jf JD):=⟨rfl,rfl,rfl,by decide +kernel,rfl,by decide +kernel,by decide +kernel⟩
theorem Uq{f:Addr}{fd:FuncData}(F:Fun K "number_told" "number_told" JD f fd)(qk:mg "int"=none)(qv:mg "all"=none)(qj:mg "len"=none)(ql:GV mg "FIGURES" (.str "0123456789"))(qd:GV mg "MOST_FIGURES" (.int 200)):FnOk P w K mg base CX0 1 f fd ["text"] (spE K C 1 Jb):=by
 refine F.ok sc_number_told (fun vs H Q E h=>Yk h) (fun cdv A outer s H vs Q E hr h=>?_);have hu:=hr.units;refine⟨_,(Js (J9 (i:=1) sc_number_told.nd rfl (.inl rfl) (ZC (Yy (K:=K) rfl (Zz (K:=K) rfl PySem.F.plainAttrs_str PySem.F.slot_str_startswith PySem.F.type_str_startswith UM (pv 0) (Jc Jy Jp)) (fun _=>rfl)) (Yd Ut (pv 0) (Yx Jo) Yw) (pv 0)))
  (Js (Ym (PW.pt (VD (JF (Yq (K:=K) rfl hu) (pv 1) Jy (JT _)) (V4 (JF Jbw (JW (Yc (K:=K) rfl) rfl qj Ue (Jc (pv 1) Jp)) (VA rfl qd) (JT _))))) (Jq (JL Ys)) JQ)
  (Js (Ym (U7 (Yy (K:=K) rfl (JW (WE (K:=K) rfl rfl) rfl qv JbN (Jc (JaQ (N':=["figure"]) (imp:=[none]) rfl (ZF (pv 1)) (Jew rfl rfl) (fun _ _ _ _=>(Uc (i:=0) (show(["figure"]:List Str).Nodup from by decide +kernel) rfl (.inl rfl) (.inr rfl))) (fun _ _ _ _=>ZH) (fun _ _ _ _=>(U5 WZ (pv 0) (VA rfl ql) rfl))) Jp)) (fun _=>rfl))) (Jq (JL Ys)) JQ)
  (Js (Ym (PW.pt (ZK (Yy (K:=K) rfl (Zz (K:=K) rfl PySem.F.plainAttrs_str PySem.F.slot_str_startswith PySem.F.type_str_startswith UM (pv 1) (Jc Jy Jp)) (fun _=>rfl)) (Wp (JF (V0 (K:=K) rfl hu) (pv 0) Jy (JT _))))) (Jq (JL Ys)) JQ)
  (Jq (JL (Yv UJ rfl qk VR (Jc (pv 0) Jp)))))))),?_⟩
 exact Yj (N:=["text","figures"]) (JN (J5 (Jel (UO (Jej YM (Jd 0) (Ji JK JA))) (VF (Jd 0) (YZ Jv) YY) (Jd 0)))
  (JN (Y6 (VG (JX (Jr Vx (Jd 1) JK)) (JX (Jr JdU (UD Vh (Ji (Jd 1) JA)) Jv))) (J6 Y3) J4)
  (JN (Y6 (U8 (UO (UD JdF (Ji (Jdg (JbC (Jd 1)) (JaC 0) Jen (Jr JdV (Jd 0) JK) rfl) JA)))) (J6 Y3) J4)
  (JN (Y6 (ZU (UO (Jej YM (Jd 1) (Ji JK JA))) (JX (Jr Jcs (Jd 0) JK))) (J6 Y3) J4)
  (J6 (UD W7 (Ji (Jd 0) JA))))))) h
theorem Us:FnScope ["number"] ["number"] (Jf JC):=⟨rfl,rfl,rfl,by decide +kernel,rfl,by decide +kernel,by decide +kernel⟩
theorem Up{f:Addr}{fd:FuncData}(F:Fun K "number_text" "number_text" JC f fd)(qm:mg "str"=none):FnOk P w K mg base CX0 1 f fd ["number"] (spE K C 1 Jm):=by refine F.ok Us (fun vs H Q E h=>Yk h) (fun cdv A outer s H vs Q E hr h=>?_);have hu:=hr.units;refine⟨_,(Jq (JL (Yv UK rfl qm VS (Jc (pv 0) Jp)))),?_⟩;exact Yj (N:=["number"]) (J6 (UD Jbr (Ji (Jd 0) JA))) h
theorem sc_law:FnScope ["script","cell","number","word","other"] ["script"] (Jf YQ):=⟨rfl,rfl,rfl,by decide +kernel,rfl,by decide +kernel,by decide +kernel⟩
theorem Jcw{f:Addr}{fd:FuncData}(F:Fun K "law" "law" YQ f fd)(qm:mg "str"=none)(qa:mg "isinstance"=none)(qe:Cal P w K mg base "_law_strange" 1 ["word","cell"] (spE K C 2 Jl))(qf:Cal P w K mg base "_law_same" 2 ["found","due"] (spE K C 2 Je))(qg:Cal P w K mg base "_law_number" 1 ["word"] (spE K C 1 Jh))(qb:Cal P w K mg base "number_told" 1 ["text"] (spE K C 1 Jb))(qh:Cal P w K mg base "number_text" 1 ["number"] (spE K C 1 Jm)):FnOk P w K mg base CX0 3 f fd ["script"] (spE K C 1 VV):=by
 refine F.ok sc_law (fun vs H Q E h=>Yk h) (fun cdv A outer s H vs Q E hr h=>?_);have hu:=hr.units;refine⟨_,(Js (V3 PassesOwn.never rfl (Wn (K:=K) rfl (Jt (JP (K:=K) rfl) (U6 (Jc Jo Jp)) (Yd (Jbg (K:=K) rfl) (pv 0) Yw (Yx Jo)))) (Uc (i:=1) sc_law.nd rfl (.inl rfl)) (Js (J9 (i:=2) sc_law.nd rfl (.inl rfl) (Jt Yr (Jt YN (pv 1) Jo) (Jt V1 Jo Jo)))
  (Js (Ym (JF (Yq (K:=K) rfl hu) (Jt Yr (pv 1) Jo) Jo (JT _)) (Jq (J9 (i:=2) sc_law.nd rfl (.inl rfl) (Jt JaN (Jt Yr (Jt YN (pv 1) Jo) (Jt V1 Jo Jo)) Jo))) JQ)
  (Js (Ym (JF (Yq (K:=K) rfl hu) (Jt Yr (pv 1) Jo) Jo (JT _)) (Jq (J9 (i:=2) sc_law.nd rfl (.inl rfl) (JdZ Jdy (pv 2)))) JQ)
  (Js (J9 (i:=3) sc_law.nd rfl (.inl rfl) (J2 qh (hr.mono (by decide)) rfl (Jc (pv 2) Jp)))
  (Js (Ym (PW.pt (VD (U7 (Yy (K:=K) rfl (JW (YU (K:=K) rfl) rfl qa Yb (Jc (pv 3) (Jc (U4 (v:=V.ty "str") rfl qm VS rfl) Jp))) (fun _=>rfl))) (VD (JF (V0 (K:=K) rfl hu) (pv 3) (Yv UK rfl qm VS (Jc (pv 2) Jp)) (JT _)) (V4 (U7 (Yy (K:=K) rfl (J2 qf (hr.mono (by decide)) rfl (Jc (J2 qb (hr.mono (by decide)) rfl (Jc (pv 3) Jp)) (Jc (pv 2) Jp))) (fun _=>rfl))))))) (Jq (JL Zy)) JQ)
  (Jq (V3 PassesOwn.never rfl (Wn (K:=K) rfl (J2 qe (hr.mono (by decide)) rfl (Jc (pv 3) (Jc (Jt Yr (Jt YN (pv 1) Jo) (Jt V1 Jo Jo)) Jp)))) (Uc (i:=4) sc_law.nd rfl (.inl rfl)) (Jq (Ym (U7 (Yy (K:=K) rfl (J2 qf (hr.mono (by decide)) rfl (Jc (J2 qb (hr.mono (by decide)) rfl (Jc (pv 4) Jp)) (Jc (J2 qg (hr.mono (by decide)) rfl (Jc (pv 4) Jp)) Jp))) (fun _=>rfl))) (Jq (JL Zy)) JQ))))))))))
  (Jq (JL Zy))),?_⟩
 exact Yj (N:=["script","cell","number","word","other"]) (JN (Z8 (Jek (Jr Yl (VE (Ji Jv JA)) (JeO (Jd 0) YY (YZ Jv)))) (JaC 1) (JN (J5 (Jr Y2 (Jr Vw (Jd 1) Jv) (Jr Zv Jv Jv)))
  (JN (Y6 (JX (Jr Vx (Jr Y2 (Jd 1) Jv) Jv)) (J5 (Jr Jct (Jr Y2 (Jr Vw (Jd 1) Jv) (Jr Zv Jv Jv)) Jv)) J4)
  (JN (Y6 (JX (Jr Vx (Jr Y2 (Jd 1) Jv) Jv)) (J5 (JeP Jer (Jd 2))) J4)
  (JN (J5 (Yu (Ji (Jd 2) JA)))
  (JN (Y6 (VG (U8 (UO (ZS JaH (Jd 3)))) (VG (JX (Jr Jcs (Jd 3) (UD Jbr (Ji (Jd 2) JA)))) (U8 (UO (Yu (Ji (Yu (Ji (Jd 3) JA)) (Ji (Jd 2) JA))))))) (J6 Jdf) J4)
  (Z8 (Jek (Yu (Ji (Jd 3) (Ji (Jr Y2 (Jr Vw (Jd 1) Jv) (Jr Zv Jv Jv)) JA)))) (JaC 4) (Y6 (U8 (UO (Yu (Ji (Yu (Ji (Jd 4) JA)) (Ji (Yu (Ji (Jd 4) JA)) JA))))) (J6 Jdf) J4))))))))
  (J6 Jdf)) h
end
theorem vl1{α:Type}{us:List α}(h:us.length=1):∃a,us=[a]:=match us,h with|[a],_=>⟨a,rfl⟩
theorem vl2{α:Type}{us:List α}(h:us.length=2):∃a b,us=[a,b]:=match us,h with|[a,b],_=>⟨a,b,rfl⟩
theorem all_mk{l:PySem.W.OpenLaw}{w:World}{K:Frag}{h:Heap}{mg:Str->Option Value}{fa:Addr}{C:Addr}{f1:Addr}{od1 an1:Option Addr}{sl1:Array (Option Value)}{oc1 kV1 dc1 pm1 cd1 ct1:Value}{f2:Addr}{od2 an2:Option Addr}{sl2:Array (Option Value)}{oc2 kV2 dc2 pm2 cd2 ct2:Value}{f3:Addr}{od3 an3:Option Addr}{sl3:Array (Option Value)}{oc3 kV3 dc3 pm3 cd3 ct3:Value}{f4:Addr}{od4 an4:Option Addr}{sl4:Array (Option Value)}{oc4 kV4 dc4 pm4 cd4 ct4:Value}{f5:Addr}{od5 an5:Option Addr}{sl5:Array (Option Value)}{oc5 kV5 dc5 pm5 cd5 ct5:Value}{f6:Addr}{od6 an6:Option Addr}{sl6:Array (Option Value)}{oc6 kV6 dc6 pm6 cd6 ct6:Value}{f7:Addr}{od7 an7:Option Addr}{sl7:Array (Option Value)}{oc7 kV7 dc7 pm7 cd7 ct7:Value}{qt:Tok}{qo:Tok}(X:K.In h)(G:h.Ns mainGlobals mg)(hfa:mg "law"=some (.ref fa))
 (a1:nsIn K mainGlobals "_law_strange"=some (some (.ref f1)))
 (l1:K.lookup f1=some ⟨oc1,od1,.func (fnOf "_law_strange" "_law_strange" (JO JB) (JE JB) (Jf JB) .none kV1 dc1 pm1 an1 cd1 ct1),sl1⟩)
 (c1:codeIn K cd1 "_law_strange"=true)
 (k1:keepIn K (.ref f1)=true)
 (a2:nsIn K mainGlobals "_law_whole"=some (some (.ref f2)))
 (l2:K.lookup f2=some ⟨oc2,od2,.func (fnOf "_law_whole" "_law_whole" (JO JU) (JE JU) (Jf JU) .none kV2 dc2 pm2 an2 cd2 ct2),sl2⟩)
 (c2:codeIn K cd2 "_law_whole"=true)
 (k2:keepIn K (.ref f2)=true)
 (a3:nsIn K mainGlobals "_law_same"=some (some (.ref f3)))
 (l3:K.lookup f3=some ⟨oc3,od3,.func (fnOf "_law_same" "_law_same" (JO J0) (JE J0) (Jf J0) .none kV3 dc3 pm3 an3 cd3 ct3),sl3⟩)
 (c3:codeIn K cd3 "_law_same"=true)
 (k3:keepIn K (.ref f3)=true)
 (a4:nsIn K mainGlobals "_law_number"=some (some (.ref f4)))
 (l4:K.lookup f4=some ⟨oc4,od4,.func (fnOf "_law_number" "_law_number" (JO JJ) (JE JJ) (Jf JJ) .none kV4 dc4 pm4 an4 cd4 ct4),sl4⟩)
 (c4:codeIn K cd4 "_law_number"=true)
 (k4:keepIn K (.ref f4)=true)
 (a5:nsIn K mainGlobals "number_told"=some (some (.ref f5)))
 (l5:K.lookup f5=some ⟨oc5,od5,.func (fnOf "number_told" "number_told" (JO JD) (JE JD) (Jf JD) .none kV5 dc5 pm5 an5 cd5 ct5),sl5⟩)
 (c5:codeIn K cd5 "number_told"=true)
 (k5:keepIn K (.ref f5)=true)
 (a6:nsIn K mainGlobals "number_text"=some (some (.ref f6)))
 (l6:K.lookup f6=some ⟨oc6,od6,.func (fnOf "number_text" "number_text" (JO JC) (JE JC) (Jf JC) .none kV6 dc6 pm6 an6 cd6 ct6),sl6⟩)
 (c6:codeIn K cd6 "number_text"=true)
 (k6:keepIn K (.ref f6)=true)
 (a7:nsIn K mainGlobals "law"=some (some (.ref f7)))
 (l7:K.lookup f7=some ⟨oc7,od7,.func (fnOf "law" "law" (JO YQ) (JE YQ) (Jf YQ) .none kV7 dc7 pm7 an7 cd7 ct7),sl7⟩)
 (c7:codeIn K cd7 "law"=true)
 (k7:keepIn K (.ref f7)=true)
 (qx:nsIn K mainGlobals "len"=some none)
 (qq:nsIn K mainGlobals "isinstance"=some none)
 (qw:nsIn K mainGlobals "bool"=some none)
 (qy:nsIn K mainGlobals "int"=some none)
 (qz:nsIn K mainGlobals "all"=some none)
 (qA:nsIn K mainGlobals "str"=some none)
 (qu:nsIn K mainGlobals "FIGURES"=some (some (.str "0123456789" qt)))
 (qp:nsIn K mainGlobals "MOST_FIGURES"=some (some (.int 200 qo)))
:∃fd:FuncData,(∀(s:Shared) (v:Value),BindsTo s fd ⟨[v],[]⟩ [("script",v)])/\∀base:Heap,K.In base->base.Ns mainGlobals mg->FnOk l.prog w K mg base CX0 3 fa fd ["script"] (Ww K):=by
 have e:=hfa.symm.trans (mg_of X G a7);cases e
 have qj:=mg_none_of X G qx
 have qa:=mg_none_of X G qq
 have qr:=mg_none_of X G qw
 have qk:=mg_none_of X G qy
 have qv:=mg_none_of X G qz
 have qm:=mg_none_of X G qA
 have ql:GV mg "FIGURES" (.str "0123456789"):=⟨_,mg_of X G qu,⟨_,rfl⟩⟩
 have qd:GV mg "MOST_FIGURES" (.int 200):=⟨_,mg_of X G qp,⟨_,rfl⟩⟩
 have F1:=YC (st:=JB) l1 c1 k1
 have B1:=F1.binds (ps:=["word","cell"]) fun _ _ _ _ _ _ us hl=>by obtain⟨_,_,rfl⟩:=vl2 hl;rfl
 have F2:=YC (st:=JU) l2 c2 k2
 have B2:=F2.binds (ps:=["found"]) fun _ _ _ _ _ _ us hl=>by obtain⟨_,rfl⟩:=vl1 hl;rfl
 have F3:=YC (st:=J0) l3 c3 k3
 have B3:=F3.binds (ps:=["found","due"]) fun _ _ _ _ _ _ us hl=>by obtain⟨_,_,rfl⟩:=vl2 hl;rfl
 have F4:=YC (st:=JJ) l4 c4 k4
 have B4:=F4.binds (ps:=["word"]) fun _ _ _ _ _ _ us hl=>by obtain⟨_,rfl⟩:=vl1 hl;rfl
 have F5:=YC (st:=JD) l5 c5 k5
 have B5:=F5.binds (ps:=["text"]) fun _ _ _ _ _ _ us hl=>by obtain⟨_,rfl⟩:=vl1 hl;rfl
 have F6:=YC (st:=JC) l6 c6 k6
 have B6:=F6.binds (ps:=["number"]) fun _ _ _ _ _ _ us hl=>by obtain⟨_,rfl⟩:=vl1 hl;rfl
 have F7:=YC (st:=YQ) l7 c7 k7
 have B7:=F7.binds (ps:=["script"]) fun _ _ _ _ _ _ us hl=>by obtain⟨_,rfl⟩:=vl1 hl;rfl
 refine⟨fnOf "law" "law" (JO YQ) (JE YQ) (Jf YQ) .none kV7 dc7 pm7 an7 cd7 ct7,fun s v=>.of_eq rfl,fun base _ _=>?_⟩;have qe:Cal l.prog w K mg base "_law_strange" 1 ["word","cell"] (spE K C 2 Jl):=⟨f1,_,Uo (C:=C) F1 qj,mg_of X G a1,k1,B1⟩
 have qi:Cal l.prog w K mg base "_law_whole" 1 ["found"] (spE K C 1 JV):=⟨f2,_,U2 (C:=C) F2 qa qr qk,mg_of X G a2,k2,B2⟩
 have qf:Cal l.prog w K mg base "_law_same" 2 ["found","due"] (spE K C 2 Je):=⟨f3,_,Vy (C:=C) F3 qi,mg_of X G a3,k3,B3⟩
 have qg:Cal l.prog w K mg base "_law_number" 1 ["word"] (spE K C 1 Jh):=⟨f4,_,UC (C:=C) F4 qk qj,mg_of X G a4,k4,B4⟩
 have qb:Cal l.prog w K mg base "number_told" 1 ["text"] (spE K C 1 Jb):=⟨f5,_,Uq (C:=C) F5 qk qv qj ql qd,mg_of X G a5,k5,B5⟩
 have qh:Cal l.prog w K mg base "number_text" 1 ["number"] (spE K C 1 Jm):=⟨f6,_,Up (C:=C) F6 qm,mg_of X G a6,k6,B6⟩
 exact JaI (Jcw (C:=C) F7 qm qa qe qf qg qb qh) law_true
theorem walk{l:PySem.W.OpenLaw}{q:Program}{loose:List Str}{XP:(Str->Option Value)->Heap->Prop}{YP:World->Heap->Prop}{d:DefRec}{K:Params->Frag}(hn:l.most=some 63)(hdf:d.params.defaults=[])
 (hY:∀(w:World) (h:Heap),YP w h->(K w.params).In h)
 (F:∀(w:World) (mg:Str->Option Value) (fa:Addr) (h:Heap),(K w.params).In h->h.Ns mainGlobals mg->mg d.name=some (.ref fa) ->
  ∃fd:FuncData,(∀(s:Shared) (u:Value),BindsTo s fd ⟨[u],[]⟩ [("script",u)])/\∀base:Heap,(K w.params).In base->base.Ns mainGlobals mg->FnOk l.prog w (K w.params) mg base CX0 3 fa fd ["script"] (Ww (K w.params))) :
 PySem.W.WalkO q loose XP YP l.row.toRowW d [] (fun f vs=>PySem.call f vs) :=
 L2.Jbo (n:=63) (k:=3) (x:="script") (CX:=fun _=>CX0) (sp:=fun w=>Ww (K w.params)) hn (by decide) hdf ⟨rfl,by decide,by decide⟩ hY F (fun _ _ a ns hl _ hS=>⟨a,ns,rfl,hS,hl,fun _=>rfl⟩) fun _ _ _ _ _ z=>z
end LK
end
theorem PySem.W.Fast.tw17570566301318717055:True:=trivial
theorem PySem.W.Fast.tw3837083988701125418:True:=trivial
theorem PySem.W.Fast.tw16690792142309728218:True:=trivial
theorem PySem.W.Fast.tw5099786990590024766:True:=trivial
theorem PySem.W.Fast.tw14192679332194658276:True:=trivial
theorem PySem.W.Fast.tw15444888633761517819:True:=trivial
theorem PySem.W.Fast.tw11007616134894733994:True:=trivial
theorem PySem.W.Fast.tw10702802620297844944:True:=trivial
theorem PySem.W.Fast.tw12689307041990704034:True:=trivial
theorem PySem.W.Fast.tw5248580913364971876:True:=trivial
theorem PySem.W.Fast.tw13685381627338270045:True:=trivial
theorem PySem.W.Fast.tw16126805202626666964:True:=trivial
theorem PySem.W.Fast.tw6968595986769382563:True:=trivial
theorem PySem.W.Fast.tw7956333991471047566:True:=trivial
theorem PySem.W.Fast.tw13107546188548257090:True:=trivial
open PySem PySem.W PyProof.Rows
set_option maxRecDepth 100000 in
set_option maxHeartbeats 0 in
theorem PySem.Challenge.cw_lumprow_k07_numbers_as_texts_holds : PySem.Challenge.rw_lumprow_k07_numbers_as_texts.Holds := by
 w_on; o_law; k_head; (case hw => w_witness2)
 k_fill
 refine LK.walk (l := PySem.Challenge.rw_lumprow_k07_numbers_as_texts) rfl rfl (fun w h Y => PySem.W.kIn_of Y) ?F
 case F =>
  intro w mg fa h KX G hmg; apply LK.all_mk (C := 0) KX G hmg; all_goals k_is
