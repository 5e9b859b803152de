import PyProof.Rows.All
import Wide.All
import OpenK.AllK
import Wide.FinOn
import Lean
import PyProof.EqAt
import PyProof.EqKinds
import PyProof.TupleCall
import PySem.Challenge.RW_lumprow_k57_whole_in_all
open Array renaming length_toList→Qw,getElem?_eq_getElem→Q0,getElem?_toList→Gg,getElem_toList→K4,getD→Lf
open Bool renaming and_eq_true→Qn,false_ne_true→Qp,or_eq_false_iff→Q4,eq_iff_iff→GM,or_eq_true→GO
open False renaming elim→Q8
open Int renaming toNat_natCast→QZ,mul_assoc→GJ,mul_add→Kt,le_refl→K8,add_zero→Lk
open List renaming mem_cons→Qe,mem_cons_of_mem→Qh,getElem?_eq_some_iff→Qi,mem_cons_self→Qj,size_toArray→Qk,map_cons→Qq,getElem?_append_left→Qu,length_map→Qx,getElem?_map→QB,getElem?_append_right→QD,getElem?_set→QF,pairwise_cons→QH,all_eq_true→QI,mem_append_right→QJ,mem_of_getElem?→QL,mem_nil_iff→QO,eq_nil_of_length_eq_zero→QR,getElem?_eq_getElem→QU,length_append→Q1,not_mem_nil→Q2,replicate→Q9,getD_eq_getElem?_getD→Ga,nodup_cons→Gh,foldl_cons→Gi,filterMap_cons→Gm,length_cons→Gn,range→Gs,mem_singleton→Gw,of_mem_zip→Gx,find?_cons→Gy,pairwise_iff_getElem→GD,replicate_succ→GF,mem_append→GK,append_nil→GN,flatten_cons→GW,any_eq_true→G1,any_cons→G2,mem_iff_getElem→G7,mem_map→Kc,length_eraseIdx_of_lt→Kl,drop_eq_getElem_cons→Km,getElem?_eq_none_iff→Kn,length_range→Ks,getElem?_replicate→Kz,eraseIdx_cons_succ→KC,ext_getElem→KE,getElem?_set_self→KI,map_nil→KN,length_singleton→KW,getElem?_reverse→KY,mem_iff_getElem?→KZ,mem_range→K0,mem_append_left→K1,getElem?_set_ne→K2,pairwise_append→K3,all_cons→Lb,map_map→Ll
open Nat renaming le_refl→Qm,ne_of_lt→Qo,lt_of_lt_of_le→Qt,le_trans→QA,lt_succ_of_lt→QK,lt_succ_self→QM,lt_irrefl→QY,zero_le→Gr,ble_eq→Gu,le_of_lt→GB,ne_of_gt→GC,ble→Kq,le_mul_of_pos_right→KG,le_of_eq→KJ,lt_trans→KO,not_lt→KQ,lt_or_ge→KR,le_succ→K5
open Ne renaming symm→Qy
open Option renaming map_eq_some_iff→Q7,bind_some→Go,isSome_iff_exists→GH,bind_assoc→GZ
open Option.some renaming inj→Qr
open PyProof.Rows renaming callWith_type1→Q6
open PyProof.Rows.F renaming plain_set_update_loop→GQ,entry_set_update_loop→KD
open PyProof.Rows.IntsAre renaming length→K7
open PySem renaming wpAny_bind→Qa,wpAny_pure→Qd,wpAny_newObj_type→QQ,wpAny_setState_of→QS,wpAny_callSpecial?_slot→QW,wpAny_call_entry→QX,wpAny_field→Q3,mem_of_lookup→Q5,wpAny_seqItems→Gc,wpAny_setField→Gd,wpAny_setField_rec→Ge,wpAny_askSetting→Gq,codeAny_builtin→Gz,wpAny_passesOwn→GL,wpAny_rule→GP,wpAny_truthy_bool→GR,wpAny_pyIter_list→GS,codeAny_mono→GU,wpAny_holding→G3,plainId_quiet→G4,wpAny_updateSeq_pair→G5,wpAny_setEntries_of→Kb,wpAny_mono→Kh,wpAny_pyIter_tuple→Kj,wpAny_Call_Name_kw→Kk,wpAny_onRaise→Kv,wpAny_attempt→Kw,wpAny_isInstance→KB,wpAny_execs_nil→KS,wpAny_ite_split→KU,isSubtype_type→K6
open PySem.Around renaming under_plainId→Gk
open PySem.Builtin.Int renaming intBits→K9
open PySem.Builtin.List renaming listLengthHint→Kf,listExtendWith→Kg,listSameRef→Ky
open PySem.Builtin.SmallTypes renaming nextOf→QP,ownedTupleIsFree→QV,ownedTupleHandOut→GG
open PySem.Calls renaming Name_function_global→Ki
open PySem.F renaming slot_tuple_iterator_next→Gb,called_set→Gv,args_tuple_iterator_next_1→G9,slot_zip_next→Ka,entry_tuple_iterator_next→Ke,plain_extend_loop→Ko,args_tuple_add_2→Ku,entry_tuple_add→KA,plain_list_iadd→KF,plainAttrs_list→KH,slot_tuple_add→KM
open PySem.Heap renaming get?_push_of_some→Qc,lt_size→Qf,get?_push_size→Qg,SameBut→Qz,size_push→QC,get?_update_other→QN,get?_update_self→QT,ExtBut→G6
open PySem.Heap.SameBut renaming update→QE
open PySem.Obj renaming data_mapFields→QG,isFreed_of_fields→Gf,cls_mapFields→GY,mapFields→Kx,mapSeq→Le
open PySem.Paired renaming length→La
open PySem.PassesOwn renaming never→Gj
open PySem.PyData renaming canLayAll0→GA,eqvAll→GI,eqv→G0,depthAll→G8,depth→KP
open PySem.SetTable renaming below→Qv,grown→Gp,laid→Lc,put→Li
open PySem.SetTable.below renaming go→Lh
open PySem.SetTable.probe renaming go→Kr
open PySem.Str renaming ofString→GX
open PySem.Value renaming isInt_shape→Kp,isInt→Lm
open PySem.W renaming cellsFrom_some→KL,kitx_tuple→Ld,kitx_dict→Lg
open PySem.pickOrder renaming go→Lj
set_option Elab.async false
set_option linter.all false
set_option maxRecDepth 100000
set_option maxHeartbeats 4000000
open PySem.W (instObj methodObj Frag lookIn hasDictIn findIn specialIn keepIn emptyDict takesIn mroIn kitOne kia_one kitx_list fnOf codeIn nsIn kitAny mg_of mg_none_of)
noncomputable section
namespace L2
open PySem PySem.Spec PyProof.Rows

noncomputable abbrev Key:=Sum Int Str
noncomputable def JcJ:Key->Value->Bool
 | .inl k,v=>Lm k v
 | .inr x,v=>Value.isStrOf x v
noncomputable def JgP(w:World):Key->Int
 | .inl k=>hashInt k
 | .inr x=>hashStr w x
theorem Jt:∀{k:Key} {v:Value},JcJ k v=true->(∃i t,k=Sum.inl i/\v=Value.int i t)\/(∃x t,k=Sum.inr x/\v=Value.str x t)
 | .inl i,v,h=>by obtain⟨t,e⟩:=Kp (k:=i) (v:=v) h;exact .inl ⟨i,t,rfl,e⟩
 | .inr x,v,h=>by obtain⟨t,e⟩:=Value.isStrOf_shape (x:=x) (v:=v) h;exact .inr ⟨x,t,rfl,e⟩
theorem JdJ(a b:Int):decide ((Sum.inl a:Key)=Sum.inl b)=(a == b):=by
 by_cases e:a=b
 ·subst e;simp
 ·have h:¬(Sum.inl a:Key)=Sum.inl b:=fun q=>e (Sum.inl.inj q)
  rw[decide_eq_false h];exact(beq_eq_false_iff_ne.mpr e).symm
theorem JdM(a b:Str):decide ((Sum.inr a:Key)=Sum.inr b)=decide (a=b):=by
 by_cases e:a=b
 ·subst e;simp
 ·have h:¬(Sum.inr a:Key)=Sum.inr b:=fun q=>e (Sum.inr.inj q)
  rw[decide_eq_false h,decide_eq_false e]
theorem JdK(a:Int)(b:Str):decide ((Sum.inl a:Key)=Sum.inr b)=false:=decide_eq_false (fun q=>nomatch q)
theorem JdL(a:Str)(b:Int):decide ((Sum.inr a:Key)=Sum.inl b)=false:=decide_eq_false (fun q=>nomatch q)

noncomputable def U6(prog:Program)(w:World):PySem.KeyKind prog w Key where
 is:=JcJ
 hash:=JgP w
 inj:=fun v a b ha hb=>by
  rcases Jt ha with ⟨i,t,rfl,rfl⟩|⟨x,t,rfl,rfl⟩
  ·rcases Jt hb with ⟨j,u,rfl,e⟩|⟨y,u,rfl,e⟩
   ·injection e with e1 _;rw[e1]
   ·exact nomatch e
  ·rcases Jt hb with ⟨j,u,rfl,e⟩|⟨y,u,rfl,e⟩
   ·exact nomatch e
   ·injection e with e1 _;rw[e1]
 byValue:=fun k v h=>by rcases Jt h with ⟨i,t,rfl,rfl⟩|⟨x,t,rfl,rfl⟩ <;> rfl
 pyHash:=fun hv h=>by
  rcases Jt hv with ⟨i,t,rfl,rfl⟩|⟨x,t,rfl,rfl⟩
  ·exact wpAny_pyHash_int h
  ·exact wpAny_pyHash_str h
 eqBool:=fun hu hv h=>by
  rcases Jt hu with ⟨i,t,rfl,rfl⟩|⟨x,t,rfl,rfl⟩
  ·rcases Jt hv with ⟨j,u,rfl,rfl⟩|⟨y,u,rfl,rfl⟩
   ·rw[JdJ] at h;exact wpAny_eqBool_int h
   ·rw[JdK] at h;exact SeqAt.EqAt.int_str i t y u _ _ _ _ h
  ·rcases Jt hv with ⟨j,u,rfl,rfl⟩|⟨y,u,rfl,rfl⟩
   ·rw[JdL] at h;exact SeqAt.EqAt.str_int x t j u _ _ _ _ h
   ·rw[JdM] at h;exact wpAny_eqBool_str h
 «strs»:=fun k x t v h=>by
  rcases Jt h with ⟨i,u,rfl,e⟩|⟨y,u,rfl,e⟩
  ·exact nomatch e
  ·injection e with e1 _
   subst e1;cases v <;> rfl

end L2

namespace L2
open PySem PySem.Spec PyProof.Rows

inductive V where
 | non|bl (b:Bool)|int (i:Int)|str (x:Str)|byt (b:Array UInt8)|flt (b:UInt64)|ref (a:Addr)|ty (n:String)
 deriving DecidableEq

noncomputable def RelV:V->Value->Prop
 | .non,u=>u=Value.none
 | .bl b,u=>u=Value.bool b
 | .int i,u=>∃t,u=Value.int i t
 | .str x,u=>∃t,u=Value.str x t
 | .byt b,u=>∃t,u=Value.bytes b t
 | .flt b,u=>∃t,u=Value.float b t
 | .ref a,u=>u=Value.ref a
 | .ty n,u=>u=Value.type n

noncomputable abbrev Vals:List V->List Value->Prop:=Paired RelV
theorem Vals.length{xs:List V}{us:List Value}(r:Vals xs us):xs.length=us.length:=La r
theorem Vals.get:∀{xs:List V} {us:List Value} {i:Nat} {x:V},Vals xs us->xs[i]?=some x->∃u,us[i]?=some u/\RelV x u
 | _,_,_,_,.nil,e=>by simp at e
 | _,_,0,_,.cons r _,e=>by simp at e;subst e;exact⟨_,rfl,r⟩
 | _,_,i+1,x,.cons _ t,e=>by obtain⟨u,h1,h2⟩:=Vals.get (i:=i) (x:=x) t (by simpa using e);exact⟨u,by simpa using h1,h2⟩
theorem Vals.set{x:V}{u:Value}(r:RelV x u):∀{xs:List V} {us:List Value} (i:Nat),Vals xs us->Vals (xs.set i x) (us.set i u)
 | _,_,_,.nil=>.nil
 | _,_,0,.cons _ t=>.cons r t
 | _,_,i+1,.cons q t=>.cons q (Vals.set r i t)
theorem Vals.append:∀{xs ys:List V} {us ws:List Value},Vals xs us->Vals ys ws->Vals (xs++ys) (us++ws)
 | _,_,_,_,.nil,s=>s
 | _,_,_,_,.cons r t,s=>.cons r (Vals.append t s)
theorem Vals.take:∀{xs:List V} {us:List Value} (n:Nat),Vals xs us->Vals (xs.take n) (us.take n)
 | _,_,0,_=>.nil
 | _,_,_+1,.nil=>.nil
 | _,_,n+1,.cons r t=>.cons r (Vals.take n t)
theorem Vals.drop:∀{xs:List V} {us:List Value} (n:Nat),Vals xs us->Vals (xs.drop n) (us.drop n)
 | _,_,0,r=>r
 | _,_,_+1,.nil=>.nil
 | _,_,n+1,.cons _ t=>Vals.drop n t
noncomputable def RelO:Option V->Option Value->Prop
 | some v,some u=>RelV v u
 | none,none=>True
 | _,_=>False
noncomputable def KV{κ:Type}:List (κ×V)->List (κ×Value)->Prop:=Paired fun(p:κ×V) (q:κ×Value)=>p.1=q.1/\RelV p.2 q.2

noncomputable def kV:Key->V
 | .inl i=>.int i
 | .inr x=>.str x

inductive HO where
 | lst (xs:List V)
 | tup (xs:List V)
 | dK (kvs:List (Key×V))|dT (kvs:List (List Key×V))
 | set (S:Int->Bool) (n:Nat)
 | ins (C dx:Addr) (fs:List (Str×V))
 | own (x:Addr)
 | xd (fs:List (Str×V))
 | met (f x:Addr)
 | rng (lo hi:Int)
 | frz (o:Obj) (u:HO)
 | tbl (ps:Array Value)
 | ext (φ:Heap->Prop)

noncomputable abbrev Hp:=Addr->Option HO
noncomputable def upd(H:Hp)(a:Addr)(o:HO):Hp:=fun b=>if b=a then some o else H b
theorem Ju{H:Hp}{a:Addr}{o:HO}:upd H a o a=some o:=by unfold upd;rw[if_pos rfl]
theorem Jd{H:Hp}{a b:Addr}{o:HO}(h:b≠a):upd H a o b=H b:=by unfold upd;rw[if_neg h]
theorem JcL{H:Hp}{a b:Addr}{o u:HO}(h:H a=some o)(h':H b=some u)(d:o≠u):a≠b:=by intro e;subst e;rw[h] at h';exact d (Qr h')
theorem Jl{H:Hp}{a b:Addr}{o:HO}(h:H a=some o)(h':H b=none):a≠b:=by intro e;subst e;rw[h] at h';cases h'

section
variable(P:Program)(w:World)
noncomputable def ObjOk(H:Hp)(h:Heap)(a:Addr):HO->Prop
 | .lst xs=>xs.length<=sizeLine/\∃(its:List Value) (n:Nat),Vals xs its/\h.get? a=some { cls:=.type "list",data:=.seq its.toArray n }
 | .tup xs=>xs.length<=sizeLine/\∃its:List Value,Vals xs its/\IsTup h a its.toArray
 | .dK kvs=>kvs.length<=sizeLine/\(a == sysModules)=false/\∃vs,KV kvs vs/\h.DictOf (U6 P w) a vs
 | .dT kvs=>kvs.length<=sizeLine/\(a == sysModules)=false/\∃xs:List (List Key×Addr×Value),
  Paired (fun(p:List Key×V) (q:List Key×Addr×Value)=>p.1=q.1/\H q.2.1=some (.tup (p.1.map kV))/\RelV p.2 q.2.2) kvs xs ∧
  ∃o es ep,h.get? a=some o/\o.ExactDict/\o.data=.dict es ep/\es.toList=xs.map (entryOfKey (tupleKind (U6 P w)))/\(xs.map (·.1)).Nodup
 | .set S n=>h.SetOf (intKind P w) a S n
 | .ins C dx fs=>H dx=some (.own a)/\fs.length<=1000/\dx≠a/\h.get? a=some (instObj C dx) ∧
  ∃mA,h.Ns1 dx mA/\(∀f,RelO (fs.lookup f) (mA f))/\PySem.Within mA (fs.map (·.1))
 | .own _=>∃o,h.get? a=some o
 | .xd fs=>∃mA,h.Ns1 a mA/\∀f,RelO (fs.lookup f) (mA f)
 | .rng lo hi=>∃t u v,h.get? a=some { cls:=.type "range",data:=.fields #[.int lo t,.int hi u,.int 1 v] }
 | .frz o u=>h.get? a=some o/\ObjOk H h a u
 | .tbl ps=>h.get? a=some { cls:=.none,data:=.fields ps }
 | .met f x=>h.get? a=some (methodObj (.ref f) (.ref x))
 | .ext φ=>φ h/\(∃o,h.get? a=some o)/\∀h1 h2:Heap,φ h1->(∀o,h1.get? a=some o->h2.get? a=some o)->φ h2
noncomputable def HOk(H:Hp)(h:Heap):Prop:=∀a o,H a=some o->ObjOk P w H h a o
end

section
variable{P:Program}{w:World}{H H':Hp}{h h':Heap}{a:Addr}{o:HO}
theorem ObjOk.lt(x:ObjOk P w H h a o):a<h.objs.size:=by
 cases o with
 | lst xs=>obtain⟨_,_,_,_,e⟩:=x;exact Qf e
 | tup xs=>obtain⟨_,_,_,p⟩:=x;exact p.lt
 | dK kvs=>obtain⟨_,_,_,_,o,_,_,e,_⟩:=x;exact Qf e
 | dT kvs=>obtain⟨_,_,_,_,o,_,_,e,_⟩:=x;exact Qf e
 | set S n=>obtain⟨o,_,_,_,e,_⟩:=x;exact Qf e
 | ins C dx fs=>obtain⟨_,_,_,e,_⟩:=x;exact Qf e
 | own y=>obtain⟨_,e⟩:=x;exact Qf e
 | xd fs=>obtain⟨_,⟨_,_,_,e,_⟩,_⟩:=x;exact Qf e
 | rng lo hi=>obtain⟨_,_,_,e⟩:=x;exact Qf e
 | frz ob u=>obtain⟨e,_⟩:=x;exact Qf e
 | tbl ps=>exact Qf (show h.get? a=some _ from x)
 | met f y=>exact Qf (show h.get? a=some _ from x)
 | ext φ=>obtain⟨_,⟨_,e⟩,_⟩:=x;exact Qf e
theorem Paired.mapP{α β:Type}{F G:α->β->Prop}:∀{l₁:List α} {l₂:List β},Paired F l₁ l₂->(∀a b,F a b->G a b)->Paired G l₁ l₂
 | _,_,.nil,_=>.nil
 | _,_,.cons r t,f=>.cons (f _ _ r) (Paired.mapP t f)
theorem ObjOk.stay(x:ObjOk P w H h a o)(k:∀b u,(b=a\/H b=some (.own a))->h.get? b=some u->h'.get? b=some u)
 (ho:∀b,H b=some (.own a)->H' b=some (.own a)) (ht:∀b xs,H b=some (.tup xs)->H' b=some (.tup xs)):ObjOk P w H' h' a o:=by
 induction o with
 | lst xs=>obtain⟨z,its,n,r,e⟩:=x;exact⟨z,its,n,r,k _ _ (.inl rfl) e⟩
 | tup xs=>obtain⟨z,its,r,ob,e,c⟩:=x;exact⟨z,its,r,ob,k _ _ (.inl rfl) e,c⟩
 | dK kvs=>obtain⟨z,y,vs,r,ob,es,ep,e,c⟩:=x;exact⟨z,y,vs,r,ob,es,ep,k _ _ (.inl rfl) e,c⟩
 | dT kvs=>obtain⟨z,y,xs,r,ob,es,ep,e,c⟩:=x;exact⟨z,y,xs,Paired.mapP r fun p q z=>⟨z.1,ht _ _ z.2.1,z.2.2⟩,ob,es,ep,k _ _ (.inl rfl) e,c⟩
 | set S n=>obtain⟨ob,es,ep,t,e,c⟩:=x;exact⟨ob,es,ep,t,k _ _ (.inl rfl) e,c⟩
 | ins C dx fs=>obtain⟨d,z,ne,e,mA,⟨od,es,ep,e2,c⟩,r⟩:=x;exact⟨ho _ d,z,ne,k _ _ (.inl rfl) e,mA,⟨od,es,ep,k _ _ (.inr d) e2,c⟩,r⟩
 | own y=>obtain⟨ob,e⟩:=x;exact⟨ob,k _ _ (.inl rfl) e⟩
 | xd fs=>obtain⟨mA,⟨od,es,ep,e,c⟩,r⟩:=x;exact⟨mA,⟨od,es,ep,k _ _ (.inl rfl) e,c⟩,r⟩
 | rng lo hi=>obtain⟨t,u,v,e⟩:=x;exact⟨t,u,v,k _ _ (.inl rfl) e⟩
 | frz ob u ih=>obtain⟨e,q⟩:=x;exact⟨k _ _ (.inl rfl) e,ih q⟩
 | tbl ps =>
  have e:h.get? a=some { cls:=.none,data:=.fields ps }:=x
  show h'.get? a=some { cls:=.none,data:=.fields ps };exact k a _ (.inl rfl) e
 | met f y =>
  have e:h.get? a=some (methodObj (.ref f) (.ref y)):=x
  show h'.get? a=some (methodObj (.ref f) (.ref y));exact k a _ (.inl rfl) e
 | ext φ=>obtain⟨p,⟨o,e⟩,st⟩:=x;exact⟨st _ _ p fun o q=>k _ _ (.inl rfl) q,⟨o,k _ _ (.inl rfl) e⟩,st⟩
theorem HOk.lt(x:HOk P w H h)(e:H a=some o):a<h.objs.size:=(x a o e).lt
theorem HOk.fresh(x:HOk P w H h)(e:h.objs.size<=a):H a=none:=by
 cases q:H a with
 | none=>rfl
 | some u=>exact absurd (Qt (x.lt q) e) (QY _)
theorem HOk.kept(x:HOk P w H h)(k:∀b u,h.get? b=some u->h'.get? b=some u):HOk P w H h':=fun a o e=>(x a o e).stay (fun b u _ q=>k b u q) (fun _ q=>q) fun _ _ q=>q
theorem HOk.laid(x:HOk P w H h)(k:∀b u,h.get? b=some u->h'.get? b=some u)(hp:h.objs.size<=a)(new:ObjOk P w (upd H a o) h' a o):HOk P w (upd H a o) h':=fun b u e=>by
 have hn:=x.fresh hp
 by_cases hb:b=a
 ·subst hb;rw[Ju] at e;cases e;exact new
 ·rw[Jd hb] at e;exact(x b u e).stay (fun c v _ q=>k c v q) (fun c q=>by rw[Jd (Jl q hn)];exact q) fun c xs q=>by rw[Jd (Jl q hn)];exact q
end

noncomputable def Rd(H:Hp)(a:Addr)(u:HO):Prop:=H a=some u\/∃o,H a=some (.frz o u)
theorem Rd.of{H:Hp}{a:Addr}{u:HO}(h:H a=some u):Rd H a u:=.inl h
theorem Rd.ok{P:Program}{w:World}{H:Hp}{h:Heap}{a:Addr}{u:HO}(r:Rd H a u)(x:HOk P w H h):ObjOk P w H h a u:=by
 rcases r with r|⟨o,r⟩
 ·exact x a u r
 ·obtain⟨_,q⟩:=x a _ r;exact q
noncomputable def Mut:Option HO->Prop
 | some (.lst _)=>True
 | some (.dK _)=>True
 | some (.dT _)=>True
 | some (.set _ _)=>True
 | some (.ins _ _ _)=>True
 | some (.ext _)=>True
 | _=>False
section
variable{P:Program}{w:World}{H:Hp}{h h':Heap}{x e:Addr}{o':HO}
theorem HOk.write(ok:HOk P w H h)(mu:Mut (H x))(he:e=x\/H e=some (.own x))(k:∀b u,b≠e->h.get? b=some u->h'.get? b=some u)(heo:∃u,h'.get? e=some u)
 (new:ObjOk P w (upd H x o') h' x o'):HOk P w (upd H x o') h':=fun b u q=>by
 have nown:∀c y,H c=some (.own y)->c≠x:=fun c y r z=>by subst z;rw[r] at mu;exact mu
 have ntup:∀c xs,H c=some (.tup xs)->c≠x:=fun c xs r z=>by subst z;rw[r] at mu;exact mu
 by_cases hb:b=x
 ·subst hb;rw[Ju] at q;cases q;exact new
 ·rw[Jd hb] at q
  by_cases hbe:b=e
  ·have q':H b=some (.own x):=by
    rcases he with z|z
    ·exact absurd (hbe.trans z) hb
    ·rw[hbe];exact z
   rw[q] at q';cases q';obtain⟨v,hv⟩:=heo;exact⟨v,by rw[hbe];exact hv⟩
  ·refine(ok b u q).stay (fun c v hc r=>k c v ?_ r) (fun c r=>by rw[Jd (nown c b r)];exact r) fun c xs r=>by rw[Jd (ntup c xs r)];exact r
   rcases hc with rfl|hc
   ·exact hbe
   ·rintro rfl;rcases he with z|z
    ·exact nown c b hc z
    ·rw[hc] at z;cases z;exact hb rfl
end

structure Un (fs ex:List Addr) (H H':Hp) (h h':Heap):Prop where
 keep:∀b o,h.get? b=some o->H b=none->b∉fs->b∉ex->h'.get? b=some o
 slot:∀b o,h.get? b=some o->H b=none->b∈fs->b∉ex->∃sl,h'.get? b=some { o with slots:=sl }
 free:∀b o,h.get? b=some o->H b=none->b∉ex->H' b=none
 there:∀b o,h.get? b=some o->b∉ex->∃o',h'.get? b=some o'
 tups:∀b xs,H b=some (.tup xs)->H' b=some (.tup xs)
 frzs:∀b o u,H b=some (.frz o u)->H' b=some (.frz o u)
 tbls:∀b ps,H b=some (.tbl ps)->∃more,H' b=some (.tbl (ps++more))
section
variable{fs fs' ex ex':List Addr}{H H1 H2:Hp}{h h1 h2 h':Heap}{a x e:Addr}{o:HO}
theorem Un.any(u:Un fs ex H H1 h h1){b:Addr}{ob:Obj}(q:h.get? b=some ob)(n:H b=none)(hx:b∉ex):∃sl,h1.get? b=some { ob with slots:=sl }:=by
 by_cases hb:b∈fs
 ·exact u.slot b ob q n hb hx
 ·exact⟨ob.slots,u.keep b ob q n hb hx⟩
theorem Un.trans(a:Un fs ex H H1 h h1)(b:Un fs ex H1 H2 h1 h2):Un fs ex H H2 h h2 where
 keep:=fun c ob q n hc hx=>b.keep c ob (a.keep c ob q n hc hx) (a.free c ob q n hx) hc hx
 slot:=fun c ob q n hc hx=>by obtain⟨sl,e1⟩:=a.slot c ob q n hc hx;obtain⟨sl',e2⟩:=b.slot c _ e1 (a.free c ob q n hx) hc hx;exact⟨sl',e2⟩
 free:=fun c ob q n hx=>by obtain⟨o',e1⟩:=a.there c ob q hx;exact b.free c o' e1 (a.free c ob q n hx) hx
 there:=fun c ob q hx=>by obtain⟨o',e1⟩:=a.there c ob q hx;exact b.there c o' e1 hx
 tups:=fun c xs q=>b.tups c xs (a.tups c xs q)
 frzs:=fun c ob xs q=>b.frzs c ob xs (a.frzs c ob xs q)
 tbls:=fun c ps q=>by obtain⟨m1,e1⟩:=a.tbls c ps q;obtain⟨m2,e2⟩:=b.tbls c _ e1;exact⟨m1++m2,by rw[e2,Array.append_assoc]⟩
theorem Un.kept(k:∀b u,h.get? b=some u->h'.get? b=some u):Un fs ex H H h h' :=
 ⟨fun b ob q _ _ _=>k b ob q,fun b ob q _ _ _=>⟨ob.slots,k b ob q⟩,fun _ _ _ n _=>n,fun b ob q _=>⟨ob,k b ob q⟩,fun _ _ q=>q,fun _ _ _ q=>q,fun _ ps q=>⟨#[],by rw[q];simp⟩⟩
theorem Un.refl:Un fs ex H H h h:=Un.kept fun _ _ q=>q
theorem Un.laid(k:∀b u,h.get? b=some u->h'.get? b=some u)(hp:h.objs.size<=a)(hn:H a=none):Un fs ex H (upd H a o) h h' where
 keep:=fun b u q _ _ _=>k b u q
 slot:=fun b u q _ _ _=>⟨u.slots,k b u q⟩
 free:=fun b u q n _=>by rw[Jd (Qo (Qt (Qf q) hp))];exact n
 there:=fun b u q _=>⟨u,k b u q⟩
 tups:=fun b xs q=>by rw[Jd (Jl q hn)];exact q
 frzs:=fun b u xs q=>by rw[Jd (Jl q hn)];exact q
 tbls:=fun b ps q=>⟨#[],by rw[Jd (Jl q hn),q];simp⟩
theorem Un.write(mu:Mut (H x))(he:e=x\/H e=some (.own x))(k:∀b u,b≠e->h.get? b=some u->h'.get? b=some u)(heo:∃u,h'.get? e=some u):Un fs ex H (upd H x o) h h':=by
 have hx:∀b,H b=none->b≠x:=fun b n z=>by subst z;rw[n] at mu;exact mu
 have hb:∀b,H b=none->b≠e:=fun b n z=>by
  subst z;rcases he with r|r
  ·exact hx b n r
  ·rw[n] at r;cases r
 have hm:∀b u,H b=some u->¬Mut (some u)->b≠x:=fun b u q nm z=>by subst z;rw[q] at mu;exact nm mu
 refine⟨fun b u q n _ _=>k b u (hb b n) q,fun b u q n _ _=>⟨u.slots,k b u (hb b n) q⟩,fun b u q n _=>by rw[Jd (hx b n)];exact n,fun b u q _=>?_,
  fun b xs q=>by rw[Jd (hm b _ q fun z=>z)];exact q,fun b u xs q=>by rw[Jd (hm b _ q fun z=>z)];exact q,fun b ps q=>⟨#[],by rw[Jd (hm b _ q fun z=>z),q];simp⟩⟩
 by_cases hbe:b=e
 ·subst hbe;exact heo
 ·exact⟨u,k b u hbe q⟩
theorem Un.mono(u:Un fs ex H H1 h h1)(hs:∀b∈fs,b∈fs')(hx:∀b∈ex,b∈ex'):Un fs' ex' H H1 h h1 :=
 ⟨fun b ob q n hb he=>u.keep b ob q n (fun z=>hb (hs b z)) fun z=>he (hx b z),fun _ _ q n _ he=>u.any q n fun z=>he (hx _ z),fun b ob q n he=>u.free b ob q n fun z=>he (hx b z),fun b ob q he=>u.there b ob q fun z=>he (hx b z),u.tups,u.frzs,u.tbls⟩
end

noncomputable def trk(h:Heap)(H:Hp):List Addr:=(Gs h.objs.size).filter fun a=>(H a).isSome
noncomputable def U5(h:Heap)(H:Hp):Heap:=PySem.W.hideAll h (trk h H)
theorem W7(h:Heap)(H:Hp):(U5 h H).objs.size=h.objs.size:=PySem.W.hideAll_size _ _
theorem Jaf{h:Heap}{H:Hp}{b:Addr}{o:Obj}(e:h.get? b=some o)(n:H b=none):(U5 h H).get? b=some o :=
 PySem.W.hideAll_get _ e fun hm=>by have q:(H b).isSome=true:=(List.mem_filter.mp hm).2;rw[n] at q;simp at q
theorem JbP{h:Heap}{H:Hp}{b:Addr}{o:Obj}(e:(U5 h H).get? b=some o):h.get? b=some o/\H b=none:=by
 have e':h.get? b=some o:=PySem.W.of_hideAll (trk h H) e;refine⟨e',?_⟩
 cases q:H b with
 | none=>rfl
 | some x =>
  have hm:b∈trk h H:=List.mem_filter.mpr ⟨K0.mpr (Qf e'),by simp[q]⟩
  have z:(U5 h H).get? b=none:=PySem.W.hideAll_none (trk h H) hm;rw[z] at e;cases e

noncomputable def Jbb(g h:Heap)(L:Addr):List (Addr×Obj):=(Gs h.objs.size).filterMap fun a=>if a=L\/(g.get? a).isSome=true then none else(h.get? a).map fun o=>(a,o)
noncomputable def Yc(g h:Heap)(L d:Addr):List (Addr×Obj):=(Jbb g h L).filter fun p=>decide (p.1≠d)
end L2

namespace L2
open PySem PySem.Spec PyProof.Rows

structure Mod (K:Frag) (mg:Str->Option Value) (base:Heap):Prop where
 kin:K.In base
 glob:base.Ns mainGlobals mg
 blt:∃mb,base.Ns builtinsNs mb/\∀x:Str,x≠"__name__"->mb x=bootBuiltins x
 nolimit:base.NoLimit

structure Cx where
 prog:Program
 w:World
 K:Frag
 mg:Str->Option Value
 base:Heap
 A:Around
 N:List Str
 s₀:Shared
 H₀:Hp
 env:Env
 outer:List Env
 stack:List Env
 ex:List Addr
 fn:Str->Bool
 calm:Bool
 pn:List (Addr×Obj)
 xe:Value->Shared->Prop
noncomputable def frs(l:List Env):List Addr:=l.filterMap (·.frame)
noncomputable abbrev Cx.fs(X:Cx):List Addr:=frs X.outer

noncomputable def Vis(sc:Scope)(x:Str):Prop:=sc.names.lookup x=some .local\/sc.names.lookup x=some .cell\/sc.names.lookup x=some .free
noncomputable def Loc(sc:Scope)(x:Str):Prop:=sc.names.lookup x=some .local\/sc.names.lookup x=some .cell
noncomputable def JgB(env:Env)(h:Heap)(m:Str->Option Value)(x:Str)(u:Value):Prop :=
 (env.kindOf x=some .local/\m x=some u)\/((env.kindOf x=some .cell\/env.kindOf x=some .free)/\∃c,env.cells.lookup x=some c/\h.IsCell c (some u))

structure Cx.Ok (X:Cx):Prop where
 mod:Mod X.K X.mg X.base
 kind:X.env.scope.kind=.function
 glob:X.env.globals=mainGlobals
 blt:X.env.builtins=builtinsNs
 above:X.s₀.heap.objs.size<=X.env.locals
 inj:∀x y c,X.env.cells.lookup x=some c->X.env.cells.lookup y=some c->x=y
 has:∀x,(X.env.kindOf x=some .cell\/X.env.kindOf x=some .free)->∃c,X.env.cells.lookup x=some c
 cab:∀x c,X.fn x=true->X.env.cells.lookup x=some c->X.s₀.heap.objs.size<=c
 hd:X.calm=true->X.A.handled=none
 frames:X.A.frames=some X.stack
 stk:X.stack=X.outer\/(X.stack=X.env::X.outer/\X.env.frame=some X.env.locals)
 exf:∀b∈X.ex,b≠X.env.locals/\∀x c,X.env.cells.lookup x=some c->c≠b
 bs:∀b o,X.base.get? b=some o->X.s₀.heap.get? b=some o/\X.H₀ b=none
 bsz:X.base.objs.size<=X.s₀.heap.objs.size
 noex:∀b o,X.base.get? b=some o->b∉X.ex
 exfs:∀b∈X.ex,b∉X.fs
 funs:X.s₀.heap.FunFrames X.base X.outer
 frf:∀b∈X.fs,X.H₀ b=none

structure Inv (X:Cx) (pins:List (Addr×Obj)) (σ:List (Option V)) (H:Hp) (s:Shared):Prop where
 ok:X.Ok
 os:s.os=X.s₀.os
 bare:AllBare s.gens
 base:Un X.fs X.ex X.H₀ H X.s₀.heap s.heap
 loc:∃m,s.heap.Ns X.env.locals m/\∀(i:Nat) (x:Str) (v:V),X.N[i]?=some x->σ[i]?=some (some v)->Vis X.env.scope x->∃u,RelV v u/\JgB X.env s.heap m x u
 cell:∀x c,X.env.cells.lookup x=some c->∃v,s.heap.IsCell c v
 free:H X.env.locals=none
 freeC:∀x c,X.env.cells.lookup x=some c->H c=none
 pin:∀p∈X.pn++pins,s.heap.get? p.1=some p.2/\H p.1=none/\p.1≠X.env.locals/\p.1∉X.fs/\∀v,p.2.data≠.cell v
 hok:HOk X.prog X.w H s.heap
 len:σ.length=X.N.length

section
variable{X:Cx}{pins:List (Addr×Obj)}{σ:List (Option V)}{H H':Hp}{s:Shared}{h':Heap}

theorem Cx.Ok.nofr(ok:X.Ok){b:Addr}{o:Obj}(e:X.base.get? b=some o):b∉X.fs:=fun hb=>by have:=(ok.funs.mem hb).1;rw[e] at this;cases this
theorem Inv.bs(I:Inv X pins σ H s):∀b o,X.base.get? b=some o->s.heap.get? b=some o/\H b=none:=fun b o e=>⟨I.base.keep b o (I.ok.bs b o e).1 (I.ok.bs b o e).2 (I.ok.nofr e) (I.ok.noex b o e),I.base.free b o (I.ok.bs b o e).1 (I.ok.bs b o e).2 (I.ok.noex b o e)⟩
theorem Inv.bk(I:Inv X pins σ H s):∀b o,X.base.get? b=some o->s.heap.get? b=some o:=fun b o e=>(I.bs b o e).1
theorem Inv.mod(I:Inv X pins σ H s):Mod X.K X.mg X.base:=I.ok.mod
theorem Inv.kIn(I:Inv X pins σ H s):X.K.In s.heap:=I.ok.mod.kin.keeps I.bk
theorem Inv.nolimit(I:Inv X pins σ H s):s.heap.NoLimit:=I.ok.mod.nolimit.keeps I.bk
theorem Inv.fr(I:Inv X pins σ H s):∃m,Fr X.base X.env.locals s.heap m :=
 let ⟨m,hn,_⟩:=I.loc
 ⟨m,hn,I.bk,QA I.ok.bsz I.ok.above⟩
theorem Inv.lt(I:Inv X pins σ H s):X.env.locals<s.heap.objs.size:=let ⟨_,hn,_⟩:=I.loc;hn.lt
theorem Inv.sz(I:Inv X pins σ H s):X.s₀.heap.objs.size<=s.heap.objs.size:=QA I.ok.above (GB I.lt)
theorem Inv.nofs(I:Inv X pins σ H s){a:Addr}(h:s.heap.objs.size<=a):a∉X.fs:=fun hb=>by obtain⟨_,o,ho,_⟩:=I.ok.funs.mem hb;exact absurd (Qt (Qf ho) (QA I.sz h)) (QY _)
theorem Inv.cne(I:Inv X pins σ H s):∀x c,X.env.cells.lookup x=some c->c≠X.env.locals:=fun x c e z=>by obtain⟨v,o,ho,hd⟩:=I.cell x c e;obtain⟨m,⟨o',es,ep,ho',hd',_⟩,_⟩:=I.loc;rw[z,ho'] at ho;cases ho;rw[hd'] at hd;cases hd
theorem Inv.funs(I:Inv X pins σ H s):s.heap.FunFrames X.base X.outer:=by
 have all:∀(l:List Env),(∀b∈frs l,b∈X.fs)->X.s₀.heap.FunFrames X.base l->s.heap.FunFrames X.base l:=by
  intro l
  induction l with
  | nil=>intro _ _;trivial
  | cons env r ih =>
   intro hs hl;obtain⟨hk,⟨L,o,hf,hn,ho,hd⟩,hr⟩:=hl;have hL:L∈X.fs:=hs L (by unfold frs;rw[Gm,hf];exact Qj);obtain⟨sl,e⟩:=I.base.slot L o ho (I.ok.frf L hL) hL fun z=>I.ok.exfs L z hL
   exact⟨hk,⟨L,_,hf,hn,e,hd⟩,ih (fun b hb=>hs b (by unfold frs;rw[Gm,hf];exact Qh _ hb)) hr⟩
 exact all X.outer (fun _ hb=>hb) I.ok.funs

theorem Inv.stack(I:Inv X pins σ H s):s.heap.FunFrames X.base X.stack:=by
 rcases I.ok.stk with e|⟨e,hf⟩
 ·rw[e];exact I.funs
 ·rw[e];obtain⟨m,hn,_⟩:=I.loc;refine .cons (by rw[I.ok.kind];decide) hf hn ?_ I.funs;exact Heap.get?_none_of_le (QA I.ok.bsz I.ok.above)
theorem Inv.stkSub(I:Inv X pins σ H s):∀b∈frs X.stack,b∈X.env.locals::X.fs:=fun b hb=>by
 rcases I.ok.stk with e|⟨e,hf⟩
 ·rw[e] at hb;exact Qh _ hb
 ·rw[e] at hb;unfold frs at hb;rw[Gm,hf] at hb;exact hb
theorem Inv.stkFree(I:Inv X pins σ H s):∀b∈frs X.stack,H b=none:=fun b hb=>by
 rcases Qe.mp (I.stkSub b hb) with e|hb
 ·rw[e];exact I.free
 ·obtain⟨_,o,ho,_⟩:=I.ok.funs.mem hb;exact I.base.free b o ho (I.ok.frf b hb) fun z=>I.ok.exfs b z hb

theorem Inv.step{g':Array GenState}{t':Nat}{d':Drawn}{ch:List Addr}(I:Inv X pins σ H s)
 (hch:∀b∈ch,(b∈X.ex\/X.s₀.heap.objs.size<=b)/\b≠X.env.locals/\(∀x c,X.env.cells.lookup x=some c->c≠b)/\∀p∈X.pn++pins,p.1≠b)
 (keep:∀b o,b≠X.env.locals->b∉X.fs->b∉ch->s.heap.get? b=some o->H b=none->h'.get? b=some o)
 (slot:∀b o,b≠X.env.locals->b∈X.fs->b∉ch->s.heap.get? b=some o->H b=none->∃sl,h'.get? b=some { o with slots:=sl }) (free:∀b o,b∉ch->s.heap.get? b=some o->H b=none->H' b=none)
 (there:∀b o,b∉ch->s.heap.get? b=some o->∃o',h'.get? b=some o')
 (tups:∀b xs,H b=some (.tup xs)->H' b=some (.tup xs)) (frzs:∀b o u,H b=some (.frz o u)->H' b=some (.frz o u)) (tbls:∀b ps,H b=some (.tbl ps)->∃more,H' b=some (.tbl (ps++more)))
 (ns:∀m,s.heap.Ns X.env.locals m->h'.Ns X.env.locals m) (hok:HOk X.prog X.w H' h') (hg:AllBare g') :
 Inv X pins σ H' { s with heap:=h',gens:=g',drawn:=d',toks:=t' }:=by
 have neL:∀b o,X.s₀.heap.get? b=some o->b≠X.env.locals:=fun b o e=>Qo (Qt (Qf e) I.ok.above)
 have neC:∀b o,X.s₀.heap.get? b=some o->b∉X.ex->b∉ch:=fun b o e hx hb=>by
  rcases(hch b hb).1 with z|z
  ·exact hx z
  ·exact absurd (Qt (Qf e) z) (QY _)
 have cellK:∀x c,X.env.cells.lookup x=some c->∀v,s.heap.IsCell c v->h'.IsCell c v:=fun x c e v ⟨o,ho,hd⟩=>by
  have nch:c∉ch:=fun z=>(hch c z).2.2.1 x c e rfl
  by_cases hc:c∈X.fs
  ·obtain⟨sl,q⟩:=slot c o (I.cne x c e) hc nch ho (I.freeC x c e);exact⟨_,q,hd⟩
  ·exact⟨o,keep c o (I.cne x c e) hc nch ho (I.freeC x c e),hd⟩
 refine⟨I.ok,I.os,hg,⟨fun b o e n hb hx=>?_,fun b o e n hb hx=>?_,fun b o e n hx=>?_,fun b o e hx=>?_,fun b xs e=>tups b xs (I.base.tups b xs e),fun b o xs e=>frzs b o xs (I.base.frzs b o xs e),fun b ps e=>?_⟩,?_,fun x c e=>?_,?_,fun x c e=>?_,fun p hp=>?_,hok,I.len⟩
 ·exact keep b o (neL b o e) hb (neC b o e hx) (I.base.keep b o e n hb hx) (I.base.free b o e n hx)
 ·obtain⟨sl,e1⟩:=I.base.slot b o e n hb hx;obtain⟨sl',e2⟩:=slot b _ (neL b o e) hb (neC b o e hx) e1 (I.base.free b o e n hx);exact⟨sl',e2⟩
 ·obtain⟨o',e1⟩:=I.base.there b o e hx;exact free b o' (neC b o e hx) e1 (I.base.free b o e n hx)
 ·obtain⟨o',e1⟩:=I.base.there b o e hx;exact there b o' (neC b o e hx) e1
 ·obtain⟨m1,e1⟩:=I.base.tbls b ps e;obtain⟨m2,e2⟩:=tbls b _ e1;exact⟨m1++m2,by rw[e2,Array.append_assoc]⟩
 ·obtain⟨m,hn,hl⟩:=I.loc;refine⟨m,ns m hn,fun i x v e1 e2 e3=>?_⟩;obtain⟨u,r,l⟩:=hl i x v e1 e2 e3;refine⟨u,r,?_⟩;rcases l with l|⟨k,c,e,z⟩
  ·exact .inl l
  ·exact .inr ⟨k,c,e,cellK x c e _ z⟩
 ·obtain⟨v,z⟩:=I.cell x c e;exact⟨v,cellK x c e v z⟩
 ·obtain⟨m,⟨o,_,_,ho,_⟩,_⟩:=I.loc;exact free _ o (fun z=>(hch _ z).2.1 rfl) ho I.free
 ·obtain⟨v,o,ho,hd⟩:=I.cell x c e;exact free c o (fun z=>(hch c z).2.2.1 x c e rfl) ho (I.freeC x c e)
 ·obtain⟨e,n,ne,nf,d⟩:=I.pin p hp;have nch:p.1∉ch:=fun z=>(hch p.1 z).2.2.2 p hp rfl
  exact⟨keep p.1 p.2 ne nf nch e n,free p.1 p.2 nch e n,ne,nf,d⟩
theorem Inv.un{t':Nat}(I:Inv X pins σ H s)(u:Un X.fs [] H H' s.heap h')(hok:HOk X.prog X.w H' h'):Inv X pins σ H' { s with heap:=h',toks:=t' }:=by
 obtain⟨m,⟨o,es,ep,ho,r⟩,_⟩:=id I.loc;obtain⟨sl,hL⟩:=u.any ho I.free (by simp);exact I.step (g':=s.gens) (d':=s.drawn) (ch:=[]) (fun _ z=>nomatch z) (fun b o _ hb _ e n=>u.keep b o e n hb (by simp)) (fun b o _ hb _ e n=>u.slot b o e n hb (by simp)) (fun b o _ e n=>u.free b o e n (by simp)) (fun b o _ e=>u.there b o e (by simp)) u.tups u.frzs u.tbls (fun m' hm=>by obtain⟨o',es',ep',ho',r'⟩:=hm;rw[ho] at ho';cases ho';exact⟨_,es',ep',hL,r'⟩) hok I.bare
theorem Inv.call{g':Array GenState}{t':Nat}{d':Drawn}{ch:List Addr}(I:Inv X pins σ H s)(u:Un (frs X.stack) ch H H' s.heap h')(hok:HOk X.prog X.w H' h')(hg:AllBare g')
 (hch:∀b∈ch,(b∈X.ex\/X.s₀.heap.objs.size<=b)/\b≠X.env.locals/\(∀x c,X.env.cells.lookup x=some c->c≠b)/\∀p∈X.pn++pins,p.1≠b) :
 Inv X pins σ H' { s with heap:=h',gens:=g',drawn:=d',toks:=t' }:=by
 obtain⟨m,⟨o,es,ep,ho,r⟩,_⟩:=id I.loc;obtain⟨sl,hL⟩:=u.any ho I.free fun z=>(hch _ z).2.1 rfl
 exact I.step (ch:=ch) hch (fun b o hL hb hc e n=>u.keep b o e n (fun z=>(Qe.mp (I.stkSub b z)).elim hL hb) hc) (fun b o _ _ hc e n=>u.any e n hc) (fun b o hc e n=>u.free b o e n hc) (fun b o hc e=>u.there b o e hc) u.tups u.frzs u.tbls (fun m' hm=>by obtain⟨o',es',ep',ho',r'⟩:=hm;rw[ho] at ho';cases ho';exact⟨_,es',ep',hL,r'⟩) hok hg
theorem Inv.turned{t':Nat}{it:Addr}(I:Inv X pins σ H s)(k:∀b o,b≠it->s.heap.get? b=some o->h'.get? b=some o)(hn:H it=none)(hL:it≠X.env.locals)
 (h1:it∈X.ex\/X.s₀.heap.objs.size<=it) (h2:∀x c,X.env.cells.lookup x=some c->c≠it) (h3:∀p∈X.pn++pins,p.1≠it):Inv X pins σ H { s with heap:=h',toks:=t' }:=by
 have nit:∀b u,H b=some u->b≠it:=fun b u e z=>by rw[z,hn] at e;cases e
 refine I.step (g':=s.gens) (d':=s.drawn) (ch:=[it]) (fun b hb=>?_) (fun b o _ _ hc e _=>k b o (fun z=>hc (by simp[z])) e) (fun b o _ _ hc e _=>⟨o.slots,k b o (fun z=>hc (by simp[z])) e⟩) (fun _ _ _ _ n=>n)
  (fun b o hc e=>⟨o,k b o (fun z=>hc (by simp[z])) e⟩) (fun _ _ e=>e) (fun _ _ _ e=>e) (fun b ps e=>⟨#[],by rw[e];simp⟩) (fun m hm=>?_) (fun b u e=>?_) I.bare
 ·have e:b=it:=by simpa using hb
  subst e;exact⟨h1,hL,h2,h3⟩
 ·obtain⟨o,es,ep,ho,r⟩:=hm;exact⟨o,es,ep,k _ o (Qy hL) ho,r⟩
 ·refine(I.hok b u e).stay (fun c v hc q=>k c v ?_ q) (fun _ q=>q) fun _ _ q=>q
  rcases hc with z|z
  ·rw[z];exact nit b u e
  ·exact nit c _ z
theorem Inv.tok(I:Inv X pins σ H s)(t:Nat):Inv X pins σ H { s with toks:=t }:=I.un (h':=s.heap) (t':=t) Un.refl I.hok
theorem Inv.kept{t':Nat}(I:Inv X pins σ H s)(k:∀b u,s.heap.get? b=some u->h'.get? b=some u):Inv X pins σ H { s with heap:=h',toks:=t' }:=I.un (Un.kept k) (I.hok.kept k)
theorem Inv.laid{a:Addr}{o:HO}{t':Nat}(I:Inv X pins σ H s)(k:∀b u,s.heap.get? b=some u->h'.get? b=some u)(hp:s.heap.objs.size<=a)(new:ObjOk X.prog X.w (upd H a o) h' a o) :
 Inv X pins σ (upd H a o) { s with heap:=h',toks:=t' }:=I.un (Un.laid k hp (I.hok.fresh hp)) (I.hok.laid k hp new)
theorem Inv.write{x e:Addr}{o:HO}{t':Nat}(I:Inv X pins σ H s)(mu:Mut (H x))(he:e=x\/H e=some (.own x))(k:∀b u,b≠e->s.heap.get? b=some u->h'.get? b=some u)(heo:∃u,h'.get? e=some u)
 (new:ObjOk X.prog X.w (upd H x o) h' x o):Inv X pins σ (upd H x o) { s with heap:=h',toks:=t' }:=I.un (Un.write mu he k heo) (I.hok.write mu he k heo new)
theorem Inv.weak{σ':List (Option V)}(I:Inv X pins σ H s)(hl:σ'.length=σ.length)(w:∀(i:Nat) v,σ'[i]?=some (some v)->σ[i]?=some (some v)):Inv X pins σ' H s :=
 ⟨I.ok,I.os,I.bare,I.base,let ⟨m,hn,hl'⟩:=I.loc;⟨m,hn,fun i x v e1 e2 e3=>hl' i x v e1 (w i v e2) e3⟩,I.cell,I.free,I.freeC,I.pin,I.hok,hl.trans I.len⟩
theorem Inv.pins_of{pins':List (Addr×Obj)}(I:Inv X pins σ H s)(h:∀p∈pins',s.heap.get? p.1=some p.2/\H p.1=none/\p.1≠X.env.locals/\p.1∉X.fs/\∀v,p.2.data≠.cell v):Inv X pins' σ H s :=
 ⟨I.ok,I.os,I.bare,I.base,I.loc,I.cell,I.free,I.freeC,fun p hp=>(GK.mp hp).elim (fun z=>I.pin p (K1 _ z)) (h p),I.hok,I.len⟩

theorem VA{N:List Str}(hN:N.Nodup){i j:Nat}{x:Str}(a:N[i]?=some x)(b:N[j]?=some x):i=j:=by obtain⟨h1,e1⟩:=Qi.mp a;obtain⟨h2,e2⟩:=Qi.mp b;exact(List.getElem_inj hN).mp (e1.trans e2.symm)

theorem Zt{M:Model}{A:Around}{E:Value->Shared->Prop}{i:Nat}{x:Str}{v:V}{u:Value}{Q:Unit->Shared->Prop}(I:Inv X pins σ H s)(hN:X.N.Nodup)(hi:X.N[i]?=some x)(hx:Loc X.env.scope x)(r:RelV v u)
 (h:∀s',Inv X pins (σ.set i (some v)) H s'->(∃a,Qz a s.heap s'.heap/\(a=X.env.locals\/X.env.cells.lookup x=some a))->Q () s') (hf:X.fn x=true\/X.env.scope.names.lookup x=some .local:=by first|exact .inl rfl|exact .inr rfl|assumption):wpAny M A (storeName X.env x u) Q E s:=by
 obtain⟨m,hn,hl⟩:=id I.loc;have hcls:(X.env.scope.kind == .class || (X.env.scope.kind == .module && X.env.locals != X.env.globals))=false:=by rw[I.ok.kind];rfl
 have hiσ:i<σ.length:=by rw[I.len];exact(Qi.mp hi).1
 have cne:=I.cne
 have tracked:∀{a:Addr} {h':Heap},(∃o,s.heap.get? a=some o/\H a=none)->Qz a s.heap h'->HOk X.prog X.w H h':=fun {a h'} ha hs b ob e=>by
  obtain⟨_,_,hfree⟩:=ha;refine(I.hok b ob e).stay (fun c w' hc q=>(hs.2 c ?_).trans q) (fun _ q=>q) fun _ _ q=>q
  rintro rfl;rcases hc with rfl|hc
  ·rw[hfree] at e;cases e
  ·rw[hfree] at hc;cases hc
 rcases hx with hk|hk
 ·refine wpAny_storeName_local hk hn (fun h' hn' hs=>?_) hcls;obtain⟨oL,_,_,hoL,_⟩:=id hn;refine h _ ⟨I.ok,I.os,I.bare,⟨fun b o e n hb hx=>?_,fun b o e n hb hx=>?_,I.base.free,fun b o e hx=>?_,I.base.tups,I.base.frzs,I.base.tbls⟩,⟨_,hn',fun j y v' e1 e2 e3=>?_⟩,fun y c e=>?_,I.free,I.freeC,fun p hp=>?_,tracked ⟨oL,hoL,I.free⟩ hs,by simpa using I.len⟩ ⟨_,hs,.inl rfl⟩
  ·exact(hs.2 b (Qo (Qt (Qf e) I.ok.above))).trans (I.base.keep b o e n hb hx)
  ·obtain⟨sl,e1⟩:=I.base.slot b o e n hb hx;exact⟨sl,(hs.2 b (Qo (Qt (Qf e) I.ok.above))).trans e1⟩
  ·obtain⟨o',e1⟩:=I.base.there b o e hx;exact⟨o',(hs.2 b (Qo (Qt (Qf e) I.ok.above))).trans e1⟩
  ·by_cases hj:j=i
   ·subst hj;rw[hi] at e1;cases e1;rw[KI hiσ] at e2;cases e2;exact⟨u,r,.inl ⟨hk,by simp⟩⟩
   ·rw[K2 (Qy hj)] at e2;obtain⟨u',r',q⟩:=hl j y v' e1 e2 e3;refine⟨u',r',?_⟩;rcases q with ⟨k,e⟩|⟨k,c,e,z⟩
    ·refine .inl ⟨k,?_⟩;have:y≠x:=fun e=>hj (VA hN e1 (e▸hi))
     simp[this,e]
    ·exact .inr ⟨k,c,e,z.sameBut hs (cne y c e)⟩
  ·obtain⟨w',z⟩:=I.cell y c e;exact⟨w',z.sameBut hs (cne y c e)⟩
  ·obtain⟨e,n,ne,nf,d⟩:=I.pin p hp;exact⟨(hs.2 p.1 ne).trans e,n,ne,nf,d⟩
 ·have hfn:X.fn x=true:=by
   rcases hf with z|z
   ·exact z
   ·rw[z] at hk;cases hk
  obtain⟨c,hc⟩:=I.ok.has x (.inl hk);obtain⟨w',z⟩:=I.cell x c hc;refine wpAny_storeName_cell I.ok.kind hk hc z (fun h' hc' hs=>?_);obtain⟨oc,hoc,hocd⟩:=id z;refine h { s with heap:=h' } ⟨I.ok,I.os,I.bare,⟨fun b o e n hb hx=>?_,fun b o e n hb hx=>?_,I.base.free,fun b o e hx=>?_,I.base.tups,I.base.frzs,I.base.tbls⟩,⟨m,hn.sameBut hs (Qy (cne x c hc)),fun j y v' e1 e2 e3=>?_⟩,fun y c' e=>?_,I.free,I.freeC,fun p hp=>?_,tracked ⟨oc,hoc,I.freeC x c hc⟩ hs,by simpa using I.len⟩ ⟨c,hs,.inr hc⟩
  ·exact(hs.2 b (Qo (Qt (Qf e) (I.ok.cab x c hfn hc)))).trans (I.base.keep b o e n hb hx)
  ·obtain⟨sl,e1⟩:=I.base.slot b o e n hb hx;exact⟨sl,(hs.2 b (Qo (Qt (Qf e) (I.ok.cab x c hfn hc)))).trans e1⟩
  ·obtain⟨o',e1⟩:=I.base.there b o e hx;exact⟨o',(hs.2 b (Qo (Qt (Qf e) (I.ok.cab x c hfn hc)))).trans e1⟩
  ·by_cases hj:j=i
   ·subst hj;rw[hi] at e1;cases e1;rw[KI hiσ] at e2;cases e2;exact⟨u,r,.inr ⟨.inl hk,c,hc,hc'⟩⟩
   ·rw[K2 (Qy hj)] at e2;obtain⟨u',r',q⟩:=hl j y v' e1 e2 e3;refine⟨u',r',?_⟩;rcases q with q|⟨k,c',e,z'⟩
    ·exact .inl q
    ·refine .inr ⟨k,c',e,z'.sameBut hs ?_⟩;rintro rfl;exact hj (VA hN e1 (I.ok.inj _ _ _ e hc▸hi))
  ·by_cases hcc:c'=c
   ·subst hcc;exact⟨_,hc'⟩
   ·obtain⟨w2,z2⟩:=I.cell y c' e;exact⟨w2,z2.sameBut hs hcc⟩
  ·obtain⟨e,n,ne,nf,d⟩:=I.pin p hp;refine⟨(hs.2 p.1 ?_).trans e,n,ne,nf,d⟩;intro q;rw[q,hoc] at e;have q':oc=p.2:=Qr e;exact d w' (by rw[<- q'];exact hocd)
theorem Uz{M:Model}{A:Around}{E:Value->Shared->Prop}{i:Nat}{x:Str}{v:V}{u:Value}{Q:Unit->Shared->Prop}(I:Inv X pins σ H s)(hN:X.N.Nodup)(hi:X.N[i]?=some x)(hx:Loc X.env.scope x)(r:RelV v u)
 (h:∀s',Inv X pins (σ.set i (some v)) H s'->Q () s') (hf:X.fn x=true\/X.env.scope.names.lookup x=some .local:=by first|exact .inl rfl|exact .inr rfl|assumption):wpAny M A (storeName X.env x u) Q E s :=
 Zt I hN hi hx r (fun s' I' _=>h s' I') hf
theorem Inv.call'{s':Shared}{ch:List Addr}(I:Inv X pins σ H s)(ho:s'.os=s.os)(u:Un (frs X.stack) ch H H' s.heap s'.heap)(hok:HOk X.prog X.w H' s'.heap)(hg:AllBare s'.gens)
 (hch:∀b∈ch,(b∈X.ex\/X.s₀.heap.objs.size<=b)/\b≠X.env.locals/\(∀x c,X.env.cells.lookup x=some c->c≠b)/\∀p∈X.pn++pins,p.1≠b):Inv X pins σ H' s':=by
 obtain⟨h',g',d',t',o'⟩:=s';have e:o'=s.os:=ho;subst e;exact I.call (g':=g') (t':=t') (d':=d') u hok hg hch
end

noncomputable abbrev XK:=Value->Option Addr->Hp->Prop
noncomputable abbrev St:=List (Option V)
noncomputable abbrev VK:=V->Hp->Prop
noncomputable abbrev TE:=St->Hp->VK->Prop
noncomputable abbrev TT:=St->Hp->(Bool->Hp->Prop)->Prop
noncomputable abbrev TA:=St->Hp->(List V->Hp->Prop)->Prop
structure Ends where
 nx:St->Hp->Prop
 rt:VK
 bk:St->Hp->Prop:=fun _ _=>False
 ct:St->Hp->Prop:=fun _ _=>False
noncomputable abbrev TS:=Ends->St->Hp->Prop

noncomputable def EP(X:Cx)(pins:List (Addr×Obj))(σ:St)(Q:VK)(u:Value)(s':Shared):Prop:=∃v H',Inv X pins σ H' s'/\RelV v u/\Q v H'
noncomputable def TP(X:Cx)(pins:List (Addr×Obj))(σ:St)(Q:Bool->Hp->Prop)(b:Bool)(s':Shared):Prop:=∃H',Inv X pins σ H' s'/\Q b H'
noncomputable def AP(X:Cx)(pins:List (Addr×Obj))(σ:St)(Q:List V->Hp->Prop)(us:List Value)(s':Shared):Prop:=∃vs H',Inv X pins σ H' s'/\Vals vs us/\Q vs H'
noncomputable def SP(X:Cx)(pins:List (Addr×Obj))(D:Ends)(f:Flow)(s':Shared):Prop :=
 match f with
 | .next=>∃σ' H',Inv X pins σ' H' s'/\D.nx σ' H'
 | .brk=>∃σ' H',Inv X pins σ' H' s'/\D.bk σ' H'
 | .cont=>∃σ' H',Inv X pins σ' H' s'/\D.ct σ' H'
 | .ret u=>∃v σ' H',Inv X pins σ' H' s'/\RelV v u/\D.rt v H'

noncomputable def PE(X:Cx)(e:Expr)(t:TE):Prop :=
 ∀(pins:List (Addr×Obj)) (s:Shared) (σ:St) (H:Hp) (Q:VK),Inv X pins σ H s->t σ H Q->wpAny (model X.prog X.w) X.A (eval e X.env) (EP X pins σ Q) X.xe s
noncomputable def PT(X:Cx)(e:Expr)(t:TT):Prop :=
 ∀(pins:List (Addr×Obj)) (s:Shared) (σ:St) (H:Hp) (Q:Bool->Hp->Prop),Inv X pins σ H s->t σ H Q->wpAny (model X.prog X.w) X.A (isTrue e X.env (eval e X.env)) (TP X pins σ Q) X.xe s
noncomputable def PW(X:Cx)(e:Expr)(t:TT):Prop :=
 ∀(whole:Sem Value) (pins:List (Addr×Obj)) (s:Shared) (σ:St) (H:Hp) (Q:Bool->Hp->Prop),Inv X pins σ H s->t σ H Q->wpAny (model X.prog X.w) X.A (isTrue e X.env whole) (TP X pins σ Q) X.xe s
theorem PW.pt{X:Cx}{e:Expr}{t:TT}(h:PW X e t):PT X e t:=h _
noncomputable def PA(X:Cx)(es:List Expr)(t:TA):Prop :=
 ∀(pos:Pos) (pins:List (Addr×Obj)) (s:Shared) (σ:St) (H:Hp) (Q:List V->Hp->Prop),Inv X pins σ H s->t σ H Q->wpAny (model X.prog X.w) X.A (spliced (backTo pos (starEach es X.env))) (AP X pins σ Q) X.xe s
noncomputable def PS(X:Cx)(st:Stmt)(t:TS):Prop :=
 ∀(pins:List (Addr×Obj)) (s:Shared) (σ:St) (H:Hp) (D:Ends),Inv X pins σ H s->t D σ H->wpAny (model X.prog X.w) X.A (exec st X.env) (SP X pins D) X.xe s
noncomputable def PSs(X:Cx)(st:List Stmt)(t:TS):Prop :=
 ∀(pins:List (Addr×Obj)) (s:Shared) (σ:St) (H:Hp) (D:Ends),Inv X pins σ H s->t D σ H->wpAny (model X.prog X.w) X.A (execs st X.env) (SP X pins D) X.xe s
theorem thn{α:Type}{t:Sem α}{Q Q':α->Shared->Prop}{M:Model}{A:Around}{E:Value->Shared->Prop}{s:Shared}(h:wpAny M A t Q E s)(hQ:∀a s,Q a s->Q' a s):wpAny M A t Q' E s:=Kh h hQ fun _ _ x=>x
end L2

namespace L2
open PySem PySem.Spec PyProof.Rows
section
variable{X:Cx}

noncomputable def Wg(i:Nat):TE:=fun σ H Q=>∃v,σ[i]?=some (some v)/\Q v H
noncomputable def tC(v:V):TE:=fun _ H Q=>Q v H
theorem Jd9{i:Nat}{x:Str}{pos:Pos}(hN:X.N[i]?=some x)(hv:Vis X.env.scope x)(hd:(x == ("__debug__":Str))=false:=by decide)(hcd:(x == ("__classdict__":Str))=false:=by decide):PE X (.Name x pos) (Wg i):=by
 intro pins s σ H Q I h;obtain⟨v,e,h⟩:=h;obtain⟨m,hn,hl⟩:=I.loc;obtain⟨u,r,l⟩:=hl i x v hN e hv;have fin:EP X pins σ Q u s:=⟨v,H,I,r,h⟩
 rcases l with ⟨hk,hm⟩|⟨hk,c,hc,hcell⟩
 ·exact wpAny_Name (wpAny_loadName_local I.ok.kind hk hn hm fin) hd
 ·rcases hk with hk|hk
  ·exact wpAny_Name (wpAny_loadName_cell I.ok.kind hk hc hcell fin) hd
  ·exact wpAny_Name (wpAny_loadName_free I.ok.kind hk hc hcell fin hcd) hd
theorem Jf{i j pos}:PE X (.Constant (.int i) j pos) (tC (.int i)):=fun _ _ _ H _ I h=>wpAny_Constant_int ⟨.int i,H,I.tok _,⟨_,rfl⟩,h⟩
theorem JcM{b j pos}:PE X (.Constant (.bool b) j pos) (tC (.bl b)):=fun _ _ _ H _ I h=>Constant_bool ⟨.bl b,H,I,rfl,h⟩
theorem Jau{j pos}:PE X (.Constant .none j pos) (tC .non):=fun _ _ _ H _ I h=>Constant_none ⟨.non,H,I,rfl,h⟩
noncomputable def Gl(X:Cx)(x:Str):Prop:=X.env.kindOf x=some .globalImplicit
theorem Ww{E:Value->Shared->Prop}{pins:List (Addr×Obj)}{s:Shared}{σ:St}{H:Hp}{x:Str}{u:Value}{pos:Pos}{Q:Value->Shared->Prop}(I:Inv X pins σ H s)(hg:Gl X x)(hm:X.mg x=some u)(h:Q u s)
 (hd:(x == ("__debug__":Str))=false:=by decide):wpAny (model X.prog X.w) X.A (eval (.Name x pos) X.env) Q E s :=
 Ki I.ok.kind hg (Calls.loadGlobal_global (by rw[I.ok.glob];exact I.mod.glob.keeps I.bk) hm h) hd
theorem Y0{E:Value->Shared->Prop}{pins:List (Addr×Obj)}{s:Shared}{σ:St}{H:Hp}{x:Str}{u:Value}{pos:Pos}{Q:Value->Shared->Prop}(I:Inv X pins σ H s)(hg:Gl X x)(hm:X.mg x=none)(hv:bootBuiltins x=some u)(h:Q u s)
 (hn:x≠"__name__":=by decide) (hd:(x == ("__debug__":Str))=false:=by decide):wpAny (model X.prog X.w) X.A (eval (.Name x pos) X.env) Q E s:=by
 obtain⟨mb,h1,h2⟩:=I.mod.blt;exact Ki I.ok.kind hg (Calls.loadGlobal_builtin (by rw[I.ok.glob];exact I.mod.glob.keeps I.bk) hm (by rw[I.ok.blt];exact h1.keeps I.bk) ((h2 x hn).trans hv) h) hd
theorem JbW{x:Str}{v:V}{u:Value}{pos:Pos}(hg:Gl X x)(hm:X.mg x=some u)(r:RelV v u)(hd:(x == ("__debug__":Str))=false:=by decide):PE X (.Name x pos) (tC v) :=
 fun _ _ _ H _ I h=>Ww I hg hm ⟨v,H,I,r,h⟩ hd
theorem Vb{x:Str}{v:V}{u:Value}{pos:Pos}(hg:Gl X x)(hm:X.mg x=none)(hv:bootBuiltins x=some u)(r:RelV v u)(hn:x≠"__name__":=by decide)(hd:(x == ("__debug__":Str))=false:=by decide):PE X (.Name x pos) (tC v) :=
 fun _ _ _ H _ I h=>Y0 I hg hm hv ⟨v,H,I,r,h⟩ hn hd

variable{a b:Expr}{ta tb:TE}{pos:Pos}
noncomputable def tB(t:TE):TT:=fun σ H Q=>t σ H fun x H1=>∃c,x=.bl c/\Q c H1
variable{tA tB':TT}{Yc:List Expr}
noncomputable def JeV(t u:TT):TT:=fun σ H Q=>t σ H fun c H1=>if c=true then u σ H1 Q else Q false H1
noncomputable def tOr(t u:TT):TT:=fun σ H Q=>t σ H fun c H1=>if c=true then Q true H1 else u σ H1 Q
noncomputable def JeZ(t:TT):TT:=fun σ H Q=>t σ H fun c H1=>Q (!c) H1
theorem Jb0(ha:PT X a tA):PW X (.BoolOp .And [a] pos) tA:=by
 intro wh pins s σ H Q I h;refine isTrue_and (thn (ha pins s σ H Q I h) fun c s1 e=>?_)
 cases c with
 | true=>exact isTrue_and_nil e
 | false=>exact e
theorem JaB(ha:PT X a tA):PW X (.BoolOp .Or [a] pos) tA:=by
 intro wh pins s σ H Q I h;refine isTrue_or (thn (ha pins s σ H Q I h) fun c s1 e=>?_)
 cases c with
 | false=>exact isTrue_or_nil e
 | true=>exact e
theorem Jeh(ha:PT X a tA)(hb:PW X (.BoolOp .And (b::Yc) pos) tB'):PW X (.BoolOp .And (a::b::Yc) pos) (JeV tA tB'):=by
 intro wh pins s σ H Q I h;refine isTrue_and (thn (ha pins s σ H _ I h) fun c s1 ⟨H1,I1,q1⟩=>?_)
 cases c with
 | true=>exact hb wh pins s1 σ H1 Q I1 q1
 | false=>exact⟨H1,I1,q1⟩
theorem JaA(ha:PT X a tA)(hb:PW X (.BoolOp .Or (b::Yc) pos) tB'):PW X (.BoolOp .Or (a::b::Yc) pos) (tOr tA tB'):=by
 intro wh pins s σ H Q I h;refine isTrue_or (thn (ha pins s σ H _ I h) fun c s1 ⟨H1,I1,q1⟩=>?_)
 cases c with
 | true=>exact⟨H1,I1,q1⟩
 | false=>exact hb wh pins s1 σ H1 Q I1 q1
theorem Jee(ha:PT X a tA):PT X (.UnaryOp .Not a pos) (JeZ tA):=by intro pins s σ H Q I h;exact isTrue_not (ha pins s σ H (fun c H1=>Q (!c) H1) I h)
noncomputable def JaW(ta tb:TE):TE:=fun σ H Q=>ta σ H fun x H1=>∃c,x=.bl c/\if c=true then tb σ H1 Q else Q (.bl false) H1
noncomputable def Jha(ta tb:TE):TE:=fun σ H Q=>ta σ H fun x H1=>∃c,x=.bl c/\if c=true then Q (.bl true) H1 else tb σ H1 Q
noncomputable def JaZ(ta:TE):TE:=fun σ H Q=>ta σ H fun x H1=>∃c,x=.bl c/\Q (.bl (!c)) H1
theorem Jd7{op}{t:TE}(h:PE X a t):PE X (.BoolOp op [a] pos) t:=fun pins s σ H Q I hw=>BoolOp_one (h pins s σ H Q I hw)
theorem Jd5(ha:PE X a ta)(hb:PE X (.BoolOp .And (b::Yc) pos) tb):PE X (.BoolOp .And (a::b::Yc) pos) (JaW ta tb):=by
 intro pins s σ H Q I h;refine BoolOp_and (thn (ha pins s σ H _ I h) fun v s1 ⟨x,H1,I1,r1,q1⟩=>?_);obtain⟨c,rfl,q1⟩:=q1;cases r1;refine GR ?_
 cases c with
 | true=>exact hb pins s1 σ H1 Q I1 q1
 | false=>exact⟨.bl false,H1,I1,rfl,q1⟩
theorem Jd6(ha:PE X a ta):PE X (.UnaryOp .Not a pos) (JaZ ta):=by intro pins s σ H Q I h;refine UnaryOp_ (thn (ha pins s σ H _ I h) fun v s1 ⟨x,H1,I1,r1,q1⟩=>?_);obtain⟨c,rfl,q1⟩:=q1;cases r1;exact not_of (GR ⟨.bl (!c),H1,I1,rfl,q1⟩)
noncomputable def tIf(t:TT)(ta tb:TE):TE:=fun σ H Q=>t σ H fun c H1=>if c=true then ta σ H1 Q else tb σ H1 Q
theorem VI{c:Expr}(hc:PT X c tA)(ha:PE X a ta)(hb:PE X b tb):PE X (.IfExp c a b pos) (tIf tA ta tb):=by
 intro pins s σ H Q I h;refine wpAny_IfExp (thn (hc pins s σ H _ I h) fun d s1 ⟨H1,I1,q1⟩=>?_)
 cases d with
 | true=>exact ha pins s1 σ H1 Q I1 q1
 | false=>exact hb pins s1 σ H1 Q I1 q1
end
end L2

namespace L2
open PySem PySem.Spec PyProof.Rows

noncomputable def SqL(K:Frag)(H:Hp)(a:Addr)(xs:List V):Prop :=
 Rd H a (.lst xs) ∨
  ∃(o:Obj) (its:Array Value) (n:Nat),K.lookup a=some o/\o.cls=.type "list"/\o.dict=none/\o.data=.seq its n/\its.size<=sizeLine/\Vals xs its.toList
noncomputable def SqT(K:Frag)(H:Hp)(a:Addr)(xs:List V):Prop :=
 Rd H a (.tup xs) ∨
  ∃(o:Obj) (its:Array Value) (n:Nat),K.lookup a=some o/\o.cls=.type "tuple"/\o.data=.seq its n/\its.size<=sizeLine/\Vals xs its.toList
noncomputable def JgD:Value->Option V
 | .none=>some .non
 | .bool b=>some (.bl b)
 | .int i _=>some (.int i)
 | .str x _=>some (.str x)
 | .bytes b _=>some (.byt b)
 | .float b _=>some (.flt b)
 | .ref a=>some (.ref a)
 | .type n=>some (.ty n)
 | _=>none
theorem RelV.abs{x:V}{u:Value}(r:RelV x u):JgD u=some x:=by
 cases x with
 | non=>cases r;rfl
 | bl _=>cases r;rfl
 | int _=>obtain⟨t,rfl⟩:=r;rfl
 | str _=>obtain⟨t,rfl⟩:=r;rfl
 | byt _=>obtain⟨t,rfl⟩:=r;rfl
 | flt _=>obtain⟨t,rfl⟩:=r;rfl
 | ref _=>cases r;rfl
 | ty _=>cases r;rfl
theorem RelV.inj{x y:V}{u:Value}(r:RelV x u)(q:RelV y u):x=y:=Qr (r.abs.symm.trans q.abs)
theorem Vals.inj:∀{xs ys:List V} {us:List Value},Vals xs us->Vals ys us->xs=ys
 | _,_,_,.nil,.nil=>rfl
 | _,_,_,.cons r t,.cons r' t'=>by rw[r.inj r',Vals.inj t t']
section
variable{X:Cx}{pins:List (Addr×Obj)}{σ:St}{H:Hp}{s:Shared}{a:Addr}{xs ys:List V}
theorem SqL.of{K:Frag}(h:H a=some (.lst xs)):SqL K H a xs:=.inl (.inl h)
theorem SqT.of{K:Frag}(h:H a=some (.tup xs)):SqT K H a xs:=.inl (.inl h)
theorem Inv.list(I:Inv X pins σ H s)(h:SqL X.K H a xs):∃its:List Value,Vals xs its/\PlainL s.heap a its.toArray/\xs.length<=sizeLine:=by
 rcases h with h|⟨o,its,n,hk,hc,hd,hs,hz,r⟩
 ·obtain⟨z,its,n,r,e⟩:=h.ok I.hok;exact⟨its,r,⟨_,n,e,rfl,rfl,rfl⟩,z⟩
 ·refine⟨its.toList,r,⟨o,n,I.kIn a o hk,hc,hd,by simpa using hs⟩,?_⟩;have e:=r.length;simp only[Qw] at e;omega
theorem Inv.tuple(I:Inv X pins σ H s)(h:SqT X.K H a xs):∃its:List Value,Vals xs its/\IsTup s.heap a its.toArray/\xs.length<=sizeLine:=by
 rcases h with h|⟨o,its,n,hk,hc,hs,hz,r⟩
 ·obtain⟨z,its,r,p⟩:=h.ok I.hok;exact⟨its,r,p,z⟩
 ·refine⟨its.toList,r,⟨o,I.kIn a o hk,hc,n,by simpa using hs⟩,?_⟩;have e:=r.length;simp only[Qw] at e;omega
theorem Inv.list_inj(I:Inv X pins σ H s)(h:SqL X.K H a xs)(h':SqL X.K H a ys):xs=ys:=by
 obtain⟨its,r,⟨o,n,e,_,_,d⟩,_⟩:=I.list h;obtain⟨its',r',⟨o',n',e',_,_,d'⟩,_⟩:=I.list h';rw[e] at e';cases e';rw[d] at d'
 injection d' with d1 _
 have:its=its':=by simpa using congrArg Array.toList d1
 subst this;exact r.inj r'
theorem Inv.tuple_inj(I:Inv X pins σ H s)(h:SqT X.K H a xs)(h':SqT X.K H a ys):xs=ys:=by
 obtain⟨its,r,⟨o,e,_,n,d⟩,_⟩:=I.tuple h;obtain⟨its',r',⟨o',e',_,n',d'⟩,_⟩:=I.tuple h';rw[e] at e';cases e';rw[d] at d'
 injection d' with d1 _
 have:its=its':=by simpa using congrArg Array.toList d1
 subst this;exact r.inj r'
end

noncomputable abbrev Cx.wish(X:Cx)(E:Value->Shared->Prop):Cx:={ X with xe:=E }
noncomputable abbrev Cx.nox(X:Cx):Cx:=X.wish fun _ _=>False
theorem Cx.Ok.wish{X:Cx}(ok:X.Ok)(E:Value->Shared->Prop):(X.wish E).Ok :=
 ⟨ok.mod,ok.kind,ok.glob,ok.blt,ok.above,ok.inj,ok.has,ok.cab,ok.hd,ok.frames,ok.stk,ok.exf,ok.bs,ok.bsz,ok.noex,ok.exfs,ok.funs,ok.frf⟩
theorem Cx.Ok.unwish{X:Cx}{E:Value->Shared->Prop}(ok:(X.wish E).Ok):X.Ok :=
 ⟨ok.mod,ok.kind,ok.glob,ok.blt,ok.above,ok.inj,ok.has,ok.cab,ok.hd,ok.frames,ok.stk,ok.exf,ok.bs,ok.bsz,ok.noex,ok.exfs,ok.funs,ok.frf⟩
section
variable{X:Cx}{pins:List (Addr×Obj)}{σ:St}{H:Hp}{s:Shared}{E:Value->Shared->Prop}
theorem Inv.wish(I:Inv X pins σ H s)(E:Value->Shared->Prop):Inv (X.wish E) pins σ H s:=⟨I.ok.wish E,I.os,I.bare,I.base,I.loc,I.cell,I.free,I.freeC,I.pin,I.hok,I.len⟩
theorem Inv.unwish(I:Inv (X.wish E) pins σ H s):Inv X pins σ H s:=⟨I.ok.unwish,I.os,I.bare,I.base,I.loc,I.cell,I.free,I.freeC,I.pin,I.hok,I.len⟩
theorem SP.unwish{D:Ends}{f:Flow}{s':Shared}(h:SP (X.wish E) pins D f s'):SP X pins D f s':=by
 cases f with
 | next=>obtain⟨σ',H',I,q⟩:=h;exact⟨σ',H',I.unwish,q⟩
 | brk=>obtain⟨σ',H',I,q⟩:=h;exact⟨σ',H',I.unwish,q⟩
 | cont=>obtain⟨σ',H',I,q⟩:=h;exact⟨σ',H',I.unwish,q⟩
 | ret u=>obtain⟨v,σ',H',I,r,q⟩:=h;exact⟨v,σ',H',I.unwish,r,q⟩
theorem PE.nox{e:Expr}{t:TE}(h:PE X.nox e t):PE X e t:=fun pins s σ H Q I hw=>Kh (h pins s σ H Q (I.wish _) hw) (fun _ _ ⟨v,H',I',r,q⟩=>⟨v,H',I'.unwish,r,q⟩) fun _ _ z=>Q8 z
theorem PT.nox{e:Expr}{t:TT}(h:PT X.nox e t):PT X e t:=fun pins s σ H Q I hw=>Kh (h pins s σ H Q (I.wish _) hw) (fun _ _ ⟨H',I',q⟩=>⟨H',I'.unwish,q⟩) fun _ _ z=>Q8 z
theorem PSs.nox{st:List Stmt}{t:TS}(h:PSs X.nox st t):PSs X st t:=fun pins s σ H D I hw=>Kh (h pins s σ H D (I.wish _) hw) (fun _ _ q=>q.unwish) fun _ _ z=>Q8 z
end

section
variable{X:Cx}{st:Stmt}{Yc:List Stmt}{t u:TS}{e:Expr}{te:TE}{pos:Pos}
noncomputable def JaY:TS:=fun D σ H=>D.nx σ H
noncomputable def Je0(t u:TS):TS:=fun D σ H=>t { D with nx:=u D } σ H
theorem JP:PSs X [] JaY:=fun _ _ σ H _ I h=>KS ⟨σ,H,I,h⟩
theorem Je(h1:PS X st t)(h2:PSs X Yc u):PSs X (st::Yc) (Je0 t u):=by
 intro pins s σ H D I h;refine wpAny_execs_cons (thn (h1 pins s σ H { D with nx:=u D } I h) fun f s1 q=>?_)
 cases f with
 | next=>obtain⟨σ',H',I',q⟩:=q;exact h2 pins s1 σ' H' D I' q
 | ret v=>exact q
 | brk=>exact q
 | cont=>exact q
theorem Ji(h1:PS X st t):PSs X [st] t:=by
 intro pins s σ H D I h;refine wpAny_execs_cons (thn (h1 pins s σ H D I h) fun f s1 q=>?_)
 cases f with
 | next=>exact KS q
 | ret v=>exact q
 | brk=>exact q
 | cont=>exact q
theorem Inv.quiet{pins:List (Addr×Obj)}{σ:St}{H:Hp}{s:Shared}(I:Inv X pins σ H s):interactive X.env=false:=by simp[interactive,I.ok.kind]
noncomputable def WO(te:TE):TS:=fun D σ H=>te σ H fun _ H1=>D.nx σ H1
theorem Yu(he:PE X e te)(hs:swapsWith e none pos.line X.env=pure false:=by rfl):PS X (.Expr e pos) (WO te):=by intro pins s σ H D I h;exact wpAny_Expr_any (thn (he pins s σ H _ I h) fun v s1 ⟨x,H1,I1,r1,q1⟩=>⟨σ,H1,I1,q1⟩) I.quiet hs
noncomputable def Jcv(te:TE):TS:=fun D σ H=>te σ H D.rt
theorem JH(he:PE X e te):PS X (.Return (some e) pos) (Jcv te):=by intro pins s σ H D I h;exact wpAny_Return_some (thn (he pins s σ H _ I h) fun v s1 ⟨x,H1,I1,r1,q1⟩=>⟨x,σ,H1,I1,r1,q1⟩)
noncomputable def JeX(c:TT)(t u:TS):TS:=fun D σ H=>c σ H fun b H1=>if b=true then t D σ H1 else u D σ H1
theorem Yk{c:Expr}{a b:List Stmt}{tc:TT}(hc:PT X c tc)(ha:PSs X a t)(hb:PSs X b u):PS X (.If c a b pos) (JeX tc t u):=by
 intro pins s σ H D I h;refine wpAny_If (thn (hc pins s σ H _ I h) fun d s1 ⟨H1,I1,q1⟩=>?_)
 cases d with
 | true=>exact ha pins s1 σ H1 D I1 q1
 | false=>exact hb pins s1 σ H1 D I1 q1
noncomputable def JaX:TS:=fun _ _ _=>False
theorem YN:PS X st JaX:=fun _ _ _ _ _ _ h=>h.elim
end

noncomputable abbrev TG:=V->St->Hp->(St->Hp->Prop)->Prop
noncomputable abbrev TGs:=List V->St->Hp->(St->Hp->Prop)->Prop
noncomputable def PG(X:Cx)(target:Expr)(t:TG):Prop :=
 ∀(pins:List (Addr×Obj)) (s:Shared) (σ:St) (H:Hp) (v:V) (u:Value) (Q:St->Hp->Prop),Inv X pins σ H s->RelV v u->t v σ H Q ->
  wpAny (model X.prog X.w) X.A (assign target X.env u) (fun _ s'=>∃σ' H',Inv X pins σ' H' s'/\Q σ' H') X.xe s
noncomputable def PGs(X:Cx)(ts:List Expr)(t:TGs):Prop :=
 ∀(pins:List (Addr×Obj)) (s:Shared) (σ:St) (H:Hp) (vs:List V) (us:List Value) (Q:St->Hp->Prop),Inv X pins σ H s->Vals vs us->t vs σ H Q ->
  wpAny (model X.prog X.w) X.A (assignInOrder ((assignEach ts X.env).map (·.2)) us) (fun _ s'=>∃σ' H',Inv X pins σ' H' s'/\Q σ' H') X.xe s
noncomputable abbrev Jfk:=V->V->V->Hp->(Hp->Prop)->Prop
noncomputable abbrev TIp:=V->V->Hp->VK->Prop
noncomputable def PIp(X:Cx)(op:Operator)(t:TIp):Prop :=
 ∀(pins:List (Addr×Obj)) (s:Shared) (σ:St) (H:Hp) (x y:V) (v u:Value) (Q:VK),Inv X pins σ H s->RelV x v->RelV y u->t x y H Q ->
  wpAny (model X.prog X.w) X.A (inplaceOp op v u) (EP X pins σ Q) X.xe s
section
variable{X:Cx}{pos:Pos}
noncomputable def UQ(i:Nat):TG:=fun v σ H Q=>Q (σ.set i (some v)) H
theorem Jv{i:Nat}{x:Str}(hN:X.N.Nodup)(hi:X.N[i]?=some x)(hx:Loc X.env.scope x)(hf:X.fn x=true\/X.env.scope.names.lookup x=some .local:=by first|exact .inl rfl|exact .inr rfl|assumption):PG X (.Name x pos) (UQ i):=by intro pins s σ H v u Q I r h;exact wpAny_assign_Name (Uz I hN hi hx r (fun s' I'=>⟨_,H,I',h⟩) hf)
noncomputable def Jdu:TGs:=fun vs σ H Q=>vs=[]/\Q σ H
noncomputable def Jad(t:TG)(u:TGs):TGs:=fun vs σ H Q=>∃v r,vs=v::r/\t v σ H fun σ' H'=>u r σ' H' Q
theorem YL:PGs X [] Jdu:=by intro pins s σ H vs us Q I r h;obtain⟨e,h⟩:=h;subst e;cases r;exact assignInOrder_nil ⟨σ,H,I,h⟩
theorem JO{e:Expr}{es:List Expr}{t:TG}{u:TGs}(h1:PG X e t)(h2:PGs X es u)
 (hs:(assignEach (e::es) X.env).map (·.2)=assign e X.env::(assignEach es X.env).map (·.2):=by rfl):PGs X (e::es) (Jad t u):=by
 intro pins s σ H vs us Q I r h;obtain⟨v,vr,e1,h⟩:=h;subst e1
 cases r with
 | cons r rr=>rw[hs];refine assignInOrder_cons (thn (h1 pins s σ H _ _ _ I r h) fun _ s1 ⟨σ1,H1,I1,q1⟩=>?_);exact h2 pins s1 σ1 H1 _ _ Q I1 rr q1
noncomputable def JbD(K:Frag)(n:Nat)(t:TGs):TG:=fun v σ H Q=>∃a xs,v=.ref a/\SqT K H a xs/\xs.length=n/\t xs σ H Q
theorem Jea{es:List Expr}{k:Nat}{t:TGs}{n:Nat}(hc:X.calm=true)(h:PGs X es t)
 (hn:(assignEach es X.env).length=n:=by rfl) (hst:(assignEach es X.env).findIdx? (·.1)=none:=by rfl):PG X (.Tuple es k pos) (JbD X.K n t):=by
 intro pins s σ H v u Q I r hw;obtain⟨a,xs,e1,hq,hl,hw⟩:=hw;subst e1;cases r;obtain⟨its,rv,ht,hz⟩:=I.tuple hq;refine assign_Tuple_tuple (I.ok.hd hc) ht (by simp[hn,<- hl,rv.length]) hst fun h' hx=>?_
 have I1:Inv X pins σ H { s with heap:=h' }:=I.kept (t':=s.toks) fun b o e=>hx b o (Qo (Qf e)) e
 exact h pins _ σ H xs _ Q I1 (by simpa using rv) hw
noncomputable def JgM(to ti:TE)(t:Jfk):TG:=fun v σ H Q=>to σ H fun o H1=>ti σ H1 fun i H2=>t o i v H2 fun H3=>Q σ H3
noncomputable def Jcu(te:TE)(g:TG):TS:=fun D σ H=>te σ H fun x H1=>g x σ H1 D.nx
theorem JK{i:Nat}{x:Str}{e:Expr}{te:TE}{pos':Pos}(hN:X.N.Nodup)(hi:X.N[i]?=some x)(hx:Loc X.env.scope x)(he:PE X e te)(hs:swapsWith e (some (.Name x pos')) pos.line X.env=pure false:=by rfl)(hf:X.fn x=true\/X.env.scope.names.lookup x=some .local:=by first|exact .inl rfl|exact .inr rfl|assumption) :
 PS X (.Assign [.Name x pos'] e pos) (Jcu te (UQ i)):=by
 intro pins s σ H D I h;refine wpAny_Assign_Name (thn (he pins s σ H _ I h) fun v s1 ⟨y,H1,I1,r1,q1⟩=>?_) hs;exact Uz I1 hN hi hx r1 (fun s2 I2=>⟨_,H1,I2,q1⟩) hf
noncomputable def Jgs(i:Nat)(te:TE)(ti:TIp):TS:=fun D σ H=>∃x,σ[i]?=some (some x)/\te σ H fun y H1=>ti x y H1 fun z H2=>D.nx (σ.set i (some z)) H2
theorem Jed{i:Nat}{x:Str}{e:Expr}{te:TE}{op:Operator}{ti:TIp}{pos':Pos}(hN:X.N.Nodup)(hi:X.N[i]?=some x)(hx:Loc X.env.scope x)(he:PE X e te)(ho:PIp X op ti)(hf:X.fn x=true\/X.env.scope.names.lookup x=some .local:=by first|exact .inl rfl|exact .inr rfl|assumption) :
 PS X (.AugAssign (.Name x pos') op e pos) (Jgs i te ti):=by
 intro pins s σ H D I h;obtain⟨v,e1,h⟩:=h;obtain⟨m,hn,hl⟩:=I.loc;have vis:Vis X.env.scope x:=by rcases hx with k|k;exact .inl k;exact .inr (.inl k)
 obtain⟨u,r,l⟩:=hl i x v hi e1 vis;refine wpAny_AugAssign_Name ?_
 have go:wpAny (model X.prog X.w) X.A (eval e X.env) (fun w s₂=>wpAny (model X.prog X.w) X.A (inplaceOp op u w) (fun r s₃=>wpAny (model X.prog X.w) X.A (storeName X.env x r) (fun _=>SP X pins D .next) X.xe s₃) X.xe s₂) X.xe s:=by
  refine thn (he pins s σ H _ I h) fun w s1 ⟨y,H1,I1,r1,q1⟩=>?_
  refine thn (ho pins s1 σ H1 v y u w _ I1 r r1 q1) fun z s2 ⟨zv,H2,I2,r2,q2⟩=>?_
  exact Uz I2 hN hi hx r2 (fun s3 I3=>⟨_,H2,I3,q2⟩) hf
 rcases l with ⟨hk,hm⟩|⟨hk,c,hc,hcell⟩
 ·exact wpAny_loadName_local I.ok.kind hk hn hm go
 ·rcases hk with hk|hk
  ·exact wpAny_loadName_cell I.ok.kind hk hc hcell go
  ·rcases hx with k|k
   ·have:X.env.scope.names.lookup x=some .free:=hk;rw[k] at this;cases this
   ·have:X.env.scope.names.lookup x=some .free:=hk;rw[k] at this;cases this
end

section
variable{X:Cx}{pos:Pos}
end

structure It where
 go:Nat->Hp->Prop
 yld:Nat->Hp->V->Hp->Prop
 stop:Nat->Hp->Prop
noncomputable def FpOk(X:Cx)(pins:List (Addr×Obj))(H:Hp)(b:Addr):Prop :=
 H b=none/\b≠X.env.locals/\b∉X.fs/\(b∈X.ex\/X.s₀.heap.objs.size<=b)/\(∀x c,X.env.cells.lookup x=some c->c≠b)/\∀p∈X.pn++pins,p.1≠b
theorem Inv.fpOk{X:Cx}{pins:List (Addr×Obj)}{σ:St}{H H':Hp}{s:Shared}{b:Addr}(I:Inv X pins σ H s)(hb:s.heap.objs.size<=b)(hn:H' b=none):FpOk X pins H' b:=by
 refine⟨hn,GC (Qt I.lt hb),I.nofs hb,.inr (QA I.sz hb),fun x c e z=>?_,fun p hp z=>?_⟩
 ·obtain⟨v,q⟩:=I.cell x c e;exact absurd (Qt q.lt (by rw[z];exact hb)) (QY _)
 ·exact absurd (Qt (Qf (I.pin p hp).1) (by rw[z];exact hb)) (QY _)
structure Turn (P:Program) (w:World) (K:Frag) (tg:Expr) (J:It) (fp:List Addr) (it:Addr) (tn:Nat->Heap->Prop):Prop where
 mem:it∈fp
 obj:∀i h,tn i h->∀b∈fp,∃o,h.get? b=some o/\∀v,o.data≠.cell v
 keep:∀i h h',tn i h->(∀b∈fp,∀o,h.get? b=some o->h'.get? b=some o)->tn i h'
 item:∀(X:Cx),X.prog=P->X.w=w->X.K=K->X.calm=true->∀(i:Nat) (pins:List (Addr×Obj)) (s:Shared) (σ:St) (H:Hp) (E:Value->Shared->Prop),Inv X pins σ H s->(∀b∈fp,FpOk X pins H b)->tn i s.heap->J.go i H ->
  wpAny (model P w) X.A (pyNext (.ref it)) (fun r s1=>∃u,r=some u ∧
   wpAny (model P w) X.A (letOwnedTupleGo tg (.ref it) u) (fun _ s2=>∃x H',Inv X pins σ H' s2/\RelV x u/\J.yld i H x H'/\tn (i+1) s2.heap/\∀b∈fp,H' b=none) E s1) E s
 done:∀(X:Cx),X.prog=P->X.w=w->X.K=K->X.calm=true->∀(i:Nat) (pins:List (Addr×Obj)) (s:Shared) (σ:St) (H:Hp) (E:Value->Shared->Prop),Inv X pins σ H s->(∀b∈fp,FpOk X pins H b)->tn i s.heap->J.stop i H ->
  wpAny (model P w) X.A (pyNext (.ref it)) (fun r s1=>r=none/\Inv X pins σ H s1) E s
 self:∀(A:Around) (i:Nat) (s:Shared) (Q:Value->Shared->Prop) (E:Value->Shared->Prop),tn i s.heap->Q (.ref it) s->wpAny (model P w) A (pyIter (.ref it)) Q E s
noncomputable abbrev TI:=St->Hp->(It->Hp->Prop)->Prop
noncomputable def PIE(X:Cx)(pins:List (Addr×Obj))(σ:St)(tg:Expr)(R:It->Hp->Prop)(itv:Value)(s2:Shared):Prop :=
 ∃(it:Addr) (fp:List Addr) (tn:Nat->Heap->Prop) (J:It) (H':Hp),itv=.ref it/\Inv X pins σ H' s2/\Turn X.prog X.w X.K tg J fp it tn/\tn 0 s2.heap/\(∀b∈fp,FpOk X pins H' b)/\R J H'
noncomputable def PI(X:Cx)(tg iter:Expr)(wi:TI):Prop :=
 ∀(pins:List (Addr×Obj)) (s:Shared) (σ:St) (H:Hp) (R:It->Hp->Prop),Inv X pins σ H s->wi σ H R ->
  wpAny (model X.prog X.w) X.A (eval iter X.env) (fun v s1=>wpAny (model X.prog X.w) X.A (pyIter v) (PIE X pins σ tg R) X.xe s1) X.xe s

theorem Jae{M:Model}{A:Around}{E:Value->Shared->Prop}{s:Shared}{tg:Expr}{it:Addr}{u:Value}{o:Obj}{n:String}{vs:Array Value}{Q:Unit->Shared->Prop}(ho:s.heap.get? it=some o)(hc:o.cls=.type n)(hd:o.data=.fields vs)
 (hn:["enumerate","zip","dict_itemiterator","dict_reverseitemiterator","odict_iterator","itertools.zip_longest","itertools.pairwise"].contains n=false) (hQ:Q () s):wpAny M A (letOwnedTupleGo tg (.ref it) u) Q E s:=by
 unfold letOwnedTupleGo;cases tg <;> first
  | exact Qd hQ
  | (cases u <;> first
   | exact Qd hQ
   | (refine Qa (wpAny_load ho ?_)
      rw[hc,hd];show wpAny M A (if (["enumerate","zip","dict_itemiterator","dict_reverseitemiterator","odict_iterator","itertools.zip_longest","itertools.pairwise"].contains n && vs[0]? == some (rawInt _))=true then _ else _) Q E s;rw[if_neg (by intro h;rw[hn,Bool.false_and] at h;cases h)];exact Qd hQ))

noncomputable def Itl(K:Frag)(a:Addr):It :=
 ⟨fun i H=>∃xs x,SqL K H a xs/\xs[i]?=some x,fun i H x H'=>H'=H/\∀xs,SqL K H a xs->xs[i]?=some x,fun i H=>∃xs,SqL K H a xs/\xs.length<=i⟩
noncomputable def Itt(K:Frag)(a:Addr):It :=
 ⟨fun i H=>∃xs x,SqT K H a xs/\xs[i]?=some x,fun i H x H'=>H'=H/\∀xs,SqT K H a xs->xs[i]?=some x,fun i H=>∃xs,SqT K H a xs/\xs.length<=i⟩
noncomputable def Itr(lo:Int)(n:Nat):It:=⟨fun i _=>i<n,fun i H x H'=>H'=H/\x=.int (lo+i),fun i _=>n<=i⟩
theorem Zw{P:Program}{w:World}{K:Frag}{tg:Expr}(a it:Addr):Turn P w K tg (Itl K a) [it] it (fun i h=>h.IsListIter it a i) where
 mem:=by simp
 obj:=fun i h st b hb=>by
  have e:b=it:=by simpa using hb
  subst e;obtain⟨o,e,c,d⟩:=st;exact⟨o,e,fun v z=>by rw[d] at z;cases z⟩
 keep:=fun i h h' st k=>st.at fun o e=>k it (by simp) o e
 item:=by
  intro X hP hw hK hc i pins s σ H E I hf st hg;subst hP hw hK;obtain⟨xs,x,hq,hx⟩:=hg;obtain⟨its,rv,p,hz⟩:=I.list hq;obtain⟨u,hu,ru⟩:=rv.get hx;obtain⟨f0,f1,f2,f3,f4,f5⟩:=hf it (by simp);refine wpAny_pyNext_list_item st p.isList (x:=u) (by simpa using hu) fun h' st' sb=>?_
  have I1:Inv X pins σ H { s with heap:=h' }:=I.turned (t':=s.toks) (fun b o hb e=>(sb.2 b hb).trans e) f0 f1 f3 f4 f5;obtain⟨o,e,c,d⟩:=id st';exact⟨u,rfl,Jae (s:={ s with heap:=h' }) e c d (by decide) ⟨x,H,I1,ru,⟨rfl,fun ys hy=>by rw[I.list_inj hy hq];exact hx⟩,st',fun b hb=>(hf b hb).1⟩⟩
 done:=by intro X hP hw hK hc i pins s σ H E I hf st hg;subst hP hw hK;obtain⟨xs,hq,hx⟩:=hg;obtain⟨its,rv,p,hz⟩:=I.list hq;obtain⟨f0,f1,f2,f3,f4,f5⟩:=hf it (by simp);have hl:=rv.length;exact wpAny_pyNext_list_end (I.ok.hd hc) st p.isList (by simp;omega) fun h' eb=>⟨rfl,I.turned (t':=s.toks) (fun b o hb e=>eb b o hb e) f0 f1 f3 f4 f5⟩
 self:=fun _ _ _ _ _ st h=>wpAny_pyIter_listiter st h
theorem Wi{P:Program}{w:World}{K:Frag}{tg:Expr}(a it:Addr):Turn P w K tg (Itt K a) [it] it (fun i h=>h.IsTupleIter it a i) where
 mem:=by simp
 obj:=fun i h st b hb=>by
  have e:b=it:=by simpa using hb
  subst e;obtain⟨o,e,c,d⟩:=st;exact⟨o,e,fun v z=>by rw[d] at z;cases z⟩
 keep:=fun i h h' st k=>st.at fun o e=>k it (by simp) o e
 item:=by
  intro X hP hw hK hc i pins s σ H E I hf st hg;subst hP hw hK;obtain⟨xs,x,hq,hx⟩:=hg;obtain⟨its,rv,p,hz⟩:=I.tuple hq;obtain⟨u,hu,ru⟩:=rv.get hx;obtain⟨f0,f1,f2,f3,f4,f5⟩:=hf it (by simp);refine wpAny_pyNext_tuple_item st (show s.heap.IsTuple a its.toArray from p) (x:=u) (by simpa using hu) fun h' st' sb=>?_
  have I1:Inv X pins σ H { s with heap:=h' }:=I.turned (t':=s.toks) (fun b o hb e=>(sb.2 b hb).trans e) f0 f1 f3 f4 f5;obtain⟨o,e,c,d⟩:=id st';exact⟨u,rfl,Jae (s:={ s with heap:=h' }) e c d (by decide) ⟨x,H,I1,ru,⟨rfl,fun ys hy=>by rw[I.tuple_inj hy hq];exact hx⟩,st',fun b hb=>(hf b hb).1⟩⟩
 done:=by intro X hP hw hK hc i pins s σ H E I hf st hg;subst hP hw hK;obtain⟨xs,hq,hx⟩:=hg;obtain⟨its,rv,p,hz⟩:=I.tuple hq;obtain⟨f0,f1,f2,f3,f4,f5⟩:=hf it (by simp);have hl:=rv.length;exact wpAny_pyNext_tuple_end (I.ok.hd hc) st (show s.heap.IsTuple a its.toArray from p) (by simp;omega) fun h' eb=>⟨rfl,I.turned (t':=s.toks) (fun b o hb e=>eb b o hb e) f0 f1 f3 f4 f5⟩
 self:=fun _ _ _ _ _ st h=>wpAny_pyIter_tupleiter st h
theorem Wh{P:Program}{w:World}{K:Frag}{tg:Expr}(it:Addr)(lo:Int)(n:Nat):Turn P w K tg (Itr lo n) [it] it (fun i h=>IsRangeIter h it (lo+(i:Nat)*1) ((n:Int)-(i:Nat)) 1) where
 mem:=by simp
 obj:=fun i h st b hb=>by
  have e:b=it:=by simpa using hb
  subst e;exact⟨_,st,fun v z=>by have z':Data.fields _=Data.cell v:=z;cases z'⟩
 keep:=fun i h h' st k=>k it (by simp) _ st
 item:=by
  intro X hP hw hK hc i pins s σ H E I hf st hg;subst hP hw hK;obtain⟨f0,f1,f2,f3,f4,f5⟩:=hf it (by simp);have W:=Walks.range (prog:=X.prog) (w:=X.w) (I.ok.hd hc) it lo 1 n;refine W.item i s _ _ hg st fun v h' tk hv st' kk=>?_
  obtain⟨t,rfl⟩:=hv;have I1:Inv X pins σ H { s with heap:=h',toks:=tk }:=I.turned (fun b o hb e=>kk b o (by simpa using hb) e) f0 f1 f3 f4 f5;refine⟨_,rfl,Jae (s:={ s with heap:=h',toks:=tk }) (n:="range_iterator") st' rfl rfl (by decide) ⟨.int (lo+i),H,I1,⟨t,?_⟩,⟨rfl,rfl⟩,st',fun b hb=>(hf b hb).1⟩⟩;rw[Int.mul_one]
 done:=by intro X hP hw hK hc i pins s σ H E I hf st hg;subst hP hw hK;obtain⟨f0,f1,f2,f3,f4,f5⟩:=hf it (by simp);exact wpAny_pyNext_range_end (I.ok.hd hc) st (by have:n<=i:=hg;omega) fun h' eb=>⟨rfl,I.turned (t':=s.toks) (fun b o hb e=>eb b o hb e) f0 f1 f3 f4 f5⟩
 self:=fun _ _ _ _ _ st h=>wpAny_pyIter_rangeiter st h
end L2

namespace L2
open PySem PySem.Spec PyProof.Rows
section
variable{X:Cx}{tg:Expr}
noncomputable def JcG(K:Frag)(tl:TE):TI:=fun σ H R=>tl σ H fun x H1=>∃a,x=.ref a/\(∃xs,SqL K H1 a xs)/\R (Itl K a) H1
noncomputable def JfB(K:Frag)(tl:TE):TI:=fun σ H R=>tl σ H fun x H1=>∃a,x=.ref a/\(∃xs,SqT K H1 a xs)/\R (Itt K a) H1
theorem JbX{l:Expr}{tl:TE}(hl:PE X l tl):PI X tg l (JcG X.K tl):=by
 intro pins s σ H R I h;refine thn (hl pins s σ H _ I h) fun v s1 ⟨x,H1,I1,r1,q1⟩=>?_
 obtain⟨a,e,⟨xs,hq⟩,q⟩:=q1;subst e;cases r1;obtain⟨its,rv,p,hz⟩:=I1.list hq;refine GS p.isList ?_;refine⟨s1.heap.objs.size,[s1.heap.objs.size],_,_,H1,rfl,I1.kept (t':=s1.toks) fun b o e=>Qc _ e,Zw a _,⟨_,Qg _ rfl,rfl,rfl⟩,fun b hb=>?_,q⟩;have e:b=s1.heap.objs.size:=by simpa using hb
 subst e;exact I1.fpOk (Qm _) (I1.hok.fresh (Qm _))
theorem Jec{l:Expr}{tl:TE}(hl:PE X l tl):PI X tg l (JfB X.K tl):=by
 intro pins s σ H R I h;refine thn (hl pins s σ H _ I h) fun v s1 ⟨x,H1,I1,r1,q1⟩=>?_
 obtain⟨a,e,⟨xs,hq⟩,q⟩:=q1;subst e;cases r1;obtain⟨its,rv,p,hz⟩:=I1.tuple hq;refine Kj (show s1.heap.IsTuple a its.toArray from p) ?_;refine⟨s1.heap.objs.size,[s1.heap.objs.size],_,_,H1,rfl,I1.kept (t':=s1.toks) fun b o e=>Qc _ e,Wi a _,⟨_,Qg _ rfl,rfl,rfl⟩,fun b hb=>?_,q⟩;have e:b=s1.heap.objs.size:=by simpa using hb
 subst e;exact I1.fpOk (Qm _) (I1.hok.fresh (Qm _))
theorem VN{pins:List (Addr×Obj)}{σ:St}{H:Hp}{s:Shared}{R:It->Hp->Prop}{E:Value->Shared->Prop}{lo hi:Int}{t u v:Tok}{tk:Nat}(I:Inv X pins σ H s)(h1:-(2 ^ 62)<=lo)(h2:lo<2 ^ 62)(h3:-(2 ^ 62)<=hi)(h4:hi<2 ^ 62)
 (q:R (Itr lo (hi-lo).toNat) H):wpAny (model X.prog X.w) X.A (pyIter (.ref s.heap.objs.size)) (PIE X pins σ tg R) E { s with heap:=s.heap.push { cls:=.type "range",data:=.fields #[.int lo t,.int hi u,.int 1 v] },toks:=tk }:=by
 refine wpAny_pyIter_range (IsRange.new ..) (small_one h1 h2 h3 h4) ?_;have I1:Inv X pins σ H { s with heap:=s.heap.push { cls:=.type "range",data:=.fields #[.int lo t,.int hi u,.int 1 v] },toks:=tk }:=I.kept fun b o e=>Qc _ e
 refine⟨(s.heap.push { cls:=.type "range",data:=.fields #[.int lo t,.int hi u,.int 1 v] }).objs.size,[(s.heap.push { cls:=.type "range",data:=.fields #[.int lo t,.int hi u,.int 1 v] }).objs.size],_,_,H,rfl,
  I1.kept (t':=tk) fun b o e=>Qc _ e,Wh _ lo (hi-lo).toNat,?_,fun b hb=>?_,q⟩
 ·have e1:lo+((0:Nat):Int)*1=lo:=by simp
  have e2:(((hi-lo).toNat:Nat):Int)-((0:Nat):Int)=Builtin.Range.rangeSize lo hi 1:=by rw[rangeSize_one];split <;> omega
  show IsRangeIter _ _ (lo+((0:Nat):Int)*1) ((((hi-lo).toNat:Nat):Int)-((0:Nat):Int)) 1;rw[e1,e2];exact Qg _ rfl
 ·have e:b=(s.heap.push { cls:=.type "range",data:=.fields #[.int lo t,.int hi u,.int 1 v] }).objs.size:=by simpa using hb
  subst e;exact I1.fpOk (Qm _) (I1.hok.fresh (Qm _))
noncomputable def JcH(ta:TA):TI:=fun σ H R=>ta σ H fun vs H1=>∃j:Int,vs=[.int j]/\-(2 ^ 62)<=j/\j<2 ^ 62/\R (Itr 0 j.toNat) H1
noncomputable def JcI(ta:TA):TI:=fun σ H R=>ta σ H fun vs H1=>∃i j:Int,vs=[.int i,.int j]/\(-(2 ^ 62)<=i/\i<2 ^ 62/\-(2 ^ 62)<=j/\j<2 ^ 62)/\R (Itr i (j-i).toNat) H1
theorem US{a:Expr}{ta:TA}{p pos:Pos}(hg:Gl X "range")(hm:X.mg "range"=none)(ha:PA X [a] ta)(hs:starEach [a] X.env=[(false,eval a X.env)]:=by rfl):PI X tg (.Call (.Name "range" p) [a] [] pos) (JcH ta):=by
 intro pins s σ H R I h;refine Call_ (Y0 I hg hm boot_range (Q6 (thn (ha pos pins s σ H _ I h) fun us s1 ⟨vs,H1,I1,r1,q1⟩=>?_) hs rfl));obtain⟨j,e,q1,q2,q⟩:=q1;subst e
 cases r1 with
 | cons r rr=>cases rr;obtain⟨t,rfl⟩:=r;exact call_range_1 (VN I1 (by omega) (by omega) q1 q2 (by simpa using q))
theorem Zo{a b:Expr}{ta:TA}{p pos:Pos}(hg:Gl X "range")(hm:X.mg "range"=none)(ha:PA X [a,b] ta)(hs:starEach [a,b] X.env=[(false,eval a X.env),(false,eval b X.env)]:=by rfl)(hs2:starEach [b] X.env=[(false,eval b X.env)]:=by rfl) :
 PI X tg (.Call (.Name "range" p) [a,b] [] pos) (JcI ta):=by
 intro pins s σ H R I h;refine Call_ (Y0 I hg hm boot_range (Q6 (thn (ha pos pins s σ H _ I h) fun us s1 ⟨vs,H1,I1,r1,q1⟩=>?_) (by rw[hs,hs2]) (by rw[hs2];rfl)));obtain⟨i,j,e,⟨q1,q2,q3,q4⟩,q⟩:=q1;subst e
 cases r1 with
 | cons r rr =>
  cases rr with
  | cons r' rr=>cases rr;obtain⟨t,rfl⟩:=r;obtain⟨t',rfl⟩:=r';exact call_range_2 (VN I1 q1 q2 q3 q4 q)

noncomputable def Jgt(wi:TI)(g:TG)(tb:TS):TS:=fun D σ H=>wi σ H fun J H1=>∃W:Nat->Nat->St->Hp->Prop,(∃m,W 0 m σ H1)/\∀i m σ H,W i m σ H ->
 (J.stop i H/\D.nx σ H)\/(J.go i H/\∃N:St->Hp->Prop,(∀σ' H',N σ' H'->∃m',m'<m/\W (i+1) m' σ' H')/\∀x H',J.yld i H x H'->g x σ H' fun σ2 H2=>tb { D with nx:=N,ct:=N,bk:=D.nx } σ2 H2)
noncomputable def Uv(fp:List Addr)(h:Heap):List (Addr×Obj):=fp.filterMap fun b=>(h.get? b).map fun o=>(b,o)
theorem YB{fp:List Addr}{h:Heap}{b:Addr}{o:Obj}(hb:b∈fp)(e:h.get? b=some o):(b,o)∈Uv fp h:=List.mem_filterMap.mpr ⟨b,hb,by rw[e];rfl⟩
theorem Zl{fp:List Addr}{h:Heap}{p:Addr×Obj}(hp:p∈Uv fp h):p.1∈fp/\h.get? p.1=some p.2:=by
 obtain⟨b,hb,e⟩:=List.mem_filterMap.mp hp
 cases q:h.get? b with
 | none=>rw[q] at e;cases e
 | some o=>rw[q] at e;have e':(b,o)=p:=Qr e;subst e';exact⟨hb,q⟩
theorem Inv.pinned{pins:List (Addr×Obj)}{σ:St}{H:Hp}{s:Shared}{fp:List Addr}(I:Inv X pins σ H s)(hf:∀b∈fp,FpOk X pins H b)(ho:∀b∈fp,∃o,s.heap.get? b=some o/\∀v,o.data≠.cell v):Inv X (pins++Uv fp s.heap) σ H s :=
 I.pins_of fun p hp=>(GK.mp hp).elim (fun z=>I.pin p (QJ _ z)) fun z=>by obtain⟨hb,e⟩:=Zl z;obtain⟨f0,f1,f2,_⟩:=hf p.1 hb;obtain⟨o,e',d⟩:=ho p.1 hb;rw[e] at e';cases e';exact⟨e,f0,f1,f2,d⟩
theorem Inv.unpinned{pins pl:List (Addr×Obj)}{σ:St}{H:Hp}{s:Shared}(I:Inv X (pins++pl) σ H s):Inv X pins σ H s:=I.pins_of fun p hp=>I.pin p (QJ _ (K1 _ hp))
theorem YD{iter:Expr}{body:List Stmt}{wi:TI}{g:TG}{tb:TS}{pos:Pos}(hp:PassesOwn (model X.prog X.w) X.A X.env X.xe)(hc:X.calm=true)(hi:PI X tg iter wi)(hg:PG X tg g)(hb:PSs X body tb)
 (hs:∀x,foldedSetIterable iter X.env x=pure x:=by intro _;rfl):PS X (.For tg iter body [] pos) (Jgt wi g tb):=by
 intro pins s σ H D I h;refine wpAny_For (thn (hi pins s σ H _ I h) fun v s1 h1=>thn h1 fun itv s2 h2=>?_) hs;obtain⟨it,fp,tn,J,H2,e,I2,T,st2,f2,W,⟨m0,w0⟩,turn⟩:=h2;subst e
 -- what stays true of the iterator's objects through the loop
 have stat:∀{H':Hp},(∀b∈fp,H' b=none)->∀b∈fp,FpOk X pins H' b:=fun hn b hb=>⟨hn b hb,(f2 b hb).2⟩
 refine codeAny_forLoop_any (fun n s'=>∃i σ' H',Inv X pins σ' H' s'/\tn i s'.heap/\(∀b∈fp,H' b=none)/\W i n σ' H') ?_ m0 ⟨0,σ,H2,I2,st2,fun b hb=>(f2 b hb).1,w0⟩;rintro n s3 ⟨i,σ3,H3,I3,st3,fr3,w3⟩;rcases turn i n σ3 H3 w3 with ⟨stop,qn⟩|⟨go,N,hN,step⟩
 ·refine GL hp (thn (T.done X rfl rfl rfl hc i pins s3 σ3 H3 X.xe I3 (stat fr3) st3 stop) fun r s4 ⟨hr,I4⟩=>?_);subst hr;exact KS ⟨σ3,H3,I4,qn⟩
 ·refine GL hp (thn (T.item X rfl rfl rfl hc i pins s3 σ3 H3 X.xe I3 (stat fr3) st3 go) fun r s4 ⟨u,hr,h4⟩=>?_);subst hr;refine GL hp (thn h4 fun _ s5 ⟨x,H5,I5,r5,y5,st5,fr5⟩=>?_);have I5':=I5.pinned (stat fr5) (T.obj _ _ st5);refine GL hp (thn (hg _ s5 σ3 H5 x u _ I5' r5 (step x H5 y5)) fun _ s6 ⟨σ6,H6,I6,q6⟩=>?_);refine GL hp (thn (hb _ s6 σ6 H6 _ I6 q6) fun f s7 q7=>?_)
  have again:∀{σ7:St} {H7:Hp},Inv X (pins++Uv fp s5.heap) σ7 H7 s7->N σ7 H7->∃m,m<n/\∃i σ' H',Inv X pins σ' H' s7/\tn i s7.heap/\(∀b∈fp,H' b=none)/\W i m σ' H':=fun {σ7 H7} I7 n7=>by obtain⟨m',hm,w7⟩:=hN σ7 H7 n7;refine⟨m',hm,i+1,σ7,H7,I7.unpinned,T.keep _ _ _ st5 fun b hb o e=>(I7.pin (b,o) (QJ _ (QJ _ (YB hb e)))).1,fun b hb=>?_,w7⟩;obtain⟨o,e,d⟩:=T.obj _ _ st5 b hb;exact(I7.pin (b,o) (QJ _ (QJ _ (YB hb e)))).2.1
  cases f with
  | next=>obtain⟨σ7,H7,I7,n7⟩:=q7;exact again I7 n7
  | cont=>obtain⟨σ7,H7,I7,n7⟩:=q7;exact again I7 n7
  | brk=>obtain⟨σ7,H7,I7,q7⟩:=q7;exact⟨σ7,H7,I7.unpinned,q7⟩
  | ret v=>obtain⟨x7,σ7,H7,I7,r7,q7⟩:=q7;exact⟨x7,σ7,H7,I7.unpinned,r7,q7⟩
end

end L2

namespace L2
open PySem PySem.Spec PyProof.Rows

noncomputable abbrev R2:=V->V->Hp->VK->Prop
noncomputable def OpR(X:Cx)(f:Value->Value->Sem Value)(r:R2):Prop :=
 ∀(pins:List (Addr×Obj)) (s:Shared) (σ:St) (H:Hp) (x y:V) (v u:Value) (Q:VK),Inv X pins σ H s->RelV x v->RelV y u->r x y H Q ->
  wpAny (model X.prog X.w) X.A (f v u) (EP X pins σ Q) X.xe s
noncomputable def CallR(X:Cx)(f:Value)(r:List V->Hp->VK->Prop):Prop :=
 ∀(pins:List (Addr×Obj)) (s:Shared) (σ:St) (H:Hp) (xs:List V) (us:List Value) (Q:VK),Inv X pins σ H s->Vals xs us->r xs H Q ->
  wpAny (model X.prog X.w) X.A (call f us) (EP X pins σ Q) X.xe s
noncomputable def JgC(X:Cx)(r:V->Hp->(Bool->Hp->Prop)->Prop):Prop :=
 ∀(pins:List (Addr×Obj)) (s:Shared) (σ:St) (H:Hp) (x:V) (v:Value) (Q:Bool->Hp->Prop),Inv X pins σ H s->RelV x v->r x H Q ->
  wpAny (model X.prog X.w) X.A (truthy v) (TP X pins σ Q) X.xe s

noncomputable def tOp(r:R2)(ta tb:TE):TE:=fun σ H Q=>ta σ H fun x H1=>tb σ H1 fun y H2=>r x y H2 Q
noncomputable def tUn(r:V->Hp->VK->Prop)(ta:TE):TE:=fun σ H Q=>ta σ H fun x H1=>r x H1 Q
noncomputable def rI(C:Int->Int->Prop)(g:Int->Int->V):R2:=fun x y H Q=>∃i j,x=.int i/\y=.int j/\C i j/\Q (g i j) H
noncomputable def rI0(g:Int->Int->V):R2:=fun x y H Q=>∃i j,x=.int i/\y=.int j/\Q (g i j) H
noncomputable def rU(g:Int->V):V->Hp->VK->Prop:=fun x H Q=>∃i,x=.int i/\Q (g i) H

section
variable{X:Cx}{a b c:Expr}{ta tb tc:TE}{pos:Pos}

theorem Jc2(ha:PE X a ta)(hb:PE X b tb){pins:List (Addr×Obj)}{s:Shared}{σ:St}{H:Hp}{R:V->V->Hp->Prop}(I:Inv X pins σ H s)
 (h:ta σ H fun x H1=>tb σ H1 fun y H2=>R x y H2) {Q:Value->Shared->Prop} {f:Value->Value->Sem Value}
 (hf:∀v u s2 x y H2,Inv X pins σ H2 s2->RelV x v->RelV y u->R x y H2->wpAny (model X.prog X.w) X.A (f v u) Q X.xe s2) :
 wpAny (model X.prog X.w) X.A (eval a X.env) (fun v s₁=>wpAny (model X.prog X.w) X.A (eval b X.env) (fun u s₂=>wpAny (model X.prog X.w) X.A (f v u) Q X.xe s₂) X.xe s₁) X.xe s:=by
 refine thn (ha pins s σ H _ I h) fun v s1 ⟨x,H1,I1,r1,q1⟩=>?_
 refine thn (hb pins s1 σ H1 _ I1 q1) fun u s2 ⟨y,H2,I2,r2,q2⟩=>?_
 exact hf v u s2 x y H2 I2 r1 r2 q2

theorem Jm{op:Operator}{r:R2}(ho:OpR X (binaryOp op) r)(ha:PE X a ta)(hb:PE X b tb):PE X (.BinOp a op b pos) (tOp r ta tb):=by intro pins s σ H Q I h;exact wpAny_BinOp (Jc2 ha hb I h fun v u s2 x y H2 I2 rx ry q=>ho pins s2 σ H2 x y v u Q I2 rx ry q)
theorem opI{f:Value->Value->Sem Value}{C:Int->Int->Prop}{g:Int->Int->Int}
 (rule:∀(i j:Int) (t u:Tok) (s:Shared) (Q:Value->Shared->Prop) (E:Value->Shared->Prop),C i j->Q (.int (g i j) s.toks) { s with toks:=s.toks+1 }->wpAny (model X.prog X.w) X.A (f (.int i t) (.int j u)) Q E s) :
 OpR X f (rI C fun i j=>.int (g i j)):=by
 intro pins s σ H x y v u Q I rx ry h;obtain⟨i,j,rfl,rfl,hc,q⟩:=h;obtain⟨t,rfl⟩:=rx;obtain⟨t',rfl⟩:=ry;exact rule i j t t' s _ _ hc ⟨.int (g i j),H,I.tok _,⟨_,rfl⟩,q⟩
theorem JfP{f:Value->Value->Sem Value}{g:Int->Int->Int}
 (rule:∀(i j:Int) (t u:Tok) (s:Shared) (Q:Value->Shared->Prop) (E:Value->Shared->Prop),Q (.int (g i j) s.toks) { s with toks:=s.toks+1 }->wpAny (model X.prog X.w) X.A (f (.int i t) (.int j u)) Q E s) :
 OpR X f (rI0 fun i j=>.int (g i j)):=by
 intro pins s σ H x y v u Q I rx ry h;obtain⟨i,j,rfl,rfl,q⟩:=h;obtain⟨t,rfl⟩:=rx;obtain⟨t',rfl⟩:=ry;exact rule i j t t' s _ _ ⟨.int (g i j),H,I.tok _,⟨_,rfl⟩,q⟩
theorem JdY{f:Value->Value->Sem Value}{g:Int->Int->Bool}
 (rule:∀(i j:Int) (t u:Tok) (s:Shared) (Q:Value->Shared->Prop) (E:Value->Shared->Prop),Q (.bool (g i j)) s->wpAny (model X.prog X.w) X.A (f (.int i t) (.int j u)) Q E s) :
 OpR X f (rI0 fun i j=>.bl (g i j)):=by
 intro pins s σ H x y v u Q I rx ry h;obtain⟨i,j,rfl,rfl,q⟩:=h;obtain⟨t,rfl⟩:=rx;obtain⟨t',rfl⟩:=ry;exact rule i j t t' s _ _ ⟨.bl (g i j),H,I,rfl,q⟩

noncomputable def Jfd(i j:Int):Prop:=0<j/\j<1073741824
noncomputable def Jff(i j:Int):Prop:=0<=j/\j<=1000000/\i.natAbs<2 ^ 64
noncomputable def CMul(i j:Int):Prop:=(-(2 ^ 64)<i/\i<2 ^ 64)\/(-(2 ^ 64)<j/\j<2 ^ 64)
theorem CMul.ok{i j:Int}(h:CMul i j):IntMulOk i j:=by
 rcases h with ⟨h1,h2⟩|⟨h1,h2⟩
 ·exact .of_left (intBits_le_64 h1 h2)
 ·exact .of_right (intBits_le_64 h1 h2)
theorem op_add:OpR X (binaryOp .Add) (rI0 fun i j=>.int (i+j)):=JfP fun _ _ _ _ _ _ _ q=>add_int q
theorem Yb:OpR X (binaryOp .Sub) (rI0 fun i j=>.int (i-j)):=JfP fun _ _ _ _ _ _ _ q=>sub_int q
theorem Ya:OpR X (binaryOp .Mult) (rI CMul fun i j=>.int (i*j)):=opI fun _ _ _ _ _ _ _ hc q=>mul_int q hc.ok
theorem Va:OpR X (binaryOp .FloorDiv) (rI Jfd fun i j=>.int (i / j)):=opI fun i j _ _ _ _ _ hc q=>by
 have h1:(0:Int)<j:=hc.1
 have h2:j<1073741824:=hc.2;exact floordiv_int (by omega) (by rw[Int.fdiv_eq_ediv_of_nonneg i (by omega)];exact q) (.inl (PyProof.noPylong_small (by omega)))
theorem Y2:OpR X (binaryOp .Mod) (rI (fun _ j=>0<j) fun i j=>.int (i % j)):=opI fun i j _ _ _ _ _ hc q=>by have h1:(0:Int)<j:=hc;exact mod_int' (by omega) (by rw[Int.fmod_eq_emod_of_nonneg i (by omega)];exact q)
theorem Jas:OpR X (binaryOp .Pow) (rI Jff fun i j=>.int (i ^ j.toNat)):=opI fun _ _ _ _ _ _ _ hc q=>pow_int_small hc.1 hc.2.1 hc.2.2 q
end

noncomputable def JeS:V->V->Bool
 | .non,.non=>true|.non,.int _=>true|.int _,.non=>true|.non,.bl _=>true|.bl _,.non=>true|.non,.str _=>true|.str _,.non=>true
 | .int _,.int _=>true|.bl _,.bl _=>true|.str _,.str _=>true|.byt _,.byt _=>true
 | .int _,.str _=>true|.str _,.int _=>true|.bl _,.str _=>true|.str _,.bl _=>true
 | _,_=>false
noncomputable def rEq:R2:=fun x y H Q=>JeS x y=true/\Q (.bl (decide (x=y))) H
noncomputable def rNe:R2:=fun x y H Q=>JeS x y=true/\Q (.bl (!decide (x=y))) H

theorem Wp{i j:Int}:decide (V.int i=V.int j)=(i == j):=by rw[GM];simp
theorem ZV{i j:Bool}:decide (V.bl i=V.bl j)=(i == j):=by rw[GM];simp
theorem Wq{i j:Str}:decide (V.str i=V.str j)=(i == j):=by rw[GM];simp
theorem Wo{i j:Array UInt8}:decide (V.byt i=V.byt j)=(i.toList == j.toList):=by rw[GM];cases i;cases j;simp

section
variable{X:Cx}{a b c:Expr}{ta tb tc:TE}{pos:Pos}
theorem Jk{pins:List (Addr×Obj)}{σ:St}{H:Hp}{s:Shared}{Q:VK}{k k':Bool}(I:Inv X pins σ H s)(q:Q (.bl k) H)(e:k=k'):EP X pins σ Q (.bool k') s:=by subst e;exact⟨.bl k,H,I,rfl,q⟩
theorem op_eq:OpR X (compareOp .Eq) rEq:=by
 intro pins s σ H x y v u Q I rx ry h;obtain⟨hs,q⟩:=h
 cases x with
 | non =>
  cases rx
  cases y with
  | non=>cases ry;exact PySem.EqNone.eq_none_none (Jk I q (by simp))
  | bl j=>cases ry;exact PySem.EqNone.eq_none_bool (Jk I q (by simp))
  | int j=>obtain⟨t',rfl⟩:=ry;exact PySem.EqNone.eq_none_int (Jk I q (by simp))
  | str j=>obtain⟨t',rfl⟩:=ry;exact PySem.EqNone.eq_none_str (Jk I q (by simp))
  | _=>exact absurd (show false=true from hs) Qp
 | bl i =>
  cases rx
  cases y with
  | non=>cases ry;exact PySem.EqNone.eq_bool_none (Jk I q (by simp))
  | bl j=>cases ry;exact eq_bool (Jk I q ZV)
  | str j=>obtain⟨t',rfl⟩:=ry;exact PySem.EqMixed.eq_bool_str (Jk I q (by simp))
  | _=>exact absurd (show false=true from hs) Qp
 | int i =>
  obtain⟨t,rfl⟩:=rx
  cases y with
  | non=>cases ry;exact PySem.EqNone.eq_int_none (Jk I q (by simp))
  | int j=>obtain⟨t',rfl⟩:=ry;exact eq_int (Jk I q Wp)
  | str j=>obtain⟨t',rfl⟩:=ry;exact PySem.EqMixed.eq_int_str (Jk I q (by simp))
  | _=>exact absurd (show false=true from hs) Qp
 | str i =>
  obtain⟨t,rfl⟩:=rx
  cases y with
  | non=>cases ry;exact PySem.EqNone.eq_str_none (Jk I q (by simp))
  | bl j=>cases ry;exact PySem.EqMixed.eq_str_bool (Jk I q (by simp))
  | int j=>obtain⟨t',rfl⟩:=ry;exact PySem.EqMixed.eq_str_int (Jk I q (by simp))
  | str j=>obtain⟨t',rfl⟩:=ry;exact eq_str (Jk I q Wq)
  | _=>exact absurd (show false=true from hs) Qp
 | byt i =>
  obtain⟨t,rfl⟩:=rx
  cases y with
  | byt j=>obtain⟨t',rfl⟩:=ry;exact PySem.W.eq_bytes (Jk I q Wo)
  | _=>exact absurd (show false=true from hs) Qp
 | _=>cases y <;> exact absurd (show false=true from hs) Qp
theorem op_ne:OpR X (compareOp .NotEq) rNe:=by
 intro pins s σ H x y v u Q I rx ry h;obtain⟨hs,q⟩:=h
 cases x with
 | non =>
  cases rx
  cases y with
  | non=>cases ry;exact PySem.EqNone.ne_none_none (Jk I q (by simp))
  | bl j=>cases ry;exact PySem.EqNone.ne_none_bool (Jk I q (by simp))
  | int j=>obtain⟨t',rfl⟩:=ry;exact PySem.EqNone.ne_none_int (Jk I q (by simp))
  | str j=>obtain⟨t',rfl⟩:=ry;exact PySem.EqNone.ne_none_str (Jk I q (by simp))
  | _=>exact absurd (show false=true from hs) Qp
 | bl i =>
  cases rx
  cases y with
  | non=>cases ry;exact PySem.EqNone.ne_bool_none (Jk I q (by simp))
  | bl j=>cases ry;exact ne_bool (Jk I q (congrArg not ZV))
  | str j=>obtain⟨t',rfl⟩:=ry;exact PySem.EqMixed.ne_bool_str (Jk I q (by simp))
  | _=>exact absurd (show false=true from hs) Qp
 | int i =>
  obtain⟨t,rfl⟩:=rx
  cases y with
  | non=>cases ry;exact PySem.EqNone.ne_int_none (Jk I q (by simp))
  | int j=>obtain⟨t',rfl⟩:=ry;exact ne_int (Jk I q (congrArg not Wp))
  | str j=>obtain⟨t',rfl⟩:=ry;exact PySem.EqMixed.ne_int_str (Jk I q (by simp))
  | _=>exact absurd (show false=true from hs) Qp
 | str i =>
  obtain⟨t,rfl⟩:=rx
  cases y with
  | non=>cases ry;exact PySem.EqNone.ne_str_none (Jk I q (by simp))
  | bl j=>cases ry;exact PySem.EqMixed.ne_str_bool (Jk I q (by simp))
  | int j=>obtain⟨t',rfl⟩:=ry;exact PySem.EqMixed.ne_str_int (Jk I q (by simp))
  | str j=>obtain⟨t',rfl⟩:=ry;exact ne_str (Jk I q (congrArg not Wq))
  | _=>exact absurd (show false=true from hs) Qp
 | byt i =>
  obtain⟨t,rfl⟩:=rx
  cases y with
  | byt j=>obtain⟨t',rfl⟩:=ry;exact PySem.W.ne_bytes (Jk I q (congrArg not Wo))
  | _=>exact absurd (show false=true from hs) Qp
 | _=>cases y <;> exact absurd (show false=true from hs) Qp

theorem VG:OpR X (compareOp .Lt) (rI0 fun i j=>.bl (decide (i<j))):=JdY fun _ _ _ _ _ _ _ q=>lt_int q
theorem JfQ:OpR X (compareOp .LtE) (rI0 fun i j=>.bl (decide (i<=j))):=JdY fun _ _ _ _ _ _ _ q=>le_int q
theorem VF:OpR X (compareOp .Gt) (rI0 fun i j=>.bl (decide (j<i))):=JdY fun _ _ _ _ _ _ _ q=>gt_int q
theorem Jd2:OpR X (compareOp .Is) (fun x y H Q=>y=.non/\Q (.bl (decide (x=.non))) H):=by
 intro pins s σ H x y v u Q I rx ry h;obtain⟨rfl,q⟩:=h;cases ry;refine is_none_gen (Jk I q ?_);cases x <;> first
  | (cases rx;rfl)
  | (obtain⟨t,rfl⟩:=rx;rfl)
theorem JbU:OpR X (compareOp .IsNot) (fun x y H Q=>y=.non/\Q (.bl (!decide (x=.non))) H):=by
 intro pins s σ H x y v u Q I rx ry h;obtain⟨rfl,q⟩:=h;cases ry;refine isnot_none_gen (Jk I q ?_);cases x <;> first
  | (cases rx;rfl)
  | (obtain⟨t,rfl⟩:=rx;rfl)

theorem OpR.or{f:Value->Value->Sem Value}{r r':R2}(h:OpR X f r)(h':OpR X f r'):OpR X f (fun x y H Q=>r x y H Q\/r' x y H Q):=by
 intro pins s σ H x y v u Q I rx ry q;rcases q with q|q
 ·exact h pins s σ H x y v u Q I rx ry q
 ·exact h' pins s σ H x y v u Q I rx ry q

theorem JB(b:Expr){op:CmpOp}(h:op≠.In:=by decide)(h2:op≠.NotIn:=by decide):behindInMarks op b=false:=by
 have e1:(op == CmpOp.In)=false:=by cases op <;> first|rfl|exact absurd rfl h
 have e2:(op == CmpOp.NotIn)=false:=by cases op <;> first|rfl|exact absurd rfl h2
 cases b <;> simp[behindInMarks,e1,e2]
theorem Vc{op:CmpOp}{r:R2}(ho:OpR X (compareOp op) r)(ha:PE X a ta)(hb:PE X b tb)(hm:behindInMarks op b=false):PE X (.Compare a [op] [b] pos) (tOp r ta tb):=by intro pins s σ H Q I h;exact wpAny_Compare1 (Jc2 ha hb I h fun v u s2 x y H2 I2 rx ry q=>ho pins s2 σ H2 x y v u Q I2 rx ry q) hm
noncomputable def Ja1(t:TE):TT:=fun σ H Q=>t σ H fun x H'=>∃k,x=.bl k/\Q k H'
theorem Jw{op:CmpOp}{r:R2}(ho:OpR X (compareOp op) r)(ha:PE X a ta)(hb:PE X b tb)(hm:behindInMarks op b=false):PT X (.Compare a [op] [b] pos) (Ja1 (tOp r ta tb)):=by
 intro pins s σ H Q I h;refine wpAny_isTrue_Compare1 (thn (ha pins s σ H _ I h) fun v s1 ⟨x,H1,I1,r1,q1⟩=>thn (hb pins s1 σ H1 _ I1 q1) fun u s2 ⟨y,H2,I2,r2,q2⟩=>thn (ho pins s2 σ H2 x y v u _ I2 r1 r2 q2) fun c s3 ⟨z,H3,I3,r3,k,e,q3⟩=>?_) hm
 subst e;cases r3;exact GR ⟨H3,I3,q3⟩
noncomputable def JeW(r r':R2)(ta tb tc:TE):TE:=fun σ H Q=>ta σ H fun x H1=>tb σ H1 fun y H2=>r x y H2 fun z H3=>∃k,z=.bl k ∧
 (if k=true then tc σ H3 fun w' H4=>r' y w' H4 Q else Q (.bl false) H3)
noncomputable def WT(K:Frag)(x:V)(H:Hp)(k:Bool):Prop :=
 match x with
 | .non=>k=false
 | .bl b=>k=b
 | .int i=>k=(i != 0)
 | .str y=>y.length<=sizeLine/\k=((y.length:Int) != 0)
 | .byt y=>y.size<=sizeLine/\k=((y.size:Int) != 0)
 | .ref p=>(∃xs,SqL K H p xs/\k=!xs.isEmpty)\/(∃xs,SqT K H p xs/\k=!xs.isEmpty)\/∃kvs,H p=some (.dK kvs)/\k=!kvs.isEmpty
 | _=>False
theorem V8{κ:Type}{kvs:List (κ×V)}{vs:List (κ×Value)}(r:KV kvs vs):(!vs.isEmpty)=!kvs.isEmpty:=by cases r <;> rfl
theorem Ul{xs:List V}{its:List Value}(r:Vals xs its):(!its.toArray.isEmpty)=!xs.isEmpty:=by cases r <;> simp
theorem Up:(sizeLine:Nat)<2 ^ 63:=by rw[sizeLine_eq];decide
theorem Je5:JgC X (fun x H Q=>∃k,WT X.K x H k/\Q k H):=by
 intro pins s σ H x v Q I rx h;obtain⟨k,e,q⟩:=h;have hl:=Up;have hs:sizeLine=16777216:=sizeLine_eq
 cases x with
 | non=>cases rx;have e':k=false:=e;subst e';exact truthy_none ⟨H,I,q⟩
 | bl b=>cases rx;have e':k=b:=e;subst e';exact GR ⟨H,I,q⟩
 | int i=>obtain⟨t,rfl⟩:=rx;have e':k=(i != 0):=e;subst e';exact PySem.P.truthy_int ⟨H,I,q⟩
 | str y=>obtain⟨t,rfl⟩:=rx;obtain⟨hy,e'⟩:y.length<=sizeLine/\k=((y.length:Int) != 0):=e;subst e';exact PySem.P.truthy_str (by omega) ⟨H,I.tok _,q⟩
 | byt y=>obtain⟨t,rfl⟩:=rx;obtain⟨hy,e'⟩:y.size<=sizeLine/\k=((y.size:Int) != 0):=e;subst e';exact PySem.W.truthy_bytes (by omega) ⟨H,I.tok _,q⟩
 | ref p =>
  cases rx;have e':(∃xs,SqL X.K H p xs/\k=!xs.isEmpty)\/(∃xs,SqT X.K H p xs/\k=!xs.isEmpty)\/∃kvs,H p=some (.dK kvs)/\k=!kvs.isEmpty:=e
  rcases e' with ⟨xs,hx,e'⟩|⟨xs,hx,e'⟩|⟨kvs,hx,e'⟩
  ·subst e';obtain⟨its,r,pl,hz⟩:=I.list hx;have hlen:=r.length;exact wpAny_truthy_list pl.isList (by simp only[Qk];omega) ⟨H,I.tok _,by rw[Ul r];exact q⟩
  ·subst e';obtain⟨its,r,pl,hz⟩:=I.tuple hx;have hlen:=r.length;exact truthy_tuple pl (by simp only[Qk];omega) ⟨H,I.tok _,by rw[Ul r];exact q⟩
  ·subst e';obtain⟨hz,hS,vs,r,m⟩:kvs.length<=sizeLine/\(p == sysModules)=false/\∃vs,KV kvs vs/\s.heap.DictOf (U6 X.prog X.w) p vs:=I.hok p _ hx
   have hlen:kvs.length=vs.length:=La r;exact wpAny_truthy_dict hS m (by omega) ⟨H,I.tok _,by rw[V8 r];exact q⟩
 | _=>exact(show False from e).elim
theorem Jaz(ha:PE X a ta)(he:∀whole,isTrue a X.env whole=(do let v <- whole;standAt a.pos;holding [v] (truthy v))) :
 PT X a (fun σ H Q=>ta σ H fun x H'=>∃k,WT X.K x H' k/\Q k H'):=by
 intro pins s σ H Q I h;exact isTrue_plain (thn (ha pins s σ H _ I h) fun v s1 ⟨x,H1,I1,r1,q1⟩=>Je5 pins s1 σ H1 x v Q I1 r1 q1) (he _)

theorem op_add_str:OpR X (binaryOp .Add) (fun x y H Q=>∃i j,x=.str i/\y=.str j/\i.length+j.length<=sizeLine/\Q (.str (i++j)) H):=by intro pins s σ H x y v u Q I rx ry h;obtain⟨i,j,rfl,rfl,hz,q⟩:=h;obtain⟨t,rfl⟩:=rx;obtain⟨t',rfl⟩:=ry;exact add_str (fun t' tk=>⟨.str (i++j),H,I.tok _,⟨_,rfl⟩,q⟩) hz
theorem WQ{x:V}{us:List Value}(r:Vals [x] us):∃u,us=[u]/\RelV x u:=by
 cases r with
 | cons r1 r2=>cases r2;exact⟨_,rfl,r1⟩
theorem JcU{x y:V}{us:List Value}(r:Vals [x,y] us):∃u w',us=[u,w']/\RelV x u/\RelV y w':=by
 cases r with
 | cons r1 r2 =>
  cases r2 with
  | cons r3 r4=>cases r4;exact⟨_,_,rfl,r1,r3⟩
theorem WX(hc:X.calm=true):CallR X (.builtin "min") (fun xs H Q=>∃i j,xs=[.int i,.int j]/\Q (.int (if j<i then j else i)) H):=by
 intro pins s σ H xs us Q I r h;obtain⟨i,j,rfl,q⟩:=h;obtain⟨u,w',rfl,⟨t,rfl⟩,⟨t',rfl⟩⟩:=JcU r;refine min_two_ints (I.ok.hd hc) fun h' tk k=>⟨_,H,I.kept k,?_,q⟩
 by_cases hj:j<i
 ·rw[if_pos hj,if_pos hj];exact⟨_,rfl⟩
 ·rw[if_neg hj,if_neg hj];exact⟨_,rfl⟩
noncomputable def Jfh(K:Frag)(x:V)(H:Hp)(n:Nat):Prop :=
 match x with
 | .str y=>y.length<=sizeLine/\n=y.length
 | .byt y=>y.size<=sizeLine/\n=y.size
 | .ref p=>(∃xs,SqL K H p xs/\n=xs.length)\/∃xs,SqT K H p xs/\n=xs.length
 | _=>False
theorem ZP:CallR X (.builtin "len") (fun xs H Q=>∃x n,xs=[x]/\Jfh X.K x H n/\Q (.int n) H):=by
 intro pins s σ H xs us Q I r h;obtain⟨x,n,rfl,e,q⟩:=h;obtain⟨u,rfl,rx⟩:=WQ r;have hl:=Up;have hs:sizeLine=16777216:=sizeLine_eq
 cases x with
 | str y=>obtain⟨t,rfl⟩:=rx;obtain⟨hy,e'⟩:y.length<=sizeLine/\n=y.length:=e;subst e';exact len_str (by omega) ⟨.int _,H,I.tok _,⟨_,rfl⟩,q⟩
 | byt y=>obtain⟨t,rfl⟩:=rx;obtain⟨hy,e'⟩:y.size<=sizeLine/\n=y.size:=e;subst e';exact PySem.W.len_bytes (by omega) ⟨.int _,H,I.tok _,⟨_,rfl⟩,q⟩
 | ref p =>
  cases rx;have e':(∃xs,SqL X.K H p xs/\n=xs.length)\/∃xs,SqT X.K H p xs/\n=xs.length:=e
  rcases e' with ⟨xs,hx,e'⟩|⟨xs,hx,e'⟩
  ·subst e';obtain⟨its,r',pl,hz⟩:=I.list hx;have hlen:=r'.length;exact Calls.call_len_list pl.isList (by simp only[Qk];omega) ⟨.int xs.length,H,I.tok _,⟨_,by simp only[Qk];rw[hlen]⟩,q⟩
  ·subst e';obtain⟨its,r',pl,hz⟩:=I.tuple hx;have hlen:=r'.length;exact len_tuple pl (by simp only[Qk];omega) ⟨.int xs.length,H,I.tok _,⟨_,by simp only[Qk];rw[hlen]⟩,q⟩
 | _=>exact(show False from e).elim
end
end L2

namespace L2
open PySem PySem.Spec PyProof.Rows

structure ObjM (h:Heap) (x dx C:Addr) (mA:Str->Option Value):Prop where
 obj:h.get? x=some (instObj C dx)
 ns:h.Ns1 dx mA
 ne:dx≠x

theorem Zi{h:Heap}{dx:Addr}{mA:Str->Option Value}(n:h.Ns1 dx mA):∃od,h.get? dx=some od/\∀name,lookIn name od=some (mA name):=by
 obtain⟨o,es,ep,ho,hd,hk,_,hm⟩:=n;refine⟨o,ho,fun name=>?_⟩;have e:=hm name;unfold nsFind findBy at e;rw[<- Array.find?_toList] at e;unfold lookIn;rw[hd];dsimp only;split
 ·rename_i y q;rw[q] at e;exact congrArg some e
 ·rename_i q;rw[q] at e
  have a:es.toList.any (·.refKey)=false:=by rw[List.any_eq_false];intro y hy;obtain⟨z,t,hkey⟩:=hk y (Array.mem_toList_iff.mp hy);simp[DictEntry.refKey,hkey]
  have a':¬es.toList.any (·.refKey)=true:=by rw[a];exact Qp
  rw[if_neg a'];exact congrArg some e

theorem ObjM.look{h:Heap}{x dx C:Addr}{mA:Str->Option Value}(I:ObjM h x dx C mA):∃od,PySem.W.InstAt h x (instObj C dx) C (some od)/\∀name,lookIn name od=some (mA name) :=
 let ⟨od,ho,hl⟩:=Zi I.ns
 ⟨od,⟨I.obj,rfl,rfl,ho⟩,hl⟩

section
variable{prog:Program}{w:World}{A:Around}{E:Value->Shared->Prop}{s:Shared}{K:Frag}{x dx C f:Addr}{mA:Str->Option Value}{name:Str}{v:Value}

end

noncomputable def Jeg(f:Str)(v:V):List (Str×V)->List (Str×V)
 | []=>[(f,v)]
 | (g,x)::r=>if g=f then(g,v)::r else(g,x)::Jeg f v r
section
variable{P:Program}{w:World}{H H':Hp}{h h':Heap}{a C dx:Addr}{fs fs':List (Str×V)}
theorem JbF(hok:HOk P w H h)(e:H a=some (.ins C dx fs)):∃mA,ObjM h a dx C mA/\(∀f,RelO (fs.lookup f) (mA f))/\PySem.Within mA (fs.map (·.1))/\fs.length<=1000/\H dx=some (.own a):=by
 obtain⟨d,z,ne,ob,mA,n,r,q⟩:=(show ObjOk P w H h a (.ins C dx fs) from hok a _ e)
 exact⟨mA,⟨ob,n,ne⟩,r,q,z,d⟩
end

structure Cls (K:Frag) (C:Addr):Prop where
 pg:PySem.W.plainGet K C Str.empty=true
 hd:hasDictIn K C=true
 po:PySem.W.plainOver K C=true
 sa:findIn K (.ref C) "__setattr__"=some (some (.builtin "object.__setattr__"))
theorem Cls.get{K:Frag}{C:Addr}(c:Cls K C)(f:Str):PySem.W.plainGet K C f=true:=c.pg
noncomputable def Ug(K:Frag)(C:Addr)(f:Str):Prop:=findIn K (.ref C) f=some none
structure Con (K:Frag) (C:Addr) (f:Str) (v:V) (u:Value):Prop where
 at_:findIn K (.ref C) f=some (some u)
 rel:RelV v u
 get:specialIn K u "__get__"=some none
 cp:PySem.W.copiedNames.contains f=false
structure Meth (K:Frag) (C:Addr) (m:Str) (f:Addr):Prop where
 at_:findIn K (.ref C) m=some (some (.ref f))
 fn:PySem.W.isFn K (.ref f)=true
 kp:keepIn K (.ref f)=true

section
variable{X:Cx}{pins:List (Addr×Obj)}{σ:St}{H:Hp}{s:Shared}{a C dx:Addr}{fs:List (Str×V)}{f:Str}{v:V}{A:Around}{E:Value->Shared->Prop}

theorem Inv.made(I:Inv X pins σ H s):Inv X pins σ (upd (upd H s.heap.objs.size (.own (s.heap.objs.size+1))) (s.heap.objs.size+1) (.ins C s.heap.objs.size []))
 { s with heap:=(s.heap.push emptyDict).push (instObj C s.heap.objs.size) }:=by
 have e1:(s.heap.push emptyDict).get? s.heap.objs.size=some emptyDict:=Qg s.heap rfl
 have e2:((s.heap.push emptyDict).push (instObj C s.heap.objs.size)).get? (s.heap.objs.size+1)=some (instObj C s.heap.objs.size):=by
  have:=Qg (s.heap.push emptyDict) (o:=instObj C s.heap.objs.size) rfl
  rwa [QC] at this
 have e3:(s.heap.push emptyDict).Ns s.heap.objs.size (fun _=>none):=⟨emptyDict,#[],_,e1,rfl,(fun e he=>absurd he (by simp)),fun _=>rfl⟩
 have I1:=I.laid (a:=s.heap.objs.size) (o:=.own (s.heap.objs.size+1)) (h':=s.heap.push emptyDict) (t':=s.toks) (fun b u q=>Qc _ q) (Qm _) ⟨_,e1⟩;refine I1.laid (a:=s.heap.objs.size+1) (o:=.ins C s.heap.objs.size []) (t':=s.toks) (fun b u q=>Qc _ q) (KJ (QC _ _)) ?_
 have ne:s.heap.objs.size≠s.heap.objs.size+1:=Qo (QM _);refine⟨by rw[Jd ne,Ju],Gr _,ne,e2,fun _=>none,(Heap.Ns1.of_empty e3).at fun o q=>Qc _ q,fun _=>True.intro,fun y hy=>absurd rfl hy⟩

end

noncomputable def Jg9(K:Frag)(ta:TE)(f:Str):TE:=fun σ H Q=>ta σ H fun x H1=>∃a C dx fs v,x=.ref a/\H1 a=some (.ins C dx fs)/\Cls K C/\Ug K C f/\fs.lookup f=some v/\Q v H1
noncomputable def Jg3(K:Frag)(ta tv:TE)(f:Str):TS:=fun D σ H=>tv σ H fun y H1=>ta σ H1 fun x H2=>∃a C dx fs,x=.ref a/\H2 a=some (.ins C dx fs)/\Cls K C/\Ug K C f/\fs.length<1000 ∧
 D.nx σ (upd H2 a (.ins C dx (Jeg f y fs)))
section
variable{X:Cx}{o e value:Expr}{f:Str}{pos pos' tpos:Pos}{ta tv:TE}
end

section
variable{X:Cx}{pins:List (Addr×Obj)}{σ:St}{H:Hp}{s:Shared}{A:Around}{E:Value->Shared->Prop}{Q:Value->Shared->Prop}{c:Value}{b:Bool}
inductive TyOf (K:Frag) (H:Hp):V->Value->Prop where
 | non:TyOf K H .non (.type "NoneType")
 | bl (x:Bool):TyOf K H (.bl x) (.type "bool")
 | int (i:Int):TyOf K H (.int i) (.type "int")
 | str (x:Str):TyOf K H (.str x) (.type "str")
 | flt (x:UInt64):TyOf K H (.flt x) (.type "float")
 | lst {a:Addr} {xs:List V} (e:H a=some (.lst xs)):TyOf K H (.ref a) (.type "list")
 | frz {a:Addr} {o:Obj} {xs:List V} (e:H a=some (.frz o (.lst xs))):TyOf K H (.ref a) (.type "list")
 | tup {a:Addr} {xs:List V} (e:H a=some (.tup xs)):TyOf K H (.ref a) (.type "tuple")
 | dK {a:Addr} {kvs:List (Key×V)} (e:H a=some (.dK kvs)):TyOf K H (.ref a) (.type "dict")
 | dT {a:Addr} {kvs:List (List Key×V)} (e:H a=some (.dT kvs)):TyOf K H (.ref a) (.type "dict")
 | ins {a C dx:Addr} {fs:List (Str×V)} (e:H a=some (.ins C dx fs)) (cl:Cls K C) (ha:findIn K (.ref C) "__class__"=some (some (.builtin "object.__class__")))
  (hn:specialIn K (.builtin "object.__class__") "__get__"=some (some (.builtin "getset_descriptor.__get__"))) (htk:takesIn K (.builtin "object.__class__")=some true)
  (hm:mroIn K C (.type "object")=some true):TyOf K H (.ref a) (.ref C)
theorem Zg{x:V}{u t:Value}(I:Inv X pins σ H s)(rx:RelV x u)(ty:TyOf X.K H x t)(e:kitOne X.K t c=some b)(h:∀tk,Q (.bool b) { s with toks:=tk }) :
 wpAny (model X.prog X.w) A (call (.builtin "isinstance") [u,c]) Q E s:=by
 cases ty with
 | non=>cases (show u=Value.none from rx);exact kia_one PySem.W.kitx_none I.kIn True.intro e (fun z=>nomatch z) h
 | bl y=>cases (show u=Value.bool y from rx);exact kia_one PySem.W.kitx_bool I.kIn True.intro e (fun z=>nomatch z) h
 | int i=>obtain⟨t,q⟩:=(show ∃t,u=Value.int i t from rx);cases q;exact kia_one PySem.W.kitx_int I.kIn True.intro e (fun z=>nomatch z) h
 | str y=>obtain⟨t,q⟩:=(show ∃t,u=Value.str y t from rx);cases q;exact kia_one PySem.W.kitx_str I.kIn True.intro e (fun z=>nomatch z) h
 | flt y=>obtain⟨t,q⟩:=(show ∃t,u=Value.float y t from rx);cases q;exact kia_one PySem.W.kitx_float I.kIn True.intro e (fun z=>nomatch z) h
 | @lst a xs ea =>
  cases (show u=Value.ref a from rx);obtain⟨_,_,n,_,h1⟩:=(show ObjOk X.prog X.w H s.heap a (.lst xs) from I.hok a _ ea)
  exact kia_one kitx_list I.kIn ⟨_,h1,rfl⟩ e (fun z=>nomatch z) h
 | @frz a ob xs ea =>
  cases (show u=Value.ref a from rx);obtain⟨_,_,_,n,_,h1⟩:=(show ObjOk X.prog X.w H s.heap a (.frz ob (.lst xs)) from I.hok a _ ea)
  exact kia_one kitx_list I.kIn ⟨_,h1,rfl⟩ e (fun z=>nomatch z) h
 | @tup a xs ea =>
  cases (show u=Value.ref a from rx);obtain⟨_,_,_,p⟩:=(show ObjOk X.prog X.w H s.heap a (.tup xs) from I.hok a _ ea)
  obtain⟨o,h1,h2,_⟩:=p;exact kia_one Ld I.kIn ⟨o,h1,h2⟩ e (fun z=>nomatch z) h
 | @dK a kvs ea =>
  cases (show u=Value.ref a from rx);obtain⟨_,_,vs,_,p⟩:=(show ObjOk X.prog X.w H s.heap a (.dK kvs) from I.hok a _ ea)
  obtain⟨o,es,ep,h1,h2,_⟩:=p;exact kia_one Lg I.kIn ⟨o,h1,h2.1⟩ e (fun z=>nomatch z) h
 | @dT a kvs ea =>
  cases (show u=Value.ref a from rx);obtain⟨_,_,xs,_,o,es,ep,h1,h2,_⟩:=(show ObjOk X.prog X.w H s.heap a (.dT kvs) from I.hok a _ ea)
  exact kia_one Lg I.kIn ⟨o,h1,h2.1⟩ e (fun z=>nomatch z) h
 | @ins a C dx fs ea cl ha hn htk hm=>cases (show u=Value.ref a from rx);obtain⟨mA,O,_⟩:=JbF I.hok ea;obtain⟨od,J,_⟩:=O.look;exact kia_one (PySem.W.kitx_own (cl.get _) cl.hd ha hn htk hm) I.kIn J e (fun z=>nomatch z) h
end
end L2

namespace L2
open PySem PySem.Spec PyProof.Rows

structure Room (k:Nat) (A:Around):Prop where
 hd:A.handled=none
 dp:A.depth+3*k+5<recursionLimit
 un:A.units+16*k+200<cLine
theorem Room.mono{j k:Nat}{A:Around}(r:Room k A)(h:j<=k):Room j A:=⟨r.hd,by have:=r.dp;omega,by have:=r.un;omega⟩
theorem Room.deeper{k:Nat}{A:Around}(r:Room (k+1) A)(env:Env):Room k (A.deeper env) :=
 ⟨r.hd,by have:=r.dp;show A.depth+1+3*k+5<_;omega,by have:=r.un;show A.units+3+16*k+200<_;omega⟩
theorem Room.in1{k:Nat}{A:Around}(r:Room (k+1) A):Room k A.in1 :=
 ⟨r.hd,by have:=r.dp;show A.depth+3*k+5<_;omega,by have:=r.un;show A.units+1+16*k+200<_;omega⟩
theorem Room.depth{k:Nat}{A:Around}(r:Room k A):A.depth<recursionLimit:=by have:=r.dp;omega
theorem Room.units{k:Nat}{A:Around}(r:Room k A):A.units+64<cLine:=by have:=r.un;omega
noncomputable def VY:TA:=fun _ H Q=>Q [] H
noncomputable def YT(ta:TE)(tr:TA):TA:=fun σ H Q=>ta σ H fun x H1=>tr σ H1 fun xs H2=>Q (x::xs) H2
section
variable{X:Cx}{e:Expr}{es:List Expr}{te:TE}{t:TA}{pos:Pos}
theorem Jg:PA X [] VY:=fun _ _ _ _ H Q I h=>Calls.spliced_nil ⟨[],H,I,.nil,h⟩
theorem Ja(ha:PE X e te)(hr:PA X es t)(hs:starEach (e::es) X.env=(false,eval e X.env)::starEach es X.env:=by rfl):PA X (e::es) (YT te t):=by intro pos pins s σ H Q I h;rw[hs];show wpAny _ _ (spliced ((false,eval e X.env)::backTo pos (starEach es X.env))) _ _ s;refine Calls.spliced_cons (thn (ha pins s σ H _ I h) fun u s1 ⟨x,H1,I1,r1,q1⟩=>?_);exact thn (hr pos pins s1 σ H1 _ I1 q1) fun us s2 ⟨xs,H2,I2,r2,q2⟩=>⟨x::xs,H2,I2,.cons r1 r2,q2⟩

noncomputable def Je1(t:TA):TE:=fun σ H Q=>t σ H fun xs H1=>xs.length<=sizeLine/\∀p,H1 p=none->Q (.ref p) (upd H1 p (.tup xs))
noncomputable def JeY(t:TA):TE:=fun σ H Q=>t σ H fun xs H1=>xs.length<=sizeLine/\∀p,H1 p=none->Q (.ref p) (upd H1 p (.lst xs))
theorem Jax{x1}(h:PA X es t):PE X (.Tuple es x1 pos) (Je1 t):=by intro pins s σ H Q I hq;refine wpAny_Tuple_spliced (thn (h pos pins s σ H _ I hq) fun us s1 ⟨xs,H1,I1,r,z,q⟩=>⟨by rw[<- r.length];exact z,?_⟩);have hf:H1 s1.heap.objs.size=none:=I1.hok.fresh (Qm _);refine⟨.ref s1.heap.objs.size,upd H1 s1.heap.objs.size (.tup xs),I1.laid (t':=s1.toks) (fun b u e=>Qc _ e) (Qm _) ?_,rfl,q _ hf⟩;exact⟨z,us,r,⟨_,Qg _ rfl,rfl,_,rfl⟩⟩
theorem Uu(h:PA X es t):PE X (.List es pos) (JeY t):=by intro pins s σ H Q I hq;refine wpAny_List_spliced (thn (h pos pins s σ H _ I hq) fun us s1 ⟨xs,H1,I1,r,z,q⟩=>⟨by rw[<- r.length];exact z,?_⟩);have hf:H1 s1.heap.objs.size=none:=I1.hok.fresh (Qm _);refine⟨.ref s1.heap.objs.size,upd H1 s1.heap.objs.size (.lst xs),I1.laid (t':=s1.toks) (fun b u e=>Qc _ e) (Qm _) ?_,rfl,q _ hf⟩;exact⟨z,us,0,r,Qg _ rfl⟩
end

noncomputable abbrev Sp:=List V->Hp->VK->XK->Prop
noncomputable abbrev CXT:=List Env->Hp->Shared->XK->Value->Shared->Prop

structure Env0 (P:Program) (w:World) (K:Frag) (mg:Str->Option Value) (base:Heap) (A:Around) (outer:List Env) (s:Shared) (H:Hp):Prop where
 frames:A.frames=some outer
 mod:Mod K mg base
 bs:∀b o,base.get? b=some o->s.heap.get? b=some o/\H b=none
 bsz:base.objs.size<=s.heap.objs.size
 funs:s.heap.FunFrames base outer
 frf:∀b∈frs outer,H b=none
 hok:HOk P w H s.heap
 bare:AllBare s.gens
noncomputable def CE(outer:List Env)(P:Program)(w:World)(H:Hp)(s:Shared)(Q:VK)(u:Value)(s':Shared):Prop :=
 ∃v H',s'.os=s.os/\AllBare s'.gens/\Un (frs outer) [] H H' s.heap s'.heap/\HOk P w H' s'.heap/\RelV v u/\Q v H'
noncomputable def CR(CX:CXT)(outer:List Env)(P:Program)(w:World)(H:Hp)(s:Shared)(Q:VK)(E:XK)(r:Result)(s':Shared):Prop :=
 match r with
 | .ok (.ret u)=>CE outer P w H s Q u s'
 | .ok _=>False
 | .error e=>CX outer H s E e s'
structure FnOk (P:Program) (w:World) (K:Frag) (mg:Str->Option Value) (base:Heap) (CX:CXT) (k:Nat) (f:Addr) (fd:FuncData) (ps:List Str) (sp:Sp):Prop where
 len:∀vs H Q E,sp vs H Q E->vs.length=ps.length
 run:∀(A:Around) (outer:List Env) (s:Shared) (H:Hp) (args:Args) (us:List Value) (vs:List V) (Q:VK) (E:XK),Room k A->Env0 P w K mg base A outer s H->BindsTo s fd args (ps.zip us)->Vals vs us->sp vs H Q E ->
  codeAny (model P w) A (.call (.ref f) args) (CR CX outer P w H s Q E) s
theorem FnOk.mono{P:Program}{w:World}{K:Frag}{mg:Str->Option Value}{base:Heap}{CX:CXT}{j k:Nat}{f:Addr}{fd:FuncData}{ps:List Str}{sp:Sp}(F:FnOk P w K mg base CX j f fd ps sp)(h:j<=k) :
 FnOk P w K mg base CX k f fd ps sp:=⟨F.len,fun A outer s H args us vs Q E hr=>F.run A outer s H args us vs Q E (hr.mono h)⟩
theorem FnOk.imp{P:Program}{w:World}{K:Frag}{mg:Str->Option Value}{base:Heap}{CX:CXT}{k:Nat}{f:Addr}{fd:FuncData}{ps:List Str}{sp sp':Sp}(F:FnOk P w K mg base CX k f fd ps sp)
 (h:∀vs H Q E,sp' vs H Q E->sp vs H Q E):FnOk P w K mg base CX k f fd ps sp' :=
 ⟨fun vs H Q E q=>F.len vs H Q E (h _ _ _ _ q),fun A outer s H args us vs Q E hr he hb hv hs=>F.run A outer s H args us vs Q E hr he hb hv (h _ _ _ _ hs)⟩

theorem Env0.in1{P:Program}{w:World}{K:Frag}{mg:Str->Option Value}{base:Heap}{A:Around}{outer:List Env}{s:Shared}{H:Hp}(e:Env0 P w K mg base A outer s H) :
 Env0 P w K mg base A.in1 outer s H:=⟨e.frames,e.mod,e.bs,e.bsz,e.funs,e.frf,e.hok,e.bare⟩

section
variable{X:Cx}{pins:List (Addr×Obj)}{σ:St}{H:Hp}{s s':Shared}
theorem Inv.env0(I:Inv X pins σ H s):Env0 X.prog X.w X.K X.mg X.base X.A X.stack s H :=
 ⟨I.ok.frames,I.ok.mod,I.bs,QA I.ok.bsz I.sz,I.stack,I.stkFree,I.hok,I.bare⟩
theorem Inv.after{Q:VK}{u:Value}(I:Inv X pins σ H s)(h:CE X.stack X.prog X.w H s Q u s'):EP X pins σ Q u s':=by obtain⟨v,H',os,bare,un,hok,r,q⟩:=h;obtain⟨hh,g,d,t,os'⟩:=s';obtain rfl:os'=s.os:=os;exact⟨v,H',I.call (h':=hh) (g':=g) (d':=d) (t':=t) (ch:=[]) un hok bare (fun b z=>absurd z (by simp)),r,q⟩
end

noncomputable def WN(sp:Sp)(dvs:List V)(E:XK)(t:TA):TE:=fun σ H Q=>t σ H fun vs H1=>sp (vs++dvs) H1 Q E
noncomputable def Jgu(C:Addr)(sp:Sp)(dvs:List V)(E:XK)(t:TA):TE:=fun σ H Q=>t σ H fun vs H1=>∀x dx,H1 x=none->H1 dx=none->dx≠x ->
 sp (.ref x::(vs++dvs)) (upd (upd H1 dx (.own x)) x (.ins C dx [])) (fun v H2=>v=.non/\Q (.ref x) H2) E

noncomputable def Binds(K:Frag)(fd:FuncData)(ps:List Str)(ds:List Value):Prop :=
 ∀(s:Shared) (us:List Value),K.In s.heap->(us++ds).length=ps.length->BindsTo s fd ⟨us,[]⟩ (ps.zip (us++ds))
theorem Binds.all{K:Frag}{fd:FuncData}{ps:List Str}(h:∀us:List Value,us.length=ps.length->bindArgs fd ⟨us,[]⟩=pure (ps.zip us)):Binds K fd ps []:=fun s us _ hl=>by rw[GN] at hl ⊢;exact .of_eq (h us hl)

noncomputable def V0(CX:CXT)(X:Cx)(E:XK):Prop:=∀(pins:List (Addr×Obj)) (σ:St) (H:Hp) (s:Shared) (e:Value) (s':Shared),Inv X pins σ H s->CX X.stack H s E e s'->X.xe e s'

section
variable{X:Cx}{CX:CXT}{k:Nat}{f C:Addr}{fd:FuncData}{ps:List Str}{sp:Sp}{dvs:List V}{ds:List Value}{E:XK}{x m:Str}{p pos apos:Pos}{e o:Expr}{es:List Expr}{ta:TE}{t:TA}

theorem JeK{pins:List (Addr×Obj)}{σ:St}{H:Hp}{s:Shared}{Q:VK}{us:List Value}{vs:List V}(F:FnOk X.prog X.w X.K X.mg X.base CX k f fd ps sp)(hr:Room k X.A)(hb:Binds X.K fd ps ds)(hd:Vals dvs ds)(hx:V0 CX X E)
 (I:Inv X pins σ H s) (r:Vals vs us) (h:sp (vs++dvs) H Q E):wpAny (model X.prog X.w) X.A (call (.ref f) us) (EP X pins σ Q) X.xe s:=by
 have r2:Vals (vs++dvs) (us++ds):=r.append hd
 have hl:(us++ds).length=ps.length:=by rw[<- r2.length];exact F.len _ _ _ _ h
 refine wpAny_call (GU (F.run X.A X.stack s H ⟨us,[]⟩ (us++ds) (vs++dvs) Q E hr I.env0 (hb s us I.kIn hl) r2 h) fun r s' hq=>?_)
 cases r with
 | error e=>exact hx pins σ H s e s' I hq
 | ok fl =>
  cases fl with
  | ret u=>exact I.after hq
  | next=>exact Q8 hq
  | brk=>exact Q8 hq
  | cont=>exact Q8 hq

theorem JbV(F:FnOk X.prog X.w X.K X.mg X.base CX k f fd ps sp)(hr:Room k X.A)(hg:Gl X x)(hm:X.mg x=some (.ref f))(hk:keepIn X.K (.ref f)=true)(hb:Binds X.K fd ps ds)(hd:Vals dvs ds)(hx:V0 CX X E)
 (ha:PA X (e::es) t) (hdb:(x == ("__debug__":Str))=false:=by decide) (he:starEach (e::es) X.env=(false,eval e X.env)::starEach es X.env:=by rfl) (hpl:(backTo pos (starEach es X.env)).any (·.1)=false:=by rfl) :
 PE X (.Call (.Name x p) (e::es) [] pos) (WN sp dvs E t):=by
 intro pins s σ H Q I h;refine Kk (Ww I hg hm ?_ hdb);refine PySem.W.callWith_K (h₀:=X.base) I.ok.mod.kin hk (thn (ha pos pins s σ H _ I h) fun us s1 ⟨vs,H1,I1,r,q⟩=>⟨I1.kIn,?_⟩) he hpl;exact JeK F hr hb hd hx I1 r q
structure Mk (K:Frag) (C f:Addr):Prop where
 makes:PySem.W.makesIn K C=true
 init:findIn K (.ref C) "__init__"=some (some (.ref f))
 fn:PySem.W.isFn K (.ref f)=true
 kp:keepIn K (.ref C)=true

end

section
variable{X:Cx}{CX:CXT}{k:Nat}{f C:Addr}{fd:FuncData}{ps ks:List Str}{sp:Sp}{E:XK}{x m:Str}{p pos apos kpos:Pos}{e o:Expr}{es:List Expr}{kws:List Keyword}{te ta:TE}{t tk:TA}{nm:Option Str}
structure KBinds (K:Frag) (fd:FuncData) (ps ks:List Str) (g:List Value->List Value->List Value) (gV:List V->List V->List V):Prop where
 to:∀(s:Shared) (us ws:List Value),K.In s.heap->(g us ws).length=ps.length->BindsTo s fd ⟨us,ks.zip ws⟩ (ps.zip (g us ws))
 rel:∀{vs:List V} {us:List Value} {zs:List V} {ws:List Value},Vals vs us->Vals zs ws->Vals (gV vs zs) (g us ws)
variable{g:List Value->List Value->List Value}{gV:List V->List V->List V}
end

structure FnScope (N P:List Str) (sc:Scope):Prop where
 kind:sc.kind=.function
 co:sc.isCoroutine=false
 gen:sc.isGenerator=false
 nd:N.Nodup
 pre:N.take P.length=P
 par:∀x∈P,sc.names.lookup x=some .local\/sc.names.lookup x=some .cell
 nofree:∀y∈sc.names,y.2≠.free

theorem UK{kindOf:Str->Option NameKind}{x:Str}:∀{binds:List (Str×Value)} {m:Str->Option Value},(∀v,(x,v)∉binds)->bindL kindOf binds m x=m x
 | [],_,_=>rfl
 | (n,v)::r,m,h=>by
  unfold bindL;rw[UK fun w hw=>h w (Qh _ hw)];split
  ·have:x≠n:=by rintro rfl;exact h v Qj
   simp[this]
  ·rfl
theorem UI{kindOf:Str->Option NameKind}{x:Str}:∀{binds:List (Str×Value)} {m:Str->Option Value},(∀v,(x,v)∉binds)->bindC kindOf binds m x=m x
 | [],_,_=>rfl
 | (n,v)::r,m,h=>by
  unfold bindC;rw[UI fun w hw=>h w (Qh _ hw)];split
  ·rfl
  ·have:x≠n:=by rintro rfl;exact h v Qj
   simp[this]
theorem UJ{kindOf:Str->Option NameKind}{x:Str}{v:Value}:∀{P:List Str} {vs:List Value} {i:Nat} {m:Str->Option Value},P.Nodup->P[i]?=some x->vs[i]?=some v->kindOf x=some .local ->
 bindL kindOf (P.zip vs) m x=some v
 | [],_,_,_,_,h,_,_=>by simp at h
 | _::_,[],_,_,_,_,h,_=>by simp at h
 | p::P,w::vs,0,m,nd,h1,h2,hk=>by simp at h1 h2;subst h1;subst h2;show bindL kindOf ((p,w)::P.zip vs) m p=_;unfold bindL;rw[UK fun v hv=>(Gh.mp nd).1 (Gx hv).1,if_pos hk];simp
 | p::P,w::vs,i+1,m,nd,h1,h2,hk=>by show bindL kindOf ((p,w)::P.zip vs) m x=_;unfold bindL;exact UJ (i:=i) (Gh.mp nd).2 (by simpa using h1) (by simpa using h2) hk
theorem UH{kindOf:Str->Option NameKind}{x:Str}{v:Value}:∀{P:List Str} {vs:List Value} {i:Nat} {m:Str->Option Value},P.Nodup->P[i]?=some x->vs[i]?=some v->kindOf x≠some .local ->
 bindC kindOf (P.zip vs) m x=some v
 | [],_,_,_,_,h,_,_=>by simp at h
 | _::_,[],_,_,_,_,h,_=>by simp at h
 | p::P,w::vs,0,m,nd,h1,h2,hk=>by simp at h1 h2;subst h1;subst h2;show bindC kindOf ((p,w)::P.zip vs) m p=_;unfold bindC;rw[UI fun v hv=>(Gh.mp nd).1 (Gx hv).1,if_neg hk];simp
 | p::P,w::vs,i+1,m,nd,h1,h2,hk=>by show bindC kindOf ((p,w)::P.zip vs) m x=_;unfold bindC;exact UH (i:=i) (Gh.mp nd).2 (by simpa using h1) (by simpa using h2) hk

noncomputable def Ym(N:List Str)(vs:List V):St:=vs.map some++Q9 (N.length-vs.length) none

noncomputable def W3(CX:CXT)(P:Program)(w:World)(K:Frag)(mg:Str->Option Value)(base:Heap)(N:List Str)(qual:Str)(scope:Scope)(f:Addr)(cd:Value)(A:Around)(outer:List Env)(s:Shared)(H:Hp)(E:XK):Cx where
 prog:=P
 w:=w
 K:=K
 mg:=mg
 base:=base
 A:=A.deeper (envOfC qual scope s.heap.objs.size f cd)
 N:=N
 s₀:=s
 H₀:=H
 env:=envOfC qual scope s.heap.objs.size f cd
 outer:=outer
 stack:=envOfC qual scope s.heap.objs.size f cd::outer
 ex:=[]
 calm:=true
 fn:=fun _=>true
 pn:=[]
 xe:=fun e s'=>wpAny (model P w) (A.deeper (envOfC qual scope s.heap.objs.size f cd)) (leaving (envOfC qual scope s.heap.objs.size f cd) e) (fun _ s''=>CX outer H s E e s'') (fun e' s''=>CX outer H s E e' s'') s'

theorem Vk{sc:Scope}{n:Nat}{x:Str}(h:sc.names.lookup x=some .cell):∃c,(cellsFrom n sc.names []).lookup x=some c:=by have q:=KL sc.names n [] (.inl h);exact GH.mp q

theorem W9{CX:CXT}{P:Program}{w:World}{K:Frag}{mg:Str->Option Value}{base:Heap}{N ps:List Str}{qual:Str}{scope:Scope}{f:Addr}{cd:Value}{A:Around}{outer:List Env}{s s1:Shared}{H:Hp}{E:XK}{us:List Value}{vs:List V}
 (S:FnScope N ps scope) (hd:A.handled=none) (e0:Env0 P w K mg base A outer s H) (hl:vs.length=ps.length) (r:Vals vs us)
 (x:InCallC s s.heap.objs.size (bindL (envOfC qual scope s.heap.objs.size f cd).kindOf (ps.zip us) fun _=>none) (cellsFrom (s.heap.objs.size+1) scope.names []) (bindC (envOfC qual scope s.heap.objs.size f cd).kindOf (ps.zip us) fun _=>none) s1) :
 Inv (W3 CX P w K mg base N qual scope f cd A outer s H E) [] (Ym N vs) H s1:=by
 have hpl:ps.length<=N.length:=by have:=congrArg List.length S.pre;rw[List.length_take] at this;omega
 obtain⟨h1,tk,rfl,hk⟩:=x.done;have noA:∀b:Addr,b∉(W3 CX P w K mg base N qual scope f cd A outer s H E).ex:=fun b z=>absurd (show b∈([]:List Addr) from z) (by simp)
 refine⟨⟨e0.mod,S.kind,rfl,rfl,Qm _,fun y z c h1 h2=>?_,fun y hy=>?_,fun y c _ h=>?_,fun _=>hd,Around.frames_deeper e0.frames,.inr ⟨rfl,rfl⟩,fun b z=>absurd z (noA b),e0.bs,e0.bsz,fun b _ _=>noA b,fun b z=>absurd z (noA b),e0.funs,e0.frf⟩,
  rfl,e0.bare,Un.kept hk,⟨_,x.toInCall.ns,fun i y v h1 h2 h3=>?_⟩,fun y c h=>⟨_,x.cell y c h⟩,e0.hok.fresh (Qm _),fun y c h=>?_,fun p hp=>absurd (show p∈([]:List (Addr×Obj)) from hp) (by simp),e0.hok.kept hk,?_⟩
 ·exact name_of_addr x.apart (Q5 h1) (Q5 h2)
 ·have hy:scope.names.lookup y=some .cell\/scope.names.lookup y=some .free:=hy;rcases hy with hy|hy
  ·exact Vk hy
  ·exact absurd rfl (S.nofree _ (Q5 hy))
 ·exact GB (x.above y c (Q5 h))
 ·have hi:i<vs.length:=by
   unfold Ym at h2
   by_cases hi:i<vs.length
   ·exact hi
   ·rw[QD (by simpa using hi)] at h2;rw[Kz] at h2;split at h2 <;> cases h2
  have ha:vs[i]?=some v:=by
   unfold Ym at h2;rw[Qu (by simpa using hi),QB] at h2
   cases e:vs[i]? with
   | none=>rw[e] at h2;cases h2
   | some a=>rw[e] at h2;cases h2;rfl
  obtain⟨u,hu,rv⟩:=r.get ha
  have hp:ps[i]?=some y:=by rw[<- S.pre,List.getElem?_take_of_lt (by omega)];exact h1
  have ndP:ps.Nodup:=by rw[<- S.pre];exact S.nd.sublist (List.take_sublist _ _)
  refine⟨u,rv,?_⟩;rcases S.par y (QL hp) with k|k
  ·exact .inl ⟨k,UJ ndP hp hu k⟩
  ·obtain⟨c,e⟩:=Vk (n:=s.heap.objs.size+1) k;refine .inr ⟨.inl k,c,e,?_⟩;have q:=x.cell y c e;rw[UH ndP hp hu (by show scope.names.lookup y≠_;rw[k];decide)] at q;exact q
 ·exact e0.hok.fresh (GB (x.above y c (Q5 h)))
 ·unfold Ym;show _=N.length;rw[Q1,Qx,List.length_replicate];omega

theorem Jfw{CX:CXT}{P:Program}{w:World}{K:Frag}{mg:Str->Option Value}{base:Heap}{k:Nat}{f:Addr}{name qual:Str}{params:Arguments}{body:List Stmt}{scope:Scope}{dV kV doc pm cdv ct oc:Value}{an od:Option Addr}
 {osl:Array (Option Value)} {N ps:List Str} {sp:Sp} (lk:K.lookup f=some ⟨oc,od,.func (fnOf name qual params body scope dV kV doc pm an cdv ct),osl⟩) (hcd:codeIn K cdv qual=true) (S:FnScope N ps scope)
 (len:∀vs H Q E,sp vs H Q E->vs.length=ps.length)
 (hbody:∀(A:Around) (outer:List Env) (s:Shared) (H:Hp) (vs:List V) (Q:VK) (E:XK),Room k (A.deeper (envOfC qual scope s.heap.objs.size f cdv))->sp vs H Q E ->
  ∃t,PSs (W3 CX P w K mg base N qual scope f cdv A outer s H E) body t/\t { nx:=fun _ H'=>Q .non H',rt:=Q } (Ym N vs) H) :
 FnOk P w K mg base CX (k+1) f (fnOf name qual params body scope dV kV doc pm an cdv ct) ps sp:=by
 refine⟨len,fun A outer s H args us vs Q E hr e0 hb r hsp=>?_⟩;have hl:=len _ _ _ _ hsp;have KX:K.In s.heap:=e0.mod.kin.keeps fun b o e=>(e0.bs b o e).1
 have lim:s.heap.NoLimit:=e0.mod.nolimit.keeps fun b o e=>(e0.bs b o e).1
 have hkind:∀y∈ps.zip us,scope.names.lookup y.1=some .local\/(scope.names.lookup y.1=some .cell/\((cellsFrom (s.heap.objs.size+1) scope.names []).lookup y.1).isSome=true):=fun⟨n,v⟩ hy=>by
  rcases S.par n (Gx hy).1 with q|q
  ·exact .inl q
  ·exact .inr ⟨q,KL _ _ _ (.inl q)⟩
 refine codeAny_call_function hr.depth (KX _ _ lk) rfl S.co S.gen rfl (PySem.W.codeRec_of KX hcd) (hb _ _ _ _ ?_);refine wpAny_newFunctionEnv_cells S.kind hkind fun env he s1 x=>?_
 subst he;refine⟨lim.keeps x.toInCall.keep,codeAny_func ?_⟩;obtain⟨t,ht,hq⟩:=hbody A outer s H vs Q E (hr.deeper _) hsp;have I:Inv (W3 CX P w K mg base N qual scope f cdv A outer s H E) [] (Ym N vs) H s1:=W9 S hr.hd e0 hl r x;refine Kh (ht [] s1 (Ym N vs) H _ I hq) (fun fl s' hs=>?_) fun e s' hs=>hs
 have fin:∀{σ':St} {H':Hp} {v:V} {u:Value},Inv (W3 CX P w K mg base N qual scope f cdv A outer s H E) [] σ' H' s'->RelV v u->Q v H'->CE outer P w H s Q u s' :=
  fun {σ' H' v u} J rv q=>⟨v,H',J.os,J.bare,J.base,J.hok,rv,q⟩
 cases fl with
 | ret u=>obtain⟨v,σ',H',J,rv,q⟩:=hs;exact fin J rv q
 | next=>obtain⟨σ',H',J,q⟩:=hs;exact fin (v:=V.non) (u:=Value.none) J rfl q
 | brk=>obtain⟨_,_,_,q⟩:=hs;exact Q8 q
 | cont=>obtain⟨_,_,_,q⟩:=hs;exact Q8 q
end L2

namespace L2
open PySem PySem.Spec PyProof.Rows
section
variable{X:Cx}{x:Str}{p pos:Pos}{e:Expr}{es:List Expr}{t:TA}{id T:String}{r:List V->Hp->VK->Prop}

noncomputable def tCB(r:List V->Hp->VK->Prop)(t:TA):TE:=fun σ H Q=>t σ H fun vs H1=>r vs H1 Q
theorem JU(hc:CallR X (.builtin id) r)(hg:Gl X x)(hm:X.mg x=none)(hv:bootBuiltins x=some (.builtin id))(ha:PA X (e::es) t)(hn:x≠"__name__":=by decide)(hdb:(x == ("__debug__":Str))=false:=by decide)
 (he:starEach (e::es) X.env=(false,eval e X.env)::starEach es X.env:=by rfl) (hpl:(backTo pos (starEach es X.env)).any (·.1)=false:=by rfl):PE X (.Call (.Name x p) (e::es) [] pos) (tCB r t):=by
 intro pins s σ H Q I h;refine Kk (Y0 I hg hm hv ?_ hn hdb);exact PyProof.Rows.callWith_builtin1 (thn (ha pos pins s σ H _ I h) fun us s1 ⟨vs,H1,I1,r1,q1⟩=>hc pins s1 σ H1 vs us Q I1 r1 q1) he hpl
theorem Zn(hc:CallR X (.type T) r)(hg:Gl X x)(hm:X.mg x=none)(hv:bootBuiltins x=some (.type T))(ha:PA X (e::es) t)(hn:x≠"__name__":=by decide)(hdb:(x == ("__debug__":Str))=false:=by decide)
 (he:starEach (e::es) X.env=(false,eval e X.env)::starEach es X.env:=by rfl) (hpl:(backTo pos (starEach es X.env)).any (·.1)=false:=by rfl):PE X (.Call (.Name x p) (e::es) [] pos) (tCB r t):=by
 intro pins s σ H Q I h;refine Kk (Y0 I hg hm hv ?_ hn hdb);exact Q6 (thn (ha pos pins s σ H _ I h) fun us s1 ⟨vs,H1,I1,r1,q1⟩=>hc pins s1 σ H1 vs us Q I1 r1 q1) he hpl
end
end L2

namespace HT
open PySem PyProof.Rows

section
open PySem.SeqAt
open PySem.AutoSeq1 (wpAny_loadPart')
open PySem.MeetsSeq PySem.MeetsSeq2 PySem.MeetsSeq3

end

section
variable{prog:Program}{w:World}{A:Around}{E:Value->Shared->Prop}{s:Shared}

theorem Jbe{t b:Addr}{vs ws:List Value}{Q:Value->Shared->Prop}(ht:IsTup s.heap t vs.toArray)(hb:IsTup s.heap b ws.toArray)(hv:vs≠[])
 (h1:ws=[]->Q (.ref t) s) (h2:ws≠[]->Q (.ref s.heap.objs.size) { s with heap:=s.heap.push { cls:=.type "tuple",data:=.seq (vs++ws).toArray } })
 (hsz:vs.length+ws.length<=sizeLine):wpAny (model prog w) A (binaryOp .Add (.ref t) (.ref b)) Q E s:=by
 obtain⟨⟨cls,dd,data,sl⟩,ho,hc,n,hd⟩:=id ht;obtain⟨⟨cls2,dd2,data2,sl2⟩,ho2,hc2,n2,hd2⟩:=id hb;simp only at hc hd hc2 hd2;subst hc hd hc2 hd2;have e:vs.toArray++ws.toArray=(vs++ws).toArray:=by simp
 by_cases hw:ws=[]
 ·exact concat_meets ⟨_,ho,rfl⟩ ⟨_,ho2,rfl⟩ noFill_tuple_add seq_tuple_add KM KA (Ku _ _)
   (tuple_addW1 t b vs.toArray ws.toArray n n2 dd dd2 sl sl2 (by simpa using hv) (by simp[hw])) ⟨ho,ho2,h1 hw⟩
 ·refine concat_meets ⟨_,ho,rfl⟩ ⟨_,ho2,rfl⟩ noFill_tuple_add seq_tuple_add KM KA (Ku _ _)
   (tuple_addW2 t b vs.toArray ws.toArray n n2 dd dd2 sl sl2 (by simpa using hv) (by simpa using hw) (by rw[Qk,Qk];exact hsz)) ⟨ho,ho2,?_⟩
  rw[e];exact h2 hw

end
end HT

namespace L2
open PySem PySem.Spec PyProof.Rows

noncomputable abbrev TO:=St->Hp->(Option Int->Hp->Prop)->Prop
theorem Yz{ns:List Int}:∀{us:List Value},Vals (ns.map V.int) us->IntsAre us ns:=by
 induction ns with
 | nil=>intro us r;rw[KN] at r;cases r;exact .nil
 | cons n ns ih =>
  intro us r;rw[Qq] at r
  cases r with
  | cons r1 r2=>obtain⟨t,e⟩:=r1;subst e;exact .cons n t (ih r2)

section
variable{X:Cx}{e:Expr}{te:TE}{lo hi:Option Expr}{tl th:TO}{pos p2:Pos}

noncomputable def SlR(X:Cx)(r:V->Option Int->Option Int->Hp->VK->Prop):Prop :=
 ∀(pins:List (Addr×Obj)) (s:Shared) (σ:St) (H:Hp) (x:V) (v vl vu:Value) (lo hi:Option Int) (sl:Addr) (Q:VK),Inv X pins σ H s->RelV x v->s.heap.IsSliceOf sl vl vu .none->IsPart vl lo->IsPart vu hi->r x lo hi H Q ->
  ∃T id,typeLookup (.type T) "__getitem__"=pure (some (.builtin id))/\s.TypeIs v T/\wpAny (model X.prog X.w) X.A (getItem v (.ref sl)) (EP X pins σ Q) X.xe s
theorem SlR.or{r r':V->Option Int->Option Int->Hp->VK->Prop}(h:SlR X r)(h':SlR X r'):SlR X (fun x lo hi H Q=>r x lo hi H Q\/r' x lo hi H Q):=by
 intro pins s σ H x v vl vu lo hi sl Q I rx hs pl pu q;rcases q with q|q
 ·exact h pins s σ H x v vl vu lo hi sl Q I rx hs pl pu q
 ·exact h' pins s σ H x v vl vu lo hi sl Q I rx hs pl pu q
noncomputable def JcO(K:Frag):R2:=fun x y H Q=>∃a b xs ys,x=.ref a/\y=.ref b/\SqT K H a xs/\SqT K H b ys/\xs≠[]/\xs.length+ys.length<=sizeLine ∧
 (ys=[]->Q (.ref a) H)/\(ys≠[]->∀p,H p=none->Q (.ref p) (upd H p (.tup (xs++ys))))
theorem Vals.nil_iff{xs:List V}{us:List Value}(r:Vals xs us):us=[]↔xs=[]:=by
 cases r with
 | nil=>simp
 | cons _ _=>simp
theorem JbS:OpR X (binaryOp .Add) (JcO X.K):=by
 intro pins s σ H x y v u Q I rx ry h;obtain⟨a,b,xs,ys,rfl,rfl,ha,hb,hx,hz,q1,q2⟩:=h;cases rx;cases ry;obtain⟨its,r1,p1,_⟩:=I.tuple ha;obtain⟨its2,r2,p2,_⟩:=I.tuple hb;refine HT.Jbe p1 p2 (fun z=>hx (r1.nil_iff.mp z)) (fun z=>⟨.ref a,H,I,rfl,q1 (r2.nil_iff.mp z)⟩) (fun z=>?_) (by rw[<- r1.length,<- r2.length];exact hz);refine⟨.ref s.heap.objs.size,_,I.laid (t':=s.toks) (o:=.tup (xs++ys)) (fun b ob q=>Qc _ q) (Qm _) ?_,rfl,q2 (fun w=>z (r2.nil_iff.mpr w)) _ (I.hok.fresh (Qm _))⟩
 exact⟨by rw[Q1];exact hz,_,r1.append r2,IsTup.new _ _⟩
end
end L2

namespace L2
open PySem PySem.Spec PyProof.Rows

noncomputable def ixN(n:Nat)(i:Int):Option Nat:=if 0<=i then(if i<n then some i.toNat else none) else if -(n:Int)<=i then some (i+n).toNat else none
noncomputable def atI{α:Type}(xs:List α)(i:Int):Option α:=(ixN xs.length i).bind fun j=>xs[j]?
theorem JbH{n:Nat}{i:Int}{j:Nat}(h:ixN n i=some j):seqIndex? i n=some j/\j<n/\-(n:Int)<=i/\i<n:=by
 unfold ixN at h
 by_cases h0:0<=i
 ·rw[if_pos h0] at h
  by_cases h1:i<n
  ·rw[if_pos h1] at h;have e:i.toNat=j:=Qr h;exact⟨by rw[seqIndex_of h0 h1,e],by omega,by omega,h1⟩
  ·rw[if_neg h1] at h;cases h
 ·rw[if_neg h0] at h
  by_cases h1:-(n:Int)<=i
  ·rw[if_pos h1] at h;have e:(i+n).toNat=j:=Qr h;exact⟨by rw[seqIndex_neg (by omega) h1,e],by omega,h1,by omega⟩
  ·rw[if_neg h1] at h;cases h
theorem UZ{α:Type}{xs:List α}{i:Int}{v:α}(h:atI xs i=some v):∃j,seqIndex? i xs.length=some j/\xs[j]?=some v/\j<xs.length/\-(xs.length:Int)<=i/\i<xs.length:=by
 unfold atI at h
 cases e:ixN xs.length i with
 | none=>rw[e] at h;cases h
 | some j=>rw[e] at h;obtain⟨h1,h2,h3,h4⟩:=JbH e;exact⟨j,h1,h,h2,h3,h4⟩
noncomputable def Ja9(b:Expr):Prop:=∀o i,subscripted b false o i=operate [o,i] (getItem o i)
noncomputable def IxR(X:Cx)(r:R2):Prop :=
 ∀(value slice:Expr) (pins:List (Addr×Obj)) (s:Shared) (σ:St) (H:Hp) (x y:V) (v u:Value) (Q:VK),Inv X pins σ H s->RelV x v->RelV y u->r x y H Q ->
  subscripted slice false v u=operate [v,u] (getItem v u)->wpAny (model X.prog X.w) X.A (subscriptTail value slice v u) (EP X pins σ Q) X.xe s
noncomputable def MtR(X:Cx)(id:String)(r:V->List V->Hp->VK->Prop):Prop :=
 ∀(pins:List (Addr×Obj)) (s:Shared) (σ:St) (H:Hp) (x:V) (xs:List V) (v:Value) (us:List Value) (Q:VK),Inv X pins σ H s->RelV x v->Vals xs us->r x xs H Q ->
  wpAny (model X.prog X.w) X.A (call (.builtin id) (v::us)) (EP X pins σ Q) X.xe s
section
variable{X:Cx}{a b:Expr}{ta tb:TE}{pos:Pos}
theorem IxR.or{r r':R2}(h:IxR X r)(h':IxR X r'):IxR X (fun x y H Q=>r x y H Q\/r' x y H Q):=by
 intro value slice pins s σ H x y v u Q I rx ry q hs;rcases q with q|q
 ·exact h value slice pins s σ H x y v u Q I rx ry q hs
 ·exact h' value slice pins s σ H x y v u Q I rx ry q hs
theorem MtR.or{id:String}{r r':V->List V->Hp->VK->Prop}(h:MtR X id r)(h':MtR X id r'):MtR X id (fun x xs H Q=>r x xs H Q\/r' x xs H Q):=by
 intro pins s σ H x xs v us Q I rx rs q;rcases q with q|q
 ·exact h pins s σ H x xs v us Q I rx rs q
 ·exact h' pins s σ H x xs v us Q I rx rs q
theorem Wz{r:R2}(hr:IxR X r)(ha:PE X a ta)(hb:PE X b tb)(hs:Ja9 b):PE X (.Subscript a b pos) (tOp r ta tb):=by intro pins s σ H Q I h;exact Subscript_ (Jc2 ha hb I h fun v u s2 x y H2 I2 rx ry q=>hr a b pins s2 σ H2 x y v u Q I2 rx ry q (hs _ _))

noncomputable def JfY(K:Frag):R2:=fun x y H Q=>∃p xs i v,x=.ref p/\y=.int i/\SqL K H p xs/\atI xs i=some v/\Q v H
noncomputable def Jf0(K:Frag):R2:=fun x y H Q=>∃p xs i v,x=.ref p/\y=.int i/\SqT K H p xs/\atI xs i=some v/\Q v H
noncomputable def JfZ:R2:=fun x y H Q=>∃z i c,x=.str z/\y=.int i/\z.length<=sizeLine/\atI z.cps.toList i=some c/\Q (.str ⟨#[c]⟩) H
theorem ix_list:IxR X (JfY X.K):=by
 intro value slice pins s σ H x y v u Q I rx ry h hs;obtain⟨p,xs,i,z,rfl,rfl,hq,he,q⟩:=h;cases rx;obtain⟨t,rfl⟩:=ry;obtain⟨its,r,pl,hz⟩:=I.list hq;obtain⟨j,h1,h2,h3,h4,h5⟩:=UZ he;obtain⟨w,ew,rw'⟩:=r.get h2;have hl:=r.length;have hn:=Up;have fin:EP X pins σ Q w s:=⟨z,H,I,rw',q⟩
 by_cases h0:0<=i
 ·have hj:i.toNat=j:=by rw[seqIndex_of h0 h5] at h1;exact Qr h1
  exact item_listR pl.isList h0 (by omega) (by rw[hj];simpa using ew) fin hs
 ·have hj:(i+(its.toArray.size:Int)).toNat=j:=by rw[seqIndex_neg (by omega) h4] at h1;rw[Qk,<- hl];exact Qr h1
  exact subscriptTail_builtinR (x:=w) pl.isList.typeIs slot_list_getitem.lookup
   (wpAny_getItem_list_neg (Q:=fun r s'=>r=w/\EP X pins σ Q r s') pl.isList (by omega) (by rw[Qk] <;> omega) (by omega) (by rw[hj];simpa using ew) ⟨rfl,fin⟩) hs
theorem ix_tup:IxR X (Jf0 X.K):=by
 intro value slice pins s σ H x y v u Q I rx ry h hs;obtain⟨p,xs,i,z,rfl,rfl,hq,he,q⟩:=h;cases rx;obtain⟨t,rfl⟩:=ry;obtain⟨its,r,pl,hz⟩:=I.tuple hq;obtain⟨j,h1,h2,h3,h4,h5⟩:=UZ he;obtain⟨w,ew,rw'⟩:=r.get h2;have hl:=r.length;have hn:=Up;have fin:EP X pins σ Q w s:=⟨z,H,I,rw',q⟩
 exact subscriptTail_builtinR (x:=w) pl.typeIs slot_tuple_getitem.lookup
  (getItem_tuple (j:=j) (Q:=fun r s'=>r=w/\EP X pins σ Q r s') pl (by omega) (by omega) (by rw[Qk,<- hl];exact h1) (by simpa using ew) ⟨rfl,fin⟩) hs
theorem JdG:IxR X JfZ:=by
 intro value slice pins s σ H x y v u Q I rx ry h hs;obtain⟨z,i,c,rfl,rfl,hz,he,q⟩:=h;obtain⟨t,rfl⟩:=rx;obtain⟨t',rfl⟩:=ry;obtain⟨j,h1,h2,h3,h4,h5⟩:=UZ he;have hl:z.cps.toList.length=z.length:=by simp[Str.length]
 rw[hl] at h1 h4 h5;have hn:=Up;exact tail_any (typeIs_str s z t) slot_str_getitem.lookup (getItem_str (c:=c) (by
  have e1:decide (i < -(2 ^ 63:Int))=false:=decide_eq_false (by omega)
  have e2:decide (i ≥ 2 ^ 63)=false:=decide_eq_false (by omega);rw[e1,e2,Bool.or_false]) (by rw[h1];simpa using h2) ⟨.str ⟨#[c]⟩,H,I.tok _,⟨_,rfl⟩,q⟩) hs
noncomputable def rIx(K:Frag):R2:=fun x y H Q=>JfY K x y H Q\/Jf0 K x y H Q\/JfZ x y H Q
theorem JdF:IxR X (rIx X.K):=ix_list.or (ix_tup.or JdG)

theorem Inv.lst{pins:List (Addr×Obj)}{σ:St}{H:Hp}{s:Shared}{p:Addr}{xs:List V}(I:Inv X pins σ H s)(h:H p=some (.lst xs)) :
 ∃(its:List Value) (n:Nat),Vals xs its/\s.heap.get? p=some { cls:=.type "list",data:=.seq its.toArray n }/\xs.length<=sizeLine:=by
 obtain⟨z,its,n,r,e⟩:=I.hok p _ h;exact⟨its,n,r,e,z⟩
theorem CallR.or{f:Value}{r r':List V->Hp->VK->Prop}(h:CallR X f r)(h':CallR X f r'):CallR X f (fun xs H Q=>r xs H Q\/r' xs H Q):=by
 intro pins s σ H xs us Q I rs q;rcases q with q|q
 ·exact h pins s σ H xs us Q I rs q
 ·exact h' pins s σ H xs us Q I rs q
noncomputable def tyV(K:Frag)(T:String)(x:V)(H:Hp):Prop:=match x with
 | .str _=>T="str"
 | .int _=>T="int"
 | .ref p=>(T="list"/\∃xs,SqL K H p xs)\/(T="tuple"/\∃o,K.lookup p=some o/\o.cls=.type "tuple"/\o.dict=none) ∨
  (T="dict"/\((∃kvs,H p=some (.dK kvs))\/∃kvs,H p=some (.dT kvs)))\/(T="set"/\∃S n,H p=some (.set S n))
 | _=>False
theorem Je6{pins:List (Addr×Obj)}{σ:St}{H:Hp}{s:Shared}{T:String}{x:V}{v:Value}(I:Inv X pins σ H s)(r:RelV x v)(ty:tyV X.K T x H) :
 s.TypeIs v T/\∀a,v=.ref a->∃ob,s.heap.get? a=some ob/\ob.dict=none:=by
 cases x with
 | str z=>obtain⟨t,rfl⟩:=r;cases (show T="str" from ty);exact⟨typeIs_str s z t,fun _ e=>nomatch e⟩
 | int i=>obtain⟨t,rfl⟩:=r;cases (show T="int" from ty);exact⟨typeIs_int s i t,fun _ e=>nomatch e⟩
 | ref p =>
  cases r;rcases ty with ⟨rfl,xs,hq⟩|⟨rfl,o,hk,hc,hd⟩|⟨rfl,hk⟩|⟨rfl,S,n,hk⟩
  ·obtain⟨its,_,pl,_⟩:=I.list hq;refine⟨pl.isList.typeIs,fun a e=>?_⟩;cases e;obtain⟨o,n,e,c,hd,_⟩:=pl;exact⟨o,e,hd⟩
  ·refine⟨⟨o,I.kIn p o hk,hc⟩,fun a e=>?_⟩;cases e;exact⟨o,I.kIn _ o hk,hd⟩
  ·have z:∃o,s.heap.get? p=some o/\o.ExactDict:=by
    rcases hk with ⟨kvs,hk⟩|⟨kvs,hk⟩
    ·obtain⟨_,_,_,_,o,_,_,e,ex,_⟩:=I.hok p _ hk;exact⟨o,e,ex⟩
    ·obtain⟨_,_,_,_,o,_,_,e,ex,_⟩:=I.hok p _ hk;exact⟨o,e,ex⟩
   obtain⟨o,e,ex⟩:=z;refine⟨⟨o,e,ex.1⟩,fun a e2=>?_⟩;cases e2;exact⟨o,e,ex.2.1⟩
  ·obtain⟨o,_,_,_,e,ex,_⟩:=I.hok p _ hk;refine⟨⟨o,e,ex.1⟩,fun a e2=>?_⟩;cases e2;exact⟨o,e,ex.2.1⟩
 | _=>exact Q8 ty
noncomputable def tBM(K:Frag)(T:String)(r:V->List V->Hp->VK->Prop)(to:TE)(t:TA):TE:=fun σ H Q=>to σ H fun x H1=>tyV K T x H1/\t σ H1 fun xs H2=>r x xs H2 Q
variable{o e:Expr}{es:List Expr}{to:TE}{t:TA}{name:Str}{apos cpos:Pos}{T id:String}{r:V->List V->Hp->VK->Prop}
theorem JfS(pa:PlainAttrs T)(slot:Slot T name id)(hty:typeOf (.builtin id)=pure (.type "method_descriptor"))(hm:MtR X id r)(ho:PE X o to)(ha:PA X (e::es) t)
 (hbase:attributeBase o name X.env (eval o X.env)=eval o X.env:=by rfl)
 (hfew:((backTo cpos (starEach (e::es) X.env)).all (fun x=>!x.1) && (backToKw cpos (keywordEach [] X.env)).all (fun x=>x.1.isSome)
  && decide ((e::es).length+([]:List Keyword).length+(if ([]:List Keyword).isEmpty then 0 else 1)<30))=true:=by rfl)
 (hline:(apos.endLine == cpos.line)=true:=by rfl) (hs:starEach (e::es) X.env=(false,eval e X.env)::starEach es X.env:=by rfl) (hplain:(backTo cpos (starEach es X.env)).any (·.1)=false:=by rfl) :
 PE X (.Call (.Attribute o name apos) (e::es) [] cpos) (tBM X.K T r to t):=by
 intro pins s σ H Q I h;refine wpAny_Call_method_late hbase hfew hline rfl (thn (ho pins s σ H _ I h) fun v s1 ⟨x,H1,I1,r1,ty,q1⟩=>?_);obtain⟨h1,h2⟩:=Je6 I1 r1 ty;refine⟨T,id,pa,slot,hty,h1,h2,?_⟩;have hA:=ha cpos pins s1 σ H1 _ I1 q1;rw[hs] at hA ⊢;refine Calls.callWith_builtin (by show(false || (backTo cpos (starEach es X.env)).any (·.1))=false;rw[hplain] <;> rfl) (Calls.evalArgs_plain ?_);exact thn hA fun us s2 ⟨vs,H2,I2,r2,q2⟩=>hm pins s2 σ H2 x vs v us Q I2 r1 r2 q2
/- xs.append(e),list.index on a module's tuple .. are MtR facts of 06m -/
end
end L2

namespace L2
open PySem PySem.Spec PyProof.Rows

noncomputable def MtM(X:Cx)(id:String)(r:V->List V->Hp->VK->Prop):Prop :=
 ∀(pins:List (Addr×Obj)) (s:Shared) (σ:St) (H:Hp) (x:V) (xs:List V) (v:Value) (us:List Value) (Q:VK),Inv X pins σ H s->RelV x v->Vals xs us->r x xs H Q ->
  wpAny (model X.prog X.w) X.A (call (.builtin id) (v::us)) (EP X pins σ Q) X.xe s

theorem Vals.one:∀{x:V} {us:List Value},Vals [x] us->∃u,us=[u]/\RelV x u
 | _,_,.cons r .nil=>⟨_,rfl,r⟩
theorem Vals.two:∀{x y:V} {us:List Value},Vals [x,y] us->∃u v,us=[u,v]/\RelV x u/\RelV y v
 | _,_,_,.cons r (.cons q .nil)=>⟨_,_,rfl,r,q⟩
theorem Vals.zero:∀{us:List Value},Vals [] us->us=[]
 | _,.nil=>rfl
theorem Vals.eraseIdx:∀{xs:List V} {us:List Value} (i:Nat),Vals xs us->Vals (xs.eraseIdx i) (us.eraseIdx i)
 | _,_,_,.nil=>.nil
 | _,_,0,.cons _ t=>t
 | _,_,i+1,.cons r t=>.cons r (Vals.eraseIdx i t)
theorem Vals.reverse{xs:List V}{us:List Value}(h:Vals xs us):Vals xs.reverse us.reverse:=by
 induction h with
 | nil=>exact .nil
 | cons r t ih=>rw[List.reverse_cons,List.reverse_cons];exact Vals.append ih (.cons r .nil)
theorem Vals.rep{xs:List V}{us:List Value}(h:Vals xs us):∀k:Nat,Vals (Q9 k xs).flatten (Q9 k us).flatten
 | 0=>.nil
 | k+1=>by rw[GF,GF,GW,GW];exact Vals.append h (Vals.rep h k)
section
variable{X:Cx}{pins:List (Addr×Obj)}{σ:St}{H:Hp}{s:Shared}{l b:Addr}{xs ys zs:List V}

theorem Inv.lset{its its':List Value}{n:Nat}{f:Array Value->Array Value}{t':Nat}(I:Inv X pins σ H s)(hH:H l=some (.lst xs))
 (e:s.heap.get? l=some { cls:=.type "list",data:=.seq its.toArray n }) (hf:f its.toArray=its'.toArray) (hv:Vals ys its') (hz:ys.length<=sizeLine) :
 Inv X pins σ (upd H l (.lst ys)) { s with heap:=s.heap.update l (Le f),toks:=t' }:=by
 have q:=PySem.IsL.update e f;rw[hf] at q;refine I.write (x:=l) (e:=l) (by rw[hH];exact trivial) (.inl rfl) (fun b' u hb hu=>(QN s.heap (Le f) (Qy hb)).trans hu) ⟨_,q⟩ ?_;exact⟨hz,its',_,hv,q⟩
theorem Inv.lnew{its:List Value}{t':Nat}(I:Inv X pins σ H s)(hv:Vals ys its)(hz:ys.length<=sizeLine) :
 Inv X pins σ (upd H s.heap.objs.size (.lst ys)) { s with heap:=s.heap.push { cls:=.type "list",data:=.seq its.toArray },toks:=t' } :=
 I.laid (fun _ _ q=>Qc _ q) (Qm _) ⟨hz,its,0,hv,Qg _ rfl⟩
theorem Inv.fresh(I:Inv X pins σ H s):H s.heap.objs.size=none:=I.hok.fresh (Qm _)
theorem Inv.lstM(I:Inv X pins σ H s)(hH:H l=some (.lst xs)):xs.length<=sizeLine/\∃(its:List Value) (n:Nat),Vals xs its/\xs.length=its.length/\s.heap.get? l=some { cls:=.type "list",data:=.seq its.toArray n }:=by obtain⟨z,its,n,r,e⟩:=I.hok l _ hH;exact⟨z,its,n,r,r.length,e⟩

end

section
variable{X:Cx}

noncomputable def WF:V->List V->Hp->VK->Prop:=fun x vs H Q=>∃l xs y,x=.ref l/\vs=[y]/\H l=some (.lst xs)/\xs.length<sizeLine/\Q .non (upd H l (.lst (xs++[y])))
theorem Zj:MtM X "list.append" WF:=by intro pins s σ H x vs v us Q I rx rv h;obtain⟨l,xs,y,rfl,rfl,hH,hz,q⟩:=h;cases rx;obtain⟨u,rfl,ru⟩:=rv.one;obtain⟨z,its,n,r,hl,e⟩:=I.lstM hH;refine call_meets F.slot_list_append ⟨_,e,rfl⟩ F.entry_list_append (F.args_list_append_2 _ _) (PySem.list_append l its.toArray n u (by rw[Qk];omega)) ⟨e,?_⟩;refine⟨.non,_,I.lset (its':=its++[u]) hH e (by simp) (r.append (.cons ru .nil)) ?_,rfl,q⟩;rw[Q1,KW];omega

noncomputable def JfW:R2:=fun x y H Q=>∃l b xs zs,x=.ref l/\y=.ref b/\H l=some (.lst xs)/\H b=some (.lst zs)/\xs.length+zs.length<=sizeLine/\∀p,H p=none->Q (.ref p) (upd H p (.lst (xs++zs)))
theorem JdZ:OpR X (binaryOp .Add) JfW:=by
 intro pins s σ H x y v u Q I rx ry h;obtain⟨l,b,xs,zs,rfl,rfl,hH,hB,hz,q⟩:=h;cases rx;cases ry;obtain⟨z,its,n,r,hl,e⟩:=I.lstM hH;obtain⟨z2,its2,n2,r2,hl2,e2⟩:=I.lstM hB;refine PySem.P.add_list e e2 ?_ (by rw[Qk,Qk];omega);have ea:its.toArray++its2.toArray=(its++its2).toArray:=by simp
 rw[ea];exact⟨.ref _,_,I.lnew (t':=s.toks) (r.append r2) (by rw[Q1];omega),rfl,q _ I.fresh⟩
end

section
variable{prog:Program}{w:World}{A:Around}{E:Value->Shared->Prop}{s:Shared}
end

section
variable{X:Cx}
end
end L2

namespace Att
open PySem PySem.W PySem.Calls PyProof.Rows

theorem Y9{P:Params}{h:Heap}:∀(ns:List Int) (vs:List Value),WellAll P h vs (ns.map WData.int)->IntsAre vs ns:=by
 intro ns
 induction ns with
 | nil=>intro vs w;rw[KN] at w;cases w;exact .nil
 | cons n ns ih =>
  intro vs w;rw[Qq] at w
  cases w with
  | cons a b=>cases a;exact .cons _ _ (ih _ b)

theorem Zs{l:OpenLaw}{n:Nat}(hn:l.most=some n){P:Params}{h:Heap}{args:List WData}{vals:List Value}
 (hpre:l.row.toRowW.claim.pre args=true) (hwl:WellAll P h vals args) :
 ∃a vs ns,vals=[Value.ref a]/\args=[WData.list (ns.map WData.int)]/\h.get? a=some { cls:=.type "list",data:=.seq vs.toArray }/\IntsAre vs ns/\ns.length<=n:=by
 have hsh:WShape.hasAll [] args [.list .int]=true:=(pre_splitW hpre).1
 have hc:l.pre.holds [] { args:=args }=true:=(pre_splitW hpre).2;obtain⟨d,r,rfl,h1,h2⟩:=hasAllW_cons hsh;obtain rfl:=hasAllW_nil h2;obtain⟨xs,rfl,h3⟩:=hasW_list h1;obtain⟨ns,rfl⟩:=items_int h3
 have hlen:ns.length<=n:=by
  unfold OpenLaw.pre at hc
  have h4:(WTm.not (.lt (.lit (.int (n:Int))) (.len (.arg 0)))).holds [] { args:=[.list (ns.map .int)] }=true:=by have h4:=(holds_andW hc).1;rw[hn] at h4;exact h4
  have h5:=condW_of h4 (w_not (w_lt w_lit (w_len_list (w_arg rfl))));rw[Qx] at h5;refine Nat.le_of_not_lt fun q=>?_
  have q':(n:Int)<((ns.length:Nat):Int):=by omega
  first
   | (rw[decide_eq_true q'] at h5;exact absurd h5 (by decide))
   | (simp at h5;omega)
 cases hwl with
 | cons w1 w2 =>
  cases w2
  cases w1 with
  | list ho hall=>exact⟨_,_,ns,rfl,rfl,ho,Y9 ns _ hall,hlen⟩

theorem Zq(l:OpenLaw)(args:List WData):l.row.toRowW.claim.post args (.bool true) args=true :=
 postW_of (r:=l.row.toRowW) (X:=(true == true))
  (show WShape.has [] (.bool true) .bool=true by first|rfl|decide|simp[WShape.has,WShape.arms,WShape.armsAll])
  (show(WTm.eq .res (.lit (.bool true))).value [] { args:=args,res:=some (.bool true),after:=args }=some (.bool (true == true)) from w_eq_bool (w_res rfl) w_lit) rfl

theorem attach_call{l:OpenLaw}{n:Nat}{q:Program}{loose:List Str}{XP:(Str->Option Value)->Heap->Prop}{YP:World->Heap->Prop}{d:DefRec}
 (hn:l.most=some n) (hdf:d.params.defaults=[])
 (call:∀(w:World) (s₀ s₁:Shared) (mg mb:Str->Option Value) (fa:Addr) (o:Obj) (pm cd doc:Value) (a:Addr) (vs:List Value) (ns:List Int),
  Ground q loose [] XP w s₀ mg mb s₁.heap->YP w s₁.heap ->
  s₁.heap.get? fa=some o->o.data=.func (docDef d.name d.params d.body d.scope pm cd doc)->s₁.heap.CodeRec cd d.name->mg d.name=some (.ref fa) ->
  s₁.heap.get? a=some { cls:=.type "list",data:=.seq vs.toArray }->IntsAre vs ns->ns.length<=n->s₁.gens=#[] ->
  codeAny (model l.prog w) callerA (.call (.ref fa) ⟨[.ref a],[]⟩) (fun r s'=>r=.ok (.ret (.bool true))/\OldK s₁.heap s'.heap/\s'.os=s₁.os/\AllBare s'.gens) s₁) :
 WalkO q loose XP YP l.row.toRowW d [] (fun f vs=>PySem.call f vs):=by
 intro w s₀ s₁ mg mb G Y fa o pm cd doc dV kV ho hd hcd hD hmg hg args vals as hpre hlay hrd hwl hlo;obtain rfl:dV=.none:=Dflts.none hD hdf;obtain rfl:kV=.none:=Dflts.noKw hD;obtain⟨a,vs,ns,rfl,rfl,hobj,hints,hlen⟩:=Zs hn hpre hwl;refine enter_call (GU (call w s₀ s₁ mg mb fa o pm cd doc a vs ns G Y ho (fd_plain hd) hcd hmg hobj hints hlen hg) fun r s' hq=>?_);obtain⟨rfl,h2,h3,h4⟩:=hq;exact⟨.inl ⟨.bool true,.bool true,[],rfl,fun _=>rfl,.bool true,Zq l _,fun _=>⟨List.Pairwise.nil,fun _ hm=>(nomatch hm)⟩⟩,h2,h3,h4⟩

section
variable{prog:Program}{w:World}{A:Around}{E:Value->Shared->Prop}{s:Shared}{K:Frag}

end
end Att

namespace L2
open PySem PySem.Spec PyProof.Rows

theorem UX:∀{vs:List Value} {ns:List Int},IntsAre vs ns->Vals (ns.map V.int) vs
 | _,_,.nil=>.nil
 | _,_,.cons n t h=>.cons ⟨t,rfl⟩ (UX h)

noncomputable def JcY(H:Hp):Prop:=∀b,H b=none\/∃o xs,H b=some (.frz o (.lst xs))

theorem Jao{P:Program}{w:World}{K:Frag}{mg mb:Str->Option Value}{CX:CXT}{k:Nat}{fa a:Addr}{fd:FuncData}{x:Str}{sp:Sp}{s₁:Shared}{vs:List Value}{ns:List Int}
 (KX:K.In s₁.heap) (hns:s₁.heap.Ns mainGlobals mg) (hb:s₁.heap.Ns builtinsNs mb) (hbb:∀x:Str,x≠"__name__"->mb x=bootBuiltins x) (hlim:s₁.heap.NoLimit) (hg:s₁.gens=#[])
 (ha:s₁.heap.get? a=some { cls:=.type "list",data:=.seq vs.toArray }) (hi:IntsAre vs ns) (hl:ns.length<=sizeLine) (hr:Room k callerA)
 (F:∀base:Heap,K.In base->base.Ns mainGlobals mg->FnOk P w K mg base CX k fa fd [x] sp) (hbind:∀(s:Shared) (u:Value),BindsTo s fd ⟨[u],[]⟩ [(x,u)])
 (hsp:∀H:Hp,JcY H->SqL K H a (ns.map V.int)->sp [.ref a] H (fun v _=>v=.bl true) fun _ _ _=>False)
 (hCX:∀H e s',CX [] H s₁ (fun _ _ _=>False) e s'->False) :
 codeAny (model P w) callerA (.call (.ref fa) ⟨[.ref a],[]⟩) (fun r s'=>r=.ok (.ret (.bool true))/\OldK s₁.heap s'.heap/\s'.os=s₁.os/\AllBare s'.gens) s₁:=by
 have rv:=UX hi
 have lenV:=hi.length
 -- from an abstract heap in which nothing but the script may be tracked
 have core:∀H:Hp,JcY H->SqL K H a (ns.map V.int)->HOk P w H s₁.heap->(∀b,H b≠none->b=a)->(H a≠none->K.lookup a=none) ->
  codeAny (model P w) callerA (.call (.ref fa) ⟨[.ref a],[]⟩) (fun r s'=>r=.ok (.ret (.bool true))/\OldK s₁.heap s'.heap/\s'.os=s₁.os/\AllBare s'.gens) s₁:=by
  intro H hO hS hok hA hK;have base_of:∀{b:Addr} {o:Obj},s₁.heap.get? b=some o->H b=none->(U5 s₁.heap H).get? b=some o:=fun e n=>Jaf e n
  have noA:∀{b:Addr} {o:Obj} {es:Array DictEntry} {ep:Nat},s₁.heap.get? b=some o->o.data=.dict es ep->H b=none:=fun {b o es ep} e d=>by
   cases q:H b with
   | none=>rfl
   | some u =>
    have e':b=a:=hA b (by rw[q];simp);subst e';rw[ha] at e;cases e
    have d':Data.seq vs.toArray _=Data.dict es ep:=d;cases d'
  have nsK:∀{b:Addr} {m:Str->Option Value},s₁.heap.Ns b m->(U5 s₁.heap H).Ns b m:=fun {b m} ⟨o,es,ep,e,d,r⟩=>⟨o,es,ep,base_of e (noA e d),d,r⟩
  have hKb:K.In (U5 s₁.heap H):=fun b o e=>base_of (KX b o e) (by
   cases q:H b with
   | none=>rfl
   | some u=>have e':b=a:=hA b (by rw[q];simp);subst e';rw[hK (by rw[q];simp)] at e;cases e)
  have hM:Mod K mg (U5 s₁.heap H):=⟨hKb,nsK hns,⟨mb,nsK hb,hbb⟩,let ⟨mc,h1,h2⟩:=hlim;⟨mc,nsK h1,h2⟩⟩
  have e0:Env0 P w K mg (U5 s₁.heap H) callerA [] s₁ H:=⟨rfl,hM,fun b o e=>JbP e,KJ (W7 _ _),trivial,fun b hb=>absurd (show b∈([]:List Addr) from hb) (by simp),hok,.of_eq hg⟩
  refine GU ((F _ hKb (nsK hns)).run callerA [] s₁ H ⟨[.ref a],[]⟩ [.ref a] [.ref a] _ _ hr e0 (hbind s₁ (.ref a)) (.cons rfl .nil) (hsp H hO hS)) fun r s' h=>?_
  cases r with
  | error e=>exact(hCX H e s' h).elim
  | ok fl =>
   cases fl with
   | next=>exact Q8 h
   | brk=>exact Q8 h
   | cont=>exact Q8 h
   | ret u =>
    obtain⟨v,H',os,bare,un,hok',r',q⟩:=h;have q':v=.bl true:=q;subst q';obtain rfl:u=Value.bool true:=r';refine⟨rfl,OldK.of_keep fun b o e=>?_,os,bare⟩
    cases q:H b with
    | none=>exact un.keep b o e q (by intro z;exact absurd (show b∈([]:List Addr) from z) (by simp)) (by simp)
    | some u =>
     rcases hO b with z|⟨ob,xs,z⟩
     ·rw[q] at z;cases z
     ·have z2:=un.frzs b ob _ z;obtain⟨e1,_⟩:=hok b _ z;obtain⟨e2,_⟩:=hok' b _ z2;rw[e] at e1;cases e1;exact e2
 cases hk:K.lookup a with
 | some o =>
  -- the script is one of the module's own objects
  have e:=KX a o hk;rw[ha] at e;cases e;refine core (fun _=>none) (fun _=>.inl rfl) (.inr ⟨_,vs.toArray,_,hk,rfl,rfl,rfl,by rw[Qk,lenV];exact hl,by simpa using rv⟩) (fun b u z=>by have z':(none:Option HO)=some u:=z;cases z') (fun b z=>absurd rfl z) fun z=>absurd rfl z
 | none =>
  refine core (fun b=>if b=a then some (.frz { cls:=.type "list",data:=.seq vs.toArray } (.lst (ns.map V.int))) else none) (fun b=>?_) (.inl (.inr ⟨{ cls:=.type "list",data:=.seq vs.toArray },if_pos rfl⟩)) (fun b u z=>?_) (fun b z=>?_) fun _=>hk
  ·by_cases hb:b=a
   ·exact .inr ⟨_,_,if_pos hb⟩
   ·exact .inl (if_neg hb)
  ·by_cases hb:b=a
   ·have z':=(if_pos hb).symm.trans z;cases z';subst hb;exact⟨ha,by rw[Qx];exact hl,vs,_,rv,ha⟩
   ·have z':=(if_neg hb).symm.trans z;cases z'
  ·by_cases hb:b=a
   ·exact hb
   ·exact absurd (if_neg hb) z
end L2

namespace L2
open PySem PySem.Spec PyProof.Rows

theorem Jcz{l:PySem.W.OpenLaw}{n k:Nat}{q:Program}{loose:List Str}{XP:(Str->Option Value)->Heap->Prop}{YP:World->Heap->Prop}{d:DefRec}{K:Params->Frag}{CX:World->CXT}{sp:World->Sp}{x:Str}
 (hn:l.most=some n) (hn2:n<=sizeLine) (hdf:d.params.defaults=[]) (hr:Room k callerA)
 (hY:∀(w:World) (h:Heap),YP w h->(K w.params).In h)
 (F:∀(w:World) (mg:Str->Option Value) (fa:Addr) (h:Heap),(K w.params).In h->h.Ns mainGlobals mg->mg d.name=some (.ref fa) ->
  ∃fd:FuncData,(∀(s:Shared) (u:Value),BindsTo s fd ⟨[u],[]⟩ [(x,u)]) ∧
   ∀base:Heap,(K w.params).In base->base.Ns mainGlobals mg->FnOk l.prog w (K w.params) mg base (CX w) k fa fd [x] (sp w))
 (hsp:∀(w:World) (H:Hp) (a:Addr) (ns:List Int),ns.length<=n->JcY H->SqL (K w.params) H a (ns.map V.int)->sp w [.ref a] H (fun v _=>v=.bl true) fun _ _ _=>False)
 (hCX:∀(w:World) (H:Hp) (s:Shared) (e:Value) (s':Shared),CX w [] H s (fun _ _ _=>False) e s'->False) :
 PySem.W.WalkO q loose XP YP l.row.toRowW d [] (fun f vs=>PySem.call f vs):=by
 refine Att.attach_call hn hdf fun w s₀ s₁ mg mb fa o pm cd doc a vs ns G Y ho hd hcd hmg hobj hints hlen hg=>?_
 have KX:=hY w _ Y;obtain⟨fd,hb,hF⟩:=F w mg fa _ KX G.T.g hmg;exact Jao KX G.T.g G.T.b G.T.builtins G.T.nolimit hg hobj hints (QA hlen hn2) hr hF hb (fun H hO hS=>hsp w H a ns hlen hO hS) fun H e s'=>hCX w H s₁ e s'
end L2

namespace L2
open PySem PySem.Spec PyProof.Rows

noncomputable def Jr(s:Stmt):Arguments:=match s with
 | .FunctionDef _ a _ _ _ _ _ _ _ _=>a
 | _=>{ posonlyargs:=[],args:=[],vararg:=none,kwonlyargs:=[],kw_defaults:=[],kwarg:=none,defaults:=[] }
noncomputable def Jq(s:Stmt):List Stmt:=match s with
 | .FunctionDef _ _ b _ _ _ _ _ _ _=>b
 | _=>[]
noncomputable def Jc(s:Stmt):Scope:=match s with
 | .FunctionDef _ _ _ _ _ _ sc _ _ _=>sc
 | _=>{ kind:=.function,names:=[],isGenerator:=false,isCoroutine:=false }

noncomputable abbrev CX0:CXT:=fun _ _ _ _ _ _=>False
noncomputable abbrev E0:XK:=fun _ _ _=>False
theorem JfR{X:Cx}:V0 CX0 X E0:=fun _ _ _ _ _ _ _ h=>h.elim

structure Fun (K:Frag) (x qual:Str) (st:Stmt) (f:Addr) (fd:FuncData):Prop where
 ex:∃(oc:Value) (od:Option Addr) (kV doc pm:Value) (an:Option Addr) (cdv ct:Value) (osl:Array (Option Value)),
  fd=fnOf x qual (Jr st) (Jq st) (Jc st) .none kV doc pm an cdv ct/\K.lookup f=some ⟨oc,od,.func fd,osl⟩/\codeIn K cdv qual=true
 kp:keepIn K (.ref f)=true
section
variable{P:Program}{w:World}{K:Frag}{mg:Str->Option Value}{base:Heap}
theorem Fun.ok{x qual:Str}{st:Stmt}{f:Addr}{fd:FuncData}{N ps:List Str}{k:Nat}{sp:Sp}(F:Fun K x qual st f fd)(S:FnScope N ps (Jc st))(len:∀vs H Q E,sp vs H Q E->vs.length=ps.length)
 (hbody:∀(cdv:Value) (A:Around) (outer:List Env) (s:Shared) (H:Hp) (vs:List V) (Q:VK) (E:XK),Room k (A.deeper (envOfC qual (Jc st) s.heap.objs.size f cdv))->sp vs H Q E ->
  ∃t,PSs (W3 CX0 P w K mg base N qual (Jc st) f cdv A outer s H E).nox (Jq st) t/\t { nx:=fun _ H'=>Q .non H',rt:=Q } (Ym N vs) H):FnOk P w K mg base CX0 (k+1) f fd ps sp:=by
 obtain⟨oc,od,kV,doc,pm,an,cdv,ct,osl,rfl,lk,hcd⟩:=F.ex;refine Jfw lk hcd S len fun A outer s H vs Q E hr hsp=>?_
 obtain⟨t,h,q⟩:=hbody cdv A outer s H vs Q E hr hsp;exact⟨t,h.nox,q⟩
theorem Fun.binds{x qual:Str}{st:Stmt}{f:Addr}{fd:FuncData}{ps:List Str}(F:Fun K x qual st f fd)
 (h:∀(kV doc pm:Value) (an:Option Addr) (cdv ct:Value) (us:List Value),us.length=ps.length->bindArgs (fnOf x qual (Jr st) (Jq st) (Jc st) .none kV doc pm an cdv ct) ⟨us,[]⟩=pure (ps.zip us)):Binds K fd ps []:=by
 obtain⟨oc,od,kV,doc,pm,an,cdv,ct,osl,rfl,lk,hcd⟩:=F.ex;exact .all (h kV doc pm an cdv ct)
theorem JX{x qual:Str}{st:Stmt}{f:Addr}{oc:Value}{od an:Option Addr}{osl:Array (Option Value)}{kV doc pm cdv ct:Value}(l:K.lookup f=some ⟨oc,od,.func (fnOf x qual (Jr st) (Jq st) (Jc st) .none kV doc pm an cdv ct),osl⟩)
 (c:codeIn K cdv qual=true) (k:keepIn K (.ref f)=true):Fun K x qual st f (fnOf x qual (Jr st) (Jq st) (Jc st) .none kV doc pm an cdv ct):=⟨⟨oc,od,kV,doc,pm,an,cdv,ct,osl,rfl,l,c⟩,k⟩
end
section
variable{X:Cx}
theorem pv(i:Nat){x:Str}{pos:Pos}(hN:X.N[i]?=some x:=by rfl)(hv:Vis X.env.scope x:=by first | exact Or.inl rfl | exact Or.inr (.inl rfl) | exact Or.inr (.inr rfl))(hd:(x == ("__debug__":Str))=false:=by decide)
 (hcd:(x == ("__classdict__":Str))=false:=by decide):PE X (.Name x pos) (Wg i):=Jd9 hN hv hd hcd
end

noncomputable def Same(H H':Hp):Prop:=∀b o,H b=some o->H' b=some o
theorem Same.refl(H:Hp):Same H H:=fun _ _ h=>h
theorem Same.trans{H H1 H2:Hp}(a:Same H H1)(b:Same H1 H2):Same H H2:=fun c o h=>b c o (a c o h)
theorem Same.free{H H':Hp}(e:Same H H'){l:Addr}(h:H' l=Option.none):H l=Option.none:=by
 cases q:H l with
 | none=>rfl
 | some o=>rw[e l o q] at h;cases h
theorem Same.seq{K:Frag}{H H':Hp}{a:Addr}{xs:List V}(e:Same H H')(h:SqL K H a xs):SqL K H' a xs:=by
 rcases h with (h|⟨o,h⟩)|h
 ·exact .inl (.inl (e _ _ h))
 ·exact .inl (.inr ⟨o,e _ _ h⟩)
 ·exact .inr h

end L2

namespace L2
open PySem PySem.Spec PyProof.Rows

section
variable{κ:Type}[DecidableEq κ]
noncomputable def Ua(kvs:List (κ×V))(k:κ):Option V:=(kvs.find? fun kv=>decide (kv.1=k)).map (·.2)
noncomputable def VM(kvs:List (κ×V))(k:κ)(v:V):List (κ×V) :=
 if (kvs.any fun kv=>decide (kv.1=k))=true then kvs.map (fun kv=>if kv.1=k then(kv.1,v) else kv) else kvs++[(k,v)]
noncomputable def JcF(kvs:List (κ×V))(k:κ):List (κ×V):=kvs.filter fun kv=>decide (kv.1≠k)

theorem UB{p:κ×V}{r:List (κ×V)}{k:κ}(e:p.1=k):Ua (p::r) k=some p.2:=by simp[Ua,Gy,e]
theorem UA{p:κ×V}{r:List (κ×V)}{k:κ}(e:¬p.1=k):Ua (p::r) k=Ua r k:=by simp[Ua,Gy,e]
theorem VZ(k:κ):∀kvs:List (κ×V),(kvs.any fun kv=>decide (kv.1=k))=(Ua kvs k).isSome
 | []=>rfl
 | p::r=>by
  rw[G2]
  by_cases e:p.1=k
  ·simp only[UB e,decide_eq_true e,Bool.true_or,Option.isSome_some]
  ·rw[UA e,decide_eq_false e,Bool.false_or];exact VZ k r
theorem RelO.isSome_eq{o:Option V}{u:Option Value}(r:RelO o u):o.isSome=u.isSome:=by
 cases o with
 | none=>cases u with
  | none=>rfl
  | some _=>exact(show False from r).elim
 | some _=>cases u with
  | none=>exact(show False from r).elim
  | some _=>rfl
theorem RelO.getD{o:Option V}{u:Option Value}{d:V}{d':Value}(r:RelO o u)(rd:RelV d d'):RelV (o.getD d) (u.getD d'):=by
 cases o with
 | none=>cases u with
  | none=>exact rd
  | some _=>exact(show False from r).elim
 | some _=>cases u with
  | none=>exact(show False from r).elim
  | some _=>exact r

theorem KV.val{kvs:List (κ×V)}{vs:List (κ×Value)}(r:KV kvs vs)(k:κ):RelO (Ua kvs k) (valueAt vs k):=by
 unfold KV at r
 induction r with
 | nil=>exact True.intro
 | @cons p q ps qs h t ih =>
  obtain⟨h1,h2⟩:=h
  by_cases e:p.1=k
  ·have e':q.1=k:=h1.symm.trans e
   have b:valueAt (q::qs) k=some q.2:=by simp[valueAt,Gy,e']
   rw[UB e,b];exact h2
  ·have e':¬q.1=k:=fun z=>e (h1.trans z)
   have b:valueAt (q::qs) k=valueAt qs k:=by simp[valueAt,Gy,e']
   rw[UA e,b];exact ih
theorem KV.any{kvs:List (κ×V)}{vs:List (κ×Value)}(r:KV kvs vs)(k:κ):(kvs.any fun kv=>decide (kv.1=k))=vs.any fun kv=>decide (kv.1=k):=by
 unfold KV at r
 induction r with
 | nil=>rfl
 | cons h t ih=>rw[G2,G2,ih,h.1]
theorem KV.repl{kvs:List (κ×V)}{vs:List (κ×Value)}(r:KV kvs vs)(k:κ){y:V}{u:Value}(ry:RelV y u) :
 KV (kvs.map fun kv=>if kv.1=k then(kv.1,y) else kv) (vs.map fun kv=>if kv.1=k then(kv.1,u) else kv):=by
 unfold KV at r ⊢
 induction r with
 | nil=>exact .nil
 | @cons p q ps qs h t ih =>
  rw[Qq,Qq];refine .cons ?_ ih;obtain⟨h1,h2⟩:=h
  by_cases e:p.1=k
  ·rw[if_pos e,if_pos (h1.symm.trans e)];exact⟨h1,ry⟩
  ·rw[if_neg e,if_neg (fun z=>e (h1.trans z))];exact⟨h1,h2⟩
theorem KV.put{kvs:List (κ×V)}{vs:List (κ×Value)}(r:KV kvs vs)(k:κ){y:V}{u:Value}(ry:RelV y u):KV (VM kvs k y) (stored vs k u):=by
 unfold VM stored;rw[r.any k]
 by_cases e:(vs.any fun kv=>decide (kv.1=k))=true
 ·rw[if_pos e,if_pos e];exact r.repl k ry
 ·rw[if_neg e,if_neg e];exact Paired.snoc r ⟨rfl,ry⟩
theorem KV.drop{kvs:List (κ×V)}{vs:List (κ×Value)}(r:KV kvs vs)(k:κ):KV (JcF kvs k) (without vs k):=by
 unfold KV at r ⊢;unfold JcF without
 induction r with
 | nil=>exact .nil
 | @cons p q ps qs h t ih =>
  obtain⟨h1,h2⟩:=h;rw[List.filter_cons,List.filter_cons]
  by_cases e:p.1=k
  ·have a:¬decide (p.1≠k)=true:=by simp[e]
   have b:¬decide (q.1≠k)=true:=by simp[h1.symm.trans e]
   rw[if_neg a,if_neg b];exact ih
  ·have e':¬q.1=k:=fun z=>e (h1.trans z)
   have a:decide (p.1≠k)=true:=by simp[e]
   have b:decide (q.1≠k)=true:=by simp[e']
   rw[if_pos a,if_pos b];exact .cons ⟨h1,h2⟩ ih
theorem KV.keys{kvs:List (κ×V)}{vs:List (κ×Value)}(r:KV kvs vs):kvs.map (·.1)=vs.map (·.1):=by
 unfold KV at r
 induction r with
 | nil=>rfl
 | cons h t ih=>rw[Qq,Qq,ih,h.1]
theorem KV.length{kvs:List (κ×V)}{vs:List (κ×Value)}(r:KV kvs vs):kvs.length=vs.length:=La r
end

noncomputable abbrev KT(H:Hp):List (List Key×V)->List (List Key×Addr×Value)->Prop:=Paired fun p q=>p.1=q.1/\H q.2.1=some (.tup (p.1.map kV))/\RelV p.2 q.2.2
theorem KT.val{H:Hp}{kvs:List (List Key×V)}{xs:List (List Key×Addr×Value)}(r:KT H kvs xs)(k:List Key):RelO (Ua kvs k) ((atKey xs k).map (·.2)):=by
 induction r with
 | nil=>exact True.intro
 | @cons p q ps qs h t ih =>
  obtain⟨h1,_,h2⟩:=h
  by_cases e:p.1=k
  ·have e':q.1=k:=h1.symm.trans e
   have b:atKey (q::qs) k=some q.2:=by simp[atKey,Gy,e']
   rw[UB e,b];exact h2
  ·have e':¬q.1=k:=fun z=>e (h1.trans z)
   have b:atKey (q::qs) k=atKey qs k:=by simp[atKey,Gy,e']
   rw[UA e,b];exact ih
theorem KT.repl{H:Hp}{kvs:List (List Key×V)}{xs:List (List Key×Addr×Value)}(r:KT H kvs xs)(k:List Key){y:V}{u:Value}(ry:RelV y u) :
 KT H (kvs.map fun kv=>if kv.1=k then(kv.1,y) else kv) (xs.map (putAt k u)):=by
 induction r with
 | nil=>exact .nil
 | @cons p q ps qs h t ih =>
  rw[Qq,Qq];refine .cons ?_ ih;obtain⟨h1,h2,h3⟩:=h;unfold putAt
  by_cases e:p.1=k
  ·rw[if_pos e,if_pos (h1.symm.trans e)];exact⟨h1,h2,ry⟩
  ·rw[if_neg e,if_neg (fun z=>e (h1.trans z))];exact⟨h1,h2,h3⟩
theorem KT.put{H:Hp}{kvs:List (List Key×V)}{xs:List (List Key×Addr×Value)}(r:KT H kvs xs)(k:List Key){b:Addr}{y:V}{u:Value}(hb:H b=some (.tup (k.map kV)))(ry:RelV y u) :
 KT H (VM kvs k y) (storedH xs k b u):=by
 have e:(kvs.any fun kv=>decide (kv.1=k))=(atKey xs k).isSome:=by rw[VZ,(r.val k).isSome_eq,Option.isSome_map]
 unfold VM storedH;rw[e]
 by_cases q:(atKey xs k).isSome=true
 ·rw[if_pos q,if_pos q];exact r.repl k ry
 ·rw[if_neg q,if_neg q];exact Paired.snoc r ⟨rfl,hb,ry⟩
theorem KT.keeps{H H':Hp}{kvs:List (List Key×V)}{xs:List (List Key×Addr×Value)}(r:KT H kvs xs)(ht:∀b ys,H b=some (.tup ys)->H' b=some (.tup ys)):KT H' kvs xs :=
 Paired.mapP r fun _ _ z=>⟨z.1,ht _ _ z.2.1,z.2.2⟩

section
variable{P:Program}{w:World}{H:Hp}{h:Heap}{a:Addr}
end

noncomputable def DGet(H:Hp)(a:Addr)(y:V)(r:Option V):Prop :=
 (∃kvs k,Rd H a (.dK kvs)/\y=kV k/\r=Ua kvs k)\/∃kvs k b,Rd H a (.dT kvs)/\y=.ref b/\H b=some (.tup (k.map kV))/\r=Ua kvs k
noncomputable def DPut(H:Hp)(a:Addr)(y v:V)(H':Hp):Prop :=
 (∃kvs k,H a=some (.dK kvs)/\y=kV k/\kvs.length<sizeLine/\H'=upd H a (.dK (VM kvs k v))) ∨
 ∃kvs k b,H a=some (.dT kvs)/\y=.ref b/\H b=some (.tup (k.map kV))/\kvs.length<sizeLine/\H'=upd H a (.dT (VM kvs k v))
theorem DGet.k{H:Hp}{a:Addr}{kvs:List (Key×V)}{k:Key}(e:H a=some (.dK kvs)):DGet H a (kV k) (Ua kvs k):=.inl ⟨kvs,k,.inl e,rfl,rfl⟩
theorem DGet.t{H:Hp}{a b:Addr}{kvs:List (List Key×V)}{k:List Key}(e:H a=some (.dT kvs))(eb:H b=some (.tup (k.map kV))):DGet H a (.ref b) (Ua kvs k):=.inr ⟨kvs,k,b,.inl e,rfl,eb,rfl⟩
theorem DPut.k{H:Hp}{a:Addr}{kvs:List (Key×V)}{k:Key}{v:V}(e:H a=some (.dK kvs))(hl:kvs.length<sizeLine):DPut H a (kV k) v (upd H a (.dK (VM kvs k v))):=.inl ⟨kvs,k,e,rfl,hl,rfl⟩
theorem DPut.t{H:Hp}{a b:Addr}{kvs:List (List Key×V)}{k:List Key}{v:V}(e:H a=some (.dT kvs))(eb:H b=some (.tup (k.map kV)))(hl:kvs.length<sizeLine) :
 DPut H a (.ref b) v (upd H a (.dT (VM kvs k v))):=.inr ⟨kvs,k,b,e,rfl,eb,hl,rfl⟩

section
variable{X:Cx}{pins:List (Addr×Obj)}{σ:St}{H:Hp}{s:Shared}{a:Addr}{y v:V}{u r:Value}{o:Option V}{A:Around}{E:Value->Shared->Prop}

end

section
variable{X:Cx}{pins:List (Addr×Obj)}{σ:St}{H:Hp}{s:Shared}{a:Addr}{kvs:List (Key×V)}{k:Key}{u:Value}{A:Around}{E:Value->Shared->Prop}
end

section
variable{X:Cx}{o i e value:Expr}{pos pos' tpos:Pos}{td ty tv:TE}
end

section
variable{X:Cx}{pos:Pos}
end

structure M1 (X:Cx) (o:Expr) (m:Str) (apos:Pos) (e:Expr) (cpos:Pos):Prop where
 base:attributeBase o m X.env (eval o X.env)=eval o X.env
 few:((backTo cpos (starEach [e] X.env)).all (fun x=>!x.1) && (backToKw cpos (keywordEach [] X.env)).all (fun x=>x.1.isSome)
  && decide (([e]:List Expr).length+([]:List Keyword).length+(if ([]:List Keyword).isEmpty then 0 else 1)<30))=true
 line:(apos.endLine == cpos.line)=true
 trees:backTo cpos (starEach [e] X.env)=[(false,eval e X.env)]
structure M2 (X:Cx) (o:Expr) (m:Str) (apos:Pos) (e f:Expr) (cpos:Pos):Prop where
 base:attributeBase o m X.env (eval o X.env)=eval o X.env
 few:((backTo cpos (starEach [e,f] X.env)).all (fun x=>!x.1) && (backToKw cpos (keywordEach [] X.env)).all (fun x=>x.1.isSome)
  && decide (([e,f]:List Expr).length+([]:List Keyword).length+(if ([]:List Keyword).isEmpty then 0 else 1)<30))=true
 line:(apos.endLine == cpos.line)=true
 trees:backTo cpos (starEach [e,f] X.env)=[(false,eval e X.env),(false,eval f X.env)]

section
variable{X:Cx}{pins:List (Addr×Obj)}{σ:St}{H:Hp}{s:Shared}{a:Addr}{y d:V}{u r:Value}{o:Option V}{A:Around}{E:Value->Shared->Prop}
end

section
variable{X:Cx}{o e f:Expr}{apos cpos:Pos}{td ty tx:TE}
end

section
variable{X:Cx}{pins:List (Addr×Obj)}{σ:St}{H:Hp}{s:Shared}{a:Addr}{kvs:List (Key×V)}{A:Around}{E:Value->Shared->Prop}
end

section
variable{X:Cx}{pins:List (Addr×Obj)}{σ:St}{H:Hp}{s:Shared}{a:Addr}{y:V}{u:Value}{A:Around}{E:Value->Shared->Prop}
end
end L2
namespace L2
open PySem PySem.Spec PyProof.Rows

noncomputable def JcZ(X:Cx)(ifs:List Expr)(t:TT):Prop :=
 ∀(pins:List (Addr×Obj)) (s:Shared) (σ:St) (H:Hp) (Q:Bool->Hp->Prop),Inv X pins σ H s->t σ H Q ->
  wpAny (model X.prog X.w) X.A (forIn ifs true fun c r=>if r=true then do let ok <- isTrue c X.env (eval c X.env);pure (ForInStep.yield ok) else pure (ForInStep.yield r)) (TP X pins σ Q) X.xe s
noncomputable def Je2:TT:=fun _ H Q=>Q true H
theorem YM{X:Cx}:JcZ X [] Je2:=fun _ _ _ H _ I h=>wpAny_tests_nil ⟨H,I,h⟩
noncomputable def blk(X:Cx)(sc:Scope)(cl:List (Str×Addr))(N':List Str)(C:Addr)(s:Shared)(H:Hp)(fp:List Addr):Cx where
 prog:=X.prog
 w:=X.w
 K:=X.K
 mg:=X.mg
 base:=X.base
 A:=X.A
 N:=N'
 s₀:=s
 H₀:=H
 env:=compEnvC sc cl C X.env
 outer:=X.stack
 stack:=X.stack
 ex:=fp
 fn:=fun _=>false
 calm:=X.calm
 pn:=[]
 xe:=fun _ _=>False

noncomputable def Vt(imp:List (Option Nat))(σ:St):St:=imp.map fun o=>match o with
 | none=>none
 | some k=>(σ[k]?).join

structure Blk (X:Cx) (sc:Scope) (cl:List (Str×Addr)) (N':List Str) (imp:List (Option Nat)):Prop where
 clos:closureFor sc X.env=pure cl
 kind:sc.kind=.function
 nocell:∀y∈sc.names,y.2≠.cell
 names:∀y∈sc.names,y.2=.local->sc.names.lookup y.1=some .local
 sub:∀p∈cl,X.env.cells.lookup p.1=some p.2
 has:∀y∈(relabel sc X.env).names,(y.2=.cell\/y.2=.free)->(cl.lookup y.1).isSome=true
 len:imp.length=N'.length
 im:∀p∈imp.zip N',∀k,p.1=some k->X.N[k]?=some p.2/\(X.env.scope.names.lookup p.2=some .cell\/X.env.scope.names.lookup p.2=some .free)/\((relabel sc X.env).names.lookup p.2=some .cell\/(relabel sc X.env).names.lookup p.2=some .free)

noncomputable def JcS(wi:TI)(g:TG)(tt:TT)(te:TE)(imp:List (Option Nat)):TE:=fun σ H Q=>wi σ H fun J H1=>∃W:Nat->Nat->List V->St->Hp->Prop,(∃m,W 0 m [] (Vt imp σ) H1)/\∀i m ys σ' H',W i m ys σ' H' ->
 (J.stop i H'/\ys.length<=sizeLine/\∀D,H' D=none->Q (.ref D) (upd H' D (.lst ys))) ∨
 (J.go i H'/\ys.length<sizeLine/\∃N:List V->St->Hp->Prop,(∀ys' σ2 H2,N ys' σ2 H2->∃m',m'<m/\W (i+1) m' ys' σ2 H2) ∧
  ∀x H2,J.yld i H' x H2->g x σ' H2 fun σ2 H3=>tt σ2 H3 fun b H4=>if b=true then te σ2 H4 fun y H5=>N (ys++[y]) σ2 H5 else N ys σ2 H4)

section
variable{P:Program}{w:World}{H:Hp}{h h':Heap}
theorem HOk.sameBut{C:Addr}(x:HOk P w H h)(hC:H C=none)(k:∀b o,b≠C->h.get? b=some o->h'.get? b=some o):HOk P w H h':=fun a o e =>
 (x a o e).stay (fun b u hb q=>k b u (by
  rintro rfl;rcases hb with z|z
  ·rw[<- z,hC] at e;cases e
  ·rw[hC] at z;cases z) q) (fun _ q=>q) fun _ _ q=>q
theorem HOk.track{D:Addr}{o:HO}(x:HOk P w H h)(hD:H D=none)(new:ObjOk P w (upd H D o) h D o):HOk P w (upd H D o) h:=fun b u e=>by
 by_cases hb:b=D
 ·subst hb;rw[Ju] at e;cases e;exact new
 ·rw[Jd hb] at e;exact(x b u e).stay (fun c v _ q=>q) (fun c q=>by rw[Jd (Jl q hD)];exact q) fun c xs q=>by rw[Jd (Jl q hD)];exact q
end

theorem Yh{α:Type}{x:Str}{c:α}:∀{l:List (Str×α)},l.lookup x=some c->(x,c)∈l:=fun h=>Q5 h

section
variable{X:Cx}{tg iter elt:Expr}{ifs:List Expr}{sc:Scope}{cl:List (Str×Addr)}{N':List Str}{imp:List (Option Nat)}{pos:Pos}{wi:TI}{g:TG}{tt:TT}{te:TE}

theorem Blk.subL(B:Blk X sc cl N' imp):∀x c,cl.lookup x=some c->X.env.cells.lookup x=some c:=fun x c e=>B.sub (x,c) (Yh e)

theorem Jbd{pins:List (Addr×Obj)}{σ:St}{H:Hp}{s:Shared}{fp:List Addr}{h₁:Heap}{C:Addr}(B:Blk X sc cl N' imp)(I:Inv X pins σ H s)(hf:∀b∈fp,FpOk X pins H b)(hfo:∀b∈fp,∃o,s.heap.get? b=some o)
 (hC:s.heap.objs.size<C) (old:∀b o,s.heap.get? b=some o->h₁.get? b=some o) (ns:h₁.Ns C fun _=>none) :
 Inv (blk X sc cl N' C s H fp) [] (Vt imp σ) H { s with heap:=h₁,toks:=s.toks }:=by
 have hlt:∀b∈fp,b<s.heap.objs.size:=fun b hb=>let ⟨_,e⟩:=hfo b hb;Qf e
 have clt:∀x c,X.env.cells.lookup x=some c->c<s.heap.objs.size:=fun x c e=>let ⟨_,q⟩:=I.cell x c e;q.lt
 have ok:(blk X sc cl N' C s H fp).Ok:={
  mod:=I.ok.mod
  kind:=B.kind
  glob:=I.ok.glob
  blt:=I.ok.blt
  above:=GB hC
  inj:=fun x y c h1 h2=>I.ok.inj x y c (B.subL x c h1) (B.subL y c h2)
  has:=fun x hx=>by
   have hx':(relabel sc X.env).names.lookup x=some .cell\/(relabel sc X.env).names.lookup x=some .free:=hx
   have:(cl.lookup x).isSome=true:=by
    rcases hx' with z|z
    ·exact B.has (x,.cell) (Yh z) (.inl rfl)
    ·exact B.has (x,.free) (Yh z) (.inr rfl)
   exact GH.mp this
  cab:=fun x c z=>nomatch z
  hd:=I.ok.hd
  frames:=I.ok.frames
  stk:=.inl rfl
  exf:=fun b hb=>⟨Qo (KO (hlt b hb) hC),fun x c e=>(hf b hb).2.2.2.2.1 x c (B.subL x c e)⟩
  bs:=I.bs
  bsz:=QA I.ok.bsz I.sz
  noex:=fun b o e hb=>by
   rcases(hf b hb).2.2.2.1 with z|z
   ·exact I.ok.noex b o e z
   ·exact absurd (Qt (Qf e) (QA I.ok.bsz z)) (QY _)
  exfs:=fun b hb z=>by
   rcases Qe.mp (I.stkSub b z) with q|q
   ·exact(hf b hb).2.1 q
   ·exact(hf b hb).2.2.1 q
  funs:=I.stack
  frf:=I.stkFree }
 refine⟨ok,rfl,I.bare,Un.kept old,⟨_,ns,fun i x v h1 h2 h3=>?_⟩,fun x c e=>?_,I.hok.fresh (GB hC),fun x c e=>I.freeC x c (B.subL x c e),fun p hp=>absurd (show p∈([]:List (Addr×Obj)) from hp) (by simp),I.hok.kept old,?_⟩
 ·have h1':N'[i]?=some x:=h1
  have h2':(imp.map fun o=>match o with|none=>none|some k=>(σ[k]?).join)[i]?=some (some v):=h2;rw[QB] at h2'
  cases e:imp[i]? with
  | none=>rw[e] at h2';cases h2'
  | some q =>
   rw[e] at h2'
   cases q with
   | none=>cases h2'
   | some k =>
    have h2'':(σ[k]?).join=some v:=Qr h2'
    have hk:σ[k]?=some (some v):=by
     cases e':σ[k]? with
     | none=>rw[e'] at h2'';cases h2''
     | some z=>rw[e'] at h2'';cases z with
      | none=>cases h2''
      | some z=>cases h2'';rfl
    have hm:(some k,x)∈imp.zip N':=by refine QL (i:=i) ?_;rw[List.getElem?_zip_eq_some];exact⟨e,h1'⟩
    obtain⟨b1,b2,b3⟩:=B.im _ hm k rfl;obtain⟨m,hn,hl⟩:=I.loc;obtain⟨u,r,l⟩:=hl k x v b1 hk (b2.elim (fun z=>.inr (.inl z)) fun z=>.inr (.inr z));refine⟨u,r,.inr ⟨b3,?_⟩⟩
    have hc:∃c,X.env.cells.lookup x=some c/\s.heap.IsCell c (some u):=by
     rcases l with ⟨z,_⟩|⟨_,z⟩
     ·have z':X.env.scope.names.lookup x=some .local:=z;rcases b2 with y|y <;> rw[y] at z' <;> cases z'
     ·exact z
    obtain⟨c,hc,oc,ho,hd⟩:=hc;obtain⟨c',hc'⟩:=ok.has x b3;have e2:=B.subL x c' hc';rw[hc] at e2;cases e2;exact⟨c,hc',oc,old c oc ho,hd⟩
 ·obtain⟨v,o,ho,hd⟩:=I.cell x c (B.subL x c e);exact⟨v,o,old c o ho,hd⟩
 ·show(imp.map _).length=N'.length;rw[Qx];exact B.len

theorem Jbc{pins pn:List (Addr×Obj)}{σ σ':St}{H2 H':Hp}{s2 s4:Shared}{fp:List Addr}{C D:Addr}{Cs:Addr}{ys:List V}{its:List Value}{k:Nat}{h':Heap}(I2:Inv X pins σ H2 s2)(f2:∀b∈fp,FpOk X pins H2 b)
 (I5:Inv (blk X sc cl N' C s2 H2 fp) pn σ' H' s4) (hC:s2.heap.objs.size<C) (hD:H' D=none) (hDs:s2.heap.objs.size<=D) (hDC:D≠C) (eD:s4.heap.get? D=some { cls:=.type "list",data:=.seq its.toArray k })
 (rv:Vals ys its) (hz:ys.length<=sizeLine) (hsb:Qz C s4.heap h'):Inv X pins σ (upd H' D (.lst ys)) { s4 with heap:=h' }:=by
 have U:Un (frs X.stack) fp H2 H' s2.heap s4.heap:=I5.base
 have kk:∀b o,b≠C->s4.heap.get? b=some o->h'.get? b=some o:=hsb.extBut
 have hC':H' C=none:=I5.free
 have ok1:HOk X.prog X.w H' h':=HOk.sameBut (C:=C) I5.hok hC' kk
 have ok2:HOk X.prog X.w (upd H' D (.lst ys)) h':=ok1.track hD ⟨hz,its,k,rv,kk _ _ hDC eD⟩
 have lt:∀b o,s2.heap.get? b=some o->b≠C/\b≠D:=fun b o e=>⟨Qo (KO (Qf e) hC),Qo (Qt (Qf e) hDs)⟩
 refine I2.call' (s':={ s4 with heap:=h' }) (ch:=fp) I5.os ⟨fun b o e n hb hx=>kk b o (lt b o e).1 (U.keep b o e n hb hx),fun b o e n hb hx=>?_,fun b o e n hx=>?_,fun b o e hx=>?_,fun b xs e=>?_,fun b o u e=>?_,fun b ps e=>?_⟩ ok2 I5.bare
  fun b hb=>⟨(f2 b hb).2.2.2.1,(f2 b hb).2.1,(f2 b hb).2.2.2.2.1,(f2 b hb).2.2.2.2.2⟩
 ·obtain⟨sl,q⟩:=U.slot b o e n hb hx;exact⟨sl,kk b _ (lt b o e).1 q⟩
 ·rw[Jd (lt b o e).2];exact U.free b o e n hx
 ·obtain⟨o',q⟩:=U.there b o e hx;exact⟨o',kk b o' (lt b o e).1 q⟩
 ·have q:=U.tups b xs e;rw[Jd (Jl q hD)];exact q
 ·have q:=U.frzs b o u e;rw[Jd (Jl q hD)];exact q
 ·obtain⟨more,q⟩:=U.tbls b ps e;exact⟨more,by rw[Jd (Jl q hD)];exact q⟩

noncomputable def Jfg(g:TG)(tt:TT)(te:TE)(imp:List (Option Nat))(σ:St)(Q:VK)(J:It)(H1:Hp):Prop:=∃W:Nat->Nat->List V->St->Hp->Prop,(∃m,W 0 m [] (Vt imp σ) H1)/\∀i m ys σ' H',W i m ys σ' H' ->
 (J.stop i H'/\ys.length<=sizeLine/\∀D,H' D=none->Q (.ref D) (upd H' D (.lst ys))) ∨
 (J.go i H'/\ys.length<sizeLine/\∃N:List V->St->Hp->Prop,(∀ys' σ2 H2,N ys' σ2 H2->∃m',m'<m/\W (i+1) m' ys' σ2 H2) ∧
  ∀x H2,J.yld i H' x H2->g x σ' H2 fun σ2 H3=>tt σ2 H3 fun b H4=>if b=true then te σ2 H4 fun y H5=>N (ys++[y]) σ2 H5 else N ys σ2 H4)
theorem W2{pins:List (Addr×Obj)}{σ:St}{Q:VK}{itv:Value}{s2:Shared}{RR:Value->Addr->Result->Shared->Prop}{E:Value->Shared->Prop}(hc:X.calm=true)(B:Blk X sc cl N' imp)
 (hg:∀C s H fp,PG (blk X sc cl N' C s H fp) tg g) (ht:∀C s H fp,JcZ (blk X sc cl N' C s H fp) ifs tt) (he:∀C s H fp,PE (blk X sc cl N' C s H fp) elt te)
 (h2:PIE X pins σ tg (Jfg g tt te imp σ Q) itv s2)
 (fin:∀(C D:Addr) (s4:Shared) (H':Hp) (ys:List V) (m:Str->Option Value),s2.heap.objs.size<C->s4.heap.Ns C m->H' C=none->(∀h',Qz C s4.heap h'->Inv X pins σ H' { s4 with heap:=h' })->Q (.ref D) H'->RR (.ref D) C (.ok .next) s4) :
 wpAny (model X.prog X.w) X.A (newList []) (fun acc s₃=>wpAny (model X.prog X.w) X.A (newFunctionEnv sc X.env.globals cl [] X.env.qual none .none (some X.env)) (fun cenv s₄=>codeAny (model X.prog X.w) X.A (.compStart (.ListComp elt [⟨tg,iter,ifs,0⟩] sc pos) 0 itv acc { cenv with scope:=relabel sc X.env }) (RR acc cenv.locals) s₄) E s₃) E s2:=by
 obtain⟨it,fp,tn,J,H2,e,I2,T,st2,f2,W,⟨m0,w0⟩,turn⟩:=h2;subst e;refine QQ (wpAny_newFunctionEnv B.nocell (by intro y hy;simp at hy) (fun h₁ hns₁ hsb₁=>?_) B.kind);dsimp only at hns₁ hsb₁ ⊢
 generalize hG:s2.heap.push { cls:=.type "list",dict:=none,data:=.seq ([]:List Value).toArray }=G at hns₁ hsb₁ ⊢
 have hCs:G.objs.size=s2.heap.objs.size+1:=by rw[<- hG,QC]
 have hC:s2.heap.objs.size<G.objs.size:=by rw[hCs];exact QM _
 have below:∀b,b<s2.heap.objs.size->b≠G.objs.size:=fun b hb=>Qo (KO hb hC)
 have old:∀b o,s2.heap.get? b=some o->h₁.get? b=some o:=fun b o e=>hsb₁.extBut b o (below b (Qf e)) (Qc _ (hG▸Qc _ e))
 have hD1:h₁.get? s2.heap.objs.size=some { cls:=.type "list",data:=.seq ([]:List Value).toArray }:=hsb₁.extBut _ _ (Qo hC) (Qc _ (hG▸Qg _ rfl))
 have fpo:∀b∈fp,∃o,s2.heap.get? b=some o:=fun b hb=>let ⟨o,e,_⟩:=T.obj 0 _ st2 b hb;⟨o,e⟩
 have I4:=Jbd B I2 f2 fpo hC old (show h₁.Ns G.objs.size fun _=>none from hns₁)
 -- the records of the block: the list that grows,the iterator's
 have stD:∀{H':Hp} {pn:List (Addr×Obj)},(∀b∈s2.heap.objs.size::fp,H' b=none)->(∀p∈pn,p.1∉s2.heap.objs.size::fp)->∀b∈s2.heap.objs.size::fp,FpOk (blk X sc cl N' G.objs.size s2 H2 fp) pn H' b:=fun {H' pn} hn hp b hb=>by
  have hp':∀p∈([]++pn:List (Addr×Obj)),p.1≠b:=fun p z q=>hp p (by simpa using z) (q▸hb)
  rcases Qe.mp hb with z|z
  ·subst z;refine⟨hn _ hb,Qo hC,fun q=>?_,.inr (Qm _),fun x c e q=>?_,hp'⟩
   ·rcases Qe.mp (I2.stkSub _ q) with q|q
    ·exact absurd I2.lt (by rw[<- q];exact QY _)
    ·exact I2.nofs (Qm _) q
   ·obtain⟨v,qc⟩:=I2.cell x c (B.subL x c e);exact absurd qc.lt (by rw[q];exact QY _)
  ·refine⟨hn _ hb,below b (let ⟨_,e⟩:=fpo b z;Qf e),fun q=>?_,.inl z,fun x c e=>(f2 b z).2.2.2.2.1 x c (B.subL x c e),hp'⟩;rcases Qe.mp (I2.stkSub b q) with q|q
   ·exact(f2 b z).2.1 q
   ·exact(f2 b z).2.2.1 q
 have nDf:s2.heap.objs.size∉fp:=fun z=>let ⟨_,e⟩:=fpo _ z;absurd (Qf e) (QY _)
 have loop:codeAny (model X.prog X.w) X.A (.compLoop (.ListComp elt [⟨tg,iter,ifs,0⟩] sc pos) 0 (.ref it) (.ref s2.heap.objs.size) (compEnvC sc cl G.objs.size X.env))
  (RR (.ref s2.heap.objs.size) G.objs.size) { s2 with heap:=h₁,toks:=s2.toks }:=by
  refine codeAny_loop rfl (fun n s'=>∃i ys its k σ' H',Inv (blk X sc cl N' G.objs.size s2 H2 fp) [] σ' H' s'/\tn i s'.heap/\(∀b∈s2.heap.objs.size::fp,H' b=none)/\Vals ys its/\s'.heap.get? s2.heap.objs.size=some { cls:=.type "list",data:=.seq its.toArray k }/\W i n ys σ' H') ?_ m0
   ⟨0,[],[],0,_,H2,I4,T.keep _ _ _ st2 (fun b _ o e=>old b o e),fun b hb=>?_,.nil,hD1,w0⟩
  ·rintro n s3 ⟨i,ys,its,k,σ3,H3,I3,st3,fr3,rv3,hD3,w3⟩;have fr3':∀b∈fp,FpOk (blk X sc cl N' G.objs.size s2 H2 fp) [] H3 b:=fun b hb=>stD (pn:=[]) fr3 (fun p z=>nomatch z) b (Qh _ hb)
   show wpAny _ X.A ((compTurn (.ListComp elt [⟨tg,iter,ifs,0⟩] sc pos) 0 (.ref it) (.ref s2.heap.objs.size) (compEnvC sc cl G.objs.size X.env)).onRaise (fun x=>do noteFrame x (compEnvC sc cl G.objs.size X.env);theTreesLotGoes x)) _ _ s3;refine wpAny_noted (wpAny_noRaise ?_);rw[compTurn_list];refine Qa (wpAny_standAt (Qa ?_))
   have fD:=stD (pn:=[]) fr3 (fun p z=>nomatch z) s2.heap.objs.size Qj
   have hDH:H3 s2.heap.objs.size=none:=fr3 _ Qj
   have I3p:Inv (blk X sc cl N' G.objs.size s2 H2 fp) [(s2.heap.objs.size,{ cls:=.type "list",data:=.seq its.toArray k })] σ3 H3 s3:=I3.pins_of fun p hp=>by
    have e:p=(s2.heap.objs.size,{ cls:=.type "list",data:=.seq its.toArray k }):=by simpa using hp
    subst e;exact⟨hD3,hDH,fD.2.1,fD.2.2.1,fun v z=>by cases z⟩
   have pfp:∀p∈[(s2.heap.objs.size,({ cls:=.type "list",data:=.seq its.toArray k }:Obj))],p.1∉fp:=fun p hp=>by
    have e:p=(s2.heap.objs.size,{ cls:=.type "list",data:=.seq its.toArray k }):=by simpa using hp
    subst e;exact nDf
   have fpP:∀{H':Hp},(∀b∈fp,H' b=none)->∀b∈fp,FpOk (blk X sc cl N' G.objs.size s2 H2 fp) [(s2.heap.objs.size,({ cls:=.type "list",data:=.seq its.toArray k }:Obj))] H' b:=fun {H'} hn b hb =>
    have f:=stD (pn:=[]) fr3 (fun p z=>nomatch z) b (Qh _ hb)
    ⟨hn b hb,f.2.1,f.2.2.1,f.2.2.2.1,f.2.2.2.2.1,fun p hp q=>pfp p ((GK.mp hp).elim (fun z=>nomatch (show p∈([]:List (Addr×Obj)) from z)) id) (q▸hb)⟩
   rcases turn i n ys σ3 H3 w3 with ⟨stop,hz,q⟩|⟨go,hz,N,hN,step⟩
   ·refine thn (T.done (blk X sc cl N' G.objs.size s2 H2 fp) rfl rfl rfl hc i _ s3 σ3 H3 _ I3p (fpP fun b hb=>fr3 b (Qh _ hb)) st3 stop) fun r s4 ⟨hr,I5⟩=>?_
    subst hr;refine Qd ?_;obtain⟨m,hn,_⟩:=I5.loc;have eD:=(I5.pin (s2.heap.objs.size,{ cls:=.type "list",data:=.seq its.toArray k }) (by simp)).1;have hCf:H3 G.objs.size=none:=I5.free;exact fin G.objs.size s2.heap.objs.size s4 _ ys m hC hn (by rw[Jd (GC hC)];exact hCf) (fun h' hsb=>Jbc (Cs:=0) I2 f2 I5 hC hDH (Qm _) (Qo hC) eD rv3 hz hsb) (q _ hDH)
   ·refine thn (T.item (blk X sc cl N' G.objs.size s2 H2 fp) rfl rfl rfl hc i _ s3 σ3 H3 _ I3p (fpP fun b hb=>fr3 b (Qh _ hb)) st3 go) fun r s4 ⟨u,hr,h4⟩=>?_
    subst hr;refine Qa (thn h4 fun _ s5 ⟨x,H5,I5,r5,y5,st5,fr5⟩=>?_);have I5':=I5.pinned (fpP fr5) (T.obj _ _ st5);refine Qa (thn (hg G.objs.size s2 H2 fp _ s5 σ3 H5 x u _ I5' r5 (step x H5 y5)) fun _ s6 ⟨σ6,H6,I6,q6⟩=>?_);refine Qa (thn (ht G.objs.size s2 H2 fp _ s6 σ6 H6 _ I6 q6) fun ok s7 ⟨H7,I7,q7⟩=>?_)
    -- what stays of the records
    have recs:∀{σ':St} {H':Hp} {s':Shared},Inv (blk X sc cl N' G.objs.size s2 H2 fp) ([(s2.heap.objs.size,({ cls:=.type "list",data:=.seq its.toArray k }:Obj))]++Uv fp s5.heap) σ' H' s' ->
     tn (i+1) s'.heap/\(∀b∈s2.heap.objs.size::fp,H' b=none)/\s'.heap.get? s2.heap.objs.size=some { cls:=.type "list",data:=.seq its.toArray k }:=fun {σ' H' s'} I'=>by
     have pd:=I'.pin (s2.heap.objs.size,{ cls:=.type "list",data:=.seq its.toArray k }) (by simp)
     have pf:∀b∈fp,∀o,s5.heap.get? b=some o->s'.heap.get? b=some o/\H' b=none:=fun b hb o e=>by have z:=I'.pin (b,o) (QJ _ (QJ _ (YB hb e)));exact⟨z.1,z.2.1⟩
     refine⟨T.keep _ _ _ st5 fun b hb o e=>(pf b hb o e).1,fun b hb=>?_,pd.1⟩;rcases Qe.mp hb with z|z
     ·subst z;exact pd.2.1
     ·obtain⟨o,e,d⟩:=T.obj _ _ st5 b z;exact(pf b z o e).2
    cases ok with
    | false=>obtain⟨m',hm,w7⟩:=hN _ _ _ (show N ys σ6 H7 from by simpa using q7);obtain⟨r1,r2,r3⟩:=recs I7;exact Qd ⟨rfl,m',hm,i+1,ys,its,k,σ6,H7,I7.pins_of (fun p hp=>nomatch hp),r1,r2,rv3,r3,w7⟩
    | true =>
     have q7':te σ6 H7 fun y H5=>N (ys++[y]) σ6 H5:=by simpa using q7
     refine Qa (Qa (thn (he G.objs.size s2 H2 fp _ s7 σ6 H7 _ I7 q7') fun y s8 ⟨y8,H8,I8,ry,q8⟩=>Qa ?_));obtain⟨r1,r2,r3⟩:=recs I8;have hl:=rv3.length;refine wpAny_list_append_plain (hsz:=by rw[Qk];omega) ⟨k,r3⟩ fun h9 ⟨k9,hl9⟩ hs9=>Qd (Qd ?_)
     have hD8:H8 s2.heap.objs.size=none:=r2 _ Qj
     have f8:=stD (pn:=[]) r2 (fun p z=>nomatch z) s2.heap.objs.size Qj
     have I8':Inv (blk X sc cl N' G.objs.size s2 H2 fp) [] σ6 H8 s8:=I8.pins_of (fun p hp=>nomatch hp)
     have I9:Inv (blk X sc cl N' G.objs.size s2 H2 fp) [] σ6 H8 { s8 with heap:=h9 }:=I8'.turned (t':=s8.toks) (it:=s2.heap.objs.size) (fun b o hb e=>hs9.extBut b o hb e) hD8 f8.2.1 f8.2.2.2.1 f8.2.2.2.2.1 f8.2.2.2.2.2;obtain⟨m',hm,w8⟩:=hN _ _ _ q8;refine⟨rfl,m',hm,i+1,ys++[y8],its++[y],k9,σ6,H8,I9,?_,r2,rv3.append (.cons ry .nil),?_,w8⟩
     ·exact T.keep _ _ _ r1 fun b hb o e=>hs9.extBut b o (fun z=>nDf (z▸hb)) e
     ·rw[hl9];simp
  ·rcases Qe.mp hb with z|z
   ·subst z;exact I2.hok.fresh (Qm _)
   ·exact(f2 b z).1
 exact codeAny_compStart_list loop (T.self _ 0 _ _ _ (T.keep _ _ _ st2 fun b _ o e=>old b o e) loop)

theorem Uf(hc:X.calm=true)(hi:PI X tg iter wi)(B:Blk X sc cl N' imp)
 (hg:∀C s H fp,PG (blk X sc cl N' C s H fp) tg g) (ht:∀C s H fp,JcZ (blk X sc cl N' C s H fp) ifs tt) (he:∀C s H fp,PE (blk X sc cl N' C s H fp) elt te)
 (hs:∀x,foldedSetIterable iter X.env x=pure x:=by intro _;rfl):PE X (.ListComp elt [⟨tg,iter,ifs,0⟩] sc pos) (JcS wi g tt te imp):=by
 intro pins s σ H Q I h;rw[eval_ListComp];refine wpAny_comprehension_free (use:=none) rfl hs B.clos B.kind B.names (thn (hi pins s σ H _ I h) fun v s1 h1=>thn h1 fun itv s2 h2=>?_);refine W2 (RR:=fun acc C=>compPost (model X.prog X.w) X.A X.xe none (EP X pins σ Q) acc C) hc B hg ht he h2 fun C D s4 H' ys m hC hn hCf hI q=>?_
 exact⟨m,hn,fun h' hsb=>⟨.ref D,H',hI h' hsb,rfl,q⟩⟩
end
end L2

namespace L2
open PySem PySem.Spec PyProof.Rows

inductive Rep (K:Frag) (H:Hp):V->PyData->Prop
 | non:Rep K H .non .none
 | bl (b:Bool):Rep K H (.bl b) (.bool b)
 | int (i:Int):Rep K H (.int i) (.int i)
 | str (x:Str):Rep K H (.str x) (.str x)
 | tup {a:Addr} {xs:List V} {ds:List PyData}:SqT K H a xs->xs.length=ds.length->(∀(i:Nat) (x:V) (d:PyData),xs[i]?=some x->ds[i]?=some d->Rep K H x d)->Rep K H (.ref a) (.tuple ds)
 | lst {a:Addr} {xs:List V} {ds:List PyData}:SqL K H a xs->xs.length=ds.length->(∀(i:Nat) (x:V) (d:PyData),xs[i]?=some x->ds[i]?=some d->Rep K H x d)->Rep K H (.ref a) (.list ds)

noncomputable def RepL(K:Frag)(H:Hp)(xs:List V)(ds:List PyData):Prop :=
 xs.length=ds.length/\∀(i:Nat) (x:V) (d:PyData),xs[i]?=some x->ds[i]?=some d->Rep K H x d

section
variable{K:Frag}{H H':Hp}
theorem RepL.nil:RepL K H [] []:=⟨rfl,fun i x d e=>by simp at e⟩
theorem RepL.cons{x:V}{d:PyData}{xs:List V}{ds:List PyData}(h:Rep K H x d)(r:RepL K H xs ds):RepL K H (x::xs) (d::ds):=by
 refine⟨by simp[r.1],fun i y e h1 h2=>?_⟩
 cases i with
 | zero=>simp at h1 h2;subst h1 h2;exact h
 | succ i=>exact r.2 i y e (by simpa using h1) (by simpa using h2)
theorem RepL.append{xs ys:List V}{ds es:List PyData}(r:RepL K H xs ds)(q:RepL K H ys es):RepL K H (xs++ys) (ds++es):=by
 refine⟨by simp[r.1,q.1],fun i x d h1 h2=>?_⟩
 by_cases hi:i<xs.length
 ·rw[Qu hi] at h1;rw[Qu (by rw[<- r.1];exact hi)] at h2;exact r.2 i x d h1 h2
 ·rw[QD (by omega)] at h1;rw[QD (by rw[<- r.1];omega)] at h2;rw[<- r.1] at h2;exact q.2 _ x d h1 h2
theorem RepL.snoc{xs:List V}{ds:List PyData}{x:V}{d:PyData}(r:RepL K H xs ds)(h:Rep K H x d):RepL K H (xs++[x]) (ds++[d]):=r.append (.cons h .nil)
theorem RepL.get{xs:List V}{ds:List PyData}{i:Nat}{d:PyData}(r:RepL K H xs ds)(e:ds[i]?=some d):∃x,xs[i]?=some x/\Rep K H x d:=by
 have hi:=(Qi.mp e).1
 have hx:i<xs.length:=by rw[r.1];exact hi
 exact⟨xs[i],by simp[hx],r.2 i _ d (by simp[hx]) e⟩
theorem RepL.get'{xs:List V}{ds:List PyData}{i:Nat}{x:V}(r:RepL K H xs ds)(e:xs[i]?=some x):∃d,ds[i]?=some d/\Rep K H x d:=by
 have hi:=(Qi.mp e).1
 have hx:i<ds.length:=by rw[<- r.1];exact hi
 exact⟨ds[i],by simp[hx],r.2 i x _ e (by simp[hx])⟩
theorem Rep.tupL{a:Addr}{xs:List V}{ds:List PyData}(h:SqT K H a xs)(r:RepL K H xs ds):Rep K H (.ref a) (.tuple ds):=.tup h r.1 r.2
theorem Rep.lstL{a:Addr}{xs:List V}{ds:List PyData}(h:SqL K H a xs)(r:RepL K H xs ds):Rep K H (.ref a) (.list ds):=.lst h r.1 r.2
theorem Rep.tupI{v:V}{ds:List PyData}(r:Rep K H v (.tuple ds)):∃a xs,v=.ref a/\SqT K H a xs/\RepL K H xs ds:=by
 cases r with
 | tup h l q=>exact⟨_,_,rfl,h,l,q⟩
theorem Rep.lstI{v:V}{ds:List PyData}(r:Rep K H v (.list ds)):∃a xs,v=.ref a/\SqL K H a xs/\RepL K H xs ds:=by
 cases r with
 | lst h l q=>exact⟨_,_,rfl,h,l,q⟩
theorem Rep.intI{v:V}{i:Int}(r:Rep K H v (.int i)):v=.int i:=by cases r;rfl
theorem Rep.strI{v:V}{i:Str}(r:Rep K H v (.str i)):v=.str i:=by cases r;rfl
theorem Rep.blI{v:V}{i:Bool}(r:Rep K H v (.bool i)):v=.bl i:=by cases r;rfl
theorem Same.seqT{a:Addr}{xs:List V}(e:Same H H')(h:SqT K H a xs):SqT K H' a xs:=by
 rcases h with (h|⟨o,h⟩)|h
 ·exact .inl (.inl (e _ _ h))
 ·exact .inl (.inr ⟨o,e _ _ h⟩)
 ·exact .inr h
theorem Rep.mono{v:V}{d:PyData}(e:Same H H')(r:Rep K H v d):Rep K H' v d:=by
 induction r with
 | non=>exact .non
 | bl b=>exact .bl b
 | int i=>exact .int i
 | str x=>exact .str x
 | tup h l _ ih=>exact .tup (e.seqT h) l ih
 | lst h l _ ih=>exact .lst (e.seq h) l ih
theorem RepL.mono{xs:List V}{ds:List PyData}(e:Same H H')(r:RepL K H xs ds):RepL K H' xs ds:=⟨r.1,fun i x d h1 h2=>(r.2 i x d h1 h2).mono e⟩

noncomputable def SameEx(l:Addr)(H H':Hp):Prop:=∀b o,b≠l->H b=some o->H' b=some o
theorem SameEx.upd{l:Addr}{o:HO}:SameEx l H (upd H l o):=fun b o' hb e=>by rw[Jd hb];exact e
theorem Same.ex{H0:Hp}{l:Addr}(s:Same H0 H)(hn:H0 l=none)(e:SameEx l H H'):Same H0 H':=fun b o h=>e b o (Jl h hn) (s b o h)
theorem Same.new{p:Addr}{o:HO}(hn:H p=none):Same H (upd H p o):=fun b o' e=>by rw[Jd (Jl e hn)];exact e
theorem SameEx.sqT{l a:Addr}{ys xs:List V}(e:SameEx l H H')(hl:H l=some (.lst ys))(h:SqT K H a xs):SqT K H' a xs:=by
 rcases h with (h|⟨o,h⟩)|h
 ·exact .inl (.inl (e _ _ (JcL h hl (by intro z;cases z)) h))
 ·exact .inl (.inr ⟨o,e _ _ (JcL h hl (by intro z;cases z)) h⟩)
 ·exact .inr h
inductive NoLst:PyData->Prop
 | non:NoLst .none
 | bl (b:Bool):NoLst (.bool b)
 | int (i:Int):NoLst (.int i)
 | str (x:Str):NoLst (.str x)
 | tup {ds:List PyData}:(∀d∈ds,NoLst d)->NoLst (.tuple ds)
end

theorem Vals.get':∀{xs:List V} {us:List Value} {i:Nat} {u:Value},Vals xs us->us[i]?=some u->∃x,xs[i]?=some x/\RelV x u
 | _,_,_,_,.nil,e=>by simp at e
 | _,_,0,_,.cons r _,e=>by simp at e;subst e;exact⟨_,rfl,r⟩
 | _,_,i+1,u,.cons _ t,e=>by obtain⟨x,h1,h2⟩:=Vals.get' (i:=i) (u:=u) t (by simpa using e);exact⟨x,by simpa using h1,h2⟩
theorem Yq{h:Heap}:∀(us:List Value) (ds:List PyData),us.length=ds.length->(∀(i:Nat) (u:Value) (d:PyData),us[i]?=some u->ds[i]?=some d->∃as,Reads h u d as)->∃as,ReadsAll h us ds as
 | [],[],_,_=>⟨_,.nil⟩
 | [],_::_,e,_=>by simp at e
 | _::_,[],e,_=>by simp at e
 | u::us,d::ds,e,f=>by
  obtain⟨as,h1⟩:=f 0 u d rfl rfl;obtain⟨bs,h2⟩:=Yq us ds (by simpa using e) fun i v c q1 q2=>f (i+1) v c (by simpa using q1) (by simpa using q2)
  exact⟨_,.cons h1 h2⟩
section
variable{X:Cx}{pins:List (Addr×Obj)}{σ:St}{H:Hp}{s:Shared}
theorem Rep.reads{v:V}{d:PyData}(I:Inv X pins σ H s)(r:Rep X.K H v d):∀u,RelV v u->∃as,Reads s.heap u d as:=by
 induction r with
 | non=>intro u r;cases r;exact⟨_,.none⟩
 | bl b=>intro u r;cases r;exact⟨_,.bool b⟩
 | int i=>intro u r;obtain⟨t,rfl⟩:=r;exact⟨_,.int i t⟩
 | str x=>intro u r;obtain⟨t,rfl⟩:=r;exact⟨_,.str x t⟩
 | tup h l _ ih =>
  intro u r;cases r;obtain⟨its,rv,p,hz⟩:=I.tuple h;obtain⟨o,ho,hc,n,hd⟩:=p
  obtain⟨as,q⟩:=Yq (h:=s.heap) its _ (rv.length.symm.trans l) fun i u d h1 h2=>by obtain⟨x,e1,e2⟩:=rv.get' h1;exact ih i x d e1 h2 u e2
  exact⟨_,.tuple ho hc hd q⟩
 | lst h l _ ih =>
  intro u r;cases r;obtain⟨its,rv,p,hz⟩:=I.list h;obtain⟨o,ho,hc,n,hd⟩:=p.isList
  obtain⟨as,q⟩:=Yq (h:=s.heap) its _ (rv.length.symm.trans l) fun i u d h1 h2=>by obtain⟨x,e1,e2⟩:=rv.get' h1;exact ih i x d e1 h2 u e2
  exact⟨_,.list ho hc hd q⟩
end

section
variable{X:Cx}
noncomputable def WE(K:Frag):R2:=fun x y H Q=>rI0 (fun i j=>.int (i+j)) x y H Q\/(∃i j,x=.str i/\y=.str j/\i.length+j.length<=sizeLine/\Q (.str (i++j)) H)\/JfW x y H Q
theorem JbQ:OpR X (binaryOp .Add) (WE X.K):=op_add.or (op_add_str.or JdZ)
noncomputable def JfX(K:Frag):R2:=fun x y H Q=>∃d e,Rep K H x d/\Rep K H y e/\d.canLay0=true/\e.canLay0=true/\min d.depth e.depth<=60/\Q (.bl (G0 d e)) H
noncomputable def Jf1(K:Frag):R2:=fun x y H Q=>∃d e,Rep K H x d/\Rep K H y e/\d.canLay0=true/\e.canLay0=true/\min d.depth e.depth<=60/\Q (.bl (!PyData.eqv d e)) H
theorem Jd1(hu:X.A.units+64<cLine):OpR X (compareOp .Eq) (JfX X.K):=by intro pins s σ H x y v u Q I rx ry h;obtain⟨d,e,h1,h2,c1,c2,hd,q⟩:=h;obtain⟨as,r1⟩:=h1.reads I v rx;obtain⟨bs,r2⟩:=h2.reads I u ry;exact SeqAt.compareEq_reads r1 r2 c1 c2 (by omega) ⟨.bl _,H,I,rfl,q⟩
theorem Jd4(hu:X.A.units+64<cLine):OpR X (compareOp .NotEq) (Jf1 X.K):=by intro pins s σ H x y v u Q I rx ry h;obtain⟨d,e,h1,h2,c1,c2,hd,q⟩:=h;obtain⟨as,r1⟩:=h1.reads I v rx;obtain⟨bs,r2⟩:=h2.reads I u ry;exact SeqAt.compareNe_reads r1 r2 c1 c2 (by omega) ⟨.bl _,H,I,rfl,q⟩
noncomputable def JaD(K:Frag):R2:=fun x y H Q=>rEq x y H Q\/JfX K x y H Q
noncomputable def JaE(K:Frag):R2:=fun x y H Q=>rNe x y H Q\/Jf1 K x y H Q
theorem Jd0(hu:X.A.units+64<cLine):OpR X (compareOp .Eq) (JaD X.K):=op_eq.or (Jd1 hu)
theorem Jd3(hu:X.A.units+64<cLine):OpR X (compareOp .NotEq) (JaE X.K):=op_ne.or (Jd4 hu)
noncomputable def Wd(K:Frag):List V->Hp->VK->Prop:=fun xs H Q=>∃x n,xs=[x]/\Jfh K x H n/\Q (.int n) H
theorem WW:CallR X (.builtin "len") (Wd X.K):=ZP
inductive TyS (K:Frag) (H:Hp):V->Value->Prop where
 | of {x:V} {t:Value} (h:TyOf K H x t):TyS K H x t
 | sqT {a:Addr} {xs:List V} (h:SqT K H a xs):TyS K H (.ref a) (.type "tuple")
 | sqL {a:Addr} {xs:List V} (h:SqL K H a xs):TyS K H (.ref a) (.type "list")
theorem V9{pins:List (Addr×Obj)}{σ:St}{H:Hp}{s:Shared}{A:Around}{E:Value->Shared->Prop}{Q:Value->Shared->Prop}{c:Value}{b:Bool}{x:V}{u t:Value}(I:Inv X pins σ H s)(rx:RelV x u)(ty:TyS X.K H x t)(e:kitOne X.K t c=some b)(h:∀tk,Q (.bool b) { s with toks:=tk }) :
 wpAny (model X.prog X.w) A (call (.builtin "isinstance") [u,c]) Q E s:=by
 cases ty with
 | of z=>exact Zg I rx z e h
 | @sqT a xs z=>cases (show u=Value.ref a from rx);obtain⟨its,_,p,_⟩:=I.tuple z;obtain⟨o,h1,h2,_⟩:=p;exact kia_one Ld I.kIn ⟨o,h1,h2⟩ e (fun z=>nomatch z) h
 | @sqL a xs z=>cases (show u=Value.ref a from rx);obtain⟨its,_,p,_⟩:=I.list z;obtain⟨o,h1,h2,_⟩:=p.isList;exact kia_one kitx_list I.kIn ⟨o,h1,h2⟩ e (fun z=>nomatch z) h
noncomputable def Jb1(K:Frag):List V->Hp->VK->Prop:=fun vs H Q=>∃x c t tc b,vs=[x,c]/\TyS K H x t/\(∀u,RelV c u->u=tc)/\kitOne K t tc=some b/\Q (.bl b) H
theorem ZO:CallR X (.builtin "isinstance") (Jb1 X.K):=by intro pins s σ H xs us Q I r h;obtain⟨x,c,t,tc,b,rfl,ty,hc,e,q⟩:=h;obtain⟨u,w',rfl,r1,r2⟩:=JcU r;cases hc w' r2;exact V9 I r1 ty e fun tk=>⟨.bl b,H,I.tok tk,rfl,q⟩
noncomputable def Jei:R2:=fun x y H Q=>y=.non/\Q (.bl (decide (x=.non))) H
noncomputable def JaF:R2:=fun x y H Q=>y=.non/\Q (.bl (!decide (x=.non))) H
theorem JbT:OpR X (compareOp .Is) Jei:=Jd2
theorem Jar:OpR X (compareOp .IsNot) JaF:=JbU
noncomputable def JgZ:List V->Hp->VK->Prop:=fun xs H Q=>∃i j,xs=[.int i,.int j]/\Q (.int (if j>i then j else i)) H
noncomputable def Jej:List V->Hp->VK->Prop:=fun xs H Q=>∃i j,xs=[.int i,.int j]/\Q (.int (if j<i then j else i)) H
theorem UL(hc:X.calm=true):CallR X (.builtin "min") Jej:=WX hc
noncomputable def Jcw(K:Frag)(ta:TE):TT:=fun σ H Q=>ta σ H fun x H1=>∃k,WT K x H1 k/\Q k H1
theorem Jef{a:Expr}{ta:TE}(ha:PE X a ta)(he:∀whole,isTrue a X.env whole=(do let v <- whole;standAt a.pos;holding [v] (truthy v))):PT X a (Jcw X.K ta):=Jaz ha he
noncomputable def GV(mg:Str->Option Value)(x:Str)(v:V):Prop:=∃u,mg x=some u/\RelV v u
theorem VH{x:Str}{v:V}{pos:Pos}(hg:Gl X x)(hm:GV X.mg x v)(hd:(x == ("__debug__":Str))=false:=by decide):PE X (.Name x pos) (tC v):=by obtain⟨u,h1,h2⟩:=hm;exact JbW hg h1 h2 hd
end
theorem Jc5:bootBuiltins "len"=some (.builtin "len"):=by decide +kernel
theorem J9:bootBuiltins "isinstance"=some (.builtin "isinstance"):=by decide +kernel
theorem ZM:bootBuiltins "min"=some (.builtin "min"):=by decide +kernel
theorem ZN:bootBuiltins "sum"=some (.builtin "sum"):=by decide +kernel
theorem Jc4:bootBuiltins "int"=some (.type "int"):=by decide +kernel
theorem Wm:bootBuiltins "bool"=some (.type "bool"):=by decide +kernel
theorem Jc6:bootBuiltins "zip"=some (.type "zip"):=by decide +kernel
structure Cal (P:Program) (w:World) (K:Frag) (mg:Str->Option Value) (base:Heap) (x:Str) (k:Nat) (ps:List Str) (sp:Sp):Prop where
 ex:∃(f:Addr) (fd:FuncData),FnOk P w K mg base CX0 k f fd ps sp/\mg x=some (.ref f)/\keepIn K (.ref f)=true/\Binds K fd ps []
structure CalM (P:Program) (w:World) (K:Frag) (mg:Str->Option Value) (base:Heap) (x:Str) (C:Addr) (k:Nat) (ps:List Str) (sp:Sp):Prop where
 ex:∃(f:Addr) (fd:FuncData),Mk K C f/\FnOk P w K mg base CX0 k f fd ps sp/\mg x=some (.ref C)/\Binds K fd ps []
section
variable{X:Cx}{k:Nat}{C:Addr}{ps:List Str}{sp:Sp}{x:Str}{p pos:Pos}{e:Expr}{es:List Expr}{t:TA}
theorem Jj(c:Cal X.prog X.w X.K X.mg X.base x k ps sp)(hr:Room k X.A)(hg:Gl X x)(ha:PA X (e::es) t)(hdb:(x == ("__debug__":Str))=false:=by decide)
 (he:starEach (e::es) X.env=(false,eval e X.env)::starEach es X.env:=by rfl) (hpl:(backTo pos (starEach es X.env)).any (·.1)=false:=by rfl):PE X (.Call (.Name x p) (e::es) [] pos) (WN sp [] E0 t):=by
 obtain⟨f,fd,F,h1,h2,h3⟩:=c.ex;exact JbV F hr hg h1 h2 h3 .nil JfR ha hdb he hpl
end

noncomputable def JbE(K:Frag)(tl:TE):TI:=fun σ H R=>JcG K tl σ H R\/JfB K tl σ H R
theorem Jeb{X:Cx}{tg l:Expr}{tl:TE}(hl:PE X l tl):PI X tg l (JbE X.K tl):=by
 intro pins s σ H R I h;rcases h with h|h
 ·exact JbX hl pins s σ H R I h
 ·exact Jec hl pins s σ H R I h

theorem JgE{X:Cx}{sc:Scope}{N':List Str}{imp:List (Option Nat)}(h1:sc.kind=.function)
 (h2:(sc.names.all (fun y=>y.2 != .free && y.2 != .cell && (y.2 != .local || sc.names.lookup y.1 == some .local)) && imp.all (·.isNone) && (imp.length == N'.length))=true):Blk X sc [] N' imp:=by
 simp only[Qn,QI] at h2;obtain⟨⟨h2,h3⟩,h4⟩:=h2
 have nofree:∀y∈sc.names,y.2≠.free:=fun y hy=>by
  have:=(h2 y hy).1.1
  simpa using this
 have nocell:∀y∈sc.names,y.2≠.cell:=fun y hy=>by
  have:=(h2 y hy).1.2
  simpa using this
 refine⟨closureFor_none nofree,h1,nocell,fun y hy hl=>?_,(fun p hp=>nomatch hp),fun y hy hk=>?_,by simpa using h4,fun p hp k e=>?_⟩
 ·have:=(h2 y hy).2;rw[hl] at this
  simpa using this
 ·have:(relabel sc X.env).names=sc.names:=by
   unfold relabel;refine map_eq_self fun x hx=>?_
   obtain⟨n,q⟩:=x;have:(q == NameKind.free)=false:=by simpa using nofree _ hx
   simp[this]
  rw[this] at hy;rcases hk with z|z
  ·exact absurd z (nocell y hy)
  ·exact absurd z (nofree y hy)
 ·have:=h3 p.1 (Gx hp).1;rw[e] at this;cases this

section
variable{K:Frag}{σ:St}{H H1:Hp}{Q:VK}{i:Nat}{v:V}{ta tb te:TE}{r:R2}{D:Ends}{t u:TS}{c:TT}
theorem JeI(h:σ[i]?=some (some v))(q:Q v H):Wg i σ H Q:=⟨v,h,q⟩
theorem Jg0(q:Q v H):tC v σ H Q:=q
theorem Jf5(q:ta σ H fun x H1=>tb σ H1 fun y H2=>r x y H2 Q):tOp r ta tb σ H Q:=q
theorem Jf8{r:V->Hp->VK->Prop}(q:ta σ H fun x H1=>r x H1 Q):tUn r ta σ H Q:=q
theorem Jf3{g:Int->Int->V}{a b:Int}(q:Q (g a b) H):rI0 g (.int a) (.int b) H Q:=⟨a,b,rfl,rfl,q⟩
theorem Jg1{C:Int->Int->Prop}{g:Int->Int->V}{a b:Int}(h:C a b)(q:Q (g a b) H):rI C g (.int a) (.int b) H Q:=⟨a,b,rfl,rfl,h,q⟩
theorem Jg2{g:Int->V}{a:Int}(q:Q (g a) H):rU g (.int a) H Q:=⟨a,rfl,q⟩
theorem Jb2{a b:Int}(q:Q (.int (a+b)) H):WE K (.int a) (.int b) H Q:=.inl ⟨a,b,rfl,rfl,q⟩
theorem Jeo{a b:Int}(q:Q (.bl (decide (a=b))) H):JaD K (.int a) (.int b) H Q:=.inl ⟨rfl,by
 have:decide (V.int a=V.int b)=decide (a=b):=by simp
 rw[this];exact q⟩
theorem JeA{a b:Int}(q:Q (.bl (!decide (a=b))) H):JaE K (.int a) (.int b) H Q:=.inl ⟨rfl,by
 have:decide (V.int a=V.int b)=decide (a=b):=by simp
 rw[this];exact q⟩
theorem Jep{a b:Str}(q:Q (.bl (decide (a=b))) H):JaD K (.str a) (.str b) H Q:=.inl ⟨rfl,by
 have:decide (V.str a=V.str b)=decide (a=b):=by simp
 rw[this];exact q⟩
theorem JeB{a b:Str}(q:Q (.bl (!decide (a=b))) H):JaE K (.str a) (.str b) H Q:=.inl ⟨rfl,by
 have:decide (V.str a=V.str b)=decide (a=b):=by simp
 rw[this];exact q⟩
theorem Jet{x:V}(q:Q (.bl (decide (x=.non))) H):Jei x .non H Q:=⟨rfl,q⟩
theorem Jcd{x:V}(q:Q (.bl (!decide (x=.non))) H):JaF x .non H Q:=⟨rfl,q⟩
theorem Jez{a b:Int}(q:Q (.int (max a b)) H):JgZ [.int a,.int b] H Q:=⟨a,b,rfl,by
 have e:(if b>a then b else a)=max a b:=by rw[Int.max_def];split <;> split <;> omega
 rw[e];exact q⟩
theorem JaK{a b:Int}(q:Q (.int (min a b)) H):Jej [.int a,.int b] H Q:=⟨a,b,rfl,by
 have e:(if b<a then b else a)=min a b:=by rw[Int.min_def];split <;> split <;> omega
 rw[e];exact q⟩
theorem Jch{Qb:Bool->Hp->Prop}(q:ta σ H fun x H1=>∃k,WT K x H1 k/\Qb k H1):Jcw K ta σ H Qb:=q
theorem Jeq{f:Str}(q:ta σ H fun x H1=>∃a C dx fs v,x=.ref a/\H1 a=some (.ins C dx fs)/\Cls K C/\Ug K C f/\fs.lookup f=some v/\Q v H1):Jg9 K ta f σ H Q:=q
theorem Jcg{Qb:Bool->Hp->Prop}(q:te σ H fun x H'=>∃k,x=.bl k/\Qb k H'):Ja1 te σ H Qb:=q
theorem Jf7{Qb:Bool->Hp->Prop}(q:te σ H fun x H'=>∃k,x=.bl k/\Qb k H'):tB te σ H Qb:=q
theorem Jem{c':TT}{Qb:Bool->Hp->Prop}(q:c σ H fun b H1=>if b=true then c' σ H1 Qb else Qb false H1):JeV c c' σ H Qb:=q
theorem Jf6{c':TT}{Qb:Bool->Hp->Prop}(q:c σ H fun b H1=>if b=true then Qb true H1 else c' σ H1 Qb):tOr c c' σ H Qb:=q
theorem JeD{Qb:Bool->Hp->Prop}(q:c σ H fun b H1=>Qb (!b) H1):JeZ c σ H Qb:=q
theorem Jce(q:te σ H fun x H1=>∃b,x=.bl b/\Q (.bl (!b)) H1):JaZ te σ H Q:=q
theorem Jb3(q:ta σ H fun x H1=>∃b,x=.bl b/\if b=true then tb σ H1 Q else Q (.bl false) H1):JaW ta tb σ H Q:=q
theorem JeE(q:ta σ H fun x H1=>∃b,x=.bl b/\if b=true then Q (.bl true) H1 else tb σ H1 Q):Jha ta tb σ H Q:=q
theorem Jer(q:c σ H fun b H1=>if b=true then ta σ H1 Q else tb σ H1 Q):tIf c ta tb σ H Q:=q
theorem JeG(q:t { D with nx:=u D } σ H):Je0 t u D σ H:=q
theorem Jen{g:TG}(q:te σ H fun x H1=>g x σ H1 D.nx):Jcu te g D σ H:=q
theorem JaI{Qs:St->Hp->Prop}(q:Qs (σ.set i (some v)) H):UQ i v σ H Qs:=q
theorem Jes(q:c σ H fun b H1=>if b=true then t D σ H1 else u D σ H1):JeX c t u D σ H:=q
theorem JeF(q:te σ H D.rt):Jcv te D σ H:=q
theorem Jb5(q:te σ H fun _ H1=>D.nx σ H1):WO te D σ H:=q
theorem Jcc(q:D.nx σ H):JaY D σ H:=q
theorem Jb4{tr:TA}{Ql:List V->Hp->Prop}(q:ta σ H fun x H1=>tr σ H1 fun xs H2=>Ql (x::xs) H2):YT ta tr σ H Ql:=q
theorem JeC{Ql:List V->Hp->Prop}(q:Ql [] H):VY σ H Ql:=q
theorem Jf2{r:List V->Hp->VK->Prop}{ts:TA}(q:ts σ H fun vs H1=>r vs H1 Q):tCB r ts σ H Q:=q
theorem WH{sp:Sp}{E:XK}{ts:TA}(q:ts σ H fun vs H1=>sp vs H1 Q E):WN sp [] E ts σ H Q:=by
 have e:(fun vs H1=>sp (vs++[]) H1 Q E)=fun vs H1=>sp vs H1 Q E:=by funext vs H1;rw[GN]
 show ts σ H fun vs H1=>sp (vs++[]) H1 Q E
 rw[e];exact q
noncomputable def JcX(xs:List V)(H:Hp)(Q:VK):Prop:=xs.length<=sizeLine/\∀p,H p=none->Q (.ref p) (upd H p (.tup xs))
noncomputable def JcW(xs:List V)(H:Hp)(Q:VK):Prop:=xs.length<=sizeLine/\∀p,H p=none->Q (.ref p) (upd H p (.lst xs))
theorem JeH{ts:TA}(q:ts σ H fun xs H1=>JcX xs H1 Q):Je1 ts σ H Q:=q
theorem Jey{ts:TA}(q:ts σ H fun xs H1=>JcW xs H1 Q):JeY ts σ H Q:=q
theorem Jb8{a:Addr}{xs:List V}(h:SqL K H a xs)(q:Q (.int xs.length) H):Wd K [.ref a] H Q:=⟨_,_,rfl,.inl ⟨xs,h,rfl⟩,q⟩
theorem Jca{a:Addr}{xs:List V}(h:SqT K H a xs)(q:Q (.int xs.length) H):Wd K [.ref a] H Q:=⟨_,_,rfl,.inr ⟨xs,h,rfl⟩,q⟩
theorem Jb9{x:Str}(h:x.length<=sizeLine)(q:Q (.int x.length) H):Wd K [.str x] H Q:=⟨_,_,rfl,⟨h,rfl⟩,q⟩
theorem Jev{a:Addr}{xs:List V}{j:Int}{v:V}(h:SqL K H a xs)(e:atI xs j=some v)(q:Q v H):rIx K (.ref a) (.int j) H Q:=.inl ⟨a,xs,j,v,rfl,rfl,h,e,q⟩
theorem Jex{a:Addr}{xs:List V}{j:Int}{v:V}(h:SqT K H a xs)(e:atI xs j=some v)(q:Q v H):rIx K (.ref a) (.int j) H Q:=.inr (.inl ⟨a,xs,j,v,rfl,rfl,h,e,q⟩)
theorem Jew{z:Str}{j:Int}{c:Nat}(hz:z.length<=sizeLine)(e:atI z.cps.toList j=some c)(q:Q (.str ⟨#[c]⟩) H):rIx K (.str z) (.int j) H Q:=.inr (.inr ⟨z,j,c,rfl,rfl,hz,e,q⟩)
theorem Jeu{x:V}{n:String}{t:Value}{b:Bool}(ty:TyS K H x t)(e:kitOne K t (.type n)=some b)(q:Q (.bl b) H):Jb1 K [x,.ty n] H Q:=⟨x,_,t,_,b,rfl,ty,fun _ r=>r,e,q⟩
theorem Jf4{T:String}{rm:V->List V->Hp->VK->Prop}{to:TE}{ts:TA}(q:to σ H fun x H1=>tyV K T x H1/\ts σ H1 fun xs H2=>rm x xs H2 Q):tBM K T rm to ts σ H Q:=q
theorem Jb7{to ti:TE}{ts:Jfk}{Qs:St->Hp->Prop}(q:to σ H fun o H1=>ti σ H1 fun i H2=>ts o i v H2 fun H3=>Qs σ H3):JgM to ti ts v σ H Qs:=q
theorem JaH{t:TG}{u:TGs}{x:V}{xs:List V}{Qs:St->Hp->Prop}(q:t x σ H fun σ' H'=>u xs σ' H' Qs):Jad t u (x::xs) σ H Qs:=⟨x,xs,rfl,q⟩
theorem Jb6{Qs:St->Hp->Prop}(q:Qs σ H):Jdu [] σ H Qs:=⟨rfl,q⟩
theorem Jcf{f:Str}{tv:TE}(q:tv σ H fun y H1=>ta σ H1 fun x H2=>∃a C dx fs,x=.ref a/\H2 a=some (.ins C dx fs)/\Cls K C/\Ug K C f/\fs.length<1000/\D.nx σ (upd H2 a (.ins C dx (Jeg f y fs)))):Jg3 K ta tv f D σ H:=q
theorem JaG{r':R2}{tc:TE}(q:ta σ H fun x H1=>tb σ H1 fun y H2=>r x y H2 fun z H3=>∃k,z=.bl k/\(if k=true then tc σ H3 fun w' H4=>r' y w' H4 Q else Q (.bl false) H3)):JeW r r' ta tb tc σ H Q:=q
theorem JeJ{Qb:Bool->Hp->Prop}(q:Qb true H):Je2 σ H Qb:=q
end
end L2
namespace L2
open PySem PySem.Spec PyProof.Rows
section
variable{X:Cx}{K:Frag}{pos:Pos}
theorem JbR(hK:X.K=K):OpR X (binaryOp .Add) (WE K):=hK▸JbQ
theorem U9(hK:X.K=K)(hu:X.A.units+64<cLine):OpR X (compareOp .Eq) (JaD K):=hK▸Jd0 hu
theorem Jaq(hK:X.K=K)(hu:X.A.units+64<cLine):OpR X (compareOp .NotEq) (JaE K):=hK▸Jd3 hu
theorem WV(hK:X.K=K):CallR X (.builtin "len") (Wd K):=hK▸WW
theorem YX(hK:X.K=K):CallR X (.builtin "isinstance") (Jb1 K):=hK▸ZO
theorem Ub(hK:X.K=K):IxR X (rIx K):=hK▸JdF
theorem Yi{tg l:Expr}{tl:TE}(hK:X.K=K)(hl:PE X l tl):PI X tg l (JbE K tl):=hK▸Jeb hl
theorem YK{es:List Expr}{k:Nat}{t:TGs}{n:Nat}(hK:X.K=K)(hc:X.calm=true)(h:PGs X es t)(hn:(assignEach es X.env).length=n)(hst:(assignEach es X.env).findIdx? (·.1)=none):PG X (.Tuple es k pos) (JbD K n t):=hK▸Jea hc h hn hst
theorem WC{a:Expr}{ta:TE}(hK:X.K=K)(ha:PE X a ta)(he:∀whole,isTrue a X.env whole=(do let v <- whole;standAt a.pos;holding [v] (truthy v))):PT X a (Jcw K ta):=hK▸Jef ha he
theorem Jat{o e:Expr}{es:List Expr}{to:TE}{t:TA}{name:Str}{apos cpos:Pos}{T id:String}{r:V->List V->Hp->VK->Prop}(hK:X.K=K)(pa:PlainAttrs T)(slot:Slot T name id)(hty:typeOf (.builtin id)=pure (.type "method_descriptor"))(hm:MtR X id r)(ho:PE X o to)(ha:PA X (e::es) t)
 (hbase:attributeBase o name X.env (eval o X.env)=eval o X.env:=by rfl)
 (hfew:((backTo cpos (starEach (e::es) X.env)).all (fun x=>!x.1) && (backToKw cpos (keywordEach [] X.env)).all (fun x=>x.1.isSome)
  && decide ((e::es).length+([]:List Keyword).length+(if ([]:List Keyword).isEmpty then 0 else 1)<30))=true:=by rfl)
 (hline:(apos.endLine == cpos.line)=true:=by rfl) (hs:starEach (e::es) X.env=(false,eval e X.env)::starEach es X.env:=by rfl) (hplain:(backTo cpos (starEach es X.env)).any (·.1)=false:=by rfl) :
 PE X (.Call (.Attribute o name apos) (e::es) [] cpos) (tBM K T r to t):=hK▸JfS pa slot hty hm ho ha hbase hfew hline hs hplain
end
end L2

namespace LR
open PySem L2

theorem Je4(K:Frag)(H:Hp)(k:Bool):WT K (.bl k) H k:=rfl
noncomputable abbrev Pr:=Int×Int
noncomputable def prD(p:Pr):PyData:=.tuple [.int p.1,.int p.2]
section
variable{K:Frag}{H H':Hp}
theorem JbZ{v:V}{p:Pr}(r:Rep K H v (prD p)):∃a,v=.ref a/\SqT K H a [.int p.1,.int p.2]:=by
 obtain⟨a,xs,rfl,h,l,q⟩:=r.tupI
 match xs,l,q,h with
 | [x,y],_,q,h =>
  have e1:=(q 0 x (.int p.1) rfl rfl).intI
  have e2:=(q 1 y (.int p.2) rfl rfl).intI;subst e1 e2;exact⟨a,rfl,h⟩
noncomputable abbrev Prs(K:Frag)(H:Hp)(vs:List V)(ps:List Pr):Prop:=RepL K H vs (ps.map prD)
theorem Prs.len{vs:List V}{ps:List Pr}(r:Prs K H vs ps):vs.length=ps.length:=by have:=r.1;rwa [Qx] at this
theorem Prs.at{vs:List V}{ps:List Pr}{i:Nat}{v:V}(r:Prs K H vs ps)(e:vs[i]?=some v):∃p a,ps[i]?=some p/\v=.ref a/\SqT K H a [.int p.1,.int p.2]:=by
 obtain⟨d,h1,h2⟩:=r.get' e;rw[QB] at h1
 cases hp:ps[i]? with
 | none=>rw[hp] at h1;cases h1
 | some p=>rw[hp] at h1;cases h1;obtain⟨a,e1,e2⟩:=JbZ h2;exact⟨p,a,rfl,e1,e2⟩
theorem Prs.snoc{vs:List V}{ps:List Pr}{v:V}{p:Pr}(r:Prs K H vs ps)(h:Rep K H v (prD p)):Prs K H (vs++[v]) (ps++[p]):=by show RepL K H _ _;rw[List.map_append];exact RepL.snoc r h
end

structure Good (ps:List Pr):Prop where
 one:∀(i:Nat) (p:Pr),ps[i]?=some p->1<=p.2
 gap:∀(i:Nat) (p q:Pr),ps[i]?=some p->ps[i+1]?=some q->p.1+p.2<q.1
theorem Good.nil:Good []:=⟨fun i p e=>by simp at e,fun i p q e=>by simp at e⟩
theorem Good.snoc{ps:List Pr}{p:Pr}(g:Good ps)(h1:1<=p.2)(h2:∀q,ps[ps.length-1]?=some q->q.1+q.2<p.1):Good (ps++[p]):=by
 refine⟨fun i q e=>?_,fun i q r e1 e2=>?_⟩
 ·by_cases hi:i<ps.length
  ·rw[Qu hi] at e;exact g.one i q e
  ·rw[QD (by omega)] at e;obtain⟨h3,h4⟩:=Qi.mp e;have:i-ps.length=0:=by simp at h3;omega
   rw[this] at e;simp at e;subst e;exact h1
 ·by_cases hi:i+1<ps.length
  ·rw[Qu (by omega)] at e1;rw[Qu hi] at e2;exact g.gap i q r e1 e2
  ·rw[QD (by omega)] at e2;obtain⟨h3,h4⟩:=Qi.mp e2;have h5:i+1-ps.length=0:=by simp at h3;omega
   rw[h5] at e2;simp at e2;subst e2;have h6:i=ps.length-1:=by omega
   have h7:i<ps.length:=by omega
   rw[Qu h7] at e1;rw[h6] at e1;exact h2 q e1

noncomputable def Jga(t:Addr):List (Str×V):=[("stretches",.ref t)]
noncomputable def RowAt(C:Addr)(K:Frag)(H:Hp)(v:V)(ps:List Pr):Prop :=
 ∃x dx t ts,v=.ref x/\H x=some (.ins C dx (Jga t))/\H t=some (.tup ts)/\Prs K H ts ps
theorem RowAt.mono{C:Addr}{K:Frag}{H H':Hp}{v:V}{ps:List Pr}(e:Same H H')(r:RowAt C K H v ps):RowAt C K H' v ps:=by obtain⟨x,dx,t,ts,h0,h1,h2,h3⟩:=r;exact⟨x,dx,t,ts,h0,e _ _ h1,e _ _ h2,RepL.mono e h3⟩
structure RowC (K:Frag) (C:Addr):Prop where
 cl:Cls K C
 ns:Ug K C "stretches"
noncomputable def JcD(C:Addr)(sp:Sp)(E:XK)(vs:List V)(H1:Hp)(Q:VK):Prop:=∀x dx,H1 x=none->H1 dx=none->dx≠x ->
 sp (.ref x::vs) (upd (upd H1 dx (.own x)) x (.ins C dx [])) (fun v H2=>v=.non/\Q (.ref x) H2) E
theorem Jcb{C:Addr}{sp:Sp}{E:XK}{ts:TA}{σ:St}{H:Hp}{Q:VK}(q:ts σ H fun vs H1=>JcD C sp E vs H1 Q):Jgu C sp [] E ts σ H Q:=by
 have e:(fun vs H1=>JcD C sp E vs H1 Q)=fun vs H1=>∀x dx,H1 x=none->H1 dx=none->dx≠x->sp (.ref x::(vs++[])) (upd (upd H1 dx (.own x)) x (.ins C dx [])) (fun v H2=>v=.non/\Q (.ref x) H2) E:=by funext vs H1;rw[GN];rfl
 show ts σ H _;rw[<- e];exact q
noncomputable def cell(ns:List Int)(k:Int):Int:=ns.getD k.toNat 0
end LR

namespace LR
open PySem L2

theorem ZS{ns:List Int}{k:Int}(h:¬k<(ns.length:Int)):cell ns k=0:=by unfold cell;rw[Ga,List.getElem?_eq_none (by omega)];rfl
noncomputable def Zp(l:List Int)(k:Int):Int:=l.getD k.toNat 0
theorem Jay{l:List Int}{k:Int}{P:Int->Prop}(h0:0<=k)(h1:k<(l.length:Int))(h:∀x∈l,P x):P (Zp l k):=by
 unfold Zp;have:k.toNat<l.length:=by omega
 rw[Ga,QU this];exact h _ (List.getElem_mem this)
theorem JaJ{K:Frag}{a:Addr}{xs:List V}{H:Hp}{Q:VK}(h:SqL K H a xs\/SqT K H a xs)(q:Q (.int xs.length) H):Wd K [.ref a] H Q:=by
 rcases h with h|h
 ·exact Jb8 h q
 ·exact Jca h q
noncomputable def WL(K:Frag):Sp:=fun vs H Q _=>∃(a:Addr) (ns:List Int),vs=[.ref a]/\SqL K H a (ns.map V.int)/\ns.length<=63/\∀H',Q (.bl true) H'
end LR
namespace LR
open PySem L2
end LR

namespace L2
open PySem PySem.Spec PyProof.Rows

section
variable{X:Cx}{pins:List (Addr×Obj)}{σ:St}{H:Hp}{s:Shared}
theorem Zh{A':Around}{E:Value->Shared->Prop}{Q:Value->Shared->Prop}{a:Addr}{vs:List V}(hh:A'.handled=none)(I:Inv X pins σ H s)(hq:SqL X.K H a vs\/SqT X.K H a vs)
 (h:∀(its:List Value) (J:Addr) (fp wr:List Addr) (Sx:Nat->Heap->Prop) (s2:Shared),Vals vs its->Walks X.prog X.w A' J fp wr its.toArray.size (fun i v=>its.toArray[i]?=some v) Sx->Sx 0 s2.heap->(∀b∈fp,b<s2.heap.objs.size) ->
  (∀h' tk,(∀b o,b∉wr->s2.heap.get? b=some o->h'.get? b=some o)->Inv X pins σ H { s2 with heap:=h',toks:=tk })->Q (.ref J) s2):wpAny (model X.prog X.w) A' (pyIter (.ref a)) Q E s:=by
 have nin:∀b o,s.heap.get? b=some o->b∉[s.heap.objs.size]:=fun b o e z=>by
  have:b=s.heap.objs.size:=by simpa using z
  exact absurd (Qf e) (by rw[this];exact QY _)
 rcases hq with hq|hq
 ·obtain⟨its,rv,p,hz⟩:=I.list hq;have hlt:a<s.heap.objs.size:=by obtain⟨_,e,_⟩:=p.isList;exact Qf e
  refine GS p.isList ?_;refine h its _ _ _ _ _ rv (Walks.list hh _ a (Qo hlt) its.toArray) ⟨⟨_,Qg _ rfl,rfl,rfl⟩,p.isList.push _⟩ (fun b hb=>?_) fun h' tk hk=>I.kept fun b o e=>hk b o (nin b o e) (Qc _ e)
  show b<(s.heap.push _).objs.size;rw[QC];rcases Qe.mp hb with z|z
  ·rw[z];exact QM _
  ·have:b=a:=by simpa using z
   rw[this];exact QK hlt
 ·obtain⟨its,rv,p,hz⟩:=I.tuple hq;have ht:s.heap.IsTuple a its.toArray:=p;have hlt:a<s.heap.objs.size:=by obtain⟨_,e,_⟩:=ht;exact Qf e
  refine Kj ht ?_;refine h its _ _ _ _ _ rv (Walks.tuple hh _ a (Qo hlt) its.toArray) ⟨⟨_,Qg _ rfl,rfl,rfl⟩,?_⟩ (fun b hb=>?_) fun h' tk hk=>I.kept fun b o e=>hk b o (nin b o e) (Qc _ e)
  ·obtain⟨o,e,c⟩:=ht;exact⟨o,Qc _ e,c⟩
  ·show b<(s.heap.push _).objs.size;rw[QC];rcases Qe.mp hb with z|z
   ·rw[z];exact QM _
   ·have:b=a:=by simpa using z
    rw[this];exact QK hlt
end

theorem Y6(l:List Int):∀j,j<=l.length->preSum (fun i=>l.getD i 0) j=(l.take j).sum
 | 0,_=>by simp[preSum]
 | j+1,h=>by
  rw[preSum,Y6 l j (by omega)];have hj:j<l.length:=by omega
  rw[List.take_add_one,List.sum_append];simp[hj]
section
variable{X:Cx}
noncomputable def Jel(K:Frag):List V->Hp->VK->Prop:=fun xs H Q=>∃(a:Addr) (ns:List Int),xs=[.ref a]/\(SqL K H a (ns.map V.int)\/SqT K H a (ns.map V.int))/\Q (.int ns.sum) H
theorem W0(hc:X.calm=true):CallR X (.builtin "sum") (Jel X.K):=by
 intro pins s σ H xs us Q I r h;obtain⟨a,ns,rfl,hq,q⟩:=h;obtain⟨u,rfl,rx⟩:=WQ r;cases rx;refine call_sum_walkG (Zh (A':=X.A.in1) (I.ok.hd hc) I hq fun its J fp wr Sx s2 rv W st hfp hI=>?_);have hi:=Yz rv;have hl:=rv.length;rw[Qx] at hl;refine⟨J,fp,wr,_,_,Sx,fun i=>ns.getD i 0,rfl,W,st,hfp,fun i v e=>?_,fun h' tk t' hk=>?_⟩
 ·have e':its[i]?=some v:=by simpa using e
  obtain⟨x,e1,e2⟩:=rv.get' e';rw[QB] at e1
  cases hn:ns[i]? with
  | none=>rw[hn] at e1;cases e1
  | some n=>rw[hn] at e1;cases e1;obtain⟨t,rfl⟩:=e2;exact⟨t,by simp[Ga,hn]⟩
 ·refine⟨.int ns.sum,H,hI h' tk hk,⟨t',?_⟩,q⟩;rw[show its.toArray.size=ns.length by simp[hl],Y6 ns _ (Qm _),List.take_length]
noncomputable def strI(i:Int):Str:=(toString i:String)
end
section
variable{X:Cx}{K:Frag}
theorem UM(hK:X.K=K)(hc:X.calm=true):CallR X (.builtin "sum") (Jel K):=hK▸W0 hc
end
section
variable{K:Frag}{H:Hp}{Q:VK}
end
end L2
namespace L2
open PySem PySem.Spec PyProof.Rows
noncomputable def AllP{α:Type}(P:α->Prop):List α->Prop
 | []=>True
 | x::xs=>P x/\AllP P xs
theorem AllP.mem{α:Type}{P:α->Prop}:∀{l:List α},AllP P l->∀x∈l,P x
 | [],_,x,hx=>nomatch hx
 | y::l,h,x,hx=>by
  rcases Qe.mp hx with z|z
  ·rw[z];exact h.1
  ·exact AllP.mem h.2 x z
theorem YA{cl:List (Str×Addr)}{x:Str}(h:cl.any (fun p=>p.1 == x)=true):(cl.lookup x).isSome=true:=by
 induction cl with
 | nil=>simp at h
 | cons p cl ih =>
  obtain⟨n,a⟩:=p;rw[List.lookup_cons]
  by_cases e:x == n
  ·rw[e];rfl
  ·have e':(x == n)=false:=by simpa using e
   rw[e'];rw[G2] at h;rcases Bool.or_eq_true_iff.mp h with z|z
   ·have:n=x:=eq_of_beq z;rw[this] at e';simp at e'
   ·exact ih z
theorem Jc3{X:Cx}{sc:Scope}{cl:List (Str×Addr)}{own:List Str}{fr:List (Str×Nat)}(h1:sc.kind=.function)(h2:closureFor sc X.env=pure cl)
 (h3:(sc.names.all fun y=>y.2 != .cell && (y.2 != .local || sc.names.lookup y.1 == some .local))=true) (h4:AllP (fun p=>X.env.cells.lookup p.1=some p.2) cl)
 (h5:((relabel sc X.env).names.all fun y=>(y.2 != .cell && y.2 != .free) || cl.any (fun p=>p.1 == y.1))=true)
 (h6:AllP (fun p=>X.N[p.2]?=some p.1/\X.env.scope.names.lookup p.1=some .cell/\(relabel sc X.env).names.lookup p.1=some .cell) fr) :
 Blk X sc cl (own++fr.map (·.1)) (own.map (fun _=>none)++fr.map (fun p=>some p.2)):=by
 simp only[QI,Qn] at h3;simp only[QI] at h5;refine⟨h2,h1,fun y hy=>?_,fun y hy hl=>?_,AllP.mem h4,fun y hy hk=>?_,by simp,fun p hp k e=>?_⟩
 ·have:=(h3 y hy).1
  simpa using this
 ·have:=(h3 y hy).2;rw[hl] at this
  simpa using this
 ·have:=h5 y hy;rcases Bool.or_eq_true_iff.mp this with z|z
  ·rcases hk with q|q
   ·rw[q] at z;simp at z
   ·rw[q] at z;simp at z
  ·exact YA z
 ·rw[List.zip_append (by simp)] at hp;rcases GK.mp hp with z|z
  ·have:=(Gx z).1;obtain⟨_,_,q⟩:=Kc.mp this;rw[<- q] at e;cases e
  ·rw[List.zip_map_left] at z;obtain⟨q,hq,eq⟩:=Kc.mp z
   have hz:q.1∈fr/\q.1.1=q.2:=by
    clear h6 e eq z hp;rw[List.zip_map_right] at hq;obtain⟨q',hq',eq'⟩:=Kc.mp hq
    have:q'.1=q'.2:=by
     clear eq' hq
     induction fr with
     | nil=>cases hq'
     | cons x fr ih =>
      rcases Qe.mp hq' with z|z
      ·rw[z]
      ·exact ih z
    rw[<- eq'];exact⟨(Gx hq').1,by show q'.1.1=q'.2.1;rw[this]⟩
   obtain⟨a1,a2,a3⟩:=AllP.mem h6 q.1 hz.1;rw[<- eq] at e ⊢;have ek:q.1.2=k:=by simpa using e
   subst ek;rw[hz.2] at a1 a2 a3;exact⟨a1,.inl a2,.inl a3⟩
end L2

namespace LR
open PySem L2

noncomputable def Small(i:Int):Prop:=i.natAbs.log2<1920
theorem Small.of{i:Int}(h:i.natAbs<2 ^ 1920):Small i:=by
 unfold Small
 by_cases h0:i.natAbs=0
 ·rw[h0];decide
 ·exact(Nat.log2_lt h0).mpr h
theorem Small.le{i:Int}(h1:-(10 ^ 100)<=i)(h2:i<=10 ^ 100):Small i:=Small.of (by
 have h3:i.natAbs<=10 ^ 100:=by omega
 exact Nat.lt_of_le_of_lt h3 (by decide +kernel))
end LR

namespace LE
open PySem L2 LR

inductive D where
 | non|bl (b:Bool)|int (i:Int)|str (x:Str)|tup (l:List D)|lst (l:List D)|fz (l:List D)|row (l:List D)|dct (ks:List Int) (l:List D)|dfz (ks:List Int) (l:List D)|exc (n:Str)
noncomputable def dkO(ks:List Int)(xs:List V):HO:=.dK ((ks.map Sum.inl).zip xs)
noncomputable def dtK(p:Int×Int):List Key:=[Sum.inl p.1,Sum.inl p.2]
noncomputable def dtO(ps:List (Int×Int))(xs:List V):HO:=.dT ((ps.map dtK).zip xs)
noncomputable def XO(a:Addr)(c:Value):HO:=.ext fun h=>∃o,h.get? a=some o/\o.cls=c/\PySem.W.notCls o=true/\o.dict=none

section
variable(K:Frag)(C:Addr)
inductive RD (H:Hp):V->D->Prop
 | non:RD H .non .non
 | bl (b:Bool):RD H (.bl b) (.bl b)
 | int (i:Int):RD H (.int i) (.int i)
 | str (x:Str):RD H (.str x) (.str x)
 | tup {a:Addr} {xs:List V} {ds:List D}:SqT K H a xs->xs.length=ds.length->(∀(i:Nat) (x:V) (d:D),xs[i]?=some x->ds[i]?=some d->RD H x d)->RD H (.ref a) (.tup ds)
 | lst {a:Addr} {xs:List V} {ds:List D}:H a=some (.lst xs)->xs.length=ds.length->(∀(i:Nat) (x:V) (d:D),xs[i]?=some x->ds[i]?=some d->RD H x d)->RD H (.ref a) (.lst ds)
 | fz {a:Addr} {xs:List V} {ds:List D}:SqL K H a xs->xs.length=ds.length->(∀(i:Nat) (x:V) (d:D),xs[i]?=some x->ds[i]?=some d->RD H x d)->RD H (.ref a) (.fz ds)
 | row {x dx t:Addr} {ts:List V} {ds:List D}:H x=some (.ins C dx (Jga t))->SqT K H t ts->ts.length=ds.length->(∀(i:Nat) (x:V) (d:D),ts[i]?=some x->ds[i]?=some d->RD H x d)->RD H (.ref x) (.row ds)
 | dct {a:Addr} {ks:List Int} {xs:List V} {ds:List D}:H a=some (dkO ks xs)->ks.length=ds.length->xs.length=ds.length->(∀(i:Nat) (x:V) (d:D),xs[i]?=some x->ds[i]?=some d->RD H x d)->RD H (.ref a) (.dct ks ds)
 | dfz {a:Addr} {ks:List Int} {xs:List V} {ds:List D} {o:Obj}:H a=some (.frz o (dkO ks xs))->ks.length=ds.length->xs.length=ds.length->(∀(i:Nat) (x:V) (d:D),xs[i]?=some x->ds[i]?=some d->RD H x d)->RD H (.ref a) (.dfz ks ds)
 | exc {a c:Addr} {n:Str}:H a=some (XO a (.ref c))->nsIn K mainGlobals n=some (some (.ref c))->RD H (.ref a) (.exc n)
noncomputable def RDL(H:Hp)(xs:List V)(ds:List D):Prop:=xs.length=ds.length/\∀(i:Nat) (x:V) (d:D),xs[i]?=some x->ds[i]?=some d->RD K C H x d
end

section
variable{K:Frag}{C:Addr}{H H':Hp}
theorem RD.mono{v:V}{d:D}(e:Same H H')(r:RD K C H v d):RD K C H' v d:=by
 induction r with
 | non=>exact .non
 | bl b=>exact .bl b
 | int i=>exact .int i
 | str x=>exact .str x
 | tup h l _ ih=>exact .tup (e.seqT h) l ih
 | lst h l _ ih=>exact .lst (e _ _ h) l ih
 | fz h l _ ih=>exact .fz (e.seq h) l ih
 | row h1 h2 l _ ih=>exact .row (e _ _ h1) (e.seqT h2) l ih
 | dct h1 h2 l _ ih=>exact .dct (e _ _ h1) h2 l ih
 | dfz h1 h2 l _ ih=>exact .dfz (e _ _ h1) h2 l ih
 | exc h1 h2=>exact .exc (e _ _ h1) h2
theorem RDL.mono{xs:List V}{ds:List D}(e:Same H H')(r:RDL K C H xs ds):RDL K C H' xs ds:=⟨r.1,fun i x d h1 h2=>(r.2 i x d h1 h2).mono e⟩
theorem RDL.nil:RDL K C H [] []:=⟨rfl,fun i x d e=>by simp at e⟩
theorem RDL.cons{x:V}{d:D}{xs:List V}{ds:List D}(h:RD K C H x d)(r:RDL K C H xs ds):RDL K C H (x::xs) (d::ds):=by
 refine⟨by simp[r.1],fun i y e h1 h2=>?_⟩
 cases i with
 | zero=>simp at h1 h2;subst h1 h2;exact h
 | succ i=>exact r.2 i y e (by simpa using h1) (by simpa using h2)
theorem RDL.append{xs ys:List V}{ds es:List D}(r:RDL K C H xs ds)(q:RDL K C H ys es):RDL K C H (xs++ys) (ds++es):=by
 refine⟨by simp[r.1,q.1],fun i x d h1 h2=>?_⟩
 by_cases hi:i<xs.length
 ·rw[Qu hi] at h1;rw[Qu (by rw[<- r.1];exact hi)] at h2;exact r.2 i x d h1 h2
 ·rw[QD (by omega)] at h1;rw[QD (by rw[<- r.1];omega)] at h2;rw[<- r.1] at h2;exact q.2 _ x d h1 h2
theorem RDL.snoc{xs:List V}{ds:List D}{x:V}{d:D}(r:RDL K C H xs ds)(h:RD K C H x d):RDL K C H (xs++[x]) (ds++[d]):=r.append (.cons h .nil)
theorem RDL.get{xs:List V}{ds:List D}{i:Nat}{d:D}(r:RDL K C H xs ds)(e:ds[i]?=some d):∃x,xs[i]?=some x/\RD K C H x d:=by
 have hi:=(Qi.mp e).1
 have hx:i<xs.length:=by rw[r.1];exact hi
 exact⟨xs[i],by simp[hx],r.2 i _ d (by simp[hx]) e⟩
theorem RDL.get'{xs:List V}{ds:List D}{i:Nat}{x:V}(r:RDL K C H xs ds)(e:xs[i]?=some x):∃d,ds[i]?=some d/\RD K C H x d:=by
 have hi:=(Qi.mp e).1
 have hx:i<ds.length:=by rw[<- r.1];exact hi
 exact⟨ds[i],by simp[hx],r.2 i x _ e (by simp[hx])⟩
theorem RDL.head{x:V}{xs:List V}{d:D}{ds:List D}(r:RDL K C H (x::xs) (d::ds)):RD K C H x d:=r.2 0 x d rfl rfl
theorem RDL.tail{x:V}{xs:List V}{d:D}{ds:List D}(r:RDL K C H (x::xs) (d::ds)):RDL K C H xs ds:=⟨by have:=r.1;simpa using this,fun i y e h1 h2=>r.2 (i+1) y e (by simpa using h1) (by simpa using h2)⟩
theorem RDL.take{xs:List V}{ds:List D}(n:Nat)(r:RDL K C H xs ds):RDL K C H (xs.take n) (ds.take n):=by
 refine⟨by simp[r.1],fun i x d h1 h2=>?_⟩;rw[List.getElem?_take] at h1 h2;split at h1
 ·rw[if_pos (by assumption)] at h2;exact r.2 i x d h1 h2
 ·cases h1
theorem RDL.drop{xs:List V}{ds:List D}(n:Nat)(r:RDL K C H xs ds):RDL K C H (xs.drop n) (ds.drop n):=by refine⟨by simp[r.1],fun i x d h1 h2=>?_⟩;rw[List.getElem?_drop] at h1 h2;exact r.2 _ x d h1 h2
theorem RDL.set{xs:List V}{ds:List D}{v:V}{e:D}(n:Nat)(r:RDL K C H xs ds)(h:RD K C H v e):RDL K C H (xs.set n v) (ds.set n e):=by
 refine⟨by simp[r.1],fun i x d h1 h2=>?_⟩;rw[QF] at h1 h2;split at h1
 ·rw[if_pos (by assumption)] at h2;split at h1
  ·rw[if_pos (by rw[<- r.1];assumption)] at h2;cases h1;cases h2;exact h
  ·cases h1
 ·rw[if_neg (by assumption)] at h2;exact r.2 i x d h1 h2
theorem RDL.reverse{xs:List V}{ds:List D}(r:RDL K C H xs ds):RDL K C H xs.reverse ds.reverse:=by
 refine⟨by simp[r.1],fun i x d h1 h2=>?_⟩;have hi:i<xs.length:=by have:=(Qi.mp h1).1;simpa using this
 rw[KY hi] at h1;rw[KY (by rw[<- r.1];exact hi)] at h2;rw[<- r.1] at h2;exact r.2 _ x d h1 h2
theorem RDL.ints:∀{xs:List V} {ns:List Int},RDL K C H xs (ns.map D.int)->xs=ns.map V.int
 | [],[],_=>rfl
 | [],_::_,r=>by have:=r.1;simp at this
 | _::_,[],r=>by have:=r.1;simp at this
 | x::xs,n::ns,r=>by have h:=r.head;cases h;rw[RDL.ints r.tail];rfl
theorem RDL.ofInts:∀(ns:List Int),RDL K C H (ns.map V.int) (ns.map D.int)
 | []=>.nil
 | n::ns=>.cons (.int n) (RDL.ofInts ns)
theorem RDL.strs:∀{xs:List V} {ns:List Str},RDL K C H xs (ns.map D.str)->xs=ns.map V.str
 | [],[],_=>rfl
 | [],_::_,r=>by have:=r.1;simp at this
 | _::_,[],r=>by have:=r.1;simp at this
 | x::xs,n::ns,r=>by have h:=r.head;cases h;rw[RDL.strs r.tail];rfl
theorem RD.mkT{a:Addr}{xs:List V}{ds:List D}(h:SqT K H a xs)(r:RDL K C H xs ds):RD K C H (.ref a) (.tup ds):=.tup h r.1 r.2
theorem RD.mkL{a:Addr}{xs:List V}{ds:List D}(h:H a=some (.lst xs))(r:RDL K C H xs ds):RD K C H (.ref a) (.lst ds):=.lst h r.1 r.2
theorem RD.mkF{a:Addr}{xs:List V}{ds:List D}(h:SqL K H a xs)(r:RDL K C H xs ds):RD K C H (.ref a) (.fz ds):=.fz h r.1 r.2
theorem RD.tupI{v:V}{ds:List D}(r:RD K C H v (.tup ds)):∃a xs,v=.ref a/\SqT K H a xs/\RDL K C H xs ds:=by
 cases r with
 | tup h l q=>exact⟨_,_,rfl,h,l,q⟩
theorem RD.lstI{v:V}{ds:List D}(r:RD K C H v (.lst ds)):∃a xs,v=.ref a/\H a=some (.lst xs)/\RDL K C H xs ds:=by
 cases r with
 | lst h l q=>exact⟨_,_,rfl,h,l,q⟩
theorem RD.fzI{v:V}{ds:List D}(r:RD K C H v (.fz ds)):∃a xs,v=.ref a/\SqL K H a xs/\RDL K C H xs ds:=by
 cases r with
 | fz h l q=>exact⟨_,_,rfl,h,l,q⟩
theorem RD.mkD{a:Addr}{ks:List Int}{xs:List V}{ds:List D}(h:H a=some (dkO ks xs))(hk:ks.length=ds.length)(r:RDL K C H xs ds):RD K C H (.ref a) (.dct ks ds):=.dct h hk r.1 r.2
theorem RD.dctI{v:V}{ks:List Int}{ds:List D}(r:RD K C H v (.dct ks ds)):∃a xs,v=.ref a/\H a=some (dkO ks xs)/\ks.length=ds.length/\RDL K C H xs ds:=by
 cases r with
 | dct h hk l q=>exact⟨_,_,rfl,h,hk,l,q⟩
theorem RD.dfzI{v:V}{ks:List Int}{ds:List D}(r:RD K C H v (.dfz ks ds)):∃a xs o,v=.ref a/\H a=some (.frz o (dkO ks xs))/\ks.length=ds.length/\RDL K C H xs ds:=by
 cases r with
 | dfz h hk l q=>exact⟨_,_,_,rfl,h,hk,l,q⟩
theorem RD.intI{v:V}{i:Int}(r:RD K C H v (.int i)):v=.int i:=by cases r;rfl
theorem RD.strI{v:V}{i:Str}(r:RD K C H v (.str i)):v=.str i:=by cases r;rfl
theorem RD.blI{v:V}{i:Bool}(r:RD K C H v (.bl i)):v=.bl i:=by cases r;rfl
theorem RD.nonI{v:V}(r:RD K C H v .non):v=.non:=by cases r;rfl
end

mutual
noncomputable def D.py:D->PyData
 | .non=>.none
 | .bl b=>.bool b
 | .int i=>.int i
 | .str x=>.str x
 | .tup l=>.tuple (D.pyL l)
 | .lst l=>.list (D.pyL l)
 | .fz l=>.list (D.pyL l)
 | .row _=>.dict []
 | .dct _ _=>.dict []
 | .dfz _ _=>.dict []
 | .exc _=>.dict []
noncomputable def D.pyL:List D->List PyData
 | []=>[]
 | d::ds=>d.py::D.pyL ds
end
theorem WD:∀ds:List D,D.pyL ds=ds.map D.py
 | []=>rfl
 | d::ds=>by rw[D.pyL,WD ds];rfl
theorem Uo:∀{ds:List PyData},GA ds=true->∀d∈ds,d.canLay0=true
 | [],_,d,hd=>nomatch hd
 | x::ds,h,d,hd=>by
  have h':(PyData.canLay0 x && GA ds)=true:=h;rw[Qn] at h';rcases Qe.mp hd with z|z
  ·rw[z];exact h'.1
  ·exact Uo h'.2 d z
theorem RD.rep{K:Frag}{C:Addr}{H:Hp}{v:V}{d:D}(r:RD K C H v d):d.py.canLay0=true->Rep K H v d.py:=by
 have all:∀{xs:List V} {ds:List D},xs.length=ds.length->(∀(i:Nat) (x:V) (d:D),xs[i]?=some x->ds[i]?=some d->d.py.canLay0=true->Rep K H x d.py)->GA (D.pyL ds)=true->RepL K H xs (D.pyL ds):=by
  intro xs ds l ih hc;rw[WD] at hc ⊢;refine⟨by simpa using l,fun i x d h1 h2=>?_⟩;rw[QB] at h2
  cases e:ds[i]? with
  | none=>rw[e] at h2;cases h2
  | some q=>rw[e] at h2;cases h2;exact ih i x q h1 e (Uo hc _ (Kc.mpr ⟨q,QL e,rfl⟩))
 induction r with
 | non=>intro _;exact .non
 | bl b=>intro _;exact .bl b
 | int i=>intro _;exact .int i
 | str x=>intro _;exact .str x
 | tup h l _ ih=>intro hc;exact .tupL h (all l ih hc)
 | lst h l _ ih=>intro hc;exact .lstL (.of h) (all l ih hc)
 | fz h l _ ih=>intro hc;exact .lstL h (all l ih hc)
 | row h1 h2 l _ ih=>intro hc;cases hc
 | dct h1 h2 l _ ih=>intro hc;cases hc
 | dfz h1 h2 l _ ih=>intro hc;cases hc
 | exc h1 h2=>intro hc;cases hc

inductive Sl where
 | no|sh (d:D)|bo (ds:List D)|own (ds:List D)|bd (ks:List Int) (ds:List D)|od (ks:List Int) (ds:List D)|bt (ps:List (Int×Int)) (ds:List D)|ot (ps:List (Int×Int)) (ds:List D)
noncomputable def Js:Sl->Bool
 | .own _=>true
 | .od _ _=>true
 | .ot _ _=>true
 | _=>false
noncomputable def JdD:Sl->Bool
 | .bo _=>true
 | .bd _ _=>true
 | .bt _ _=>true
 | _=>false

section
variable(K:Frag)(C:Addr)
noncomputable def RR(Hs H0 H:Hp)(v:V):Sl->Prop
 | .no=>False
 | .sh d=>RD K C H0 v d
 | .bo ds=>∃l xs,v=.ref l/\H l=some (.lst xs)/\RDL K C H0 xs ds
 | .own ds=>∃l xs,v=.ref l/\H l=some (.lst xs)/\H0 l=none/\Hs l=none/\RDL K C H0 xs ds
 | .bd ks ds=>∃l xs,v=.ref l/\H l=some (dkO ks xs)/\ks.length=ds.length/\RDL K C H0 xs ds
 | .bt ks ds=>∃l xs,v=.ref l/\H l=some (dtO ks xs)/\ks.length=ds.length/\RDL K C H0 xs ds
 | .od ks ds=>∃l xs,v=.ref l/\H l=some (dkO ks xs)/\H0 l=none/\Hs l=none/\ks.length=ds.length/\RDL K C H0 xs ds
 | .ot ks ds=>∃l xs,v=.ref l/\H l=some (dtO ks xs)/\H0 l=none/\Hs l=none/\ks.length=ds.length/\RDL K C H0 xs ds
noncomputable def RSl(B H0 H:Hp)(v:V):Sl->Prop
 | .no=>True
 | .sh d=>RD K C H0 v d
 | .bo ds=>∃l xs,v=.ref l/\B l=some (.lst xs)/\RDL K C H0 xs ds
 | .own ds=>∃l xs,v=.ref l/\H l=some (.lst xs)/\H0 l=none/\B l=none/\RDL K C H0 xs ds
 | .bd ks ds=>∃l xs,v=.ref l/\B l=some (dkO ks xs)/\ks.length=ds.length/\RDL K C H0 xs ds
 | .bt ks ds=>∃l xs,v=.ref l/\B l=some (dtO ks xs)/\ks.length=ds.length/\RDL K C H0 xs ds
 | .od ks ds=>∃l xs,v=.ref l/\H l=some (dkO ks xs)/\H0 l=none/\B l=none/\ks.length=ds.length/\RDL K C H0 xs ds
 | .ot ks ds=>∃l xs,v=.ref l/\H l=some (dtO ks xs)/\H0 l=none/\B l=none/\ks.length=ds.length/\RDL K C H0 xs ds
structure EnvR (B H0 H:Hp) (σ:St) (E:List Sl):Prop where
 b:Same B H
 h:Same H0 H
 len:σ.length=E.length
 at':∀(i:Nat) (s:Sl),E[i]?=some s->s=.no\/∃v,σ[i]?=some (some v)/\RSl K C B H0 H v s
 sep:∀(i j:Nat) (s t:Sl) (v:V),i≠j->E[i]?=some s->E[j]?=some t->Js s=true->Js t=true->σ[i]?=some (some v)->σ[j]?≠some (some v)
end
noncomputable def isT:HO->Bool
 | .tup _=>true
 | .frz _ (.tup _)=>true
 | _=>false
structure Step (Hs H0 H H0' H':Hp):Prop where
 h:Same H H'
 z:Same H0 H0'
 n:∀a o,H0' a=some o->H0 a=some o\/Hs a=none\/isT o=true
 i:Same H0' H'
structure SStep (B H0 H0' H':Hp):Prop where
 b:Same B H'
 z:Same H0 H0'
 n:∀a o,H0' a=some o->H0 a=some o\/B a=none\/isT o=true
 i:Same H0' H'

section
variable{K:Frag}{C:Addr}{B Hs H0 H H0' H' H0'' H'':Hp}{σ:St}{E:List Sl}{v:V}{s:Sl}
theorem Step.refl(i:Same H0 H):Step Hs H0 H H0 H:=⟨Same.refl _,Same.refl _,fun _ _ e=>.inl e,i⟩
theorem Step.comp{Hs':Hp}(s1:Step Hs H0 H H0' H')(s2:Step Hs' H0' H' H0'' H'')(w:∀a,Hs' a=none->Hs a=none):Step Hs H0 H H0'' H'' :=
 ⟨s1.h.trans s2.h,s1.z.trans s2.z,fun a o e=>(s2.n a o e).elim (fun q=>s1.n a o q) fun q=>.inr (q.imp (w a) id),s2.i⟩
theorem Step.trans(s1:Step H H0 H H0' H')(s2:Step H' H0' H' H0'' H''):Step H H0 H H0'' H'':=s1.comp s2 fun _ q=>Same.free s1.h q
theorem Step.ss(b:Same B H)(s:Step H H0 H H0' H'):SStep B H0 H0' H':=⟨b.trans s.h,s.z,fun a o e=>(s.n a o e).imp id fun q=>q.imp (fun q=>Same.free b q) id,s.i⟩
theorem SStep.refl(b:Same B H)(i:Same H0 H):SStep B H0 H0 H:=⟨b,Same.refl _,fun _ _ e=>.inl e,i⟩
theorem SStep.trans(s1:SStep B H0 H0' H')(s2:SStep B H0' H0'' H''):SStep B H0 H0'' H'':=⟨s2.b,s1.z.trans s2.z,fun a o e=>(s2.n a o e).elim (fun q=>s1.n a o q) .inr,s2.i⟩
theorem RR.step(r:RR K C Hs H0 H v s)(st:Step H H0 H H0' H'):RR K C Hs H0' H' v s:=by
 cases s with
 | no=>exact r
 | sh d=>exact RD.mono st.z r
 | bo ds=>obtain⟨l,xs,e,h,q⟩:=r;exact⟨l,xs,e,st.h _ _ h,q.mono st.z⟩
 | bd ks ds=>obtain⟨l,xs,e,h,hk,q⟩:=r;exact⟨l,xs,e,st.h _ _ h,hk,q.mono st.z⟩
 | bt ks ds=>obtain⟨l,xs,e,h,hk,q⟩:=r;exact⟨l,xs,e,st.h _ _ h,hk,q.mono st.z⟩
 | own ds =>
  obtain⟨l,xs,e,h,n,m,q⟩:=r;refine⟨l,xs,e,st.h _ _ h,?_,m,q.mono st.z⟩
  cases z:H0' l with
  | none=>rfl
  | some o =>
   rcases st.n l o z with y|y|y
   ·rw[n] at y;cases y
   ·rw[h] at y;cases y
   ·have:=st.i l o z;rw[st.h _ _ h] at this;cases this;cases y
 | od ks ds =>
  obtain⟨l,xs,e,h,n,m,hk,q⟩:=r;refine⟨l,xs,e,st.h _ _ h,?_,m,hk,q.mono st.z⟩
  cases z:H0' l with
  | none=>rfl
  | some o =>
   rcases st.n l o z with y|y|y
   ·rw[n] at y;cases y
   ·rw[h] at y;cases y
   ·have:=st.i l o z;rw[st.h _ _ h] at this;cases this;cases y
 | ot ks ds =>
  obtain⟨l,xs,e,h,n,m,hk,q⟩:=r;refine⟨l,xs,e,st.h _ _ h,?_,m,hk,q.mono st.z⟩
  cases z:H0' l with
  | none=>rfl
  | some o =>
   rcases st.n l o z with y|y|y
   ·rw[n] at y;cases y
   ·rw[h] at y;cases y
   ·have:=st.i l o z;rw[st.h _ _ h] at this;cases this;cases y
theorem RR.weak{Hs':Hp}(r:RR K C Hs' H0 H v s)(w:∀a,Hs' a=none->Hs a=none):RR K C Hs H0 H v s:=by
 cases s with
 | own ds=>obtain⟨l,xs,e,h,n,m,q⟩:=r;exact⟨l,xs,e,h,n,w _ m,q⟩
 | od ks ds=>obtain⟨l,xs,e,h,n,m,q⟩:=r;exact⟨l,xs,e,h,n,w _ m,q⟩
 | ot ks ds=>obtain⟨l,xs,e,h,n,m,q⟩:=r;exact⟨l,xs,e,h,n,w _ m,q⟩
 | _=>exact r
theorem RSl.owned(r:RSl K C B H0 H v s)(o:Js s=true):∃l,v=.ref l/\H l≠none/\H0 l=none/\B l=none:=by
 cases s with
 | own ds=>obtain⟨l,xs,e,h,n,m,q⟩:=r;exact⟨l,e,(by rw[h];intro z;cases z),n,m⟩
 | od ks ds=>obtain⟨l,xs,e,h,n,m,q⟩:=r;exact⟨l,e,(by rw[h];intro z;cases z),n,m⟩
 | ot ks ds=>obtain⟨l,xs,e,h,n,m,q⟩:=r;exact⟨l,e,(by rw[h];intro z;cases z),n,m⟩
 | _=>cases o
theorem RR.owned(r:RR K C Hs H0 H v s)(o:Js s=true):∃l,v=.ref l/\H l≠none/\H0 l=none/\Hs l=none:=by
 cases s with
 | own ds=>obtain⟨l,xs,e,h,n,m,q⟩:=r;exact⟨l,e,(by rw[h];intro z;cases z),n,m⟩
 | od ks ds=>obtain⟨l,xs,e,h,n,m,q⟩:=r;exact⟨l,e,(by rw[h];intro z;cases z),n,m⟩
 | ot ks ds=>obtain⟨l,xs,e,h,n,m,q⟩:=r;exact⟨l,e,(by rw[h];intro z;cases z),n,m⟩
 | _=>cases o
theorem EnvR.step(I:EnvR K C B H0 H σ E)(st:Step H H0 H H0' H'):EnvR K C B H0' H' σ E:=by
 refine⟨I.b.trans st.h,st.i,I.len,fun i s e=>?_,I.sep⟩;rcases I.at' i s e with z|⟨v,h1,h2⟩
 ·exact .inl z
 ·refine .inr ⟨v,h1,?_⟩
  cases s with
  | no=>trivial
  | sh d=>exact RD.mono st.z h2
  | bo ds=>obtain⟨l,xs,e,h,q⟩:=h2;exact⟨l,xs,e,h,q.mono st.z⟩
  | own ds=>exact RR.step (Hs:=B) (s:=.own ds) h2 st
  | bd ks ds=>obtain⟨l,xs,e,h,hk,q⟩:=h2;exact⟨l,xs,e,h,hk,q.mono st.z⟩
  | bt ks ds=>obtain⟨l,xs,e,h,hk,q⟩:=h2;exact⟨l,xs,e,h,hk,q.mono st.z⟩
  | od ks ds=>exact RR.step (Hs:=B) (s:=.od ks ds) h2 st
  | ot ks ds=>exact RR.step (Hs:=B) (s:=.ot ks ds) h2 st
theorem EnvR.sub{E':List Sl}(I:EnvR K C B H0 H σ E)(hl:E'.length=E.length)(h:∀(i:Nat) (s:Sl),E'[i]?=some s->s=.no\/E[i]?=some s):EnvR K C B H0 H σ E':=by
 refine⟨I.b,I.h,I.len.trans hl.symm,fun i s e=>?_,fun i j s t v hij e1 e2 o1 o2=>?_⟩
 ·rcases h i s e with z|z
  ·exact .inl z
  ·exact I.at' i s z
 ·rcases h i _ e1 with z|z
  ·subst z;cases o1
  ·rcases h j _ e2 with y|y
   ·subst y;cases o2
   ·exact I.sep i j s t v hij z y o1 o2
theorem EnvR.put(I:EnvR K C B H0 H σ E){i:Nat}(hi:i<E.length){Hs:Hp}(hB:∀a,Hs a=none->B a=none)(hf:∀(j:Nat) (t:Sl) (l:Addr),E[j]?=some t->Js t=true->σ[j]?=some (some (.ref l))->Hs l≠none)(r:RR K C Hs H0 H v s)(hb:JdD s=false):EnvR K C B H0 H (σ.set i (some v)) (E.set i s):=by
 refine⟨I.b,I.h,by simp[I.len],fun j t e=>?_,fun j k s1 s2 u hjk e1 e2 o1 o2 e3 e4=>?_⟩
 ·rw[QF] at e
  by_cases hj:i=j
  ·subst hj;rw[if_pos rfl,if_pos hi] at e;cases e;refine .inr ⟨v,by rw[QF];simp[I.len,hi],?_⟩
   cases s with
   | no=>trivial
   | sh d=>exact r
   | bo ds=>cases hb
   | own ds=>obtain⟨l,xs,e,h,n,m,q⟩:=r;exact⟨l,xs,e,h,n,hB _ m,q⟩
   | bd ks ds=>cases hb
   | bt ks ds=>cases hb
   | od ks ds=>obtain⟨l,xs,e,h,n,m,q⟩:=r;exact⟨l,xs,e,h,n,hB _ m,q⟩
   | ot ks ds=>obtain⟨l,xs,e,h,n,m,q⟩:=r;exact⟨l,xs,e,h,n,hB _ m,q⟩
  ·rw[if_neg hj] at e;rcases I.at' j t e with z|⟨u,h1,h2⟩
   ·exact .inl z
   ·exact .inr ⟨u,by rw[QF,if_neg hj];exact h1,h2⟩
 ·rw[QF] at e1 e2 e3 e4
  by_cases hj:i=j
  ·subst hj;rw[if_neg hjk] at e2 e4;rw[if_pos rfl,if_pos hi] at e1;rw[if_pos rfl,if_pos (by rw[I.len];exact hi)] at e3;cases e3;cases e1;obtain⟨l,e,_,_,m⟩:=r.owned o1;subst e;exact hf k _ l e2 o2 e4 m
  ·rw[if_neg hj] at e1 e3
   by_cases hk:i=k
   ·subst hk;rw[if_pos rfl,if_pos hi] at e2;rw[if_pos rfl,if_pos (by rw[I.len];exact hi)] at e4;cases e2;have e4':v=u:=Qr (Qr e4);subst e4';obtain⟨l,e,_,_,m⟩:=r.owned o2;subst e;exact hf j _ l e1 o1 e3 m
   ·rw[if_neg hk] at e2 e4;exact I.sep j k _ _ u hjk e1 e2 o1 o2 e3 e4
theorem EnvR.ownG(I:EnvR K C B H0 H σ E){j:Nat}{t:Sl}{l:Addr}(e1:E[j]?=some t)(ho:Js t=true)(e2:σ[j]?=some (some (.ref l))):H l≠none/\H0 l=none/\B l=none:=by
 rcases I.at' j _ e1 with z|⟨v,h1,h2⟩
 ·subst z;cases ho
 ·rw[e2] at h1;cases h1;obtain⟨l',e,h⟩:=h2.owned ho;cases e;exact h
theorem EnvR.put'{H1 H01:Hp}(I:EnvR K C B H0 H σ E)(st:Step H H0 H H01 H1){i:Nat}(hi:i<E.length)(r:RR K C H H01 H1 v s)(hb:JdD s=false):EnvR K C B H01 H1 (σ.set i (some v)) (E.set i s) :=
 (I.step st).put hi (fun a q=>Same.free I.b q) (fun j t l e1 o1 e2=>(I.ownG e1 o1 e2).1) r hb
noncomputable def Jam:Option HO->Option HO
 | some o=>if isT o=true then some o else none
 | none=>none
noncomputable def J8(Hs H0 H:Hp):Hp:=fun a=>match H0 a with
 | some o=>some o
 | none=>match Hs a with
  | none=>H a
  | some _=>Jam (H a)
theorem Um{o:Option HO}{u:HO}(e:Jam o=some u):o=some u/\isT u=true:=by
 cases o with
 | none=>cases e
 | some w =>
  unfold Jam at e;dsimp only at e;split at e
  ·cases e;exact⟨rfl,by assumption⟩
  ·cases e
theorem JJ(i:Same H0 H):Step Hs H0 H (J8 Hs H0 H) H:=by
 refine⟨Same.refl _,fun a o e=>by unfold J8;rw[e],fun a o e=>?_,fun a o e=>?_⟩
 ·unfold J8 at e
  cases h:H0 a with
  | some u=>rw[h] at e;exact .inl e
  | none =>
   rw[h] at e
   cases h2:Hs a with
   | none=>exact .inr (.inl rfl)
   | some u=>rw[h2] at e;exact .inr (.inr (Um e).2)
 ·unfold J8 at e
  cases h:H0 a with
  | some u=>rw[h] at e;cases e;exact i a _ h
  | none =>
   rw[h] at e
   cases h2:Hs a with
   | none=>rw[h2] at e;exact e
   | some u=>rw[h2] at e;exact(Um e).1
theorem Wv{a:Addr}{o:HO}(i:Same H0 H)(n:Hs a=none)(h:H a=some o):J8 Hs H0 H a=some o:=by
 unfold J8
 cases z:H0 a with
 | some u=>rw[i a u z] at h;exact h
 | none=>dsimp only;rw[n];exact h
noncomputable def Sl.frz:Sl->Option D
 | .sh d=>some d
 | .own ds=>some (.lst ds)
 | .od ks ds=>some (.dct ks ds)
 | _=>none
theorem RR.frz{d:D}(i:Same H0 H)(r:RR K C Hs H0 H v s)(e:s.frz=some d):RD K C (J8 Hs H0 H) v d:=by
 have st:Step Hs H0 H (J8 Hs H0 H) H:=JJ i
 cases s with
 | no=>cases e
 | sh d'=>cases e;exact RD.mono st.z r
 | bo ds=>cases e
 | own ds=>cases e;obtain⟨l,xs,e,h,n,m,q⟩:=r;subst e;exact .mkL (Wv i m h) (q.mono st.z)
 | bd ks ds=>cases e
 | bt ks ds=>cases e
 | od ks ds=>cases e;obtain⟨l,xs,e,h,n,m,hk,q⟩:=r;subst e;exact .mkD (Wv i m h) hk (q.mono st.z)
 | ot ks ds=>cases e
end
end LE

namespace LE
open PySem L2 LR

noncomputable abbrev En:=List Sl
noncomputable abbrev Ev:=En->Option Sl
section
variable(K:Frag)(C:Addr)
noncomputable def SE(te:TE)(ev:Ev):Prop:=∀(B H0 H:Hp) (σ:St) (E:En) (r:Sl) (Q:VK),EnvR K C B H0 H σ E->ev E=some r ->
 (∀v H0' H',Step H H0 H H0' H'->RR K C H H0' H' v r->Q v H')->te σ H Q
noncomputable def ST(t:TT)(ev:En->Option Bool):Prop:=∀(B H0 H:Hp) (σ:St) (E:En) (r:Bool) (Q:Bool->Hp->Prop),EnvR K C B H0 H σ E->ev E=some r ->
 (∀H0' H',Step H H0 H H0' H'->Q r H')->t σ H Q
inductive RRL (Hs H0 H:Hp):List V->List Sl->Prop
 | nil:RRL Hs H0 H [] []
 | cons {v:V} {s:Sl} {vs:List V} {ss:List Sl}:RR K C Hs H0 H v s->RRL Hs H0 H vs ss->RRL Hs H0 H (v::vs) (s::ss)
noncomputable def SA(t:TA)(ev:En->Option (List Sl)):Prop:=∀(B H0 H:Hp) (σ:St) (E:En) (r:List Sl) (Q:List V->Hp->Prop),EnvR K C B H0 H σ E->ev E=some r ->
 (∀vs H0' H',Step H H0 H H0' H'->RRL K C H H0' H' vs r->Q vs H')->t σ H Q
noncomputable def OpS(r:R2)(f:Sl->Sl->Option Sl):Prop:=∀(Hs H0 H:Hp) (x y:V) (a b c:Sl) (Q:VK),Same H0 H->Same Hs H->RR K C Hs H0 H x a->RR K C Hs H0 H y b->f a b=some c ->
 (∀v H0' H',Step Hs H0 H H0' H'->RR K C Hs H0' H' v c->Q v H')->r x y H Q
noncomputable def Wj(r:List V->Hp->VK->Prop)(f:List Sl->Option Sl):Prop:=∀(Hs H0 H:Hp) (xs:List V) (as:List Sl) (c:Sl) (Q:VK),Same H0 H->Same Hs H->RRL K C Hs H0 H xs as->f as=some c ->
 (∀v H0' H',Step Hs H0 H H0' H'->RR K C Hs H0' H' v c->Q v H')->r xs H Q
end

noncomputable def Jb(i:Nat):Ev:=fun E=>match E[i]? with
 | some (.sh d)=>some (.sh d)
 | some (.bo ds)=>some (.bo ds)
 | some (.own ds)=>some (.bo ds)
 | some (.bd ks ds)=>some (.bd ks ds)
 | some (.od ks ds)=>some (.bd ks ds)
 | some (.bt ks ds)=>some (.bt ks ds)
 | some (.ot ks ds)=>some (.bt ks ds)
 | _=>none
noncomputable def eC(d:D):Ev:=fun _=>some (.sh d)
noncomputable def e2(f:Sl->Sl->Option Sl)(a b:Ev):Ev:=fun E=>(a E).bind fun x=>(b E).bind fun y=>f x y
noncomputable def e1(f:Sl->Option Sl)(a:Ev):Ev:=fun E=>(a E).bind f
noncomputable def a0:En->Option (List Sl):=fun _=>some []
noncomputable def aC(a:Ev)(as:En->Option (List Sl)):En->Option (List Sl):=fun E=>(a E).bind fun x=>(as E).bind fun xs=>some (x::xs)
noncomputable def eF(f:List Sl->Option Sl)(as:En->Option (List Sl)):Ev:=fun E=>(as E).bind f
noncomputable def bool?:Sl->Option Bool
 | .sh (.bl b)=>some b
 | _=>none
noncomputable def Jc9(a b:Ev):Ev:=fun E=>((a E).bind bool?).bind fun k=>if k=true then b E else some (.sh (.bl false))
noncomputable def Jdb(a:Ev):Ev:=fun E=>((a E).bind bool?).bind fun k=>some (.sh (.bl (!k)))
noncomputable def eIf(c:En->Option Bool)(a b:Ev):Ev:=fun E=>(c E).bind fun k=>if k=true then a E else b E
noncomputable def sh?:Sl->Option D
 | .sh d=>some d
 | _=>none
noncomputable def tB?(a:Ev):En->Option Bool:=fun E=>(a E).bind bool?
noncomputable def tAnd?(a b:En->Option Bool):En->Option Bool:=fun E=>(a E).bind fun k=>if k=true then b E else some false
noncomputable def tOr?(a b:En->Option Bool):En->Option Bool:=fun E=>(a E).bind fun k=>if k=true then some true else b E
noncomputable def tNot?(a:En->Option Bool):En->Option Bool:=fun E=>(a E).bind fun k=>some (!k)

section
variable{K:Frag}{C:Addr}
theorem bind_some{α β:Type}{x:Option α}{f:α->Option β}{b:β}(e:x.bind f=some b):∃a,x=some a/\f a=some b:=by
 cases x with
 | none=>cases e
 | some a=>exact⟨a,rfl,e⟩
theorem YW{s:Sl}{b:Bool}(e:bool? s=some b):s=.sh (.bl b):=by
 cases s with
 | sh d=>cases d with
  | bl x=>cases e;rfl
  | _=>cases e
 | _=>cases e
variable{ta tb tc te:TE}{ea eb ec:Ev}
theorem JcR(i:Nat):SE K C (Wg i) (Jb i):=by
 intro B H0 H σ E r Q I e q;unfold Jb at e
 cases h:E[i]? with
 | none=>rw[h] at e;cases e
 | some s =>
  rw[h] at e;rcases I.at' i s h with z|⟨v,h1,h2⟩
  ·subst z;cases e
  ·refine⟨v,h1,q v H0 H (.refl I.h) ?_⟩
   cases s with
   | no=>cases e
   | sh d=>cases e;exact h2
   | bo ds=>cases e;obtain⟨l,xs,e,hl,r⟩:=h2;exact⟨l,xs,e,I.b _ _ hl,r⟩
   | own ds=>cases e;obtain⟨l,xs,e,hl,_,_,r⟩:=h2;exact⟨l,xs,e,hl,r⟩
   | bd ks ds=>cases e;obtain⟨l,xs,e,hl,r⟩:=h2;exact⟨l,xs,e,I.b _ _ hl,r⟩
   | bt ks ds=>cases e;obtain⟨l,xs,e,hl,r⟩:=h2;exact⟨l,xs,e,I.b _ _ hl,r⟩
   | od ks ds=>cases e;obtain⟨l,xs,e,hl,_,_,r⟩:=h2;exact⟨l,xs,e,hl,r⟩
   | ot ks ds=>cases e;obtain⟨l,xs,e,hl,_,_,r⟩:=h2;exact⟨l,xs,e,hl,r⟩
theorem Jgk:SE K C (tC .non) (eC .non):=fun _ _ _ _ _ _ _ I e q=>by cases e;exact q _ _ _ (.refl I.h) .non
theorem Jg5{b:Bool}:SE K C (tC (.bl b)) (eC (.bl b)):=fun _ _ _ _ _ _ _ I e q=>by cases e;exact q _ _ _ (.refl I.h) (.bl b)
theorem Jgg{i:Int}:SE K C (tC (.int i)) (eC (.int i)):=fun _ _ _ _ _ _ _ I e q=>by cases e;exact q _ _ _ (.refl I.h) (.int i)
theorem Jg8{r:R2}{f:Sl->Sl->Option Sl}(ho:OpS K C r f)(ha:SE K C ta ea)(hb:SE K C tb eb):SE K C (tOp r ta tb) (e2 f ea eb):=by
 intro B H0 H σ E c Q I e q;obtain⟨a,e1,e⟩:=bind_some e;obtain⟨b,e2,e⟩:=bind_some e;exact ha B H0 H σ E a _ I e1 fun x H1 H1' s1 r1=>hb B H1 H1' σ E b _ (I.step s1) e2 fun y H2 H2' s2 r2=>ho H H2 H2' x y a b c Q s2.i (s1.h.trans s2.h) (r1.step s2) (r2.weak fun a q=>Same.free s1.h q) e fun v H3 H3' s3 r3=>q v H3 H3' ((s1.trans s2).comp s3 fun _ z=>z) r3
theorem Jgj:SA K C VY a0:=fun _ _ _ _ _ _ _ I e q=>by cases e;exact q _ _ _ (.refl I.h) .nil
theorem RRL.step{Hs H0 H H0' H':Hp}{vs:List V}{ss:List Sl}(r:RRL K C Hs H0 H vs ss)(st:Step H H0 H H0' H'):RRL K C Hs H0' H' vs ss:=by
 induction r with
 | nil=>exact .nil
 | cons h _ ih=>exact .cons (h.step st) ih
theorem RRL.weak{Hs Hs' H0 H:Hp}{vs:List V}{ss:List Sl}(r:RRL K C Hs' H0 H vs ss)(w:∀a,Hs' a=none->Hs a=none):RRL K C Hs H0 H vs ss:=by
 induction r with
 | nil=>exact .nil
 | cons h _ ih=>exact .cons (h.weak w) ih
theorem JeN{tr:TA}{er:En->Option (List Sl)}(ha:SE K C ta ea)(hr:SA K C tr er):SA K C (YT ta tr) (aC ea er):=by
 intro B H0 H σ E c Q I e q;obtain⟨a,e1,e⟩:=bind_some e;obtain⟨b,e2,e⟩:=bind_some e;cases e;exact ha B H0 H σ E a _ I e1 fun x H1 H1' s1 r1=>hr B H1 H1' σ E b _ (I.step s1) e2 fun y H2 H2' s2 r2=>q _ H2 H2' (s1.trans s2) (.cons (r1.step s2) (r2.weak fun a q=>Same.free s1.h q))
theorem Jg4{r:List V->Hp->VK->Prop}{t:TA}{ev:En->Option (List Sl)}{f:List Sl->Option Sl}(hc:Wj K C r f)(ha:SA K C t ev):SE K C (tCB r t) (eF f ev):=by intro B H0 H σ E c Q I e q;obtain⟨a,e1,e⟩:=bind_some e;exact ha B H0 H σ E a _ I e1 fun x H1 H1' s1 r1=>hc H H1 H1' x a c Q s1.i s1.h r1 e fun v H3 H3' s3 r3=>q v H3 H3' (s1.comp s3 fun _ z=>z) r3
theorem Jgb(ha:SE K C ta ea)(hb:SE K C tb eb):SE K C (JaW ta tb) (Jc9 ea eb):=by
 intro B H0 H σ E c Q I e q;obtain⟨k,e1,e⟩:=bind_some e;obtain⟨a,e0,e1⟩:=bind_some e1;refine ha B H0 H σ E a _ I e0 fun x H1 H1' s1 r1=>?_
 rw[YW e1] at r1;refine⟨k,RD.blI r1,?_⟩
 cases k with
 | true=>exact hb B H1 H1' σ E c Q (I.step s1) e fun y H2 H2' s2 r2=>q y H2 H2' (s1.trans s2) (r2.weak fun a q=>Same.free s1.h q)
 | false=>cases e;exact q _ _ _ s1 (RD.bl false)
theorem Jgl(ha:SE K C ta ea):SE K C (JaZ ta) (Jdb ea):=by
 intro B H0 H σ E c Q I e q;obtain⟨k,e1,e⟩:=bind_some e;obtain⟨a,e0,e1⟩:=bind_some e1;refine ha B H0 H σ E a _ I e0 fun x H1 H1' s1 r1=>?_
 rw[YW e1] at r1;cases e;exact⟨k,RD.blI r1,q _ _ _ s1 (RD.bl _)⟩
theorem Jgf{c:TT}{cv:En->Option Bool}(hc:ST K C c cv)(ha:SE K C ta ea)(hb:SE K C tb eb):SE K C (tIf c ta tb) (eIf cv ea eb):=by
 intro B H0 H σ E r Q I e q;obtain⟨k,e1,e⟩:=bind_some e;refine hc B H0 H σ E k _ I e1 fun H1 H1' s1=>?_
 cases k with
 | true=>exact ha B H1 H1' σ E r Q (I.step s1) e fun y H2 H2' s2 r2=>q y H2 H2' (s1.trans s2) (r2.weak fun a q=>Same.free s1.h q)
 | false=>exact hb B H1 H1' σ E r Q (I.step s1) e fun y H2 H2' s2 r2=>q y H2 H2' (s1.trans s2) (r2.weak fun a q=>Same.free s1.h q)
theorem JeR(ha:SE K C te ea):ST K C (Ja1 te) (tB? ea):=by
 intro B H0 H σ E k Q I e q;obtain⟨a,e1,e⟩:=bind_some e;refine ha B H0 H σ E a _ I e1 fun x H1 H1' s1 r1=>?_
 rw[YW e] at r1;exact⟨k,RD.blI r1,q _ _ s1⟩
theorem JeP{c d:TT}{ev ew:En->Option Bool}(hc:ST K C c ev)(hd:ST K C d ew):ST K C (JeV c d) (tAnd? ev ew):=by
 intro B H0 H σ E k Q I e q;obtain⟨a,e1,e⟩:=bind_some e;refine hc B H0 H σ E a _ I e1 fun H1 H1' s1=>?_
 cases a with
 | true=>exact hd B H1 H1' σ E k Q (I.step s1) e fun H2 H2' s2=>q H2 H2' (s1.trans s2)
 | false=>cases e;exact q _ _ s1
theorem Jgm{c d:TT}{ev ew:En->Option Bool}(hc:ST K C c ev)(hd:ST K C d ew):ST K C (tOr c d) (tOr? ev ew):=by
 intro B H0 H σ E k Q I e q;obtain⟨a,e1,e⟩:=bind_some e;refine hc B H0 H σ E a _ I e1 fun H1 H1' s1=>?_
 cases a with
 | false=>exact hd B H1 H1' σ E k Q (I.step s1) e fun H2 H2' s2=>q H2 H2' (s1.trans s2)
 | true=>cases e;exact q _ _ s1
theorem JeQ{c:TT}{ev:En->Option Bool}(hc:ST K C c ev):ST K C (JeZ c) (tNot? ev):=by intro B H0 H σ E k Q I e q;obtain⟨a,e1,e⟩:=bind_some e;cases e;exact hc B H0 H σ E a _ I e1 fun H1 H1' s1=>q _ _ s1
end

noncomputable def Sl.m:Sl->Option (List D)
 | .sh (.lst ds)=>some ds
 | .bo ds=>some ds
 | .own ds=>some ds
 | _=>none
noncomputable def Sl.r:Sl->Option (List D)
 | .sh (.lst ds)=>some ds
 | .sh (.fz ds)=>some ds
 | .bo ds=>some ds
 | .own ds=>some ds
 | _=>none
noncomputable def Sl.q:Sl->Option (List D)
 | .sh (.lst ds)=>some ds
 | .sh (.fz ds)=>some ds
 | .sh (.tup ds)=>some ds
 | .bo ds=>some ds
 | .own ds=>some ds
 | _=>none
noncomputable def Sl.d:Sl->Option D
 | .sh d=>some d
 | .bo ds=>some (.lst ds)
 | .own ds=>some (.lst ds)
 | .bd ks ds=>some (.dct ks ds)
 | .od ks ds=>some (.dct ks ds)
 | .bt _ _=>none
 | .ot _ _=>none
 | .no=>none
section
variable{K:Frag}{C:Addr}{Hs H0 H:Hp}{v:V}{s:Sl}{ds:List D}{d:D}
theorem RR.m(r:RR K C Hs H0 H v s)(i:Same H0 H)(e:s.m=some ds):∃l xs,v=.ref l/\H l=some (.lst xs)/\RDL K C H0 xs ds:=by
 cases s with
 | no=>cases e
 | bo es=>cases e;exact r
 | own es=>cases e;obtain⟨l,xs,h1,h2,_,_,h3⟩:=r;exact⟨l,xs,h1,h2,h3⟩
 | bd _ _=>cases e
 | bt _ _=>cases e
 | od _ _=>cases e
 | ot _ _=>cases e
 | sh d=>cases d with
  | lst es=>cases e;obtain⟨l,xs,h1,h2,h3⟩:=RD.lstI r;exact⟨l,xs,h1,i _ _ h2,h3⟩
  | _=>cases e
theorem RR.r(r:RR K C Hs H0 H v s)(i:Same H0 H)(e:s.r=some ds):∃l xs,v=.ref l/\SqL K H l xs/\RDL K C H0 xs ds:=by
 cases s with
 | no=>cases e
 | bo es=>cases e;obtain⟨l,xs,h1,h2,h3⟩:=r;exact⟨l,xs,h1,.of h2,h3⟩
 | own es=>cases e;obtain⟨l,xs,h1,h2,_,_,h3⟩:=r;exact⟨l,xs,h1,.of h2,h3⟩
 | bd _ _=>cases e
 | bt _ _=>cases e
 | od _ _=>cases e
 | ot _ _=>cases e
 | sh d=>cases d with
  | lst es=>cases e;obtain⟨l,xs,h1,h2,h3⟩:=RD.lstI r;exact⟨l,xs,h1,.of (i _ _ h2),h3⟩
  | fz es=>cases e;obtain⟨l,xs,h1,h2,h3⟩:=RD.fzI r;exact⟨l,xs,h1,i.seq h2,h3⟩
  | _=>cases e
theorem RR.q(r:RR K C Hs H0 H v s)(i:Same H0 H)(e:s.q=some ds):∃l xs,v=.ref l/\(SqL K H l xs\/SqT K H l xs)/\RDL K C H0 xs ds:=by
 cases s with
 | no=>cases e
 | bo es=>cases e;obtain⟨l,xs,h1,h2,h3⟩:=r;exact⟨l,xs,h1,.inl (.of h2),h3⟩
 | own es=>cases e;obtain⟨l,xs,h1,h2,_,_,h3⟩:=r;exact⟨l,xs,h1,.inl (.of h2),h3⟩
 | bd _ _=>cases e
 | bt _ _=>cases e
 | od _ _=>cases e
 | ot _ _=>cases e
 | sh d=>cases d with
  | lst es=>cases e;obtain⟨l,xs,h1,h2,h3⟩:=RD.lstI r;exact⟨l,xs,h1,.inl (.of (i _ _ h2)),h3⟩
  | fz es=>cases e;obtain⟨l,xs,h1,h2,h3⟩:=RD.fzI r;exact⟨l,xs,h1,.inl (i.seq h2),h3⟩
  | tup es=>cases e;obtain⟨l,xs,h1,h2,h3⟩:=RD.tupI r;exact⟨l,xs,h1,.inr (i.seqT h2),h3⟩
  | _=>cases e
theorem RR.dat(r:RR K C Hs H0 H v s)(i:Same H0 H)(e:s.d=some d):RD K C H v d:=by
 cases s with
 | no=>cases e
 | bo es=>cases e;obtain⟨l,xs,h1,h2,h3⟩:=r;subst h1;exact .mkL h2 (h3.mono i)
 | own es=>cases e;obtain⟨l,xs,h1,h2,_,_,h3⟩:=r;subst h1;exact .mkL h2 (h3.mono i)
 | bd _ _=>cases e;obtain⟨l,xs,h1,h2,hk,h3⟩:=r;subst h1;exact .mkD h2 hk (h3.mono i)
 | bt _ _=>cases e
 | od _ _=>cases e;obtain⟨l,xs,h1,h2,_,_,hk,h3⟩:=r;subst h1;exact .mkD h2 hk (h3.mono i)
 | ot _ _=>cases e
 | sh d'=>cases e;exact RD.mono i r
theorem Ud{p:Addr}{xs:List V}{Q:VK}(i:Same H0 H)(hs:Same Hs H)(hp:H p=none)(r:RDL K C H0 xs ds)(q:∀v H0' H',Step Hs H0 H H0' H'->RR K C Hs H0' H' v (.own ds)->Q v H'):Q (.ref p) (upd H p (.lst xs)) :=
 q _ H0 _ ⟨.new hp,Same.refl _,fun _ _ e=>.inl e,i.trans (.new hp)⟩ ⟨p,xs,rfl,Ju,Same.free i hp,Same.free hs hp,r⟩
theorem WP{p:Addr}{xs:List V}{Q:VK}(i:Same H0 H)(hs:Same Hs H)(hp:H p=none)(r:RDL K C H0 xs ds)(q:∀v H0' H',Step Hs H0 H H0' H'->RR K C Hs H0' H' v (.sh (.tup ds))->Q v H'):Q (.ref p) (upd H p (.tup xs)):=by
 have h0:H0 p=none:=Same.free i hp;refine q _ (upd H0 p (.tup xs)) _ ⟨.new hp,.new h0,fun a o e=>?_,fun a o e=>?_⟩ ?_
 ·by_cases h:a=p
  ·subst h;exact .inr (.inl (Same.free hs hp))
  ·rw[Jd h] at e;exact .inl e
 ·by_cases h:a=p
  ·subst h;rw[Ju] at e ⊢;exact e
  ·rw[Jd h] at e ⊢;exact i a o e
 ·exact RD.mkT (.of Ju) (r.mono (.new h0))
end

noncomputable def fI(g:Int->Int->D):Sl->Sl->Option Sl
 | .sh (.int a),.sh (.int b)=>some (.sh (g a b))
 | _,_=>none
noncomputable def fIc(c:Int->Int->Bool)(g:Int->Int->D):Sl->Sl->Option Sl
 | .sh (.int a),.sh (.int b)=>if c a b=true then some (.sh (g a b)) else none
 | _,_=>none
noncomputable def W4(x y:Sl):Option Sl:=x.m.bind fun a=>y.m.bind fun b=>if a.length+b.length<=sizeLine then some (.own (a++b)) else none
noncomputable def J5:Sl->Sl->Option Sl
 | .sh (.int a),.sh (.int b)=>some (.sh (.int (a+b)))
 | .sh (.str a),.sh (.str b)=>if a.length+b.length<=sizeLine then some (.sh (.str (a++b))) else none
 | .sh (.tup a),.sh (.tup b)=>if a.isEmpty=false/\b.isEmpty=false/\a.length+b.length<=sizeLine then some (.sh (.tup (a++b))) else none
 | .sh (.lst a),y=>W4 (.sh (.lst a)) y
 | .bo a,y=>W4 (.bo a) y
 | .own a,y=>W4 (.own a) y
 | _,_=>none
noncomputable abbrev Ui:=fI fun a b=>.int (a-b)
noncomputable abbrev fLt:=fI fun a b=>.bl (decide (a<b))
noncomputable abbrev fLe:=fI fun a b=>.bl (decide (a<=b))
noncomputable abbrev fGt:=fI fun a b=>.bl (decide (b<a))
noncomputable def YS(a:Int):Bool:=Kq a.natAbs 18446744073709551615
theorem Yj{a:Int}:YS a=true↔-18446744073709551616<a/\a<18446744073709551616:=by unfold YS;rw[Gu];omega
noncomputable def Vf(a:Int):Bool:=Kq a.natAbs 1073741823 && decide (0<a)
theorem smallP_ok{a:Int}:Vf a=true↔0<a/\a<1073741824:=by unfold Vf;rw[Qn,Gu,decide_eq_true_eq];omega
noncomputable abbrev Y8:=fIc (fun a b=>YS a || YS b) fun a b=>.int (a*b)
noncomputable abbrev Vr:=fIc (fun _ b=>decide (0<b)) fun a b=>.int (a % b)
noncomputable abbrev Z0:=fIc (fun _ b=>Vf b) fun a b=>.int (a / b)
noncomputable abbrev JbA:=fIc (fun a b=>decide (0<=b) && Kq b.natAbs 1000000 && YS a) fun a b=>.int (a ^ b.toNat)
noncomputable def eqD(d e:D):Option Bool:=if (d.py.canLay0 && e.py.canLay0 && decide (min d.py.depth e.py.depth<=60))=true then some (G0 d.py e.py) else none
noncomputable def eqA:D->D->Option Bool
 | .int a,.int b=>some (decide (a=b))
 | .str a,.str b=>some (decide (a=b))
 | .bl a,.bl b=>some (decide (a=b))
 | .non,.non=>some true
 | .non,.int _=>some false
 | .int _,.non=>some false
 | .non,.str _=>some false
 | .str _,.non=>some false
 | .non,.bl _=>some false
 | .bl _,.non=>some false
 | .int _,.str _=>some false
 | .str _,.int _=>some false
 | d,e=>eqD d e
noncomputable def fEq(x y:Sl):Option Sl:=x.d.bind fun d=>y.d.bind fun e=>(eqA d e).map fun k=>.sh (.bl k)
noncomputable def fNe(x y:Sl):Option Sl:=x.d.bind fun d=>y.d.bind fun e=>(eqA d e).map fun k=>.sh (.bl (!k))
noncomputable def D.isNon:D->Bool
 | .non=>true
 | _=>false
noncomputable def fIs:Sl->Sl->Option Sl
 | x,.sh .non=>x.d.map fun d=>.sh (.bl d.isNon)
 | _,_=>none
noncomputable def U2:Sl->Sl->Option Sl
 | x,.sh .non=>x.d.map fun d=>.sh (.bl (!d.isNon))
 | _,_=>none
noncomputable def fIx:Sl->Sl->Option Sl
 | .sh (.str z),.sh (.int i)=>if z.length<=sizeLine then(atI z.cps.toList i).map fun c=>.sh (.str ⟨#[c]⟩) else none
 | x,.sh (.int i)=>x.q.bind fun ds=>(atI ds i).map .sh
 | _,_=>none
section
variable{K:Frag}{C:Addr}
theorem o_I{g:Int->Int->V}{g':Int->Int->D}(h:∀i j H,RD K C H (g i j) (g' i j)):OpS K C (rI0 g) (fI g'):=by
 intro Hs H0 H x y a b c Q i hs ra rb e q;unfold fI at e;split at e
 ·cases e;exact⟨_,_,RD.intI ra,RD.intI rb,q _ _ _ (.refl i) (h _ _ _)⟩
 ·cases e
theorem JbN{P:Int->Int->Prop}{c':Int->Int->Bool}{g:Int->Int->V}{g':Int->Int->D}(hp:∀i j,c' i j=true->P i j)(h:∀i j H,RD K C H (g i j) (g' i j)):OpS K C (rI P g) (fIc c' g'):=by
 intro Hs H0 H x y a b c Q i hs ra rb e q;unfold fIc at e;split at e
 ·split at e
  ·cases e;exact⟨_,_,RD.intI ra,RD.intI rb,hp _ _ (by assumption),q _ _ _ (.refl i) (h _ _ _)⟩
  ·cases e
 ·cases e
theorem JfN:OpS K C (rI0 fun i j=>.int (i-j)) Ui:=o_I fun _ _ _=>.int _
theorem JgX:OpS K C (rI0 fun i j=>.bl (decide (i<j))) fLt:=o_I fun _ _ _=>.bl _
theorem JgW:OpS K C (rI0 fun i j=>.bl (decide (i<=j))) fLe:=o_I fun _ _ _=>.bl _
theorem JgT:OpS K C (rI0 fun i j=>.bl (decide (j<i))) fGt:=o_I fun _ _ _=>.bl _
theorem JfL:OpS K C (rI CMul fun i j=>.int (i*j)) Y8:=JbN (fun i j h=>by simp only[GO,Yj] at h;exact h) fun _ _ _=>.int _
theorem JfK:OpS K C (rI (fun _ j=>0<j) fun i j=>.int (i % j)) Vr:=JbN (fun i j h=>by simpa using h) fun _ _ _=>.int _
theorem JfJ:OpS K C (rI Jfd fun i j=>.int (i / j)) Z0:=JbN (fun i j h=>smallP_ok.mp h) fun _ _ _=>.int _
theorem JfM:OpS K C (rI Jff fun i j=>.int (i ^ j.toNat)) JbA:=JbN (fun i j h=>by simp only[Qn,decide_eq_true_eq,Gu,Yj] at h;refine⟨h.1.1,by omega,?_⟩;show i.natAbs<18446744073709551616;omega) fun _ _ _=>.int _
noncomputable def JaC(K:Frag):R2:=fun x y H Q=>WE K x y H Q\/JcO K x y H Q
theorem J1{X:Cx}(hK:X.K=K):OpR X (binaryOp .Add) (JaC K):=(JbR hK).or (hK▸JbS)
theorem JfI:OpS K C (JaC K) J5:=by
 intro Hs H0 H x y a b c Q i hs ra rb e q
 have cat:∀{a b:Sl},RR K C Hs H0 H x a->RR K C Hs H0 H y b->W4 a b=some c->JaC K x y H Q:=by
  intro a b ra rb e;obtain⟨xs,e1,e⟩:=bind_some e;obtain⟨ys,e2,e⟩:=bind_some e;split at e
  ·next hz=>cases e;obtain⟨l,us,rfl,h1,r1⟩:=ra.m i e1;obtain⟨l',ws,rfl,h2,r2⟩:=rb.m i e2;exact .inl (.inr (.inr ⟨l,l',us,ws,rfl,rfl,h1,h2,by rw[r1.1,r2.1];exact hz,fun p hp=>Ud i hs hp (r1.append r2) q⟩))
  ·cases e
 unfold J5 at e;split at e
 ·cases e;exact .inl (.inl ⟨_,_,RD.intI ra,RD.intI rb,q _ _ _ (.refl i) (RD.int _)⟩)
 ·split at e
  ·cases e;exact .inl (.inr (.inl ⟨_,_,RD.strI ra,RD.strI rb,by assumption,q _ _ _ (.refl i) (RD.str _)⟩))
  ·cases e
 ·split at e
  ·next hz =>
   cases e;obtain⟨l,us,rfl,h1,r1⟩:=RD.tupI ra;obtain⟨l',ws,rfl,h2,r2⟩:=RD.tupI rb;have n1:us≠[]:=by rintro rfl;have:=r1.1;have z:=hz.1;simp at this;rw[QR this.symm] at z;cases z
   have n2:ws≠[]:=by rintro rfl;have:=r2.1;have z:=hz.2.1;simp at this;rw[QR this.symm] at z;cases z
   exact .inr ⟨l,l',us,ws,rfl,rfl,i.seqT h1,i.seqT h2,n1,by rw[r1.1,r2.1];exact hz.2.2,fun z=>absurd z n2,fun _ p hp=>WP i hs hp (r1.append r2) q⟩
  ·cases e
 ·exact cat ra rb e
 ·exact cat ra rb e
 ·exact cat ra rb e
 ·cases e
theorem Vp{d e:D}{k:Bool}(h:eqD d e=some k):d.py.canLay0=true/\e.py.canLay0=true/\min d.py.depth e.py.depth<=60/\k=G0 d.py e.py:=by
 unfold eqD at h;split at h
 ·next z=>cases h;simp only[Qn,decide_eq_true_eq] at z;exact⟨z.1.1,z.1.2,z.2,rfl⟩
 ·cases h
theorem map_some{α β:Type}{x:Option α}{f:α->β}{b:β}(e:x.map f=some b):∃a,x=some a/\f a=b:=by
 cases x with
 | none=>cases e
 | some a=>cases e;exact⟨a,rfl,rfl⟩
theorem Vo{H:Hp}{x y:V}{d e:D}{k:Bool}(h:eqA d e=some k)(rx:RD K C H x d)(ry:RD K C H y e):(JeS x y=true/\decide (x=y)=k)\/eqD d e=some k:=by
 unfold eqA at h;split at h
 ·cases h;rw[RD.intI rx,RD.intI ry];exact .inl ⟨rfl,by simp⟩
 ·cases h;rw[RD.strI rx,RD.strI ry];exact .inl ⟨rfl,by simp⟩
 ·cases h;rw[RD.blI rx,RD.blI ry];exact .inl ⟨rfl,by simp⟩
 ·cases h;rw[RD.nonI rx,RD.nonI ry];exact .inl ⟨rfl,by simp⟩
 ·cases h;rw[RD.nonI rx,RD.intI ry];exact .inl ⟨rfl,by simp⟩
 ·cases h;rw[RD.intI rx,RD.nonI ry];exact .inl ⟨rfl,by simp⟩
 ·cases h;rw[RD.nonI rx,RD.strI ry];exact .inl ⟨rfl,by simp⟩
 ·cases h;rw[RD.strI rx,RD.nonI ry];exact .inl ⟨rfl,by simp⟩
 ·cases h;rw[RD.nonI rx,RD.blI ry];exact .inl ⟨rfl,by simp⟩
 ·cases h;rw[RD.blI rx,RD.nonI ry];exact .inl ⟨rfl,by simp⟩
 ·cases h;rw[RD.intI rx,RD.strI ry];exact .inl ⟨rfl,by simp⟩
 ·cases h;rw[RD.strI rx,RD.intI ry];exact .inl ⟨rfl,by simp⟩
 ·exact .inr h
theorem JgS:OpS K C (JaD K) fEq:=by
 intro Hs H0 H x y a b c Q i hs ra rb e q;obtain⟨d,e1,e⟩:=bind_some e;obtain⟨d',e2,e⟩:=bind_some e;obtain⟨k,e3,rfl⟩:=map_some e;have r1:=ra.dat i e1;have r2:=rb.dat i e2;rcases Vo e3 r1 r2 with ⟨h1,h2⟩|h
 ·exact .inl ⟨h1,by rw[h2];exact q _ _ _ (.refl i) (RD.bl _)⟩
 ·obtain⟨h1,h2,h3,rfl⟩:=Vp h;exact .inr ⟨_,_,r1.rep h1,r2.rep h2,h1,h2,h3,q _ _ _ (.refl i) (RD.bl _)⟩
theorem JgY:OpS K C (JaE K) fNe:=by
 intro Hs H0 H x y a b c Q i hs ra rb e q;obtain⟨d,e1,e⟩:=bind_some e;obtain⟨d',e2,e⟩:=bind_some e;obtain⟨k,e3,rfl⟩:=map_some e;have r1:=ra.dat i e1;have r2:=rb.dat i e2;rcases Vo e3 r1 r2 with ⟨h1,h2⟩|h
 ·exact .inl ⟨h1,by rw[h2];exact q _ _ _ (.refl i) (RD.bl _)⟩
 ·obtain⟨h1,h2,h3,rfl⟩:=Vp h;exact .inr ⟨_,_,r1.rep h1,r2.rep h2,h1,h2,h3,q _ _ _ (.refl i) (RD.bl _)⟩
theorem Vx{H:Hp}{x:V}{d:D}(r:RD K C H x d):decide (x=.non)=d.isNon:=by cases r <;> simp[D.isNon]
theorem JgU:OpS K C Jei fIs:=by
 intro Hs H0 H x y a b c Q i hs ra rb e q;unfold fIs at e;split at e
 ·obtain⟨d,e1,rfl⟩:=map_some e;refine⟨RD.nonI rb,?_⟩;rw[Vx (ra.dat i e1)];exact q _ _ _ (.refl i) (RD.bl _)
 ·cases e
theorem JbO:OpS K C JaF U2:=by
 intro Hs H0 H x y a b c Q i hs ra rb e q;unfold U2 at e;split at e
 ·obtain⟨d,e1,rfl⟩:=map_some e;refine⟨RD.nonI rb,?_⟩;rw[Vx (ra.dat i e1)];exact q _ _ _ (.refl i) (RD.bl _)
 ·cases e
theorem RDL.atI{H:Hp}{xs:List V}{ds:List D}{i:Int}{d:D}(r:RDL K C H xs ds)(e:L2.atI ds i=some d):∃x,L2.atI xs i=some x/\RD K C H x d:=by unfold L2.atI at e ⊢;rw[r.1];obtain⟨j,e1,e⟩:=bind_some e;obtain⟨x,e2,r2⟩:=r.get e;exact⟨x,by rw[e1];exact e2,r2⟩
theorem JgV:OpS K C (rIx K) fIx:=by
 intro Hs H0 H x y a b c Q i hs ra rb e q;unfold fIx at e;split at e
 ·split at e
  ·obtain⟨z,e1,rfl⟩:=map_some e;rw[RD.strI ra,RD.intI rb];exact Jew (by assumption) e1 (q _ _ _ (.refl i) (RD.str _))
  ·cases e
 ·obtain⟨ds,e1,e⟩:=bind_some e;obtain⟨d,e2,rfl⟩:=map_some e;obtain⟨l,xs,rfl,h,r⟩:=ra.q i e1;obtain⟨v,e3,r3⟩:=r.atI e2;rw[RD.intI rb];rcases h with h|h
  ·exact Jev h e3 (q _ _ _ (.refl i) r3)
  ·exact Jex h e3 (q _ _ _ (.refl i) r3)
 ·cases e
end
end LE

namespace LE
open PySem L2 LR

noncomputable def Uj:List Sl->Option (List D)
 | []=>some []
 | s::ss=>s.frz.bind fun d=>(Uj ss).bind fun ds=>some (d::ds)
noncomputable def ZX(as:En->Option (List Sl)):Ev:=fun E=>(as E).bind fun ss=>(Uj ss).bind fun ds=>if ds.length<=100 then some (.sh (.tup ds)) else none
noncomputable def V4(as:En->Option (List Sl)):Ev:=fun E=>(as E).bind fun ss=>(Uj ss).bind fun ds=>if ds.length<=100 then some (.own ds) else none
section
variable{K:Frag}{C:Addr}{t:TA}{ev:En->Option (List Sl)}{Hs H0 H:Hp}{ta te:TE}{ea:Ev}
theorem RRL.frz{vs:List V}{ss:List Sl}(i:Same H0 H)(r:RRL K C Hs H0 H vs ss):∀{ds:List D},Uj ss=some ds->RDL K C (J8 Hs H0 H) vs ds:=by
 induction r with
 | nil=>intro ds e;cases e;exact .nil
 | cons h _ ih=>intro ds e;obtain⟨d,e1,e⟩:=bind_some e;obtain⟨ds',e2,e⟩:=bind_some e;cases e;exact .cons (h.frz i e1) (ih e2)
theorem Jgo(ha:SA K C t ev):SE K C (Je1 t) (ZX ev):=by
 intro B H0 H σ E c Q I e q;obtain⟨ss,e1,e⟩:=bind_some e;obtain⟨ds,e2,e⟩:=bind_some e;split at e
 ·next hl =>
  cases e;refine ha B H0 H σ E ss _ I e1 fun vs H1 H1' s1 r1=>?_
  have f:=JJ (Hs:=H) s1.i
  have r2:=r1.frz s1.i e2;exact⟨by rw[r2.1];exact QA hl (by decide),fun p hp=>WP f.i s1.h hp r2 fun v H2 H2' s2 r2=>q v H2 H2' ((s1.comp f fun _ z=>z).comp s2 fun _ z=>z) r2⟩
 ·cases e
theorem Jgi(ha:SA K C t ev):SE K C (JeY t) (V4 ev):=by
 intro B H0 H σ E c Q I e q;obtain⟨ss,e1,e⟩:=bind_some e;obtain⟨ds,e2,e⟩:=bind_some e;split at e
 ·next hl =>
  cases e;refine ha B H0 H σ E ss _ I e1 fun vs H1 H1' s1 r1=>?_
  have f:=JJ (Hs:=H) s1.i
  have r2:=r1.frz s1.i e2;exact⟨by rw[r2.1];exact QA hl (by decide),fun p hp=>Ud f.i s1.h hp r2 fun v H2 H2' s2 r2=>q v H2 H2' ((s1.comp f fun _ z=>z).comp s2 fun _ z=>z) r2⟩
 ·cases e

noncomputable def Sl.pass:Sl->Option Sl
 | .sh d=>some (.sh d)
 | .own ds=>some (.sh (.lst ds))
 | .bo ds=>some (.bo ds)
 | .bd ks ds=>some (.bd ks ds)
 | .od ks ds=>some (.sh (.dct ks ds))
 | .bt _ _=>none
 | .ot _ _=>none
 | .no=>none
end
noncomputable def Ue:List Sl->Option (List Sl)
 | []=>some []
 | s::ss=>s.pass.bind fun d=>(Ue ss).bind fun ds=>some (d::ds)
noncomputable def spE(K:Frag)(C:Addr)(n:Nat)(f:List Sl->Option Sl):Sp:=fun vs H Q _=>∃H0 as r,Same H0 H/\RRL K C H H0 H vs as/\as.all (fun s=>!Js s)=true/\as.length=n/\f as=some r ∧
 ∀v H0' H',Step H H0 H H0' H'->RR K C H H0' H' v r->Q v H'
noncomputable def eU(n:Nat)(f:List Sl->Option Sl)(as:En->Option (List Sl)):Ev:=fun E=>(as E).bind fun ss=>(Ue ss).bind fun bs=>if bs.length=n then f bs else none
section
variable{K:Frag}{C:Addr}{t:TA}{ev:En->Option (List Sl)}{Hs H0 H:Hp}{ta te:TE}{ea:Ev}
theorem RRL.len{vs:List V}{ss:List Sl}(r:RRL K C Hs H0 H vs ss):vs.length=ss.length:=by
 induction r with
 | nil=>rfl
 | cons _ _ ih=>simp[ih]
theorem JN{n:Nat}{f:List Sl->Option Sl}{vs:List V}{Q:VK}{E:XK}(h:spE K C n f vs H Q E):vs.length=n:=by obtain⟨H0,as,r,_,h1,_,h2,_⟩:=h;rw[h1.len];exact h2
theorem RR.pass{v:V}{s s':Sl}(i:Same H0 H)(r:RR K C Hs H0 H v s)(e:s.pass=some s'):RR K C H (J8 Hs H0 H) H v s'/\Js s'=false:=by
 have st:Step Hs H0 H (J8 Hs H0 H) H:=JJ i
 cases s with
 | no=>cases e
 | sh d=>cases e;exact⟨RD.mono st.z r,rfl⟩
 | own ds=>cases e;exact⟨RR.frz (s:=.own ds) i r rfl,rfl⟩
 | bo ds=>cases e;obtain⟨l,xs,h1,h2,h3⟩:=r;exact⟨⟨l,xs,h1,h2,h3.mono st.z⟩,rfl⟩
 | od ks ds=>cases e;exact⟨RR.frz (s:=.od ks ds) i r rfl,rfl⟩
 | ot ks ds=>cases e
 | bd ks ds=>cases e;obtain⟨l,xs,h1,h2,hk,h3⟩:=r;exact⟨⟨l,xs,h1,h2,hk,h3.mono st.z⟩,rfl⟩
 | bt ks ds=>cases e
theorem RRL.pass{vs:List V}{ss:List Sl}(i:Same H0 H)(r:RRL K C Hs H0 H vs ss):∀{bs:List Sl},Ue ss=some bs->RRL K C H (J8 Hs H0 H) H vs bs/\bs.all (fun s=>!Js s)=true:=by
 induction r with
 | nil=>intro bs e;cases e;exact⟨.nil,rfl⟩
 | cons h _ ih=>intro bs e;obtain⟨d,e1,e⟩:=bind_some e;obtain⟨ds',e2,e⟩:=bind_some e;cases e;obtain⟨h1,h2⟩:=h.pass i e1;obtain⟨h3,h4⟩:=ih e2;exact⟨.cons h1 h3,by rw[Lb,h2,h4];rfl⟩
theorem JeL{n:Nat}{f:List Sl->Option Sl}{X:XK}(ha:SA K C t ev):SE K C (WN (spE K C n f) [] X t) (eU n f ev):=by
 intro B H0 H σ E c Q I e q;obtain⟨ss,e1,e⟩:=bind_some e;obtain⟨bs,e2,e⟩:=bind_some e;split at e
 ·next hl=>refine WH (ha B H0 H σ E ss _ I e1 fun vs H1 H1' s1 r1=>?_);obtain⟨h1,h2⟩:=r1.pass s1.i e2;have f:=JJ (Hs:=H) s1.i;exact⟨_,bs,c,f.i,h1,h2,hl,e,fun v H2 H2' s2 r2=>q v H2 H2' ((s1.comp f fun _ z=>z).comp s2 fun a z=>Same.free s1.h z) (r2.weak fun a z=>Same.free s1.h z)⟩
 ·cases e

noncomputable def prE(p:Pr):D:=.tup [.int p.1,.int p.2]
end
section
variable{K:Frag}{C:Addr}{t:TA}{ev:En->Option (List Sl)}{Hs H0 H:Hp}{ta te:TE}{ea:Ev}
noncomputable def ints?:List D->Option (List Int)
 | []=>some []
 | .int i::ds=>(ints? ds).map (i::·)
 | _::_=>none
end
theorem Uk:∀ns:List Int,ints? (ns.map .int)=some ns
 | []=>rfl
 | n::ns=>by rw[Qq,ints?,Uk ns];rfl
theorem Yt:∀{ds:List D} {ns:List Int},ints? ds=some ns->ds=ns.map .int
 | [],_,e=>by cases e;rfl
 | .int i::ds,_,e=>by obtain⟨ns,e1,e2⟩:=map_some (show(ints? ds).map (i::·)=_ from e);rw[<- e2,Yt e1];rfl
 | .non::_,_,e|.bl _::_,_,e|.str _::_,_,e|.tup _::_,_,e|.lst _::_,_,e|.fz _::_,_,e|.row _::_,_,e=>by cases e
noncomputable def U3:List Sl->Option Sl
 | [.sh (.str x)]=>if x.length<=sizeLine then some (.sh (.int x.length)) else none
 | [s]=>s.q.map fun ds=>.sh (.int ds.length)
 | _=>none
noncomputable def Jaa:List Sl->Option Sl
 | [s]=>s.q.bind fun ds=>(ints? ds).map fun ns=>.sh (.int ns.sum)
 | _=>none
noncomputable def Z9:List Sl->Option Sl
 | [.sh (.int a),.sh (.int b)]=>some (.sh (.int (min a b)))
 | _=>none
section
variable{K:Frag}{C:Addr}{Hs H0 H:Hp}
theorem RRL.one{vs:List V}{s:Sl}(r:RRL K C Hs H0 H vs [s]):∃v,vs=[v]/\RR K C Hs H0 H v s:=by
 cases r with
 | cons h t=>cases t;exact⟨_,rfl,h⟩
theorem RRL.two{vs:List V}{s t:Sl}(r:RRL K C Hs H0 H vs [s,t]):∃v w,vs=[v,w]/\RR K C Hs H0 H v s/\RR K C Hs H0 H w t:=by
 cases r with
 | cons h r=>cases r with
  | cons h' r=>cases r;exact⟨_,_,rfl,h,h'⟩
theorem Jfn:Wj K C (Wd K) U3:=by
 intro Hs H0 H xs as c Q i hs r e q;unfold U3 at e;split at e
 ·split at e
  ·cases e;obtain⟨v,rfl,r0⟩:=r.one;rw[RD.strI r0];exact Jb9 (by assumption) (q _ _ _ (.refl i) (RD.int _))
  ·cases e
 ·obtain⟨v,rfl,r0⟩:=r.one;obtain⟨ds,e1,rfl⟩:=map_some e;obtain⟨l,xs,rfl,h,r1⟩:=r0.q i e1;have z:=q (.int ds.length) _ _ (.refl i) (RD.int _);rw[<- r1.1] at z;exact JaJ h z
 ·cases e
theorem Jfp:Wj K C (Jel K) Jaa:=by
 intro Hs H0 H xs as c Q i hs r e q;unfold Jaa at e;split at e
 ·obtain⟨v,rfl,r0⟩:=r.one;obtain⟨ds,e1,e⟩:=bind_some e;obtain⟨ns,e2,rfl⟩:=map_some e;obtain⟨l,ys,rfl,h,r1⟩:=r0.q i e1;rw[Yt e2] at r1;have:=r1.ints;subst this;exact⟨l,ns,rfl,h,q _ _ _ (.refl i) (RD.int _)⟩
 ·cases e
theorem Jfo:Wj K C Jej Z9:=by
 intro Hs H0 H xs as c Q i hs r e q;unfold Z9 at e;split at e
 ·cases e;obtain⟨v,w,rfl,r1,r2⟩:=r.two;rw[RD.intI r1,RD.intI r2];exact JaK (q _ _ _ (.refl i) (RD.int _))
 ·cases e
end

noncomputable def Je3:Sl->Option Bool
 | .sh .non=>some false
 | .sh (.bl b)=>some b
 | .sh (.int i)=>some (i != 0)
 | .sh (.str y)=>if y.length<=sizeLine then some ((y.length:Int) != 0) else none
 | s=>s.q.map fun ds=>!ds.isEmpty
noncomputable def tTru?(a:Ev):En->Option Bool:=fun E=>(a E).bind Je3
noncomputable def tyN:D->Option String
 | .non=>some "NoneType"
 | .bl _=>some "bool"
 | .int _=>some "int"
 | .str _=>some "str"
 | .tup _=>some "tuple"
 | .lst _=>some "list"
 | .fz _=>some "list"
 | .row _=>none
 | .dct _ _=>none
 | .dfz _ _=>none
 | .exc _=>none
noncomputable def Vy(t n:String):Bool:=t == n || (t == "bool" && n == "int")
noncomputable def ZW(n:String)(a:Ev):Ev:=fun E=>(a E).bind fun s=>s.d.bind fun d=>(tyN d).map fun t=>.sh (.bl (Vy t n))
noncomputable def D.isRow:D->Bool
 | .row _=>true
 | _=>false
section
variable{K:Frag}{C:Addr}{Hs H0 H:Hp}{te:TE}{ea:Ev}
theorem RDL.empty{xs:List V}{ds:List D}(r:RDL K C H xs ds):xs.isEmpty=ds.isEmpty:=by cases xs <;> cases ds <;> first|rfl|(have:=r.1;simp at this)
theorem Jgn(ha:SE K C te ea):ST K C (Jcw K te) (tTru? ea):=by
 intro B H0 H σ E k Q I e q;obtain⟨a,e1,e⟩:=bind_some e;refine ha B H0 H σ E a _ I e1 fun x H1 H1' s1 r1=>?_
 have seq:∀{a:Sl},RR K C H H1 H1' x a->a.q.map (fun ds=>!ds.isEmpty)=some k->∃k',WT K x H1' k'/\Q k' H1':=fun {a} r1 e=>by
  obtain⟨ds,e2,rfl⟩:=map_some e;obtain⟨l,xs,rfl,h,r⟩:=r1.q s1.i e2;have z:=q _ _ s1;rw[<- r.empty] at z;rcases h with h|h
  ·exact⟨_,.inl ⟨xs,h,rfl⟩,z⟩
  ·exact⟨_,.inr (.inl ⟨xs,h,rfl⟩),z⟩
 unfold Je3 at e;split at e
 ·cases e;rw[RD.nonI r1];exact⟨_,rfl,q _ _ s1⟩
 ·cases e;rw[RD.blI r1];exact⟨_,rfl,q _ _ s1⟩
 ·cases e;rw[RD.intI r1];exact⟨_,rfl,q _ _ s1⟩
 ·split at e
  ·cases e;rw[RD.strI r1];exact⟨_,⟨by assumption,rfl⟩,q _ _ s1⟩
  ·cases e
 ·exact seq r1 e
theorem RD.ty{x:V}{d:D}{t:String}(r:RD K C H x d)(e:tyN d=some t):TyS K H x (.type t):=by
 cases r with
 | non=>cases e;exact .of .non
 | bl b=>cases e;exact .of (.bl b)
 | int i=>cases e;exact .of (.int i)
 | str i=>cases e;exact .of (.str i)
 | tup h _ _=>cases e;exact .sqT h
 | lst h _ _=>cases e;exact .sqL (.of h)
 | fz h _ _=>cases e;exact .sqL h
 | row _ _ _ _=>cases e
 | dct _ _ _ _=>cases e
 | dfz _ _ _ _=>cases e
 | exc _ _=>cases e
noncomputable def Zz(K:Frag)(n:String):Prop:=∀t∈["NoneType","bool","int","str","tuple","list"],kitOne K (.type t) (.type n)=some (Vy t n)
theorem Jcy{d:D}{t:String}(e:tyN d=some t):t∈["NoneType","bool","int","str","tuple","list"]:=by cases d <;> cases e <;> simp
theorem Jgh{n:String}(hk:Zz K n)(ha:SE K C te ea):SE K C (tCB (Jb1 K) (YT te (YT (tC (.ty n)) VY))) (ZW n ea):=by
 intro B H0 H σ E c Q I e q;obtain⟨a,e1,e⟩:=bind_some e;obtain⟨d,e2,e⟩:=bind_some e;obtain⟨t,e3,rfl⟩:=map_some e;refine ha B H0 H σ E a _ I e1 fun x H1 H1' s1 r1=>?_
 exact Jeu (RD.ty (r1.dat s1.i e2) e3) (hk t (Jcy e3)) (q _ _ _ s1 (RD.bl _))
end
theorem JbJ{K:Frag}:Zz K "int":=fun t ht=>by simp only[Qe,QO,or_false] at ht;rcases ht with rfl | rfl | rfl | rfl | rfl | rfl <;> kernel_rfl
theorem Jan{K:Frag}:Zz K "bool":=fun t ht=>by simp only[Qe,QO,or_false] at ht;rcases ht with rfl | rfl | rfl | rfl | rfl | rfl <;> kernel_rfl
end LE

namespace LE
open PySem L2 LR

mutual
inductive Pt where
 | nm (i:Nat)
 | tp (l:Pts)
inductive Pts where
 | nil
 | cons (p:Pt) (l:Pts)
end
mutual
noncomputable def Pt.bind:Pt->D->En->Option En
 | .nm i,d,E=>if i<E.length then some (E.set i (.sh d)) else none
 | .tp l,.tup ds,E=>l.bind ds E
 | .tp _,_,_=>none
noncomputable def Pts.bind:Pts->List D->En->Option En
 | .nil,[],E=>some E
 | .cons p l,d::ds,E=>(p.bind d E).bind fun E'=>l.bind ds E'
 | _,_,_=>none
end
mutual
noncomputable def Pt.slots:Pt->List Nat
 | .nm i=>[i]
 | .tp l=>l.slots
noncomputable def Pts.slots:Pts->List Nat
 | .nil=>[]
 | .cons p l=>p.slots++l.slots
end
mutual
theorem Pt.keep:∀{p:Pt} {d:D} {E E':En},p.bind d E=some E'->E'.length=E.length/\∀i,i∉p.slots->E'[i]?=E[i]?
 | .nm i,d,E,E',e=>by
  unfold Pt.bind at e;split at e
  ·cases e;refine⟨by simp,fun j hj=>?_⟩;rw[QF,if_neg];intro z;exact hj (by simp[Pt.slots,z])
  ·cases e
 | .tp l,d,E,E',e=>by
  cases d with
  | tup ds=>exact Pts.keep (p:=l) (ds:=ds) (by simpa [Pt.bind] using e)
  | _=>simp[Pt.bind] at e
theorem Pts.keep:∀{p:Pts} {ds:List D} {E E':En},p.bind ds E=some E'->E'.length=E.length/\∀i,i∉p.slots->E'[i]?=E[i]?
 | .nil,[],E,E',e=>by simp[Pts.bind] at e;subst e;exact⟨rfl,fun _ _=>rfl⟩
 | .nil,_::_,_,_,e=>by simp[Pts.bind] at e
 | .cons _ _,[],_,_,e=>by simp[Pts.bind] at e
 | .cons p l,d::ds,E,E',e=>by rw[Pts.bind] at e;obtain⟨E1,e1,e2⟩:=bind_some e;obtain⟨h1,h2⟩:=Pt.keep e1;obtain⟨h3,h4⟩:=Pts.keep e2;refine⟨h3.trans h1,fun i hi=>?_⟩;simp[Pts.slots] at hi;rw[h4 i hi.2,h2 i hi.1]
end
section
variable(K:Frag)(C:Addr)
noncomputable def SG(g:TG)(p:Pt):Prop:=∀(B H0 H:Hp) (σ:St) (E E':En) (x:V) (d:D) (Q:St->Hp->Prop),EnvR K C B H0 H σ E->RD K C H0 x d->p.bind d E=some E'->(∀σ',EnvR K C B H0 H σ' E'->Q σ' H)->g x σ H Q
noncomputable def SGs(g:TGs)(p:Pts):Prop:=∀(B H0 H:Hp) (σ:St) (E E':En) (xs:List V) (ds:List D) (Q:St->Hp->Prop),EnvR K C B H0 H σ E->RDL K C H0 xs ds->p.bind ds E=some E'->(∀σ',EnvR K C B H0 H σ' E'->Q σ' H)->g xs σ H Q
end
section
variable{K:Frag}{C:Addr}
theorem EnvR.setSh{B H0 H:Hp}{σ:St}{E:En}{i:Nat}{v:V}{d:D}(I:EnvR K C B H0 H σ E)(hi:i<E.length)(r:RD K C H0 v d):EnvR K C B H0 H (σ.set i (some v)) (E.set i (.sh d)) :=
 I.put' (s:=.sh d) (.refl I.h) hi r rfl
theorem JgN(i:Nat):SG K C (UQ i) (.nm i):=by
 intro B H0 H σ E E' x d Q I r e q;rw[Pt.bind] at e;split at e
 ·cases e;exact q _ (I.setSh (by assumption) r)
 ·cases e
theorem Jfx:SGs K C Jdu .nil:=by
 intro B H0 H σ E E' xs ds Q I r e q
 cases ds with
 | nil =>
  cases xs with
  | nil=>rw[Pts.bind] at e;cases e;exact⟨rfl,q σ I⟩
  | cons _ _=>have:=r.1;simp at this
 | cons _ _=>simp[Pts.bind] at e
theorem Jdv{g:TG}{gs:TGs}{p:Pt}{ps:Pts}(h:SG K C g p)(hs:SGs K C gs ps):SGs K C (Jad g gs) (.cons p ps):=by
 intro B H0 H σ E E' xs ds Q I r e q
 cases ds with
 | nil=>simp[Pts.bind] at e
 | cons d ds =>
  cases xs with
  | nil=>have:=r.1;simp at this
  | cons x xs=>rw[Pts.bind] at e;obtain⟨E1,e1,e2⟩:=bind_some e;exact⟨x,xs,rfl,h B H0 H σ E E1 x d _ I r.head e1 fun σ1 I1=>hs B H0 H σ1 E1 E' xs ds Q I1 r.tail e2 q⟩
theorem JgO{n:Nat}{gs:TGs}{ps:Pts}(hn:∀(ds:List D) (E E':En),ps.bind ds E=some E'->ds.length=n)(hs:SGs K C gs ps):SG K C (JbD K n gs) (.tp ps):=by
 intro B H0 H σ E E' x d Q I r e q
 cases d with
 | tup ds=>rw[Pt.bind] at e;obtain⟨a,xs,rfl,h,r⟩:=RD.tupI r;exact⟨a,xs,rfl,I.h.seqT h,by rw[r.1];exact hn ds E E' e,hs B H0 H σ E E' xs ds Q I r e q⟩
 | _=>simp[Pt.bind] at e
noncomputable def Pts.len:Pts->Nat
 | .nil=>0
 | .cons _ l=>l.len+1
theorem Pts.bind_len:∀{ps:Pts} {ds:List D} {E E':En},ps.bind ds E=some E'->ds.length=ps.len
 | .nil,[],_,_,_=>rfl
 | .nil,_::_,_,_,e=>by simp[Pts.bind] at e
 | .cons _ _,[],_,_,e=>by simp[Pts.bind] at e
 | .cons p l,d::ds,E,E',e=>by rw[Pts.bind] at e;obtain⟨E1,e1,e2⟩:=bind_some e;rw[Gn,Pts.bind_len e2];rfl
theorem Jfy{n:Nat}{gs:TGs}{ps:Pts}(hs:SGs K C gs ps)(hn:ps.len=n):SG K C (JbD K n gs) (.tp ps):=JgO (fun _ _ _ e=>(Pts.bind_len e).trans hn) hs
end

section
variable(K:Frag)(C:Addr)
noncomputable def Ja8(A:Hp)(J:It)(ds:List D)(H0:Hp):Prop:=∀H0' H',SStep A H0 H0' H'->(∀(i:Nat) (d:D),ds[i]?=some d->J.go i H'/\∀x H2,J.yld i H' x H2->∃H02,Step H' H0' H' H02 H2/\RD K C H02 x d)/\J.stop ds.length H'
noncomputable def SI(m:Bool)(wi:TI)(ev:En->Option (List D)):Prop:=∀(B H0 H:Hp) (σ:St) (E:En) (ds:List D) (R:It->Hp->Prop),EnvR K C B H0 H σ E->ev E=some ds ->
 (∀J H0' H',Step H H0 H H0' H'->Ja8 K C (if m=true then H' else B) J ds H0'->R J H')->wi σ H R
end
noncomputable def Sl.it(m:Bool):Sl->Option (List D)
 | .bo ds=>if m=true then some ds else none
 | s=>s.q
noncomputable def iE(m:Bool)(a:Ev):En->Option (List D):=fun E=>(a E).bind (Sl.it m)
noncomputable def iV(i:Nat):En->Option (List D):=fun E=>match E[i]? with
 | some (.bo ds)=>some ds
 | some (.sh d)=>(Sl.sh d).q
 | _=>none
noncomputable def rng(lo:Int)(n:Nat):List D:=(Gs n).map fun(i:Nat)=>.int (lo+(i:Int))
noncomputable def V7(a:Int):Bool:=Kq a.natAbs 4611686018427387903
noncomputable def iR1(as:En->Option (List Sl)):En->Option (List D):=fun E=>(as E).bind fun ss=>match ss with
 | [.sh (.int n)]=>if V7 n=true then some (rng 0 n.toNat) else none
 | _=>none
noncomputable def iR2(as:En->Option (List Sl)):En->Option (List D):=fun E=>(as E).bind fun ss=>match ss with
 | [.sh (.int a),.sh (.int b)]=>if (V7 a && V7 b)=true then some (rng a (b-a).toNat) else none
 | _=>none
section
variable{K:Frag}{C:Addr}{te:TE}{ea:Ev}{m:Bool}
theorem YH{A H0:Hp}{a:Addr}{xs:List V}{ds:List D}(hd:∀H0' H',SStep A H0 H0' H'->SqL K H' a xs)(r:RDL K C H0 xs ds):Ja8 K C A (Itl K a) ds H0:=by intro H0' H' st;have hq:=hd H0' H' st;refine⟨fun i d e=>?_,⟨xs,hq,by rw[r.1];exact Qm _⟩⟩;obtain⟨x,e1,r1⟩:=r.get e;refine⟨⟨xs,x,hq,e1⟩,fun y H2 ⟨e2,e3⟩=>?_⟩;subst e2;have:=e3 xs hq;rw[e1] at this;cases this;exact⟨H0',.refl st.i,r1.mono st.z⟩
theorem JdE{A H0:Hp}{a:Addr}{xs:List V}{ds:List D}(hd:∀H0' H',SStep A H0 H0' H'->SqT K H' a xs)(r:RDL K C H0 xs ds):Ja8 K C A (Itt K a) ds H0:=by intro H0' H' st;have hq:=hd H0' H' st;refine⟨fun i d e=>?_,⟨xs,hq,by rw[r.1];exact Qm _⟩⟩;obtain⟨x,e1,r1⟩:=r.get e;refine⟨⟨xs,x,hq,e1⟩,fun y H2 ⟨e2,e3⟩=>?_⟩;subst e2;have:=e3 xs hq;rw[e1] at this;cases this;exact⟨H0',.refl st.i,r1.mono st.z⟩
theorem Jgc(ha:SE K C te ea):SI K C m (JbE K te) (iE m ea):=by
 intro B H0 H σ E ds R I e q;obtain⟨s,e1,e⟩:=bind_some e
 cases s with
 | no=>cases e
 | bd _ _=>cases e
 | bt _ _=>cases e
 | od _ _=>cases e
 | ot _ _=>cases e
 | bo es =>
  unfold Sl.it at e;dsimp only at e;split at e
  ·next hm=>cases e;refine .inl (ha B H0 H σ E _ _ I e1 fun x H1 H1' s1 r1=>?_);obtain⟨l,xs,rfl,h,r⟩:=r1;refine⟨l,rfl,⟨xs,.of h⟩,q _ _ _ s1 ?_⟩;rw[if_pos hm];exact YH (fun H0' H' st=>.of (st.b _ _ h)) r
  ·cases e
 | own es=>cases (show some es=some ds from e);refine .inl (ha B H0 H σ E _ _ I e1 fun x H1 H1' s1 r1=>?_);have f:=JJ (Hs:=H) s1.i;have r2:=RR.frz s1.i r1 rfl;obtain⟨l,xs,rfl,h,r⟩:=RD.lstI r2;exact⟨l,rfl,⟨xs,.of (f.i _ _ h)⟩,q _ _ _ (s1.comp f fun _ z=>z) (YH (fun H0' H' st=>.of (st.i _ _ (st.z _ _ h))) r)⟩
 | sh d =>
  cases d with
  | lst es=>cases (show some es=some ds from e);refine .inl (ha B H0 H σ E _ _ I e1 fun x H1 H1' s1 r1=>?_);obtain⟨l,xs,rfl,h,r⟩:=RD.lstI r1;exact⟨l,rfl,⟨xs,.of (s1.i _ _ h)⟩,q _ _ _ s1 (YH (fun H0' H' st=>.of (st.i _ _ (st.z _ _ h))) r)⟩
  | fz es=>cases (show some es=some ds from e);refine .inl (ha B H0 H σ E _ _ I e1 fun x H1 H1' s1 r1=>?_);obtain⟨l,xs,rfl,h,r⟩:=RD.fzI r1;exact⟨l,rfl,⟨xs,s1.i.seq h⟩,q _ _ _ s1 (YH (fun H0' H' st=>(st.z.trans st.i).seq h) r)⟩
  | tup es=>cases (show some es=some ds from e);refine .inr (ha B H0 H σ E _ _ I e1 fun x H1 H1' s1 r1=>?_);obtain⟨l,xs,rfl,h,r⟩:=RD.tupI r1;exact⟨l,rfl,⟨xs,s1.i.seqT h⟩,q _ _ _ s1 (JdE (fun H0' H' st=>(st.z.trans st.i).seqT h) r)⟩
  | _=>cases (show none=some ds from e)
theorem Jg6(i:Nat):SI K C false (JbE K (Wg i)) (iV i):=by
 intro B H0 H σ E ds R I e q;unfold iV at e;split at e
 ·next es h =>
  cases e;rcases I.at' i _ h with z|⟨v,h1,h2⟩
  ·cases z
  ·obtain⟨l,xs,rfl,hl,r⟩:=h2;refine .inl ⟨_,h1,l,rfl,⟨xs,.of (I.b _ _ hl)⟩,q _ _ _ (.refl I.h) (YH (fun H0' H' st=>.of (st.b _ _ hl)) r)⟩
 ·next d h=>refine Jgc (m:=false) (ea:=Jb i) (JcR i) B H0 H σ E ds R I ?_ q;show(Jb i E).bind _=_;unfold Jb;rw[h];exact e
 ·cases e
theorem Jcj{lo:Int}{n i:Nat}{d:D}(e:(rng lo n)[i]?=some d):i<n/\d=.int (lo+(i:Int)):=by
 unfold rng at e;rw[QB] at e
 cases h:(Gs n)[i]? with
 | none=>rw[h] at e;cases e
 | some j=>rw[h] at e;cases e;obtain⟨h1,h2⟩:=Qi.mp h;simp at h1 h2;subst h2;exact⟨h1,rfl⟩
theorem Jak{A H0:Hp}{lo:Int}{n:Nat}:Ja8 K C A (Itr lo n) (rng lo n) H0:=by intro H0' H' st;refine⟨fun i d e=>?_,by show n<=_;simp[rng]⟩;obtain⟨h1,rfl⟩:=Jcj e;refine⟨h1,fun x H2 ⟨e1,e2⟩=>?_⟩;subst e1 e2;exact⟨H0',.refl st.i,.int _⟩
theorem Ys{a:Int}(h:V7 a=true):-(2 ^ 62)<=a/\a<2 ^ 62:=by unfold V7 at h;rw[Gu] at h;omega
theorem Jgd{t:TA}{ev:En->Option (List Sl)}(ha:SA K C t ev):SI K C m (JcH t) (iR1 ev):=by
 intro B H0 H σ E ds R I e q;obtain⟨ss,e1,e⟩:=bind_some e;split at e
 ·split at e
  ·next hn =>
   cases e;refine ha B H0 H σ E _ _ I e1 fun vs H1 H1' s1 r1=>?_
   obtain⟨v,rfl,r⟩:=r1.one;rw[RD.intI r];exact⟨_,rfl,(Ys hn).1,(Ys hn).2,q _ _ _ s1 Jak⟩
  ·cases e
 ·cases e
theorem Jge{t:TA}{ev:En->Option (List Sl)}(ha:SA K C t ev):SI K C m (JcI t) (iR2 ev):=by
 intro B H0 H σ E ds R I e q;obtain⟨ss,e1,e⟩:=bind_some e;split at e
 ·split at e
  ·next hn =>
   cases e;rw[Qn] at hn;refine ha B H0 H σ E _ _ I e1 fun vs H1 H1' s1 r1=>?_
   obtain⟨v,w,rfl,r,r'⟩:=r1.two;rw[RD.intI r,RD.intI r'];exact⟨_,_,rfl,⟨(Ys hn.1).1,(Ys hn.1).2,(Ys hn.2).1,(Ys hn.2).2⟩,q _ _ _ s1 Jak⟩
  ·cases e
 ·cases e
end

noncomputable def yes?:En->Option Bool:=fun _=>some true
noncomputable def YG(imp:List (Option Nat))(E:En):En:=imp.map fun o=>match o with
 | none=>.no
 | some k=>match E[k]? with
  | some (.own ds)=>.bo ds
  | some (.od ks ds)=>.bd ks ds
  | some (.ot ks ds)=>.bt ks ds
  | some s=>s
  | none=>.no
noncomputable def Yo(p:Pt)(c:En->Option Bool)(a:Ev)(E1:En):List D->Option (List D)
 | []=>some []
 | d::ds=>(p.bind d E1).bind fun E2=>(c E2).bind fun k=>if k=true then(a E2).bind fun s=>s.frz.bind fun y=>(Yo p c a E1 ds).bind fun ys=>some (y::ys) else Yo p c a E1 ds
noncomputable def UP(it:En->Option (List D))(p:Pt)(c:En->Option Bool)(a:Ev)(imp:List (Option Nat)):Ev:=fun E=>(it E).bind fun ds=>if ds.length<=sizeLine then(Yo p c a (YG imp E) ds).map .own else none
section
variable{K:Frag}{C:Addr}
theorem Jgp:ST K C Je2 yes?:=fun _ _ _ _ _ _ _ I e q=>by cases e;exact q _ _ (.refl I.h)
theorem Jbj{B H0 H:Hp}{σ:St}{E:En}{imp:List (Option Nat)}(I:EnvR K C B H0 H σ E):EnvR K C H H0 H (Vt imp σ) (YG imp E):=by
 have get:∀(i:Nat) (s:Sl),(YG imp E)[i]?=some s->s=.no\/∃v,(Vt imp σ)[i]?=some (some v)/\RSl K C H H0 H v s/\Js s=false:=fun i s e=>by
  unfold YG at e;unfold Vt;rw[QB] at e ⊢
  cases h:imp[i]? with
  | none=>rw[h] at e;cases e
  | some o =>
   rw[h] at e
   cases o with
   | none=>cases e;exact .inl rfl
   | some k =>
    have e':(match E[k]? with|some (.own ds)=>Sl.bo ds|some (.od ks ds)=>Sl.bd ks ds|some (.ot ks ds)=>Sl.bt ks ds|some s=>s|none=>.no)=s:=Qr e
    cases hE:E[k]? with
    | none=>rw[hE] at e';exact .inl e'.symm
    | some s' =>
     rw[hE] at e';rcases I.at' k s' hE with z|⟨v,h1,h2⟩
     ·subst z;exact .inl e'.symm
     ·have g:(σ[k]?).join=some v:=by rw[h1];rfl
      cases s' with
      | no=>exact .inl e'.symm
      | sh d=>dsimp only at e';subst e';exact .inr ⟨v,by show some ((σ[k]?).join)=_;rw[g],h2,rfl⟩
      | bo ds=>dsimp only at e';subst e';obtain⟨l,xs,q1,q2,q3⟩:=h2;exact .inr ⟨v,by show some ((σ[k]?).join)=_;rw[g],⟨l,xs,q1,I.b _ _ q2,q3⟩,rfl⟩
      | own ds=>dsimp only at e';subst e';obtain⟨l,xs,q1,q2,_,_,q3⟩:=h2;exact .inr ⟨v,by show some ((σ[k]?).join)=_;rw[g],⟨l,xs,q1,q2,q3⟩,rfl⟩
      | bd ks ds=>dsimp only at e';subst e';obtain⟨l,xs,q1,q2,q3⟩:=h2;exact .inr ⟨v,by show some ((σ[k]?).join)=_;rw[g],⟨l,xs,q1,I.b _ _ q2,q3⟩,rfl⟩
      | bt ks ds=>dsimp only at e';subst e';obtain⟨l,xs,q1,q2,q3⟩:=h2;exact .inr ⟨v,by show some ((σ[k]?).join)=_;rw[g],⟨l,xs,q1,I.b _ _ q2,q3⟩,rfl⟩
      | od ks ds=>dsimp only at e';subst e';obtain⟨l,xs,q1,q2,_,_,q3⟩:=h2;exact .inr ⟨v,by show some ((σ[k]?).join)=_;rw[g],⟨l,xs,q1,q2,q3⟩,rfl⟩
      | ot ks ds=>dsimp only at e';subst e';obtain⟨l,xs,q1,q2,_,_,q3⟩:=h2;exact .inr ⟨v,by show some ((σ[k]?).join)=_;rw[g],⟨l,xs,q1,q2,q3⟩,rfl⟩
 refine⟨Same.refl _,I.h,by simp[Vt,YG],fun i s e=>?_,fun i j s t v hij e1 e2 o1 o2=>?_⟩
 ·rcases get i s e with z|⟨v,h1,h2,_⟩
  ·exact .inl z
  ·exact .inr ⟨v,h1,h2⟩
 ·rcases get i _ e1 with z|⟨v,h1,h2,h3⟩
  ·subst z;cases o1
  ·rw[h3] at o1;cases o1
theorem JeM{wi:TI}{g:TG}{tt:TT}{te:TE}{imp:List (Option Nat)}{it:En->Option (List D)}{p:Pt}{c:En->Option Bool}{a:Ev}(hi:SI K C true wi it)(hg:SG K C g p)(hc:ST K C tt c)(ha:SE K C te a)
 (hp:(p.slots.all fun i=>match imp[i]? with|some none=>true|_=>false)=true):SE K C (JcS wi g tt te imp) (UP it p c a imp):=by
 intro B H0 H σ E r Q I e q;obtain⟨ds,e1,e⟩:=bind_some e;split at e
 ·next hl =>
  obtain⟨es,e2,rfl⟩:=map_some e;refine hi B H0 H σ E ds _ I e1 fun J H1 H1' s1 ok=>?_
  rw[if_pos rfl] at ok;have I1:EnvR K C H1' H1 H1' (Vt imp σ) (YG imp E):=Jbj (I.step s1)
  -- the loop: what was gathered,what comes
  refine⟨fun i m ys σ' H'=>m=ds.length-i/\i<=ds.length/\∃H0' gs rs,EnvR K C H1' H0' H' σ' (YG imp E)/\Step H1' H1 H1' H0' H'/\RDL K C H0' ys gs/\Yo p c a (YG imp E) (ds.drop i)=some rs/\es=gs++rs/\gs.length<=i,
   ⟨ds.length,by simp,Gr _,H1,[],es,I1,.refl s1.i,.nil,e2,rfl,Qm _⟩,?_⟩
  rintro i m ys σ' H' ⟨rfl,hi',H0',gs,rs,I',st,rys,er,ees,hgl⟩;have stop:=ok H0' H' ⟨st.h,st.z,st.n,st.i⟩
  by_cases hlt:i<ds.length
  ·have hd:ds[i]?=some ds[i]:=by simp[hlt]
   obtain⟨go,yl⟩:=stop.1 i _ hd;refine .inr ⟨go,by rw[rys.1];omega,fun ys' σ2 H2=>∃H02 gs rs,EnvR K C H1' H02 H2 σ2 (YG imp E)/\Step H1' H1 H1' H02 H2/\RDL K C H02 ys' gs/\Yo p c a (YG imp E) (ds.drop (i+1))=some rs/\es=gs++rs/\gs.length<=i+1,
    fun ys' σ2 H2 h=>⟨ds.length-(i+1),by omega,rfl,hlt,h⟩,fun x H2 y=>?_⟩
   obtain⟨H02,st2,rx⟩:=yl x H2 y;rw[Km hlt,Yo] at er;obtain⟨E2,b1,er⟩:=bind_some er;obtain⟨k,b2,er⟩:=bind_some er;refine hg H1' H02 H2 σ' (YG imp E) E2 x _ _ (I'.step st2) rx b1 fun σ2 I2=>?_
   have back:∀{H03 H3:Hp},EnvR K C H1' H03 H3 σ2 E2->EnvR K C H1' H03 H3 σ2 (YG imp E):=fun {H03 H3} J=>by
    obtain⟨k1,k2⟩:=Pt.keep b1;refine J.sub k1.symm fun j s ej=>?_
    by_cases hj:j∈p.slots
    ·have:=QI.mp hp j hj
     have ej':=ej;unfold YG at ej';rw[QB] at ej'
     cases hm:imp[j]? with
     | none=>rw[hm] at this;cases this
     | some o =>
      rw[hm] at this ej'
      cases o with
      | none=>cases ej';exact .inl rfl
      | some _=>cases this
    ·exact .inr (by rw[k2 j hj];exact ej)
   refine hc H1' H02 H2 σ2 E2 k _ I2 b2 fun H03 H3 st3=>?_
   have st13:Step H1' H1 H1' H03 H3:=(st.trans st2).trans st3
   cases k with
   | false=>rw[if_neg (by simp)];rw[if_neg (by simp)] at er;exact⟨H03,gs,rs,back (I2.step st3),st13,rys.mono (st2.z.trans st3.z),er,ees,by omega⟩
   | true =>
    rw[if_pos rfl];rw[if_pos rfl] at er;obtain⟨s,b3,er⟩:=bind_some er;obtain⟨y',b4,er⟩:=bind_some er;obtain⟨ws,b5,er⟩:=bind_some er;cases er;refine ha H1' H03 H3 σ2 E2 s _ (I2.step st3) b3 fun v H04 H4 st4 r4=>?_
    have f:=JJ (Hs:=H3) st4.i
    have st5:Step H3 H03 H3 (J8 H3 H04 H4) H4:=st4.comp f fun _ z=>z
    exact⟨_,gs++[y'],ws,back ((I2.step st3).step st5),st13.trans st5,(rys.mono ((st2.z.trans st3.z).trans st5.z)).snoc (RR.frz st4.i r4 b4),b5,by rw[ees,List.append_assoc];rfl,by rw[Q1];simp;exact hgl⟩
  ·have e3:i=ds.length:=by omega
   subst e3;refine .inl ⟨stop.2,by rw[rys.1];omega,fun p hp=>?_⟩;rw[List.drop_length,Yo] at er;cases er;rw[GN] at ees;subst ees;exact Ud (Hs:=H) st.i (s1.h.trans st.h) hp rys fun v H2 H2' s2 r2=>q v H2 H2' ((s1.trans st).comp s2 fun _ z=>z) r2
 ·cases e
end
end LE

namespace LE
open PySem L2 LR

inductive Out where
 | nx (E:En)|rt (r:Sl)|bk (E:En)|ct (E:En)
noncomputable abbrev Es:=En->Option Out
section
variable(K:Frag)(C:Addr)
noncomputable def Fin(B H0:Hp)(D:Ends):Out->Prop
 | .nx E=>∀σ' H0' H',SStep B H0 H0' H'->EnvR K C B H0' H' σ' E->D.nx σ' H'
 | .bk E=>∀σ' H0' H',SStep B H0 H0' H'->EnvR K C B H0' H' σ' E->D.bk σ' H'
 | .ct E=>∀σ' H0' H',SStep B H0 H0' H'->EnvR K C B H0' H' σ' E->D.ct σ' H'
 | .rt r=>∀v H0' H',SStep B H0 H0' H'->RR K C B H0' H' v r->D.rt v H'
noncomputable def SS(ts:TS)(ev:Es):Prop:=∀(B H0 H:Hp) (σ:St) (E:En) (o:Out) (D:Ends),EnvR K C B H0 H σ E->ev E=some o->Fin K C B H0 D o->ts D σ H
end
noncomputable def J2:Es:=fun E=>some (.nx E)
noncomputable def JaO(b:Es):Out->Option Out
 | .nx E=>b E
 | .rt r=>some (.rt r)
 | .bk E=>some (.bk E)
 | .ct E=>some (.ct E)
noncomputable def JI(a b:Es):Es:=fun E=>(a E).bind (JaO b)
noncomputable def xIf(c:En->Option Bool)(a b:Es):Es:=fun E=>(c E).bind fun k=>if k=true then a E else b E
noncomputable def keep?:Sl->Option Sl
 | .sh d=>some (.sh d)
 | .own ds=>some (.own ds)
 | .od ks ds=>some (.od ks ds)
 | .ot ks ds=>some (.ot ks ds)
 | _=>none
noncomputable def Je7(i:Nat)(a:Ev):Es:=fun E=>(a E).bind fun s=>(keep? s).bind fun s=>if i<E.length then some (.nx (E.set i s)) else none
noncomputable def JV(i:Nat)(a:Ev):Es:=fun E=>(a E).bind fun s=>s.frz.bind fun d=>if i<E.length then some (.nx (E.set i (.sh d))) else none
noncomputable def UC(a:Ev):Es:=fun E=>(a E).map fun _=>.nx E
noncomputable def Yr(a:Ev):Es:=fun E=>(a E).bind fun s=>(keep? s).map .rt
noncomputable def UY(i:Nat):Es:=fun E=>match E[i]? with
 | some (.sh d)=>some (.rt (.sh d))
 | some (.own ds)=>some (.rt (.own ds))
 | some (.od ks ds)=>some (.rt (.od ks ds))
 | _=>none
noncomputable def YE:Es:=fun _=>none
noncomputable def JcA(i:Nat)(a:Ev):Es:=fun E=>match E[i]? with
 | some (.own ds)=>(a E).bind fun s=>s.frz.bind fun d=>if ds.length<sizeLine then some (.nx (E.set i (.own (ds++[d])))) else none
 | _=>none
noncomputable def Jdt(i:Nat)(E:En):En:=match E[i]? with
 | some (.own ds)=>E.set i (.sh (.lst ds))
 | some (.od ks ds)=>E.set i (.sh (.dct ks ds))
 | _=>E
noncomputable def Yn(p:Pt)(b:Es):List D->Es
 | [],E=>some (.nx E)
 | d::ds,E=>(p.bind d E).bind fun E1=>(b E1).bind fun o=>match o with
  | .nx E2=>Yn p b ds E2
  | .ct E2=>Yn p b ds E2
  | .bk E2=>some (.nx E2)
  | .rt r=>some (.rt r)
noncomputable def Vi(it:En->Option (List D))(p:Pt)(b:Es):Es:=fun E=>(it E).bind fun ds=>Yn p b ds E
section
variable{K:Frag}{C:Addr}{B H0 H H0' H':Hp}{σ:St}{E:En}{D:Ends}{o:Out}{te:TE}{ea:Ev}{t u:TS}{et eu:Es}
theorem Fin.step(st:SStep B H0 H0' H')(f:Fin K C B H0 D o):Fin K C B H0' D o:=by
 cases o with
 | nx E=>exact fun σ' H1 H1' s1 I=>f σ' H1 H1' (st.trans s1) I
 | bk E=>exact fun σ' H1 H1' s1 I=>f σ' H1 H1' (st.trans s1) I
 | ct E=>exact fun σ' H1 H1' s1 I=>f σ' H1 H1' (st.trans s1) I
 | rt r=>exact fun v H1 H1' s1 I=>f v H1 H1' (st.trans s1) I
theorem EnvR.ss(I:EnvR K C B H0 H σ E):SStep B H0 H0 H:=.refl I.b I.h
theorem Jfa:SS K C JaY J2:=fun _ _ _ _ _ _ _ I e f=>by cases e;exact f _ _ _ I.ss I
theorem JcB:SS K C JaX YE:=fun _ _ _ _ _ _ _ _ e _=>by cases e
theorem Jgz(ht:SS K C t et)(hu:SS K C u eu):SS K C (Je0 t u) (JI et eu):=by
 intro B H0 H σ E o D I e f;obtain⟨o1,e1,e⟩:=bind_some e;refine ht B H0 H σ E o1 _ I e1 ?_
 cases o1 with
 | nx E1=>exact fun σ1 H1 H1' s1 I1=>hu B H1 H1' σ1 E1 o D I1 e (f.step s1)
 | bk E1=>cases e;exact f
 | ct E1=>cases e;exact f
 | rt r=>cases e;exact f
theorem Jhb{c:TT}{ec:En->Option Bool}(hc:ST K C c ec)(ht:SS K C t et)(hu:SS K C u eu):SS K C (JeX c t u) (xIf ec et eu):=by
 intro B H0 H σ E o D I e f;obtain⟨k,e1,e⟩:=bind_some e;refine hc B H0 H σ E k _ I e1 fun H1 H1' s1=>?_
 cases k with
 | true=>rw[if_pos rfl];exact ht B H1 H1' σ E o D (I.step s1) e (f.step (s1.ss I.b))
 | false=>rw[if_neg (by simp)];exact hu B H1 H1' σ E o D (I.step s1) e (f.step (s1.ss I.b))
theorem UR{s r:Sl}(e:keep? s=some r):s=r/\JdD r=false:=by cases s <;> cases e <;> exact⟨rfl,rfl⟩
theorem JgA{i:Nat}(ha:SE K C te ea):SS K C (Jcu te (UQ i)) (Je7 i ea):=by
 intro B H0 H σ E o D I e f;obtain⟨s,e1,e⟩:=bind_some e;obtain⟨s',e2,e⟩:=bind_some e;obtain⟨rfl,hb⟩:=UR e2;split at e
 ·cases e;exact ha B H0 H σ E _ _ I e1 fun v H1 H1' s1 r1=>f _ _ _ (s1.ss I.b) (I.put' s1 (by assumption) r1 hb)
 ·cases e
theorem Jfc{i:Nat}(ha:SE K C te ea):SS K C (Jcu te (UQ i)) (JV i ea):=by
 intro B H0 H σ E o D I e f;obtain⟨s,e1,e⟩:=bind_some e;obtain⟨d,e2,e⟩:=bind_some e;split at e
 ·cases e;refine ha B H0 H σ E _ _ I e1 fun v H1 H1' s1 r1=>?_
  have s2:Step H H0 H (J8 H H1 H1') H1':=s1.comp (JJ s1.i) fun _ z=>z
  exact f _ _ _ (s2.ss I.b) ((I.step s2).setSh (by assumption) (RR.frz s1.i r1 e2))
 ·cases e
theorem Je8(ha:SE K C te ea):SS K C (WO te) (UC ea):=by intro B H0 H σ E o D I e f;obtain⟨s,e1,rfl⟩:=map_some e;exact ha B H0 H σ E _ _ I e1 fun v H1 H1' s1 r1=>f _ _ _ (s1.ss I.b) (I.step s1)
theorem Jgy(ha:SE K C te ea):SS K C (Jcv te) (Yr ea):=by intro B H0 H σ E o D I e f;obtain⟨s,e1,e⟩:=bind_some e;obtain⟨s',e2,rfl⟩:=map_some e;obtain⟨rfl,hb⟩:=UR e2;exact ha B H0 H σ E _ _ I e1 fun v H1 H1' s1 r1=>f _ _ _ (s1.ss I.b) (r1.weak fun a z=>Same.free I.b z)
theorem Jfb{i:Nat}:SS K C (Jcv (Wg i)) (UY i):=by
 intro B H0 H σ E o D I e f;unfold UY at e;split at e
 ·next d h =>
  cases e;rcases I.at' i _ h with z|⟨v,h1,h2⟩
  ·cases z
  ·exact⟨v,h1,f _ _ _ I.ss h2⟩
 ·next d h =>
  cases e;rcases I.at' i _ h with z|⟨v,h1,h2⟩
  ·cases z
  ·exact⟨v,h1,f _ _ _ I.ss h2⟩
 ·next d h =>
  cases e;rcases I.at' i _ h with z|⟨v,h1,h2⟩
  ·cases z
  ·exact⟨v,h1,f _ _ _ I.ss h2⟩
 ·cases e
theorem EnvR.mutG{i:Nat}{l:Addr}{t t':Sl}{o':HO}(I:EnvR K C B H0 H σ E)(e1:E[i]?=some t)(ho:Js t=true)(ho':Js t'=true)(e2:σ[i]?=some (some (.ref l)))(r:RSl K C B H0 (upd H l o') (.ref l) t') :
 EnvR K C B H0 (upd H l o') σ (E.set i t'):=by
 obtain⟨h1,h2,h3⟩:=I.ownG e1 ho e2;have hi:i<E.length:=(Qi.mp e1).1;have nb:∀{A:Hp},A l=none->Same A H->Same A (upd H l o'):=fun {A} n s a o e=>by rw[Jd (Jl e n)];exact s a o e
 refine⟨nb h3 I.b,nb h2 I.h,by simp[I.len],fun j s e=>?_,fun j k s1 s2 v hjk a1 a2 p1 p2 a3=>?_⟩
 ·rw[QF] at e
  by_cases hj:i=j
  ·subst hj;rw[if_pos rfl,if_pos hi] at e;cases e;exact .inr ⟨_,e2,r⟩
  ·rw[if_neg hj] at e;rcases I.at' j s e with z|⟨v,q1,q2⟩
   ·exact .inl z
   ·refine .inr ⟨v,q1,?_⟩
    cases s with
    | no=>trivial
    | sh d=>exact q2
    | bo es=>exact q2
    | bd ks es=>exact q2
    | bt ks es=>exact q2
    | own es =>
     obtain⟨l',ys,p1,p2,p3,p4,p5⟩:=q2;subst p1;have:l'≠l:=fun z=>by subst z;exact I.sep i j t _ (.ref l') hj e1 e ho rfl e2 q1
     exact⟨l',ys,rfl,by rw[Jd this];exact p2,p3,p4,p5⟩
    | od ks es =>
     obtain⟨l',ys,p1,p2,p3,p4,p5⟩:=q2;subst p1;have:l'≠l:=fun z=>by subst z;exact I.sep i j t _ (.ref l') hj e1 e ho rfl e2 q1
     exact⟨l',ys,rfl,by rw[Jd this];exact p2,p3,p4,p5⟩
    | ot ks es =>
     obtain⟨l',ys,p1,p2,p3,p4,p5⟩:=q2;subst p1;have:l'≠l:=fun z=>by subst z;exact I.sep i j t _ (.ref l') hj e1 e ho rfl e2 q1
     exact⟨l',ys,rfl,by rw[Jd this];exact p2,p3,p4,p5⟩
 ·have own:∀{j:Nat} {u:Sl},(E.set i t')[j]?=some u->Js u=true->∃g,E[j]?=some g/\Js g=true:=fun {j u} a w=>by
   rw[QF] at a
   by_cases hj:i=j
   ·subst hj;exact⟨t,e1,ho⟩
   ·rw[if_neg hj] at a;exact⟨_,a,w⟩
  obtain⟨g1,b1,c1⟩:=own a1 p1;obtain⟨g2,b2,c2⟩:=own a2 p2;exact I.sep j k g1 g2 v hjk b1 b2 c1 c2 a3
theorem EnvR.mut{i:Nat}{l:Addr}{ds ds':List LE.D}{xs xs':List V}(I:EnvR K C B H0 H σ E)(e1:E[i]?=some (.own ds))(e2:σ[i]?=some (some (.ref l)))(r:RDL K C H0 xs' ds') :
 EnvR K C B H0 (upd H l (.lst xs')) σ (E.set i (.own ds')):=by
 obtain⟨_,h2,h3⟩:=I.ownG e1 rfl e2;exact I.mutG (t':=.own ds') e1 rfl rfl e2 ⟨l,xs',rfl,Ju,h2,h3,r⟩
theorem EnvR.slot{i:Nat}{ds:List LE.D}(I:EnvR K C B H0 H σ E)(e1:E[i]?=some (.own ds)):∃l xs,σ[i]?=some (some (.ref l))/\H l=some (.lst xs)/\H0 l=none/\B l=none/\RDL K C H0 xs ds:=by
 rcases I.at' i _ e1 with z|⟨v,h1,l,xs,rfl,h2,h3,h4,h5⟩
 ·cases z
 ·exact⟨l,xs,h1,h2,h3,h4,h5⟩
theorem Jgw{i:Nat}(ha:SE K C te ea):SS K C (WO (tBM K "list" WF (Wg i) (YT te VY))) (JcA i ea):=by
 intro B H0 H σ E o D I e f;unfold JcA at e;split at e
 ·next ds h =>
  obtain⟨s,e1,e⟩:=bind_some e;obtain⟨d,e2,e⟩:=bind_some e;split at e
  ·next hz =>
   cases e;obtain⟨l,xs,g1,g2,g3,g4,g5⟩:=I.slot h;refine⟨_,g1,.inl ⟨rfl,_,.of g2⟩,?_⟩;refine ha B H0 H σ E _ _ I e1 fun v H1 H1' s1 r1=>?_
   have s2:Step H H0 H (J8 H H1 H1') H1':=s1.comp (JJ s1.i) fun _ z=>z
   have I2:=I.step s2
   have m:=I2.mut (xs:=xs) h g1 ((g5.mono s2.z).snoc (RR.frz s1.i r1 e2));exact⟨l,xs,v,rfl,rfl,s2.h _ _ g2,by rw[g5.1];exact hz,f _ _ _ ⟨m.b,s2.z,(s2.ss I.b).n,m.h⟩ m⟩
  ·cases e
 ·cases e
theorem EnvR.slotD{i:Nat}{ks:List Int}{ds:List LE.D}(I:EnvR K C B H0 H σ E)(e1:E[i]?=some (.od ks ds)):∃l xs,σ[i]?=some (some (.ref l))/\H l=some (dkO ks xs)/\H0 l=none/\B l=none/\ks.length=ds.length/\RDL K C H0 xs ds:=by
 rcases I.at' i _ e1 with z|⟨v,h1,l,xs,rfl,h2,h3,h4,h5⟩
 ·cases z
 ·exact⟨l,xs,h1,h2,h3,h4,h5⟩
theorem EnvR.frzG(I:EnvR K C B H0 H σ E){i:Nat}{t:Sl}{l:Addr}{o:HO}{d:LE.D}(h:E[i]?=some t)(ho:Js t=true)(g1:σ[i]?=some (some (.ref l)))(g2:H l=some o)(g5:∀H1,Same H0 H1->H1 l=some o->RD K C H1 (.ref l) d):∃H0',SStep B H0 H0' H/\EnvR K C B H0' H σ (E.set i (.sh d)):=by
 obtain⟨_,g3,g4⟩:=I.ownG h ho g1;have hi:i<E.length:=(Qi.mp h).1;have s0:Same H0 (upd H0 l o):=.new g3
 have s1:Same (upd H0 l o) H:=fun a o e=>by
  by_cases ha:a=l
  ·subst ha;rw[Ju] at e;cases e;exact g2
  ·rw[Jd ha] at e;exact I.h a o e
 refine⟨upd H0 l o,⟨I.b,s0,fun a o e=>?_,s1⟩,I.b,s1,by simp[I.len],fun j s e=>?_,fun j k u1 u2 v hjk a1 a2 w1 w2 a3=>?_⟩
 ·by_cases ha:a=l
  ·subst ha;exact .inr (.inl g4)
  ·rw[Jd ha] at e;exact .inl e
 ·rw[QF] at e
  by_cases hj:i=j
  ·subst hj;rw[if_pos rfl,if_pos hi] at e;cases e;exact .inr ⟨_,g1,g5 _ s0 Ju⟩
  ·rw[if_neg hj] at e;rcases I.at' j s e with z|⟨v,q1,q2⟩
   ·exact .inl z
   ·refine .inr ⟨v,q1,?_⟩
    cases s with
    | no=>trivial
    | sh d=>exact RD.mono s0 q2
    | bo es=>obtain⟨l',ys,p1,p2,p3⟩:=q2;exact⟨l',ys,p1,p2,p3.mono s0⟩
    | bd ks es=>obtain⟨l',ys,p1,p2,hk,p3⟩:=q2;exact⟨l',ys,p1,p2,hk,p3.mono s0⟩
    | bt ks es=>obtain⟨l',ys,p1,p2,hk,p3⟩:=q2;exact⟨l',ys,p1,p2,hk,p3.mono s0⟩
    | own es =>
     obtain⟨l',ys,p1,p2,p3,p4,p5⟩:=q2;subst p1;have:l'≠l:=fun z=>by subst z;exact I.sep i j t _ (.ref l') hj h e ho rfl g1 q1
     exact⟨l',ys,rfl,p2,by rw[Jd this];exact p3,p4,p5.mono s0⟩
    | od ks es =>
     obtain⟨l',ys,p1,p2,p3,p4,hk,p5⟩:=q2;subst p1;have:l'≠l:=fun z=>by subst z;exact I.sep i j t _ (.ref l') hj h e ho rfl g1 q1
     exact⟨l',ys,rfl,p2,by rw[Jd this];exact p3,p4,hk,p5.mono s0⟩
    | ot ks es =>
     obtain⟨l',ys,p1,p2,p3,p4,hk,p5⟩:=q2;subst p1;have:l'≠l:=fun z=>by subst z;exact I.sep i j t _ (.ref l') hj h e ho rfl g1 q1
     exact⟨l',ys,rfl,p2,by rw[Jd this];exact p3,p4,hk,p5.mono s0⟩
 ·have own:∀{j:Nat} {u:Sl},(E.set i (.sh d))[j]?=some u->Js u=true->E[j]?=some u:=fun {j u} a w=>by
   rw[QF] at a
   by_cases hj:i=j
   ·subst hj;rw[if_pos rfl,if_pos hi] at a;cases a;cases w
   ·rw[if_neg hj] at a;exact a
  exact I.sep j k u1 u2 v hjk (own a1 w1) (own a2 w2) w1 w2 a3
theorem EnvR.frz(I:EnvR K C B H0 H σ E)(i:Nat):∃H0',SStep B H0 H0' H/\EnvR K C B H0' H σ (Jdt i E):=by
 unfold Jdt;split
 ·next ds h=>obtain⟨l,xs,g1,g2,g3,g4,g5⟩:=I.slot h;exact I.frzG h rfl g1 g2 fun H1 s0 hl=>.mkL hl (g5.mono s0)
 ·next ks ds h=>obtain⟨l,xs,g1,g2,g3,g4,hk,g5⟩:=I.slotD h;exact I.frzG h rfl g1 g2 fun H1 s0 hl=>.mkD hl hk (g5.mono s0)
 ·exact⟨H0,I.ss,I⟩
theorem Jgx{wi:TI}{g:TG}{it:En->Option (List LE.D)}{p:Pt}(hi:SI K C false wi it)(hg:SG K C g p)(ht:SS K C t et):SS K C (Jgt wi g t) (Vi it p et):=by
 intro B H0 H σ E o D I e f;obtain⟨ds,e1,e⟩:=bind_some e;refine hi B H0 H σ E ds _ I e1 fun J H1 H1' s1 ok=>?_
 rw[if_neg (by simp)] at ok;refine⟨fun i m σ' H'=>m=ds.length-i/\i<=ds.length/\∃H0' E',EnvR K C B H0' H' σ' E'/\SStep B H1 H0' H'/\Yn p et (ds.drop i) E'=some o,
  ⟨ds.length,by simp,Gr _,H1,E,I.step s1,.refl (I.b.trans s1.h) s1.i,e⟩,?_⟩
 rintro i m σ' H' ⟨rfl,hi',H0',E',I',st,er⟩;have stop:=ok H0' H' st;have f':Fin K C B H0' D o:=(f.step (s1.ss I.b)).step st
 by_cases hlt:i<ds.length
 ·have hd:ds[i]?=some ds[i]:=by simp[hlt]
  obtain⟨go,yl⟩:=stop.1 i _ hd;refine .inr ⟨go,fun σ2 H2=>∃H02 E2,EnvR K C B H02 H2 σ2 E2/\SStep B H1 H02 H2/\Yn p et (ds.drop (i+1)) E2=some o,fun σ2 H2 h=>⟨ds.length-(i+1),by omega,rfl,hlt,h⟩,fun x H2 y=>?_⟩;obtain⟨H02,st2,rx⟩:=yl x H2 y;rw[Km hlt,Yn] at er;obtain⟨E1,b1,er⟩:=bind_some er;obtain⟨o1,b2,er⟩:=bind_some er;have ss2:SStep B H0' H02 H2:=st2.ss I'.b;refine hg B H02 H2 σ' E' E1 x _ _ (I'.step st2) rx b1 fun σ2 I2=>?_
  refine ht B H02 H2 σ2 E1 o1 _ I2 b2 ?_
  cases o1 with
  | nx E2=>exact fun σ3 H3 H3' s3 I3=>⟨H3,E2,I3,(st.trans ss2).trans s3,er⟩
  | ct E2=>exact fun σ3 H3 H3' s3 I3=>⟨H3,E2,I3,(st.trans ss2).trans s3,er⟩
  | bk E2=>cases er;exact f'.step ss2
  | rt r=>cases er;exact f'.step ss2
 ·have e3:i=ds.length:=by omega
  subst e3;rw[List.drop_length,Yn] at er;cases er;exact .inl ⟨stop.2,f' _ _ _ I'.ss I'⟩
end

noncomputable def Jdc:Out->Option Sl
 | .nx _=>some (.sh .non)
 | .rt r=>some r
 | .bk _=>none
 | .ct _=>none
noncomputable def Yy(N:Nat)(b:Es):List Sl->Option Sl:=fun as=>(b (as++Q9 (N-as.length) .no)).bind Jdc
section
variable{K:Frag}{C:Addr}
theorem RRL.get{Hs H0 H:Hp}:∀{vs:List V} {ss:List Sl} {i:Nat} {s:Sl},RRL K C Hs H0 H vs ss->ss[i]?=some s->∃v,vs[i]?=some v/\RR K C Hs H0 H v s
 | _,_,_,_,.nil,e=>by simp at e
 | _,_,0,_,.cons h _,e=>by simp at e;subst e;exact⟨_,rfl,h⟩
 | _,_,i+1,s,.cons _ t,e=>by obtain⟨v,h1,h2⟩:=RRL.get (i:=i) (s:=s) t (by simpa using e);exact⟨v,by simpa using h1,h2⟩
theorem JL{N:List Str}{n:Nat}{b:Es}{ts:TS}{vs:List V}{H:Hp}{Q:VK}{E:XK}(hb:SS K C ts b)(h:spE K C n (Yy N.length b) vs H Q E):ts { nx:=fun _ H'=>Q .non H',rt:=Q } (L2.Ym N vs) H:=by
 obtain⟨H0,as,r,i,ra,ho,hl,e,q⟩:=h;have lens:=ra.len
 have noOwn:∀(j:Nat) (s:Sl),as[j]?=some s->Js s=false:=fun j s e=>by
  have:=QI.mp ho s (QL e)
  simpa using this
 have get:∀(j:Nat) (s:Sl),(as++Q9 (N.length-as.length) Sl.no)[j]?=some s->s=.no\/as[j]?=some s:=fun j s e=>by
  by_cases hj:j<as.length
  ·rw[Qu hj] at e;exact .inr e
  ·rw[QD (by omega),Kz] at e;split at e
   ·cases e;exact .inl rfl
   ·cases e
 have I:EnvR K C H H0 H (L2.Ym N vs) (as++Q9 (N.length-as.length) .no):=by
  refine⟨Same.refl _,i,by simp[L2.Ym,lens],fun j s e=>?_,fun j k s1 s2 v hjk e1 e2 w1 w2=>?_⟩
  ·rcases get j s e with z|z
   ·exact .inl z
   ·obtain⟨v,h1,h2⟩:=ra.get z;refine .inr ⟨v,?_,?_⟩
    ·unfold L2.Ym;rw[Qu (by have:=(Qi.mp h1).1;simpa using this),QB,h1];rfl
    ·cases s with
     | no=>trivial
     | sh d=>exact h2
     | bo ds=>exact h2
     | own ds=>exact absurd (noOwn j _ z) (by simp[Js])
     | bd ks ds=>exact h2
     | bt ks ds=>exact h2
     | od ks ds=>exact absurd (noOwn j _ z) (by simp[Js])
     | ot ks ds=>exact absurd (noOwn j _ z) (by simp[Js])
  ·rcases get j _ e1 with z|z
   ·subst z;cases w1
   ·rw[noOwn j _ z] at w1;cases w1
 obtain⟨o,e1,e⟩:=bind_some e;refine hb H H0 H _ _ o _ I e1 ?_
 cases o with
 | nx E1=>cases e;exact fun σ' H1 H1' s1 I1=>q _ H1 H1' ⟨s1.b,s1.z,s1.n,s1.i⟩ RD.non
 | rt r'=>cases e;exact fun v H1 H1' s1 r1=>q v H1 H1' ⟨s1.b,s1.z,s1.n,s1.i⟩ r1
 | bk _=>cases e
 | ct _=>cases e
theorem JbK{P:Program}{w:World}{mg:Str->Option Value}{base:Heap}{k:Nat}{f:Addr}{fd:FuncData}{ps:List Str}{ev:List Sl->Option Sl}(F:FnOk P w K mg base CX0 k f fd ps (spE K C 1 ev))
 (h:∀ns:List Int,ns.length<=63->ev [.sh (.fz (ns.map .int))]=some (.sh (.bl true))):FnOk P w K mg base CX0 k f fd ps (WL K) :=
 F.imp fun vs H Q E ⟨a,ns,e,hS,hl,q⟩=>by subst e;exact⟨H,[.sh (.fz (ns.map .int))],_,Same.refl _,.cons (show RD K C H _ _ from RD.mkF hS (RDL.ofInts ns)) .nil,rfl,rfl,h ns hl,fun v H0' H' _ r=>by rw[RD.blI r];exact q H'⟩
structure RowK (K:Frag) (C:Addr):Prop where
 t:RowC K C
 k1:findIn K (.ref C) "__class__"=some (some (.builtin "object.__class__"))
 k2:specialIn K (.builtin "object.__class__") "__get__"=some (some (.builtin "getset_descriptor.__get__"))
 k3:takesIn K (.builtin "object.__class__")=some true
 k4:mroIn K C (.type "object")=some true
end
end LE

namespace L2
open PySem PySem.Spec PyProof.Rows
end L2
namespace LE
open PySem L2 LR
noncomputable def Jdx(a:Int):Bool:=Kq a.natAbs 1152921504606846975
theorem in60_ok{a:Int}:Jdx a=true↔-1152921504606846976<a/\a<1152921504606846976:=by unfold Jdx;rw[Gu];omega
section
variable{K:Frag}{C:Addr}{m:Bool}
noncomputable def str?:Sl->Option Str
 | .sh (.str z)=>some z
 | _=>none
end
end LE

namespace LE
open PySem L2 LR
noncomputable def okS(P:En->Prop):Option Out->Prop
 | some (.nx E)=>P E
 | some (.ct E)=>P E
 | _=>False
theorem JdW{P:En->Prop}{E:En}:okS P (some (.nx E))=P E:=rfl
theorem JdV{P:En->Prop}{E:En}:okS P (some (.ct E))=P E:=rfl
theorem VB{P:En->Prop}{o:Option Out}(h:okS P o):∃E,(o=some (.nx E)\/o=some (.ct E))/\P E:=by
 unfold okS at h;split at h
 ·exact⟨_,.inl rfl,h⟩
 ·exact⟨_,.inr rfl,h⟩
 ·exact h.elim
theorem YI{γ α β:Type}{p:Pt}{b:Es}{f:α->D}{k:Out->Option γ}{r:Option γ}(R:List α->β->En->Prop)(g:β->α->β):∀{as:List α} {E:En} (s:β) (h0:R as s E)
 (h:∀a as s E,R (a::as) s E->okS (R as (g s a)) ((p.bind (f a) E).bind b)) (fin:∀E',R [] (as.foldl g s) E'->k (.nx E')=r),(Yn p b (as.map f) E).bind k=r
 | [],E,s,h0,_,fin=>fin E h0
 | a::as,E,s,h0,h,fin=>by
  obtain⟨E2,e2,r2⟩:=VB (h a as s E h0);have ih:=YI (k:=k) (r:=r) R g (as:=as) (E:=E2) (g s a) r2 h fin;rw[Qq,Yn]
  cases hp:p.bind (f a) E with
  | none=>rw[hp] at e2;rcases e2 with e2|e2 <;> cases e2
  | some E1=>rw[hp,Go] at e2;rw[Go];rcases e2 with e2|e2 <;> (rw[e2,Go];exact ih)
theorem Vz{γ:Type}{p:Pt}{b:Es}{f:Nat->D}{n:Nat}{E:En}{k:Out->Option γ}{r:Option γ}(R:Nat->En->Prop)(h0:R 0 E)
 (h:∀i E,i<n->R i E->okS (R (i+1)) ((p.bind (f i) E).bind b)) (fin:∀E',R n E'->k (.nx E')=r):(Yn p b ((Gs n).map f) E).bind k=r:=by
 refine YI (fun(as:List Nat) (i:Nat) E=>i+as.length=n/\as=List.range' i as.length/\R i E) (fun i _=>i+1) 0 ⟨by simp,by simp[List.range_eq_range'],h0⟩ (fun a as i E ⟨hk,e,q⟩=>?_) fun E' ⟨hk,_,q⟩=>?_
 ·rw[Gn,List.range'_succ] at e;have e1:a=i:=(List.cons.inj e).1;subst e1;obtain⟨E2,e2,r2⟩:=VB (h a E (by rw[Gn] at hk;omega) q);have fin2:(a+1)+as.length=n/\as=List.range' (a+1) as.length/\R (a+1) E2:=⟨by rw[Gn] at hk;omega,(List.cons.inj e).2,r2⟩
  rcases e2 with e2|e2 <;> (rw[e2];exact fin2)
 ·have e3:(Gs n).foldl (fun i _=>i+1) 0=n:=by simpa using hk
  rw[e3] at q;exact fin E' q
theorem Yp{α:Type}{p:Pt}{a:Ev}{E1:En}{f g:α->D}:∀{xs:List α},(∀x∈xs,((p.bind (f x) E1).bind a).bind Sl.frz=some (g x))->Yo p yes? a E1 (xs.map f)=some (xs.map g)
 | [],_=>rfl
 | x::xs,h=>by have h1:=h x Qj;obtain⟨s,e1,e2⟩:=bind_some h1;obtain⟨E2,e3,e4⟩:=bind_some e1;rw[Qq,Yo,e3];simp only[Go,yes?,if_true,e4,e2];rw[Yp fun y hy=>h y (Qh _ hy)];rfl
theorem Jf9(n:Nat):rng 0 n=(Gs n).map fun i=>.int (i:Int):=by unfold rng;exact List.map_congr_left fun i _=>by rw[Int.zero_add]
theorem Jcs:sizeLine=16777216:=rfl
theorem Wk{α β:Type}(f:α->β)(xs:List α)(i:Int):atI (xs.map f) i=(atI xs i).map f:=by
 unfold atI;rw[Qx]
 cases ixN xs.length i with
 | none=>rfl
 | some j=>simp
theorem ZF{α:Type}{xs:List α}{k:Nat}(h:k<xs.length):atI xs (k:Int)=some xs[k]:=by unfold atI ixN;rw[if_pos (by omega),if_pos (by omega)];simp[h]
theorem Vj{ns:List Int}{k:Int}(h0:0<=k)(h:k<(ns.length:Int)):atI ns k=some (cell ns k):=by
 obtain⟨j,rfl⟩:=Int.eq_ofNat_of_zero_le h0;have hj:j<ns.length:=by omega
 rw[ZF hj];simp[cell,hj]
theorem ZG{l:List Int}{k:Int}(h0:0<=k)(h1:k<(l.length:Int)):atI (l.map D.int) k=some (.int (Zp l k)):=by rw[Wk,Vj h0 h1];rfl
structure Kd {α:Type} (f:α->D) (n:Nat):Prop where
 lay:∀a,(f a).py.canLay0=true
 dep:∀a,(f a).py.depth<=n
 eqv:∀a b,G0 (f a).py (f b).py=true↔a=b
theorem Kd.eq{α:Type}[DecidableEq α]{f:α->D}{n:Nat}(k:Kd f n)(h:n<=60)(a b:α):eqD (f a) (f b)=some (decide (a=b)):=by unfold eqD;have:=k.dep a;rw[k.lay a,k.lay b,if_pos (by simp;omega)];congr 1;rw[GM,k.eqv];simp
theorem JdH:Kd D.int 1:=⟨fun _=>rfl,fun _=>by simp[D.py,KP],fun a b=>by show(a == b)=true↔_;simp⟩
theorem YZ{α:Type}{f:α->D}{n:Nat}(k:Kd f n):(∀xs:List α,GA (D.pyL (xs.map f))=true)/\(∀xs:List α,G8 (D.pyL (xs.map f))<=n)/\∀xs ys:List α,GI (D.pyL (xs.map f)) (D.pyL (ys.map f))=true↔xs=ys:=by
 refine⟨fun xs=>?_,fun xs=>?_,fun xs=>?_⟩
 ·induction xs with
  | nil=>rfl
  | cons x xs ih=>show(PyData.canLay0 _ && GA _)=true;rw[k.lay,ih];rfl
 ·induction xs with
  | nil=>simp[D.pyL,G8]
  | cons x xs ih=>have:=k.dep x;simp only[Qq,D.pyL,G8];omega
 ·induction xs with
  | nil=>intro ys;cases ys with
   | nil=>simp[D.pyL,GI]
   | cons y ys=>simp[D.pyL,GI]
  | cons x xs ih=>intro ys;cases ys with
   | nil=>simp[D.pyL,GI]
   | cons y ys=>simp only[Qq,D.pyL,GI,Qn,k.eqv,ih,List.cons.injEq]
theorem Jal{α:Type}{f:α->D}{n:Nat}(k:Kd f n):Kd (fun xs:List α=>D.lst (xs.map f)) (n+1) :=
 ⟨fun xs=>(YZ k).1 xs,fun xs=>by have:=(YZ k).2.1 xs;simp only[D.py,KP];omega,fun xs ys=>by simp only[D.py,G0];exact(YZ k).2.2 xs ys⟩
theorem JdI{α:Type}{f:α->D}{n:Nat}(k:Kd f n):Kd (fun xs:List α=>D.tup (xs.map f)) (n+1) :=
 ⟨fun xs=>(YZ k).1 xs,fun xs=>by have:=(YZ k).2.1 xs;simp only[D.py,KP];omega,fun xs ys=>by simp only[D.py,G0];exact(YZ k).2.2 xs ys⟩
theorem kd_pr:Kd prE 2:=⟨fun _=>rfl,fun _=>by simp[prE,D.py,D.pyL,KP,G8],fun a b=>by obtain⟨a1,a2⟩:=a;obtain⟨b1,b2⟩:=b;simp[prE,D.py,D.pyL,G0,GI]⟩
theorem Jdk(a b:Pr):eqD (prE a) (prE b)=some (decide (a=b)):=kd_pr.eq (by decide) a b
theorem Jbk(a b:List Pr):eqD (.lst (a.map prE)) (.lst (b.map prE))=some (decide (a=b)):=(Jal kd_pr).eq (by decide) a b
theorem Jbl(a b:List Pr):eqD (.tup (a.map prE)) (.tup (b.map prE))=some (decide (a=b)):=(JdI kd_pr).eq (by decide) a b
theorem ZZ(a b:List Int):eqD (.lst (a.map .int)) (.lst (b.map .int))=some (decide (a=b)):=(Jal JdH).eq (by decide) a b
section
variable{a b:Int}{xs ys:List D}{d:D}{x y:Str}{E:En}{B:Es}{r:Sl}
theorem Jcn:JaO B (.nx E)=B E:=rfl
theorem Jco:JaO B (.rt r)=some (.rt r):=rfl
theorem Jcl:JaO B (.bk E)=some (.bk E):=rfl
theorem Jcm:JaO B (.ct E)=some (.ct E):=rfl
theorem Jbh:Jdc (.nx E)=some (.sh .non):=rfl
theorem Jbi:Jdc (.rt r)=some r:=rfl
theorem Jfq{g:Int->Int->D}:fI g (.sh (.int a)) (.sh (.int b))=some (.sh (g a b)):=rfl
theorem Jbz(h:(-18446744073709551616<a/\a<18446744073709551616)\/(-18446744073709551616<b/\b<18446744073709551616)):Y8 (.sh (.int a)) (.sh (.int b))=some (.sh (.int (a*b))):=by show(if _ then _ else _)=_;rw[if_pos];simp only[GO,Yj];exact h
theorem Jby(h:0<b):Vr (.sh (.int a)) (.sh (.int b))=some (.sh (.int (a % b))):=by show(if _ then _ else _)=_;rw[if_pos (by simpa using h)]
theorem Jbx(h:0<b/\b<1073741824):Z0 (.sh (.int a)) (.sh (.int b))=some (.sh (.int (a / b))):=by show(if _ then _ else _)=_;rw[if_pos (smallP_ok.mpr h)]
theorem JbB(h:0<=b/\b<=1000000/\-1000<a/\a<1000):JbA (.sh (.int a)) (.sh (.int b))=some (.sh (.int (a ^ b.toNat))):=by show(if _ then _ else _)=_;rw[if_pos];simp only[Qn,decide_eq_true_eq,Gu,Yj];omega
theorem Jbp:J5 (.sh (.int a)) (.sh (.int b))=some (.sh (.int (a+b))):=rfl
theorem Jbw(h:x.length+y.length<=16777216):J5 (.sh (.str x)) (.sh (.str y))=some (.sh (.str (x++y))):=if_pos h
theorem Yg{p q:Sl}(h1:p.m=some xs)(h2:q.m=some ys)(h:xs.length+ys.length<=16777216):W4 p q=some (.own (xs++ys)):=by unfold W4;rw[h1,h2];exact if_pos h
theorem Jbt(h:xs.length+ys.length<=16777216):J5 (.own xs) (.own ys)=some (.own (xs++ys)):=Yg rfl rfl h
theorem Jbs(h:xs.length+ys.length<=16777216):J5 (.own xs) (.bo ys)=some (.own (xs++ys)):=Yg rfl rfl h
theorem Jbn(h:xs.length+ys.length<=16777216):J5 (.bo xs) (.own ys)=some (.own (xs++ys)):=Yg rfl rfl h
theorem Jbm(h:xs.length+ys.length<=16777216):J5 (.bo xs) (.bo ys)=some (.own (xs++ys)):=Yg rfl rfl h
theorem Jbu(h:xs.length+ys.length<=16777216):J5 (.own xs) (.sh (.lst ys))=some (.own (xs++ys)):=Yg rfl rfl h
theorem Jbv(h:xs.length+ys.length<=16777216):J5 (.sh (.lst xs)) (.own ys)=some (.own (xs++ys)):=Yg rfl rfl h
theorem Jbq(h:xs.length+ys.length<=16777216):J5 (.sh (.lst xs)) (.bo ys)=some (.own (xs++ys)):=Yg rfl rfl h
theorem Jbo(h:xs.length+ys.length<=16777216):J5 (.bo xs) (.sh (.lst ys))=some (.own (xs++ys)):=Yg rfl rfl h
theorem Jbr(h:xs.length+ys.length<=16777216):J5 (.sh (.lst xs)) (.sh (.lst ys))=some (.own (xs++ys)):=Yg rfl rfl h
theorem Jdp(h:x.length<=16777216):U3 [.sh (.str x)]=some (.sh (.int x.length)):=if_pos h
theorem Jdn:U3 [.sh (.lst xs)]=some (.sh (.int xs.length)):=rfl
theorem Jdm:U3 [.sh (.fz xs)]=some (.sh (.int xs.length)):=rfl
theorem Jdq:U3 [.sh (.tup xs)]=some (.sh (.int xs.length)):=rfl
theorem Jdl:U3 [.bo xs]=some (.sh (.int xs.length)):=rfl
theorem Jdo:U3 [.own xs]=some (.sh (.int xs.length)):=rfl
theorem Jft:fIx (.sh (.lst xs)) (.sh (.int a))=(atI xs a).map .sh:=rfl
theorem Jfs:fIx (.sh (.fz xs)) (.sh (.int a))=(atI xs a).map .sh:=rfl
theorem Jfv:fIx (.sh (.tup xs)) (.sh (.int a))=(atI xs a).map .sh:=rfl
theorem Jfr:fIx (.bo xs) (.sh (.int a))=(atI xs a).map .sh:=rfl
theorem Jfu:fIx (.own xs) (.sh (.int a))=(atI xs a).map .sh:=rfl
theorem Jdh:eqA (.int a) (.int b)=some (decide (a=b)):=rfl
theorem Jdj:eqA (.str x) (.str y)=some (decide (x=y)):=rfl
theorem Jdg{p q:Bool}:eqA (.bl p) (.bl q)=some (decide (p=q)):=rfl
theorem Jdi(p q:Pr):eqA (prE p) (prE q)=some (decide (p=q)):=Jdk p q
theorem Jde(p q:List Pr):eqA (.lst (p.map prE)) (.lst (q.map prE))=some (decide (p=q)):=Jbk p q
theorem Jdf(p q:List Pr):eqA (.tup (p.map prE)) (.tup (q.map prE))=some (decide (p=q)):=Jbl p q
theorem Jdd(p q:List Int):eqA (.lst (p.map .int)) (.lst (q.map .int))=some (decide (p=q)):=ZZ p q
theorem Jdz(h:-4611686018427387904<a/\a<4611686018427387904):V7 a=true:=by unfold V7;rw[Gu];omega
theorem Jdy(h:-1152921504606846976<a/\a<1152921504606846976):Jdx a=true:=in60_ok.mpr h
theorem JaT(h:0<a/\a<1073741824):Vf a=true:=smallP_ok.mpr h
theorem U4{s:Sl}{ns:List Int}(e:s.q=some (ns.map .int)):Jaa [s]=some (.sh (.int ns.sum)):=by show(s.q.bind _)=_;rw[e,Go,Uk];rfl
theorem Jfi{i:Nat}:(Pt.nm i).bind d E=if i<E.length then some (E.set i (.sh d)) else none:=by rw[Pt.bind]
theorem Jfj{l:Pts}:(Pt.tp l).bind (.tup xs) E=l.bind xs E:=by rw[Pt.bind]
theorem Jba:Pts.nil.bind [] E=some E:=by rw[Pts.bind]
theorem ZC{q:Pt}{l:Pts}:(Pts.cons q l).bind (d::xs) E=(q.bind d E).bind fun E'=>l.bind xs E':=by rw[Pts.bind]
theorem JgH:((0:Nat):Int)=0:=rfl
theorem JgI:((1:Nat):Int)=1:=rfl
theorem JgJ:((2:Nat):Int)=2:=rfl
theorem JgK:((3:Nat):Int)=3:=rfl
theorem JgL:((4:Nat):Int)=4:=rfl
theorem Zc:D.isNon .non=true:=rfl
theorem Za:D.isNon (.int a)=false:=rfl
theorem Jai{k:Bool}:D.isNon (.bl k)=false:=rfl
theorem Ze:D.isNon (.str x)=false:=rfl
theorem Zf:D.isNon (.tup xs)=false:=rfl
theorem Zb:D.isNon (.lst xs)=false:=rfl
theorem Jaj:D.isNon (.fz xs)=false:=rfl
theorem Zd:D.isNon (.row xs)=false:=rfl
theorem JdO:Vy "int" "int"=true:=by decide
theorem JbI:Vy "int" "bool"=false:=by decide
theorem JdN:Vy "bool" "bool"=true:=by decide
theorem JdR:Vy "tuple" "tuple"=true:=by decide
theorem JdP:Vy "list" "list"=true:=by decide
theorem JdQ:Vy "str" "str"=true:=by decide
end
end LE

namespace HT
open PySem PySem.Spec PyProof.Rows
section
variable{prog:Program}{w:World}{A:Around}{E:Value->Shared->Prop}{s:Shared}
end
end HT
namespace L2
open PySem PySem.Spec PyProof.Rows
section
variable{X:Cx}{K:Frag}
end
end L2
namespace LE
open PySem L2 LR
section
variable{K:Frag}{C:Addr}{te:TE}{ea:Ev}{tl th:TO}{el eh:Option Ev}
end
end LE

namespace PySem
section
variable{prog:Program}{w:World}{A:Around}
theorem Draws.tup(hh:A.handled=none)(j a:Addr)(ne:a≠j)(xs:Array Value):Draws prog w A j [j,a] xs.size (fun i v=>xs[i]?=some v) (fun i h=>h.IsTupleIter j a i/\h.IsTuple a xs) where
 live:=fun _ _ q=>let ⟨o,ho,_⟩:=q.1;⟨o,ho⟩
 frame:=fun _ _ _ q k=>⟨q.1.at fun o e=>k j (by simp) o e,q.2.at fun o e=>k a (by simp) o e⟩
 item:=fun i s Q E hi q hQ=>by
  obtain⟨o,ho,hc,hd⟩:=id q.1;obtain⟨ol,hol,_,nl,hdl⟩:=id q.2;have hx:xs[i]?=some xs[i]:=by simp[hi]
  unfold QP;refine Qa (QW (name:=GX "__next__") q.1.typeIs Gb (QX Gb q.1.typeIs Ke ?_ (G9 _)));show wpAny _ _ (field (.ref j) 0 >>= _) _ _ s;refine Qa (Q3 ho hd (x:=.ref a) rfl ?_);show wpAny _ _ (if (Value.ref a == Value.none)=true then _ else _) _ _ s;rw[if_neg (show ¬((Value.ref a == Value.none)=true) from Qp)]
  show wpAny _ _ (field (.ref j) 1 >>= _) _ _ s;refine Qa (Q3 ho hd (x:=.int i 0) rfl (show wpAny _ _ (seqItems? (.ref a) >>= _) _ _ s from Qa (Gc hol hdl ?_)));simp only[QZ,hx];refine Qa (Gd ho hd (by simp) (Qd ⟨xs[i],rfl,Qd (hQ _ _ s.toks hx ⟨⟨_,QT _ ho (Gf (QG hd _)),(GY ..).trans hc,?_⟩,q.2.extBut (QE ..).extBut ne⟩ (QE ..))⟩))
  rw[QG hd];simp[rawInt]
 done:=fun s Q E q hE=>by
  obtain⟨o,ho,hc,hd⟩:=id q.1;obtain⟨ol,hol,_,nl,hdl⟩:=id q.2;have hx:xs[xs.size]?=none:=by simp
  unfold QP;refine Qa (QW (name:=GX "__next__") q.1.typeIs Gb (QX Gb q.1.typeIs Ke ?_ (G9 _)));show wpAny _ _ (field (.ref j) 0 >>= _) _ _ s;refine Qa (Q3 ho hd (x:=.ref a) rfl ?_);show wpAny _ _ (if (Value.ref a == Value.none)=true then _ else _) _ _ s;rw[if_neg (show ¬((Value.ref a == Value.none)=true) from Qp)]
  show wpAny _ _ (field (.ref j) 1 >>= _) _ _ s;refine Qa (Q3 ho hd (x:=.int xs.size 0) rfl (show wpAny _ _ (seqItems? (.ref a) >>= _) _ _ s from Qa (Gc hol hdl ?_)));simp only[QZ,hx];refine Qa (GP (Qa (Gd ho hd (by simp) (show wpAny _ _ (newExc (.type "StopIteration") [] >>= _) _ _ _ from Qa ?_))));simp only[newExc,newTuple];refine Qa (QQ (Qa (m:=firstArgMember _ _) (wpAny_of_eq (a:=Value.none) (by first | rfl | (simp only[firstArgMember];rfl)) (QQ ?_ (by size_fits)))) (by size_fits))
  simp only[raiseNew];refine Qa (wpAny_handled ?_)
  first|rw[show A.in1.handled=none from hh]|rw[hh]
  refine Qa (Qd (wpAny_throw ?_));exact hE _ _ (((QE ..).extBut.push _).push _) ⟨_,Qg _ rfl,rfl⟩
end

structure ZA (z TI TO i1 i2:Addr) (p1 p2:List Addr):Prop where
 a1:TI≠z
 a2:TO≠z
 a3:TI≠TO
 m1:i1∈p1
 m2:i2∈p2
 z1:z∉p1
 z2:z∉p2
 t1:TI∉p1
 t2:TI∉p2
 o1:TO∉p1
 o2:TO∉p2
 x1:i1∉p2
 x2:i2∉p1
section
variable{prog:Program}{w:World}{A:Around}{E:Value->Shared->Prop}{s:Shared}{z TI TO i1 i2:Addr}{p1 p2:List Addr}{n1 n2 k:Nat}{P1 P2:Nat->Value->Prop}{S1 S2:Nat->Heap->Prop}
theorem Zy{a b:Value}{Q:Value->Shared->Prop}(D:ZA z TI TO i1 i2 p1 p2)(D1:Draws prog w A i1 p1 n1 P1 S1)(D2:Draws prog w A i2 p2 n2 P2 S2)(gz:IsZip s.heap z TI TO .none)(gI:IsPair s.heap TI (.ref i1) (.ref i2))(gO:IsPair s.heap TO a b)
 (st1:S1 k s.heap) (st2:S2 k s.heap) (l1:k<n1) (l2:k<n2)
 (hQ:∀x y h' tk,P1 k x->P2 k y->IsZip h' z TI TO (rawInt s.heap.objs.size)->IsPair h' TI (.ref i1) (.ref i2)->IsPair h' TO x y->S1 (k+1) h'->S2 (k+1) h'->IsPair h' s.heap.objs.size x y->h'.objs.size=s.heap.objs.size+1 ->
  (∀c o,c≠z->c≠TO->c≠i1->c≠i2->s.heap.get? c=some o->h'.get? c=some o)->Q (.ref s.heap.objs.size) { s with heap:=h',toks:=tk }) :
 wpAny (model prog w) A (Builtin.«zip.__next__» ⟨[.ref z],[]⟩) (fun fin s'=>∃v,fin=.done (.ret v)/\Q v s') E s:=by
 obtain⟨hp,g,d,t0,os⟩:=s;have zi1:i1≠z:=fun q=>D.z1 (q▸D.m1)
 have zi2:i2≠z:=fun q=>D.z2 (q▸D.m2)
 have oi1:i1≠TO:=fun q=>D.o1 (q▸D.m1)
 have oi2:i2≠TO:=fun q=>D.o2 (q▸D.m2)
 have ii1:i1≠TI:=fun q=>D.t1 (q▸D.m1)
 have ii2:i2≠TI:=fun q=>D.t2 (q▸D.m2)
 have i12:i1≠i2:=fun q=>D.x1 (q▸D.m2)
 show wpAny _ _ (field (.ref z) 2 >>= _) _ _ _;refine Qa (Q3 gz rfl (x:=.bool false) rfl (show wpAny _ _ (field (.ref z) 3 >>= _) _ _ _ from Qa (Q3 gz rfl (x:=.ref TI) rfl (Qa (Gc gI rfl ?_)))))
 show wpAny _ _ (QV (.ref z) >>= _) _ _ _;refine Qa ?_;unfold QV;refine Qa (Q3 gz rfl (x:=.none) rfl (Qd ?_));simp only[if_true];refine Qa (GP (Qa (Q3 gz rfl (x:=.ref TO) rfl (Qa (Ge gz (by simp) fun k1 y1 e1=>?_)))))
 replace y1:IsZip k1 z TI TO .ellipsis:=y1
 replace e1:Qz z hp k1:=e1;refine Qa ?_;simp only[List.zipIdx_cons,List.zipIdx_nil,List.forIn_cons,List.forIn_nil];refine Qa (Qa (Kv (show wpAny _ _ (QP (.ref i1) >>= _) _ _ _ from Qa (D1.item k _ _ _ l1 (D1.frame _ _ _ st1 fun b hb o q=>e1.extBut b o (fun r=>D.z1 (r▸hb)) q) fun x k2 t2 px s2 e2=>Qd ?_))))
 replace e2:Qz i1 k1 k2:=e2;have O2:IsPair k2 TO a b:=e2.extBut _ _ (Qy oi1) (e1.extBut _ _ D.a2 gO);refine Qa (Gc (s:=⟨k2,g,d,t2,os⟩) O2 rfl (Qa (G5 (s:=⟨k2,g,d,t2,os⟩) O2 fun k3 O3 e3=>?_)))
 replace O3:IsPair k3 TO x b:=O3
 replace e3:Qz TO k2 k3:=e3;refine Qa (wpAny_letGo (Qd ?_));have st2':S2 k k3:=D2.frame _ _ _ st2 fun b hb o q=>e3.extBut b o (fun r=>D.o2 (r▸hb)) (e2.extBut b o (fun r=>D.x1 (r▸hb)) (e1.extBut b o (fun r=>D.z2 (r▸hb)) q))
 refine Qa (Qa (Kv (show wpAny _ _ (QP (.ref i2) >>= _) _ _ _ from Qa (D2.item k _ _ _ l2 st2' fun y k4 t4 py s4 e4=>Qd ?_))))
 replace e4:Qz i2 k3 k4:=e4;have O4:IsPair k4 TO x b:=e4.extBut _ _ (Qy oi2) O3;refine Qa (Gc (s:=⟨k4,g,d,t4,os⟩) O4 rfl (Qa (G5 (s:=⟨k4,g,d,t4,os⟩) O4 fun k5 O5 e5=>?_)))
 replace O5:IsPair k5 TO x y:=O5
 replace e5:Qz TO k4 k5:=e5;refine Qa (wpAny_letGo (Qd (Qd (Qa (Gc (s:=⟨k5,g,d,t4,os⟩) O5 rfl (Qa (wpAny_newTuple ?_)))))));have hsz:k5.objs.size=hp.objs.size:=by rw[e5.1,e4.1,e3.1,e2.1,e1.1]
 have Z5:IsZip k5 z TI TO .ellipsis:=e5.extBut _ _ (Qy D.a2) (e4.extBut _ _ (Qy zi2) (e3.extBut _ _ (Qy D.a2) (e2.extBut _ _ (Qy zi1) y1)))
 have keep5:∀c o,c≠z->c≠TO->c≠i1->c≠i2->hp.get? c=some o->k5.get? c=some o:=fun c o c1 c2 c3 c4 q=>e5.extBut _ _ c2 (e4.extBut _ _ c4 (e3.extBut _ _ c2 (e2.extBut _ _ c3 (e1.extBut _ _ c1 q))))
 have T1:S1 (k+1) k5:=D1.frame _ _ _ s2 fun b hb o q=>e5.extBut b o (fun r=>D.o1 (r▸hb)) (e4.extBut b o (fun r=>D.x2 (r▸hb)) (e3.extBut b o (fun r=>D.o1 (r▸hb)) q))
 have T2:S2 (k+1) k5:=D2.frame _ _ _ s4 fun b hb o q=>e5.extBut b o (fun r=>D.o2 (r▸hb)) q
 have zlt:z<k5.objs.size:=Qf Z5
 show wpAny _ _ (GG (.ref z) (.ref k5.objs.size) >>= _) _ _ _;refine Qa ?_;unfold GG
 have Z6:IsZip (k5.push { cls:=.type "tuple",data:=.seq #[x,y] }) z TI TO .ellipsis:=Qc _ Z5;refine Qa (Ge Z6 (by simp) fun k7 Z7 e7=>?_)
 replace Z7:IsZip k7 z TI TO (rawInt k5.objs.size):=Z7
 replace e7:Qz z (k5.push { cls:=.type "tuple",data:=.seq #[x,y] }) k7:=e7;refine Ge Z7 (by simp) fun k8 Z8 e8=>?_
 replace Z8:IsZip k8 z TI TO (rawInt k5.objs.size):=Z8
 replace e8:Qz z k7 k8:=e8;have up:∀c o,c≠z->k5.get? c=some o->k8.get? c=some o:=fun c o c1 q=>e8.extBut _ _ c1 (e7.extBut _ _ c1 (Qc _ q))
 have N8:IsPair k8 k5.objs.size x y:=e8.extBut _ _ (GC zlt) (e7.extBut _ _ (GC zlt) (Qg _ rfl))
 have z8:k8.objs.size=k5.objs.size+1:=by rw[e8.1,e7.1,QC]
 rw[hsz] at Z8 N8 z8;refine Qd ⟨_,rfl,?_⟩;show Q (.ref k5.objs.size) _;rw[hsz];refine hQ x y k8 t4 px py Z8 (up _ _ D.a1 (keep5 _ _ D.a1 D.a3 (Qy ii1) (Qy ii2) gI)) (up _ _ D.a2 O5) ?_ ?_ N8 z8 fun c o c1 c2 c3 c4 q=>up c o c1 (keep5 c o c1 c2 c3 c4 q)
 ·exact D1.frame _ _ _ T1 fun b hb o q=>up b o (fun r=>D.z1 (r▸hb)) q
 ·exact D2.frame _ _ _ T2 fun b hb o q=>up b o (fun r=>D.z2 (r▸hb)) q
theorem Ja6{a b:Value}{Q:Fin->Shared->Prop}(D:ZA z TI TO i1 i2 p1 p2)(D1:Draws prog w A i1 p1 n1 P1 S1)(D2:Draws prog w A i2 p2 n2 P2 S2)(gz:IsZip s.heap z TI TO .none)(gI:IsPair s.heap TI (.ref i1) (.ref i2))(gO:IsPair s.heap TO a b)
 (st1:S1 k s.heap) (st2:S2 k s.heap) (hend:k=n1\/(k<n1/\k=n2))
 (hE:∀h' e tk,(∀c o,c≠z->c≠TO->c≠i1->c≠i2->s.heap.get? c=some o->h'.get? c=some o)->(∃o,h'.get? e=some o/\o.cls=.type "StopIteration")->E (.ref e) { s with heap:=h',toks:=tk }) :
 wpAny (model prog w) A (Builtin.«zip.__next__» ⟨[.ref z],[]⟩) Q E s:=by
 obtain⟨hp,g,d,t0,os⟩:=s;have zi1:i1≠z:=fun q=>D.z1 (q▸D.m1)
 have zi2:i2≠z:=fun q=>D.z2 (q▸D.m2)
 have oi1:i1≠TO:=fun q=>D.o1 (q▸D.m1)
 show wpAny _ _ (field (.ref z) 2 >>= _) _ _ _;refine Qa (Q3 gz rfl (x:=.bool false) rfl (show wpAny _ _ (field (.ref z) 3 >>= _) _ _ _ from Qa (Q3 gz rfl (x:=.ref TI) rfl (Qa (Gc gI rfl ?_)))))
 show wpAny _ _ (QV (.ref z) >>= _) _ _ _;refine Qa ?_;unfold QV;refine Qa (Q3 gz rfl (x:=.none) rfl (Qd ?_));simp only[if_true];refine Qa (GP (Qa (Q3 gz rfl (x:=.ref TO) rfl (Qa (Ge gz (by simp) fun k1 y1 e1=>?_)))))
 replace y1:IsZip k1 z TI TO .ellipsis:=y1
 replace e1:Qz z hp k1:=e1;refine Qa ?_;simp only[List.zipIdx_cons,List.zipIdx_nil,List.forIn_cons,List.forIn_nil];refine Qa (Qa (Kv (show wpAny _ _ (QP (.ref i1) >>= _) _ _ _ from Qa ?_)));have q1:S1 k k1:=D1.frame _ _ _ st1 fun b hb o q=>e1.extBut b o (fun r=>D.z1 (r▸hb)) q
 rcases hend with rfl|⟨l1,rfl⟩
 ·refine D1.done _ _ _ q1 fun k2 e e2 he=>?_
  replace e2:G6 i1 k1 k2:=e2;obtain⟨oe,hoe,hce⟩:=he;have Z2:IsZip k2 z TI TO .ellipsis:=e2 _ _ (Qy zi1) y1;have ez:e≠z:=fun q=>by subst q;rw[Z2] at hoe;cases hoe;simp at hce
  exact Ge Z2 (by simp) fun k3 _ e3=>hE k3 e t0 (fun c o c1 _ c3 _ q=>e3.extBut _ _ c1 (e2 _ _ c3 (e1.extBut _ _ c1 q))) ⟨oe,e3.extBut _ _ ez hoe,hce⟩
 ·refine D1.item k _ _ _ l1 q1 fun x k2 t2 px s2 e2=>Qd ?_
  replace e2:Qz i1 k1 k2:=e2;have O2:IsPair k2 TO a b:=e2.extBut _ _ (Qy oi1) (e1.extBut _ _ D.a2 gO);refine Qa (Gc (s:=⟨k2,g,d,t2,os⟩) O2 rfl (Qa (G5 (s:=⟨k2,g,d,t2,os⟩) O2 fun k3 O3 e3=>?_)))
  replace e3:Qz TO k2 k3:=e3;refine Qa (wpAny_letGo (Qd ?_));have st2':S2 k k3:=D2.frame _ _ _ st2 fun b hb o q=>e3.extBut b o (fun r=>D.o2 (r▸hb)) (e2.extBut b o (fun r=>D.x1 (r▸hb)) (e1.extBut b o (fun r=>D.z2 (r▸hb)) q))
  refine Qa (Qa (Kv (show wpAny _ _ (QP (.ref i2) >>= _) _ _ _ from Qa (D2.done _ _ _ st2' fun k4 e e4 he=>?_))))
  replace e4:G6 i2 k3 k4:=e4;obtain⟨oe,hoe,hce⟩:=he;have Z4:IsZip k4 z TI TO .ellipsis:=e4 _ _ (Qy zi2) (e3.extBut _ _ (Qy D.a2) (e2.extBut _ _ (Qy zi1) y1));have ez:e≠z:=fun q=>by subst q;rw[Z4] at hoe;cases hoe;simp at hce
  exact Ge Z4 (by simp) fun k5 _ e5=>hE k5 e t2 (fun c o c1 c2 c3 c4 q=>e5.extBut _ _ c1 (e4 _ _ c4 (e3.extBut _ _ c2 (e2.extBut _ _ c3 (e1.extBut _ _ c1 q))))) ⟨oe,e5.extBut _ _ ez hoe,hce⟩
end
end PySem

namespace PySem
def IsSq(b:Bool)(h:Heap)(a:Addr)(xs:Array Value):Prop:=match b with
 | true=>h.IsTuple a xs
 | false=>h.IsList a xs
def IsItr(b:Bool)(h:Heap)(j a:Addr)(i:Nat):Prop:=match b with
 | true=>h.IsTupleIter j a i
 | false=>h.IsListIter j a i
def itO(b:Bool)(a:Addr):Obj:=match b with
 | true=>{ cls:=.type "tuple_iterator",data:=.fields #[.ref a,.int 0 0] }
 | false=>{ cls:=.type "list_iterator",data:=.fields #[.ref a,.int 0 0] }
section
variable{prog:Program}{w:World}{A:Around}{E:Value->Shared->Prop}{s:Shared}{b b1 b2:Bool}{a a1 a2:Addr}{xs ys:Array Value}
theorem IsSq.push{h:Heap}(q:IsSq b h a xs)(o:Obj):IsSq b (h.push o) a xs:=by
 cases b with
 | true=>exact Heap.IsTuple.push q o
 | false=>exact Heap.IsList.push q o
theorem IsSq.lt{h:Heap}(q:IsSq b h a xs):a<h.objs.size:=by
 cases b with
 | true=>obtain⟨o,e,_⟩:=q;exact Qf e
 | false=>obtain⟨o,e,_⟩:=q;exact Qf e
theorem IsItr.new{h:Heap}(e:h.get? a1=some (itO b a)):IsItr b h a1 a 0:=by
 cases b with
 | true=>exact⟨_,e,rfl,rfl⟩
 | false=>exact⟨_,e,rfl,rfl⟩
theorem UU{Q:Value->Shared->Prop}(q:IsSq b s.heap a xs)(h:Q (.ref s.heap.objs.size) { s with heap:=s.heap.push (itO b a) }):wpAny (model prog w) A (pyIter (.ref a)) Q E s:=by
 cases b with
 | true=>exact Kj q h
 | false=>exact GS q h
theorem Draws.sq(hh:A.handled=none)(j:Addr)(ne:a≠j):Draws prog w A j [j,a] xs.size (fun i v=>xs[i]?=some v) (fun i h=>IsItr b h j a i/\IsSq b h a xs):=by
 cases b with
 | true=>exact Draws.tup hh j a ne xs
 | false=>exact Draws.list hh j a ne xs
abbrev zP1(h:Heap)(b1:Bool)(a1:Addr):Heap:=h.push (itO b1 a1)
abbrev zP2(h:Heap)(b1 b2:Bool)(a1 a2:Addr):Heap:=(zP1 h b1 a1).push (itO b2 a2)
abbrev zP3(h:Heap)(b1 b2:Bool)(a1 a2:Addr):Heap:=(zP2 h b1 b2 a1 a2).push { cls:=.type "tuple",data:=.seq #[.ref h.objs.size,.ref (zP1 h b1 a1).objs.size] }
abbrev zP4(h:Heap)(b1 b2:Bool)(a1 a2:Addr):Heap:=(zP3 h b1 b2 a1 a2).push { cls:=.type "tuple",data:=.seq #[.none,.none] }
abbrev zP5(h:Heap)(b1 b2:Bool)(a1 a2:Addr):Heap:=(zP4 h b1 b2 a1 a2).push { cls:=.type "zip",data:=.fields #[.none,.bool false,.bool false,.ref (zP2 h b1 b2 a1 a2).objs.size,.ref (zP3 h b1 b2 a1 a2).objs.size] }
theorem Wb(b1 b2:Bool)(a1 a2:Addr)(xs ys:Array Value):Meets (Builtin.«zip.__new__» ⟨[.type "zip",.ref a1,.ref a2],[]⟩) (fun _ R s=>IsSq b1 s.heap a1 xs/\IsSq b2 s.heap a2 ys ∧
 R (.ok (.ret (.ref (zP4 s.heap b1 b2 a1 a2).objs.size))) { s with heap:=zP5 s.heap b1 b2 a1 a2 }) :=
 .of_wp fun prog w A R s h=>by obtain⟨hp,g,d,tk,os⟩:=s;obtain⟨q1,q2,h⟩:=h;have hsub:=sub_zip;have r1:IsSq b1 (Shared.heap ⟨hp,g,d,tk,os⟩) a1 xs:=q1;have r2:IsSq b2 (Shared.heap ⟨hp.push (itO b1 a1),g,d,tk,os⟩) a2 ys:=IsSq.push q2 _;wp_walk using UU r1,UU r2;exact⟨_,rfl,h⟩
theorem W1{Q:Value->Shared->Prop}(q1:IsSq b1 s.heap a1 xs)(q2:IsSq b2 s.heap a2 ys)
 (h:∀h',IsZip h' (s.heap.objs.size+4) (s.heap.objs.size+2) (s.heap.objs.size+3) .none->IsPair h' (s.heap.objs.size+2) (.ref s.heap.objs.size) (.ref (s.heap.objs.size+1))->IsPair h' (s.heap.objs.size+3) .none .none ->
  IsItr b1 h' s.heap.objs.size a1 0->IsItr b2 h' (s.heap.objs.size+1) a2 0->(∀c o,s.heap.get? c=some o->h'.get? c=some o)->Q (.ref (s.heap.objs.size+4)) { s with heap:=h' }) :
 wpAny (model prog w) A (call (.type "zip") [.ref a1,.ref a2]) Q E s:=by
 refine callType_new F.called_zip (by decide) (F.typeCall_zip_2 _ _) (F.newCall_zip_2 _ _) (fun obj=>F.args_object_init_3 obj _ _) F.entry_zip_new (Wb b1 b2 a1 a2 xs ys) ⟨q1,q2,?_⟩;have z1:(zP1 s.heap b1 a1).objs.size=s.heap.objs.size+1:=QC ..;have z2:(zP2 s.heap b1 b2 a1 a2).objs.size=s.heap.objs.size+2:=by rw[QC,z1]
 have z3:(zP3 s.heap b1 b2 a1 a2).objs.size=s.heap.objs.size+3:=by rw[QC,z2]
 have z4:(zP4 s.heap b1 b2 a1 a2).objs.size=s.heap.objs.size+4:=by rw[QC,z3]
 have up:∀{k:Heap} {c:Addr} {o u:Obj},k.get? c=some o->(k.push u).get? c=some o:=fun q=>Qc _ q
 have fi1:(itO b1 a1).isFreed=false:=by cases b1 <;> rfl
 have fi2:(itO b2 a2).isFreed=false:=by cases b2 <;> rfl
 have g5:(zP5 s.heap b1 b2 a1 a2).get? (zP4 s.heap b1 b2 a1 a2).objs.size=some _:=Qg _ rfl
 have g4:(zP5 s.heap b1 b2 a1 a2).get? (zP3 s.heap b1 b2 a1 a2).objs.size=some _:=up (Qg _ rfl)
 have g3:(zP5 s.heap b1 b2 a1 a2).get? (zP2 s.heap b1 b2 a1 a2).objs.size=some _:=up (up (Qg _ rfl))
 have g2:(zP5 s.heap b1 b2 a1 a2).get? (zP1 s.heap b1 a1).objs.size=some _:=up (up (up (Qg _ fi2)))
 have g1:(zP5 s.heap b1 b2 a1 a2).get? s.heap.objs.size=some _:=up (up (up (up (Qg _ fi1))))
 show _/\_;rw[z2,z3,z4] at g5;rw[z1,z2] at g3;rw[z3] at g4;rw[z1] at g2;rw[z4];exact⟨⟨_,g5,rfl⟩,h _ g5 g3 g4 (.new g1) (.new g2) fun c o q=>up (up (up (up (up q))))⟩
end
end PySem

namespace L2
open PySem PySem.Spec PyProof.Rows
section
variable{X:Cx}{pins:List (Addr×Obj)}{σ:St}{H:Hp}{s:Shared}{h':Heap}
theorem Inv.turnedL{t':Nat}{fp:List Addr}(I:Inv X pins σ H s)(k:∀b o,b∉fp->s.heap.get? b=some o->h'.get? b=some o)(hf:∀b∈fp,FpOk X pins H b):Inv X pins σ H { s with heap:=h',toks:=t' }:=by
 have nit:∀b u,H b=some u->b∉fp:=fun b u e z=>by rw[(hf b z).1] at e;cases e
 refine I.step (g':=s.gens) (d':=s.drawn) (ch:=fp) (fun b hb=>?_) (fun b o _ _ hc e _=>k b o hc e) (fun b o _ _ hc e _=>⟨o.slots,k b o hc e⟩) (fun _ _ _ _ n=>n)
  (fun b o hc e=>⟨o,k b o hc e⟩) (fun _ _ e=>e) (fun _ _ _ e=>e) (fun b ps e=>⟨#[],by rw[e];simp⟩) (fun m hm=>?_) (fun b u e=>?_) I.bare
 ·obtain⟨f0,f1,f2,f3,f4,f5⟩:=hf b hb;exact⟨f3,f1,f4,f5⟩
 ·obtain⟨o,es,ep,ho,r⟩:=hm;exact⟨o,es,ep,k _ o (fun z=>(hf _ z).2.1 rfl) ho,r⟩
 ·refine(I.hok b u e).stay (fun c v hc q=>k c v ?_ q) (fun _ q=>q) fun _ _ q=>q
  rcases hc with z|z
  ·rw[z];exact nit b u e
  ·exact nit c _ z
noncomputable def Sq(b:Bool)(K:Frag)(H:Hp)(a:Addr)(xs:List V):Prop:=match b with
 | true=>SqT K H a xs
 | false=>SqL K H a xs
theorem Sq.heap{b:Bool}{a:Addr}{xs:List V}(I:Inv X pins σ H s)(q:Sq b X.K H a xs):∃its:List Value,Vals xs its/\IsSq b s.heap a its.toArray:=by
 cases b with
 | true=>obtain⟨its,r,p,_⟩:=I.tuple q;exact⟨its,r,p⟩
 | false=>obtain⟨its,r,p,_⟩:=I.list q;exact⟨its,r,p.isList⟩
theorem Sq.inj{b:Bool}{a:Addr}{xs ys:List V}(I:Inv X pins σ H s)(q:Sq b X.K H a xs)(q':Sq b X.K H a ys):xs=ys:=by
 cases b with
 | true=>exact I.tuple_inj q q'
 | false=>exact I.list_inj q q'
theorem FpOk.off{b:Bool}{a c:Addr}{xs:List V}(I:Inv X pins σ H s)(q:Sq b X.K H a xs)(f:FpOk X pins H c):a≠c:=by
 intro e;subst e;have own:∀{o:HO},H a=some o->False:=fun h=>by rw[f.1] at h;cases h
 have mod:∀{o:Obj},X.K.lookup a=some o->False:=fun {o} h=>by
  have hb:=I.ok.mod.kin a o h;rcases f.2.2.2.1 with z|z
  ·exact I.ok.noex a o hb z
  ·exact absurd (Qf hb) (KQ.mpr (QA I.ok.bsz z))
 cases b with
 | true =>
  rcases q with (h|⟨o,h⟩)|⟨o,its,n,h,_⟩
  ·exact own h
  ·exact own h
  ·exact mod h
 | false =>
  rcases q with (h|⟨o,h⟩)|⟨o,its,n,h,_⟩
  ·exact own h
  ·exact own h
  ·exact mod h
noncomputable def Itz(K:Frag)(b1 b2:Bool)(a1 a2:Addr):It :=
 ⟨fun i H=>∃xs ys x y,Sq b1 K H a1 xs/\Sq b2 K H a2 ys/\xs[i]?=some x/\ys[i]?=some y,
  fun i H x H'=>∃p u v,x=.ref p/\H p=none/\H'=upd H p (.tup [u,v])/\∀xs ys,Sq b1 K H a1 xs->Sq b2 K H a2 ys->xs[i]?=some u/\ys[i]?=some v,
  fun i H=>∃xs ys,Sq b1 K H a1 xs/\Sq b2 K H a2 ys/\i=min xs.length ys.length⟩
noncomputable def ZSt(b1 b2:Bool)(a1 a2 z TI TO i1 i2:Addr)(i:Nat)(h:Heap):Prop:=IsZip h z TI TO .none/\IsPair h TI (.ref i1) (.ref i2)/\(∃a b,IsPair h TO a b)/\IsItr b1 h i1 a1 i/\IsItr b2 h i2 a2 i
theorem IsItr.keep{b:Bool}{h h':Heap}{j a:Addr}{i:Nat}(q:IsItr b h j a i)(k:∀o,h.get? j=some o->h'.get? j=some o):IsItr b h' j a i:=by
 cases b with
 | true=>obtain⟨o,e,r⟩:=q;exact⟨o,k o e,r⟩
 | false=>obtain⟨o,e,r⟩:=q;exact⟨o,k o e,r⟩
theorem IsItr.obj{b:Bool}{h:Heap}{j a:Addr}{i:Nat}(q:IsItr b h j a i):∃o,h.get? j=some o/\∀v,o.data≠.cell v:=by
 cases b with
 | true=>obtain⟨o,e,_,d⟩:=q;exact⟨o,e,fun v z=>by rw[d] at z;cases z⟩
 | false=>obtain⟨o,e,_,d⟩:=q;exact⟨o,e,fun v z=>by rw[d] at z;cases z⟩
end
theorem JcV{X:Cx}{pins:List (Addr×Obj)}{σ:St}{H:Hp}{s:Shared}{b1 b2:Bool}{a1 a2 z TI TO i1 i2:Addr}{xs ys:List V}(I:Inv X pins σ H s)(q1:Sq b1 X.K H a1 xs)(q2:Sq b2 X.K H a2 ys)(hf:∀b∈[z,TI,TO,i1,i2],FpOk X pins H b)
 (nd:[z,TI,TO,i1,i2].Nodup):ZA z TI TO i1 i2 [i1,a1] [i2,a2]:=by
 have o1:∀c∈[z,TI,TO,i1,i2],a1≠c:=fun c hc=>FpOk.off I q1 (hf c hc)
 have o2:∀c∈[z,TI,TO,i1,i2],a2≠c:=fun c hc=>FpOk.off I q2 (hf c hc)
 simp only[Gh,Qe,QO,or_false,not_or] at nd;obtain⟨⟨n1,n2,n3,n4⟩,⟨n5,n6,n7⟩,⟨n8,n9⟩,n10,_⟩:=nd;have c1:=o1 z (by simp);have c2:=o1 TI (by simp);have c3:=o1 TO (by simp);have c4:=o1 i2 (by simp);have d1:=o2 z (by simp);have d2:=o2 TI (by simp);have d3:=o2 TO (by simp);have d4:=o2 i1 (by simp);refine⟨Qy n1,Qy n2,n5,by simp,by simp,?_,?_,?_,?_,?_,?_,?_,?_⟩ <;> simp only[Qe,QO,or_false,not_or]
 ·exact⟨n3,Qy c1⟩
 ·exact⟨n4,Qy d1⟩
 ·exact⟨n6,Qy c2⟩
 ·exact⟨n7,Qy d2⟩
 ·exact⟨n8,Qy c3⟩
 ·exact⟨n9,Qy d3⟩
 ·exact⟨n10,Qy d4⟩
 ·exact⟨Qy n10,Qy c4⟩
theorem Ja4{P:Program}{w:World}{K:Frag}{elts:List Expr}{kk:Nat}{pos:Pos}(b1 b2:Bool)(a1 a2 z TI TO i1 i2:Addr)(nd:[z,TI,TO,i1,i2].Nodup) :
 Turn P w K (.Tuple elts kk pos) (Itz K b1 b2 a1 a2) [z,TI,TO,i1,i2] z (ZSt b1 b2 a1 a2 z TI TO i1 i2) where
 mem:=by simp
 obj:=fun i h st b hb=>by
  obtain⟨s1,s2,⟨u,v,s3⟩,s4,s5⟩:=st;simp only[Qe,QO,or_false] at hb;rcases hb with rfl|rfl|rfl|rfl|rfl
  ·exact⟨_,s1,fun v z=>nomatch (show Data.fields _=Data.cell v from z)⟩
  ·exact⟨_,s2,fun v z=>nomatch (show Data.seq _ _=Data.cell v from z)⟩
  ·exact⟨_,s3,fun v z=>nomatch (show Data.seq _ _=Data.cell v from z)⟩
  ·exact IsItr.obj (b:=b1) s4
  ·exact IsItr.obj (b:=b2) s5
 keep:=fun i h h' st k=>by obtain⟨s1,s2,⟨u,v,s3⟩,s4,s5⟩:=st;exact⟨k z (by simp) _ s1,k TI (by simp) _ s2,⟨u,v,k TO (by simp) _ s3⟩,IsItr.keep (b:=b1) s4 fun o e=>k i1 (by simp) o e,IsItr.keep (b:=b2) s5 fun o e=>k i2 (by simp) o e⟩
 item:=by
  intro X hP hw hK hc i pins s σ H E I hf st hg;subst hP hw hK;obtain⟨xs,ys,x,y,q1,q2,e1,e2⟩:=hg;obtain⟨its,r1,p1⟩:=q1.heap I;obtain⟨jts,r2,p2⟩:=q2.heap I;obtain⟨s1,s2,⟨u0,v0,s3⟩,s4,s5⟩:=st;have Z:=JcV I q1 q2 hf nd;have hh:X.A.in1.handled=none:=I.ok.hd hc;have ne1:a1≠i1:=FpOk.off I q1 (hf i1 (by simp));have ne2:a2≠i2:=FpOk.off I q2 (hf i2 (by simp));have D1:=Draws.sq (prog:=X.prog) (w:=X.w) (b:=b1) (xs:=its.toArray) hh i1 ne1
  have D2:=Draws.sq (prog:=X.prog) (w:=X.w) (b:=b2) (xs:=jts.toArray) hh i2 ne2
  have hT:s.TypeIs (.ref z) "zip":=⟨_,s1,rfl⟩
  have l1:i<its.toArray.size:=by have:=(Qi.mp e1).1;rw[Qk,<- r1.length];exact this
  have l2:i<jts.toArray.size:=by have:=(Qi.mp e2).1;rw[Qk,<- r2.length];exact this
  unfold pyNext;refine Qa (Kw (QW (name:=GX "__next__") hT Ka (QX Ka hT F.entry_zip_next (Zy Z D1 D2 s1 s2 s3 ⟨s4,p1⟩ ⟨s5,p2⟩ l1 l2 fun u v k tk pu pv t1 t2 t3 t4 t5 t6 t7 t8=>Qd ?_) (F.args_zip_next_1 _))));refine⟨_,rfl,wpAny_letOwnedTupleGo_zip (s:={ s with heap:=k,toks:=tk }) t1 fun k2 t9 e9=>?_⟩
  replace e9:Qz z k k2:=e9;obtain⟨ux,hx1,rx⟩:=r1.get e1;obtain⟨uy,hy1,ry⟩:=r2.get e2
  have eu:u=ux:=by
   have pu':its[i]?=some u:=by simpa using pu
   rw[hx1] at pu';exact(Qr pu').symm
  have ev:v=uy:=by
   have pv':jts[i]?=some v:=by simpa using pv
   rw[hy1] at pv';exact(Qr pv').symm
  subst eu ev
  have zlt:∀b∈[z,TI,TO,i1,i2],b<s.heap.objs.size:=fun b hb=>by
   simp only[Qe,QO,or_false] at hb;rcases hb with rfl|rfl|rfl|rfl|rfl
   ·exact Qf s1
   ·exact Qf s2
   ·exact Qf s3
   ·obtain⟨_,e,_⟩:=IsItr.obj (b:=b1) s4;exact Qf e
   ·obtain⟨_,e,_⟩:=IsItr.obj (b:=b2) s5;exact Qf e
  have nz:s.heap.objs.size≠z:=GC (zlt z (by simp))
  -- the pair is laid,then the private objects turn
  have I1:Inv X pins σ (upd H s.heap.objs.size (.tup [x,y])) { s with heap:=s.heap.push { cls:=.type "tuple",data:=.seq #[u,v] },toks:=s.toks } :=
   I.laid (o:=.tup [x,y]) (fun b ob q=>Qc _ q) (Qm _) ⟨by show 2<=sizeLine;decide,[u,v],.cons rx (.cons ry .nil),⟨_,Qg _ rfl,rfl,_,rfl⟩⟩
  have hf1:∀b∈[z,TI,TO,i1,i2],FpOk X pins (upd H s.heap.objs.size (.tup [x,y])) b:=fun b hb=>⟨by rw[Jd (Qo (zlt b hb))];exact(hf b hb).1,(hf b hb).2⟩
  have I2:Inv X pins σ (upd H s.heap.objs.size (.tup [x,y])) { s with heap:=k2,toks:=tk }:=Inv.turnedL (s:={ s with heap:=s.heap.push { cls:=.type "tuple",data:=.seq #[u,v] },toks:=s.toks }) I1 (fun b o hb q=>by
   simp only[Qe,QO,or_false,not_or] at hb;refine e9.extBut b o hb.1 ?_
   by_cases hbs:b=s.heap.objs.size
   ·subst hbs;have q':(s.heap.push { cls:=.type "tuple",data:=.seq #[u,v] }).get? s.heap.objs.size=some o:=q;rw[Qg _ rfl] at q';cases q';exact t6
   ·have q':s.heap.get? b=some o:=by have q2:(s.heap.push { cls:=.type "tuple",data:=.seq #[u,v] }).get? b=some o:=q;exact(Heap.get?_push_ne s.heap b _ hbs).symm.trans q2
    exact t8 b o hb.1 hb.2.2.1 hb.2.2.2.1 hb.2.2.2.2 q') hf1
  refine⟨.ref s.heap.objs.size,_,I2,rfl,⟨_,x,y,rfl,I.hok.fresh (Qm _),rfl,fun xs' ys' h1 h2=>?_⟩,⟨t9,e9.extBut _ _ Z.a1 t2,⟨_,_,e9.extBut _ _ Z.a2 t3⟩,?_,?_⟩,fun b hb=>(hf1 b hb).1⟩
  ·rw[Sq.inj I h1 q1,Sq.inj I h2 q2];exact⟨e1,e2⟩
  ·exact IsItr.keep (b:=b1) t4.1 fun o e=>e9.extBut _ _ (fun q=>Z.z1 (q▸Z.m1)) e
  ·exact IsItr.keep (b:=b2) t5.1 fun o e=>e9.extBut _ _ (fun q=>Z.z2 (q▸Z.m2)) e
 done:=by
  intro X hP hw hK hc i pins s σ H E I hf st hg;subst hP hw hK;obtain⟨xs,ys,q1,q2,ei⟩:=hg;obtain⟨its,r1,p1⟩:=q1.heap I;obtain⟨jts,r2,p2⟩:=q2.heap I;obtain⟨s1,s2,⟨u0,v0,s3⟩,s4,s5⟩:=st;have Z:=JcV I q1 q2 hf nd;have hh:X.A.in1.handled=none:=I.ok.hd hc;have D1:=Draws.sq (prog:=X.prog) (w:=X.w) (b:=b1) (xs:=its.toArray) hh i1 (FpOk.off I q1 (hf i1 (by simp)));have D2:=Draws.sq (prog:=X.prog) (w:=X.w) (b:=b2) (xs:=jts.toArray) hh i2 (FpOk.off I q2 (hf i2 (by simp)))
  have hT:s.TypeIs (.ref z) "zip":=⟨_,s1,rfl⟩
  have n1:its.toArray.size=xs.length:=by rw[Qk,r1.length]
  have n2:jts.toArray.size=ys.length:=by rw[Qk,r2.length]
  unfold pyNext;refine Qa (Kw (QW (name:=GX "__next__") hT Ka (QX Ka hT F.entry_zip_next (Ja6 Z D1 D2 s1 s2 s3 ⟨s4,p1⟩ ⟨s5,p2⟩ (by omega) fun k e tk kk he=>?_) (F.args_zip_next_1 _))));obtain⟨o,ho,hoc⟩:=he;refine Qa (KB (T:="StopIteration") (b:=true) ⟨o,ho,hoc⟩ isSubtype_stop (Qd ⟨rfl,?_⟩));exact I.turnedL (fun b o hb q=>by simp only[Qe,QO,or_false,not_or] at hb;exact kk b o hb.1 hb.2.2.1 hb.2.2.2.1 hb.2.2.2.2 q) hf
 self:=fun _ _ _ _ _ st h=>wpAny_pyIter_zip st.1 h
noncomputable def iZp(K:Frag)(ta:TA):TI:=fun σ H R=>ta σ H fun vs H1=>∃(b1 b2:Bool) (a1 a2:Addr) (xs ys:List V),vs=[.ref a1,.ref a2]/\Sq b1 K H1 a1 xs/\Sq b2 K H1 a2 ys/\R (Itz K b1 b2 a1 a2) H1
theorem JbY{X:Cx}{K:Frag}{elts:List Expr}{kk:Nat}{tpos:Pos}{a b:Expr}{ta:TA}{p pos:Pos}(hK:X.K=K)(hg:Gl X "zip")(hm:X.mg "zip"=none)(ha:PA X [a,b] ta)(hs:starEach [a,b] X.env=[(false,eval a X.env),(false,eval b X.env)]:=by rfl)
 (hs2:starEach [b] X.env=[(false,eval b X.env)]:=by rfl):PI X (.Tuple elts kk tpos) (.Call (.Name "zip" p) [a,b] [] pos) (iZp K ta):=by
 subst hK;intro pins s σ H R I h;refine Call_ (Y0 I hg hm Jc6 (Q6 (thn (ha pos pins s σ H _ I h) fun us s1 ⟨vs,H1,I1,r1,q1⟩=>?_) (by rw[hs,hs2]) (by rw[hs2];rfl)));obtain⟨b1,b2,a1,a2,xs,ys,e,c1,c2,q⟩:=q1;subst e
 cases r1 with
 | cons r rr =>
 cases rr with
 | cons r' rr =>
 cases rr;cases r;cases r';obtain⟨its,w1,p1⟩:=c1.heap I1;obtain⟨jts,w2,p2⟩:=c2.heap I1;refine W1 p1 p2 fun h' t1 t2 t3 t4 t5 kp=>wpAny_pyIter_zip t1 ?_
 refine⟨_,[s1.heap.objs.size+4,s1.heap.objs.size+2,s1.heap.objs.size+3,s1.heap.objs.size,s1.heap.objs.size+1],_,_,H1,rfl,I1.kept (t':=s1.toks) kp,Ja4 b1 b2 a1 a2 _ _ _ _ _ (by simp),⟨t1,t2,⟨_,_,t3⟩,t4,t5⟩,fun b hb=>?_,q⟩
 have hle:s1.heap.objs.size<=b:=by simp only[Qe,QO,or_false] at hb;rcases hb with rfl|rfl|rfl|rfl|rfl <;> first|exact Qm _|exact Nat.le_add_right _ _
 exact I1.fpOk hle (I1.hok.fresh hle)
end L2

namespace LE
open PySem L2 LR
noncomputable def Ja5(ds es:List D):List D:=List.zipWith (fun a b=>.tup [a,b]) ds es
noncomputable def Jdw(m:Bool)(as:En->Option (List Sl)):En->Option (List D):=fun E=>(as E).bind fun ss=>match ss with
 | [s,t]=>(s.it m).bind fun ds=>(t.it m).bind fun es=>some (Ja5 ds es)
 | _=>none
section
variable{K:Frag}{C:Addr}{m:Bool}
theorem JfA{H H1 H1':Hp}{v:V}{s:Sl}{ds:List D}(r:RR K C H H1 H1' v s)(i:Same H1 H1')(e:s.it m=some ds) :
 ∃(b:Bool) (a:Addr) (xs:List V),v=.ref a/\(∀A,(m=true->A=H1')->∀H0' H',SStep A (J8 H H1 H1') H0' H'->Sq b K H' a xs)/\RDL K C (J8 H H1 H1') xs ds:=by
 have f:=JJ (Hs:=H) i
 have shared:∀{d:D},RD K C (J8 H H1 H1') v d->(Sl.sh d).q=some ds->∃(b:Bool) (a:Addr) (xs:List V),v=.ref a/\(∀A,(m=true->A=H1')->∀H0' H',SStep A (J8 H H1 H1') H0' H'->Sq b K H' a xs)/\RDL K C (J8 H H1 H1') xs ds:=fun {d} r e=>by
  cases d with
  | lst es=>cases e;obtain⟨l,xs,h1,h2,h3⟩:=RD.lstI r;exact⟨false,l,xs,h1,fun A _ H0' H' st=>SqL.of (st.i _ _ (st.z _ _ h2)),h3⟩
  | fz es=>cases e;obtain⟨l,xs,h1,h2,h3⟩:=RD.fzI r;exact⟨false,l,xs,h1,fun A _ H0' H' st=>(st.z.trans st.i).seq h2,h3⟩
  | tup es=>cases e;obtain⟨l,xs,h1,h2,h3⟩:=RD.tupI r;exact⟨true,l,xs,h1,fun A _ H0' H' st=>(st.z.trans st.i).seqT h2,h3⟩
  | _=>cases e
 cases s with
 | no=>cases e
 | sh d=>exact shared (RD.mono f.z r) e
 | own es=>exact shared (RR.frz (s:=.own es) i r rfl) e
 | bd _ _=>cases e
 | bt _ _=>cases e
 | od _ _=>cases e
 | ot _ _=>cases e
 | bo es =>
  unfold Sl.it at e;dsimp only at e;split at e
  ·next hm=>cases e;obtain⟨l,xs,h1,h2,h3⟩:=r;refine⟨false,l,xs,h1,fun A hA H0' H' st=>?_,h3.mono f.z⟩;have:=hA hm;subst this;exact SqL.of (st.b _ _ h2)
  ·cases e
theorem JeO{t:TA}{ev:En->Option (List Sl)}(ha:SA K C t ev):SI K C m (iZp K t) (Jdw m ev):=by
 intro B H0 H σ E ds R I e q;obtain⟨ss,e1,e⟩:=bind_some e;split at e
 ·next s u =>
  obtain⟨ds1,e2,e⟩:=bind_some e;obtain⟨ds2,e3,e⟩:=bind_some e;cases e;refine ha B H0 H σ E _ _ I e1 fun vs H1 H1' s1 r1=>?_
  obtain⟨v,w,rfl,ra,rb⟩:=r1.two;have f:=JJ (Hs:=H) s1.i;obtain⟨b1,a1,xs,rfl,k1,w1⟩:=JfA ra s1.i e2;obtain⟨b2,a2,ys,rfl,k2,w2⟩:=JfA rb s1.i e3;have hA:m=true->(if m=true then H1' else B)=H1':=fun h=>if_pos h
  have sA:Same (if m=true then H1' else B) H1':=by
   split
   ·exact Same.refl _
   ·exact I.b.trans s1.h
  have st0:SStep (if m=true then H1' else B) (J8 H H1 H1') (J8 H H1 H1') H1':=⟨sA,Same.refl _,fun _ _ e=>.inl e,f.i⟩
  refine⟨b1,b2,a1,a2,xs,ys,rfl,k1 _ hA _ _ st0,k2 _ hA _ _ st0,q _ _ _ (s1.comp f fun _ z=>z) ?_⟩;intro H0' H' st;have q1:=k1 _ hA _ _ st;have q2:=k2 _ hA _ _ st;refine⟨fun i d e=>?_,⟨xs,ys,q1,q2,by unfold Ja5;rw[List.length_zipWith,w1.1,w2.1]⟩⟩;unfold Ja5 at e;rw[List.getElem?_zipWith] at e
  cases g1:ds1[i]? with
  | none=>rw[g1] at e;cases e
  | some d1 =>
   cases g2:ds2[i]? with
   | none=>rw[g1,g2] at e;cases e
   | some d2 =>
    rw[g1,g2] at e;cases e;obtain⟨x,x1,x2⟩:=w1.get g1;obtain⟨y,y1,y2⟩:=w2.get g2;refine⟨⟨xs,ys,x,y,q1,q2,x1,y1⟩,?_⟩;rintro z H2 ⟨p,u',v',rfl,hp,rfl,hv⟩;obtain⟨h1,h2⟩:=hv xs ys q1 q2;rw[x1] at h1;cases h1;rw[y1] at h2;cases h2;have h0:H0' p=none:=Same.free st.i hp;refine⟨upd H0' p (.tup [x,y]),⟨.new hp,.new h0,fun a o e=>?_,fun a o e=>?_⟩,?_⟩
    ·by_cases h:a=p
     ·subst h;exact .inr (.inl hp)
     ·rw[Jd h] at e;exact .inl e
    ·by_cases h:a=p
     ·subst h;rw[Ju] at e ⊢;exact e
     ·rw[Jd h] at e ⊢;exact st.i a o e
    ·exact .mkT (.of Ju) (.cons (x2.mono (st.z.trans (.new h0))) (.cons (y2.mono (st.z.trans (.new h0))) .nil))
 ·cases e
theorem JcC{α β:Type}(f:α->D)(g:β->D)(xs:List α)(ys:List β):Ja5 (xs.map f) (ys.map g)=(List.zip xs ys).map fun p=>.tup [f p.1,g p.2]:=by
 unfold Ja5
 induction xs generalizing ys with
 | nil=>rfl
 | cons x xs ih=>cases ys with
  | nil=>rfl
  | cons y ys=>simp[ih]
end
end LE

namespace PySem
namespace F
end F
section
variable{prog:Program}{w:World}{A:Around}{E:Value->Shared->Prop}{s:Shared}{a r:Addr}{xs:Array Value}
end
end PySem
namespace L2
open PySem PySem.Spec PyProof.Rows
end L2
namespace LE
open PySem L2 LR
section
variable{K:Frag}{C:Addr}{m:Bool}
end
end LE

namespace PySem
open AutoSeq1 (wpAny_loadPart')
section
variable{prog:Program}{w:World}{A:Around}{E:Value->Shared->Prop}{s:Shared}{b:Bool}{a e it:Addr}{xs:Array Value}
end
end PySem
namespace L2
open PySem PySem.Spec PyProof.Rows
end L2
namespace LE
open PySem L2 LR
section
variable{K:Frag}{C:Addr}{m:Bool}
end
end LE

namespace L2
open PySem PySem.Spec PyProof.Rows
noncomputable def Yl(ns:List Int):List Int:=ns.mergeSort (fun a b=>decide (a<=b))
theorem J7(ns:List Int):(Yl ns).Perm ns:=List.mergeSort_perm _ _
theorem VX(ns:List Int):(Yl ns).Pairwise (·<=·):=by have h:=List.pairwise_mergeSort (le:=fun a b:Int=>decide (a<=b)) (by intro a b c h1 h2;simp only[decide_eq_true_eq] at *;omega) (by intro a b;simp only[GO,decide_eq_true_eq];omega) ns;exact h.imp fun {a b} h=>by simpa using h
theorem UW:∀{xs ys:List Int},xs.Perm ys->xs.Pairwise (·<=·)->ys.Pairwise (·<=·)->xs=ys
 | [],ys,p,_,_=>by rw[List.Perm.nil_eq p]
 | x::xs,ys,p,h1,h2=>by
  cases ys with
  | nil=>exact absurd p.symm (by simp)
  | cons y ys =>
   obtain⟨a1,a2⟩:=QH.mp h1;obtain⟨b1,b2⟩:=QH.mp h2
   have e:x=y:=by
    have hx:x∈y::ys:=p.mem_iff.mp Qj
    have hy:y∈x::xs:=p.mem_iff.mpr Qj;rcases Qe.mp hx with z|z
    ·exact z
    ·rcases Qe.mp hy with w|w
     ·exact w.symm
     ·have:=a1 y w
      have:=b1 x z;omega
   subst e;rw[UW (List.Perm.cons_inv p) a2 b2]
theorem Vg:∀{ns:List Int} {us:List Value},IntsAre us ns->Vals (ns.map V.int) us:=by
 intro ns us h
 induction h with
 | nil=>exact .nil
 | cons _ _ _ ih=>exact .cons ⟨_,rfl⟩ ih
section
variable{X:Cx}
end
end L2
namespace LE
open PySem L2 LR
section
variable{K:Frag}{C:Addr}
theorem JaL{H:Hp}(ns:List Int):RDL K C H (ns.map V.int) (ns.map D.int):=by refine⟨by simp,fun i x d h1 h2=>?_⟩;rw[QB] at h1 h2;obtain⟨n,e,rfl⟩:=Q7.mp h1;rw[e] at h2;cases h2;exact .int n
end
end LE

namespace PySem
namespace F
end F
section
variable{prog:Program}{w:World}{A:Around}{E:Value->Shared->Prop}{s:Shared}{l:Addr}{lo hi:Int}{t u v:Tok}
end
end PySem
namespace L2
open PySem PySem.Spec PyProof.Rows
end L2
namespace LE
open PySem L2 LR
section
variable{K:Frag}{C:Addr}{m:Bool}
end
end LE

namespace PySem
namespace F
end F
structure ZB (z TI TO i1 i2 i3:Addr) (p1 p2 p3:List Addr):Prop where
 a1:TI≠z
 a2:TO≠z
 a3:TI≠TO
 m1:i1∈p1
 m2:i2∈p2
 m3:i3∈p3
 z1:z∉p1
 z2:z∉p2
 z3:z∉p3
 t1:TI∉p1
 t2:TI∉p2
 t3:TI∉p3
 o1:TO∉p1
 o2:TO∉p2
 o3:TO∉p3
 x12:i1∉p2
 x13:i1∉p3
 x21:i2∉p1
 x23:i2∉p3
 x31:i3∉p1
 x32:i3∉p2
section
variable{prog:Program}{w:World}{A:Around}{E:Value->Shared->Prop}{s:Shared}{z TI TO i1 i2 i3:Addr}{p1 p2 p3:List Addr}{n1 n2 n3 k:Nat}{P1 P2 P3:Nat->Value->Prop}{S1 S2 S3:Nat->Heap->Prop}
end
end PySem

namespace PySem
section
variable{prog:Program}{w:World}{A:Around}{E:Value->Shared->Prop}{s:Shared}{b1 b2 b3:Bool}{a1 a2 a3:Addr}{xs ys zs:Array Value}
end
end PySem
namespace L2
open PySem PySem.Spec PyProof.Rows
end L2
namespace LE
open PySem L2 LR
section
variable{K:Frag}{C:Addr}{m:Bool}
end
end LE

namespace L2
open PySem PySem.Spec PyProof.Rows
section
variable{X:Cx}
end
end L2
namespace LE
open PySem L2 LR
section
variable{K:Frag}{C:Addr}
end
end LE

namespace PySem

section
variable{prog:Program}{w:World}{A:Around}{R:Result->Shared->Prop}{I:Addr}{fp wr:List Addr}{n:Nat}{P:Nat->Value->Prop}{St:Nat->Heap->Prop}
end
section
variable{prog:Program}{w:World}{A:Around}{E:Value->Shared->Prop}{s:Shared}{l:Addr}{xs:Array (Int×Tok)}
end

section
variable{prog:Program}{w:World}{A:Around}{R:Result->Shared->Prop}{I:Addr}{fp wr:List Addr}{n:Nat}{P:Nat->Value->Prop}{St:Nat->Heap->Prop}
end
section
variable{prog:Program}{w:World}{A:Around}{E:Value->Shared->Prop}{s:Shared}{l:Addr}{xs:Array (Int×Tok)}
end

end PySem

namespace L2
open PySem PySem.Spec PyProof.Rows

section
variable{X:Cx}
end
section
variable{X:Cx}
end
end L2
namespace LE
open PySem L2 LR

end LE

namespace LE
open PySem L2 LR

noncomputable def look{α:Type}:List Int->List α->Int->Option α
 | k::ks,d::ds,n=>if k=n then some d else look ks ds n
 | _,_,_=>none
noncomputable def Jfz(ks:List Int)(n:Int):Bool:=ks.any fun k=>decide (k=n)
noncomputable def JfV(ks:List Int)(n:Int):List Int:=if Jfz ks n=true then ks else ks++[n]
noncomputable def setK{α:Type}:List Int->List α->Int->α->List α
 | k::ks,d::ds,n,v=>(if k=n then v else d)::setK ks ds n v
 | _,ds,_,_=>ds
noncomputable def putDs{α:Type}(ks:List Int)(ds:List α)(n:Int)(v:α):List α:=if Jfz ks n=true then setK ks ds n v else ds++[v]
section
variable{K:Frag}{C:Addr}{Hs H0 H:Hp}
theorem RDL.look:∀{ks:List Int} {xs:List V} {ds:List D} {n:Int},RDL K C H xs ds->(LE.look ks xs n=none/\LE.look ks ds n=none)\/∃x d,LE.look ks xs n=some x/\LE.look ks ds n=some d/\RD K C H x d
 | [],_,_,_,_=>.inl ⟨rfl,rfl⟩
 | _::_,[],[],_,_=>.inl ⟨rfl,rfl⟩
 | _::_,[],_::_,_,h=>by have:=h.1;simp at this
 | _::_,_::_,[],_,h=>by have:=h.1;simp at this
 | k::ks,x::xs,d::ds,n,h=>by
  simp only[LE.look]
  by_cases e:k=n
  ·rw[if_pos e,if_pos e];exact .inr ⟨x,d,rfl,rfl,h.head⟩
  ·rw[if_neg e,if_neg e];exact RDL.look h.tail
theorem RDL.setK{n:Int}{v:V}{e:D}(r:RD K C H v e):∀{ks:List Int} {xs:List V} {ds:List D},RDL K C H xs ds->RDL K C H (LE.setK ks xs n v) (LE.setK ks ds n e)
 | [],_,_,h=>h
 | _::_,[],[],_=>.nil
 | _::_,[],_::_,h=>by have:=h.1;simp at this
 | _::_,_::_,[],h=>by have:=h.1;simp at this
 | k::ks,x::xs,d::ds,h=>by
  simp only[LE.setK];refine .cons ?_ (RDL.setK r h.tail);split
  ·exact r
  ·exact h.head
theorem RDL.putDs{n:Int}{v:V}{e:D}{ks:List Int}{xs:List V}{ds:List D}(h:RDL K C H xs ds)(r:RD K C H v e):RDL K C H (LE.putDs ks xs n v) (LE.putDs ks ds n e):=by
 unfold LE.putDs;split
 ·exact RDL.setK r h
 ·exact h.snoc r
end
noncomputable def Sl.dk:Sl->Option (List Int×List D)
 | .sh (.dct ks ds)=>some (ks,ds)
 | .sh (.dfz ks ds)=>some (ks,ds)
 | .bd ks ds=>some (ks,ds)
 | .od ks ds=>some (ks,ds)
 | _=>none
noncomputable def int?:Sl->Option Int
 | .sh (.int i)=>some i
 | _=>none
noncomputable def Jda(a k x:Ev):Ev:=fun E=>(a E).bind fun s=>s.dk.bind fun p=>((k E).bind int?).bind fun n=>((x E).bind sh?).bind fun d=>some (.sh ((look p.1 p.2 n).getD d))
noncomputable def Jgv(i:Nat)(k a:Ev):Es:=fun E=>match E[i]? with
 | some (.od ks ds)=>(a E).bind fun s=>s.frz.bind fun d=>((k E).bind int?).bind fun n=>if ks.length<sizeLine then some (.nx (E.set i (.od (JfV ks n) (putDs ks ds n d)))) else none
 | _=>none
section
variable{K:Frag}{C:Addr}{Hs H0 H:Hp}{td ty tx te:TE}{ed ek ex ea:Ev}
theorem Jah{s:Sl}{n:Int}(e:int? s=some n):s=.sh (.int n):=by
 cases s with
 | sh d=>cases d with
  | int i=>cases e;rfl
  | _=>cases e
 | _=>cases e
theorem RR.dk{v:V}{s:Sl}{p:List Int×List D}(r:RR K C Hs H0 H v s)(i:Same H0 H)(e:s.dk=some p):∃l xs,v=.ref l/\Rd H l (dkO p.1 xs)/\p.1.length=p.2.length/\RDL K C H0 xs p.2:=by
 cases s with
 | bd ks ds=>cases e;obtain⟨l,xs,h1,h2,h3⟩:=r;exact⟨l,xs,h1,.inl h2,h3⟩
 | od ks ds=>cases e;obtain⟨l,xs,h1,h2,_,_,h3⟩:=r;exact⟨l,xs,h1,.inl h2,h3⟩
 | bt _ _=>cases e
 | ot _ _=>cases e
 | sh d=>cases d with
  | dct ks ds=>cases e;obtain⟨l,xs,h1,h2,h3⟩:=RD.dctI r;exact⟨l,xs,h1,.inl (i _ _ h2),h3⟩
  | dfz ks ds=>cases e;obtain⟨l,xs,o,h1,h2,h3⟩:=RD.dfzI r;exact⟨l,xs,h1,.inr ⟨o,i _ _ h2⟩,h3⟩
  | _=>cases e
 | _=>cases e
end

section
variable{K:Frag}{C:Addr}{H:Hp}
theorem RDL.rep{xs:List V}{ds:List D}(r:RDL K C H xs ds):∀k:Nat,RDL K C H (Q9 k xs).flatten (Q9 k ds).flatten
 | 0=>.nil
 | k+1=>by rw[GF,GF,GW,GW];exact r.append (RDL.rep r k)
end
end LE

namespace L2
open PySem PySem.Spec PyProof.Rows
theorem KV.get{κ:Type}:∀{kvs:List (κ×V)} {vs:List (κ×Value)} {i:Nat} {p:κ×V},KV kvs vs->kvs[i]?=some p->∃u,vs[i]?=some (p.1,u)/\RelV p.2 u
 | _,_,0,p,.cons h _,e=>by simp at e;subst e;obtain⟨h1,h2⟩:=h;rename_i q _ _;exact⟨_,by simp;exact Prod.ext h1.symm rfl,h2⟩
 | _,_,i+1,p,.cons _ t,e=>by obtain⟨u,h1,h2⟩:=KV.get (i:=i) t (by simpa using e);exact⟨u,by simpa using h1,h2⟩
 | _,_,_,_,.nil,e=>by simp at e
end L2
namespace LE
open PySem L2 LR
noncomputable def JfE:List Int->List D->List D:=List.zipWith fun k d=>.tup [.int k,d]
section
variable{K:Frag}{C:Addr}{m:Bool}{t:TS}{et:Es}{td:TE}{ed:Ev}
end
end LE

namespace L2
open PySem PySem.Spec PyProof.Rows
section
variable{prog:Program}{w:World}{A:Around}{E:Value->Shared->Prop}{s:Shared}{T:String}{r d:Addr}{n:Nat}{P:Nat->Value->Prop}{OK:Heap->Prop}
end
end L2
namespace LE
open PySem L2 LR
section
variable{K:Frag}{C:Addr}{td:TE}{ed:Ev}
theorem Rd.put{H:Hp}{l p:Addr}{o u:HO}(h:Rd H l o)(hp:H p=none):Rd (upd H p u) l o:=by
 rcases h with h|⟨ob,h⟩
 ·exact .inl (by rw[Jd (Jl h hp)];exact h)
 ·exact .inr ⟨ob,by rw[Jd (Jl h hp)];exact h⟩
end
end LE

namespace L2
open PySem PySem.Spec PyProof.Rows
theorem Inv.more{X:Cx}{pins:List (Addr×Obj)}{σ:St}{H H':Hp}{s:Shared}{h':Heap}{t':Nat}(I:Inv X pins σ H s)(k:∀b u,s.heap.get? b=some u->h'.get? b=some u)(hx:∀b,b<s.heap.objs.size->H' b=H b)
 (new:∀b o,s.heap.objs.size<=b->H' b=some o->ObjOk X.prog X.w H' h' b o):Inv X pins σ H' { s with heap:=h',toks:=t' }:=by
 have old:∀b o,H b=some o->H' b=some o:=fun b o e=>by rw[hx b (I.hok.lt e)];exact e
 refine I.un ⟨fun b u q _ _ _=>k b u q,fun b u q _ _ _=>⟨u.slots,k b u q⟩,fun b u q n _=>by rw[hx b (Qf q)];exact n,fun b u q _=>⟨u,k b u q⟩,fun b xs q=>old b _ q,fun b u xs q=>old b _ q,fun b ps q=>⟨#[],by rw[old b _ q];simp⟩⟩ fun b o e=>?_
 rcases KR b s.heap.objs.size with z|z
 ·rw[hx b z] at e;exact(I.hok b o e).stay (fun c u _ q=>k c u q) (fun c q=>old c _ q) fun c xs q=>old c _ q
 ·exact new b o z e
end L2
namespace LE
open PySem L2 LR
section
variable{K:Frag}{C:Addr}{td:TE}{ed:Ev}
theorem RDL.items:∀{ks:List Int} {xs:List V} {ds:List D} {as:List Addr} {H:Hp},ks.length=ds.length->as.length=ks.length->(∀(j:Nat) (a:Addr) (k:Int) (x:V),as[j]?=some a->ks[j]?=some k->xs[j]?=some x->H a=some (.tup [.int k,x]))->RDL K C H xs ds->RDL K C H (as.map V.ref) (JfE ks ds)
 | [],[],[],[],_,_,_,_,_=>.nil
 | [],_,_,a::as,_,_,h,_,_=>by simp at h
 | [],_,d::ds,_,_,h,_,_,_=>by simp at h
 | k::ks,_,[],_,_,h,_,_,_=>by simp at h
 | k::ks,_,_,[],_,_,h,_,_=>by simp at h
 | [],x::xs,[],[],_,_,_,_,h=>by have:=h.1;simp at this
 | k::ks,[],d::ds,a::as,_,_,_,_,h=>by have:=h.1;simp at this
 | k::ks,x::xs,d::ds,a::as,H,h1,h2,h3,h4=>by show RDL K C H (V.ref a::as.map V.ref) (.tup [.int k,d]::JfE ks ds);refine .cons (.mkT (.of (h3 0 a k x rfl rfl rfl)) (.cons (.int k) (.cons h4.head .nil))) (RDL.items (by simpa using h1) (by simpa using h2) (fun j a k x e1 e2 e3=>h3 (j+1) a k x (by simpa using e1) (by simpa using e2) (by simpa using e3)) h4.tail)
end
end LE

namespace L2
open PySem PySem.Spec PyProof.Rows
noncomputable def wo:List Addr->Heap->Heap
 | [],h=>h
 | a::l,h=>(wo l h).update a fun _=>{ cls:=.none,data:=.freed }
theorem Zx(h:Heap)(a:Addr):(h.update a fun _=>{ cls:=.none,data:=.freed }).get? a=none:=by
 cases q:(h.update a fun _=>({ cls:=.none,data:=.freed }:Obj)).get? a with
 | none=>rfl
 | some o =>
  obtain⟨e,f⟩:=Heap.get?_some_iff.mp q;obtain⟨os,l⟩:=h;simp only[Heap.update,Array.getElem?_modify,if_true] at e
  cases z:os[a]? with
  | none=>rw[z] at e;cases e
  | some u=>rw[z] at e;cases e;cases f
theorem WR{h:Heap}{b:Addr}:∀{l:List Addr},b∈l->(wo l h).get? b=none
 | [],hb=>nomatch hb
 | a::l,hb=>by
  unfold wo
  by_cases e:a=b
  ·subst e;exact Zx _ _
  ·rw[QN _ _ e];exact WR ((Qe.mp hb).resolve_left (Qy e))
theorem Vh{h:Heap}{b:Addr}:∀{l:List Addr},b∉l->(wo l h).get? b=h.get? b
 | [],_=>rfl
 | a::l,hb=>by unfold wo;rw[QN _ _ (fun e=>hb (by rw[e];exact Qj))];exact Vh fun z=>hb (Qh _ z)
theorem Wt{h base base':Heap}:∀{l:List Env},h.FunFrames base l->(∀b∈frs l,base'.get? b=none)->h.FunFrames base' l
 | [],_,_=>trivial
 | env::l,⟨hk,⟨L,o,hf,hn,ho,hd⟩,hr⟩,n=>by
  have e:frs (env::l)=L::frs l:=by unfold frs;rw[Gm,hf]
  rw[e] at n;exact⟨hk,⟨L,o,hf,n L Qj,ho,hd⟩,Wt hr fun b hb=>n b (Qh _ hb)⟩
theorem JbC{h base:Heap}{l:List Env}(x:h.FunFrames base l){b:Addr}(hb:b∈frs l):base.get? b=none/\∃o,h.get? b=some o/\∀vs,o.data≠.fields vs:=x.mem hb
theorem ObjOk.there{P:Program}{w:World}{H:Hp}{h:Heap}{a:Addr}{o:HO}(x:ObjOk P w H h a o):∃u,h.get? a=some u:=by
 cases o with
 | lst xs=>obtain⟨_,_,_,_,e⟩:=x;exact⟨_,e⟩
 | tup xs=>obtain⟨_,_,_,p⟩:=x;obtain⟨o,e,_⟩:=p;exact⟨_,e⟩
 | dK kvs=>obtain⟨_,_,_,_,o,_,_,e,_⟩:=x;exact⟨_,e⟩
 | dT kvs=>obtain⟨_,_,_,_,o,_,_,e,_⟩:=x;exact⟨_,e⟩
 | set S n=>obtain⟨o,_,_,_,e,_⟩:=x;exact⟨_,e⟩
 | ins C dx fs=>obtain⟨_,_,_,e,_⟩:=x;exact⟨_,e⟩
 | own y=>obtain⟨_,e⟩:=x;exact⟨_,e⟩
 | xd fs=>obtain⟨_,⟨_,_,_,e,_⟩,_⟩:=x;exact⟨_,e⟩
 | rng lo hi=>obtain⟨_,_,_,e⟩:=x;exact⟨_,e⟩
 | frz ob u=>obtain⟨e,_⟩:=x;exact⟨_,e⟩
 | tbl ps=>exact⟨_,(show h.get? a=some _ from x)⟩
 | met f y=>exact⟨_,(show h.get? a=some _ from x)⟩
 | ext φ=>obtain⟨_,⟨_,e⟩,_⟩:=x;exact⟨_,e⟩

noncomputable def TrD(h base:Heap)(e:Addr)(cls:Value)(dct:Option Addr)(fl:Value):Prop :=
 ∃oe vs T oT ts,h.get? e=some oe/\(oe.cls=cls/\oe.dict=dct)/\oe.data=.fields vs/\vs[1]?=some (.ref T)/\base.get? T=none/\T≠e/\h.get? T=some oT/\oT.data=.fields ts/\ts[3]?=some fl
noncomputable def Fl(base:Heap)(l:List Env)(e:Addr)(cls:Value)(h:Heap):Prop :=
 base.StaysIn h/\base.get? e=none/\h.FunFrames base l/\(TrD h base e cls none .none\/∃oe vs,h.get? e=some oe/\(oe.cls=cls/\oe.dict=none)/\oe.data=.fields vs/\vs[1]?=some .none)
noncomputable def Cov(fs:List Addr)(H':Hp)(h h' base:Heap):Prop:=∀b o,(H' b≠none\/∃u,h.get? b=some u)->b∉fs->h'.get? b=some o->base.get? b=some o
structure XF (P:Program) (w:World) (l:List Env) (H:Hp) (h:Heap) (a:Addr) (cls:Value) (H':Hp) (base h':Heap):Prop where
 un:Un (frs l) [] H H' h h'
 hok:HOk P w H' h'
 fl:Fl base l a cls h'
 cov:Cov (frs l) H' h h' base
 free:H' a=none
 new:h.get? a=none
noncomputable def CX1(P:Program)(w:World):CXT:=fun l H s E e s'=>∃(a:Addr) (cls:Value) (H':Hp) (base:Heap),e=.ref a/\s'.os=s.os/\AllBare s'.gens/\XF P w l H s.heap a cls H' base s'.heap/\E cls (some a) H'
section
variable{P:Program}{w:World}{l:List Env}{H H':Hp}{h h1 h2 base base0:Heap}{a:Addr}{cls:Value}
end
section
variable{M:Model}{A:Around}{E:Value->Shared->Prop}{s:Shared}{base:Heap}{env:Env}{outer l:List Env}{L e:Addr}{cls fl:Value}{dct:Option Addr}{Q:Unit->Shared->Prop}
end

noncomputable def XP(X:Cx)(pins:List (Addr×Obj))(σ:St)(E:XK)(e:Value)(s':Shared):Prop:=∃H s,Inv X pins σ H s/\CX1 X.prog X.w X.stack H s E e s'
section
variable{X:Cx}{pins:List (Addr×Obj)}{σ:St}{H H':Hp}{s s':Shared}{base:Heap}{a:Addr}{cls:Value}{E:XK}{e:Value}
theorem XP.made{args:List Value}{h':Heap}{ea:Addr}(I:Inv X pins σ H s)(m:Heap.MadeExcOf s.heap h' ea cls args)(q:E cls (some ea) H):XP X pins σ E (.ref ea) { s with heap:=h' }:=by
 have nf:∀b∈frs X.stack,∃o,s.heap.get? b=some o:=fun b hb=>by obtain⟨_,o,ho,_⟩:=JbC I.stack hb;exact⟨o,ho⟩
 obtain⟨t,ht,_,_⟩:=m.there;refine⟨H,s,I,ea,cls,H,wo (frs X.stack) s.heap,rfl,rfl,I.bare,⟨⟨fun b o q _ _ _=>m.keeps b o q,fun b o q _ _ _=>⟨o.slots,m.keeps b o q⟩,fun _ _ _ n _=>n,fun b o q _=>⟨o,m.keeps b o q⟩,fun _ _ z=>z,fun _ _ _ z=>z,fun b ps z=>⟨#[],by rw[z];simp⟩⟩,I.hok.kept m.keeps,⟨fun b o q=>?_,?_,?_,.inr ⟨_,_,ht,⟨rfl,rfl⟩,rfl,rfl⟩⟩,fun b o hb hfr q=>?_,?_,m.new⟩,q⟩
 ·by_cases hb:b∈frs X.stack
  ·rw[WR hb] at q;cases q
  ·rw[Vh hb] at q;exact m.keeps b o q
 ·by_cases hb:ea∈frs X.stack
  ·exact WR hb
  ·rw[Vh hb];exact m.new
 ·exact(Wt I.stack fun b hb=>WR hb).of_keeps fun b o q _=>⟨o,m.keeps b o q,rfl⟩
 ·rw[Vh hfr]
  have ex:∃u,s.heap.get? b=some u:=by
   rcases hb with hb|hb
   ·cases e:H b with
    | none=>exact absurd e hb
    | some u=>exact(I.hok b u e).there
   ·exact hb
  obtain⟨u,hu⟩:=ex;have:=m.keeps b u hu;have q':h'.get? b=some o:=q;rw[q'] at this;cases this;exact hu
 ·cases e:H ea with
  | none=>rfl
  | some u=>obtain⟨o,ho⟩:=(I.hok ea u e).there;rw[m.new] at ho;cases ho
end
end L2

namespace L2
open PySem PySem.Spec PyProof.Rows PySem.Calls
abbrev VEm:List Value:=[.type "ValueError",.type "Exception",.type "BaseException",.type "object"]
section
variable{P:Program}{w:World}{K:Frag}{mg:Str->Option Value}{base:Heap}{N:List Str}{qual:Str}{scope:Scope}{f:Addr}{cd:Value}{A:Around}{outer:List Env}{s:Shared}{H:Hp}{E:XK}
end
section
variable{X:Cx}{x:Str}{np cpos pos:Pos}{C:Addr}{E:XK}{e:Expr}{es:List Expr}{t:TA}
end
end L2

namespace L2
open PySem PySem.Spec PyProof.Rows PySem.Calls
structure CalX (P:Program) (w:World) (K:Frag) (mg:Str->Option Value) (base:Heap) (x:Str) (k:Nat) (ps:List Str) (sp:Sp):Prop where
 ex:∃(f:Addr) (fd:FuncData),FnOk P w K mg base (CX1 P w) k f fd ps sp/\mg x=some (.ref f)/\keepIn K (.ref f)=true/\Binds K fd ps []
section
variable{X:Cx}{k:Nat}{C:Addr}{ps:List Str}{sp:Sp}{x:Str}{p pos:Pos}{e:Expr}{es:List Expr}{t:TA}{st:Stmt}{Yc:List Stmt}{T:XK->TE}{TS1:(St->XK)->TS}{u:TS}
end
end L2
namespace L2
open PySem PySem.Spec PyProof.Rows PySem.Calls LE
section
variable{X:Cx}{pins:List (Addr×Obj)}{σ:St}{H:Hp}{s:Shared}{a:Addr}
theorem Inv.track{o:HO}(I:Inv X pins σ H s)(hx:X.ex=[])(ha:H a=none)(h0:X.s₀.heap.get? a=none)(hL:a≠X.env.locals)(hC:∀x c,X.env.cells.lookup x=some c->c≠a)(hP:∀p∈X.pn++pins,p.1≠a)(new:ObjOk X.prog X.w (upd H a o) s.heap a o):Inv X pins σ (upd H a o) s:=by
 have nt:∀b u,H b=some u->b≠a:=fun b u e z=>by rw[z,ha] at e;cases e
 refine⟨I.ok,I.os,I.bare,⟨I.base.keep,I.base.slot,fun b u e n hb=>?_,I.base.there,fun b xs e=>?_,fun b u xs e=>?_,fun b ps e=>?_⟩,I.loc,I.cell,?_,fun x c e=>?_,fun p hp=>?_,fun b u e=>?_,I.len⟩
 ·rw[Jd (fun z=>by rw[z,h0] at e;cases e)];exact I.base.free b u e n hb
 ·have:=I.base.tups b xs e;rw[Jd (nt _ _ this)];exact this
 ·have:=I.base.frzs b u xs e;rw[Jd (nt _ _ this)];exact this
 ·obtain⟨m,this⟩:=I.base.tbls b ps e;exact⟨m,by rw[Jd (nt _ _ this)];exact this⟩
 ·rw[Jd (Qy hL)];exact I.free
 ·rw[Jd (hC x c e)];exact I.freeC x c e
 ·obtain⟨h1,h2,h3⟩:=I.pin p hp;exact⟨h1,by rw[Jd (hP p hp)];exact h2,h3⟩
 ·by_cases hb:b=a
  ·subst hb;rw[Ju] at e;cases e;exact new
  ·rw[Jd hb] at e;exact(I.hok b u e).stay (fun _ _ _ q=>q) (fun c q=>by rw[Jd (nt _ _ q)];exact q) fun c xs q=>by rw[Jd (nt _ _ q)];exact q
end
section
variable{X:Cx}{body suite:List Stmt}{b₀:Stmt}{i:Nat}{n cn:Str}{np hpos pos:Pos}{CL:Addr}{T:(St->XK)->TS}{th:TS}
end
end L2

namespace L2
open PySem PySem.Spec PyProof.Rows PySem.Calls LE
structure ExcN (K:Frag) (n:Str):Prop where
 ex:∃c,nsIn K mainGlobals n=some (some (.ref c))/\PySem.W.excIn K c VEm "ValueError.__new__"=true
 pl:∀c,nsIn K mainGlobals n=some (some (.ref c))->findIn K (.ref c) "__getattribute__"=some (some (.builtin "BaseException.__getattribute__"))/\findIn K (.ref c) "__getattr__"=some none/\mroIn K c (.type "BaseException")=some true/\hasDictIn K c=true/\findIn K (.ref c) "__class__"=some (some (.builtin "object.__class__"))/\mroIn K c (.type "object")=some true
structure ExcG (K:Frag):Prop where
 hn:specialIn K (.builtin "object.__class__") "__get__"=some (some (.builtin "getset_descriptor.__get__"))
 htk:takesIn K (.builtin "object.__class__")=some true
section
variable{prog:Program}{w:World}{A:Around}{E:Value->Shared->Prop}{s:Shared}{K:Frag}{x C D:Addr}{ox:Obj}
end
section
variable{K:Frag}{x D:Addr}{ox:Obj}
end
section
variable{X:Cx}
inductive TyX (K:Frag) (H:Hp):V->Value->Prop where
 | of {x:V} {t:Value} (h:TyS K H x t):TyX K H x t
 | exc {a c:Addr} {n:Str} (h:H a=some (XO a (.ref c))) (e:nsIn K mainGlobals n=some (some (.ref c))) (N:ExcN K n) (G:ExcG K):TyX K H (.ref a) (.ref c)
end
end L2

namespace LE
open PySem L2 LR
noncomputable abbrev Xv:=En->Option Str
section
variable(K:Frag)(C:Addr)
end
section
variable{K:Frag}{C:Addr}{W:XK}{t:TA}{ev:En->Option (List Sl)}{te:TE}{ts us:TS}{et eu:Es}{xt xu:Xv}{ex:Xv}
end
section
variable{K:Frag}{C:Addr}{B H0 H:Hp}{σ:St}{E:En}
end
section
variable{K:Frag}{C:Addr}
end
noncomputable def exB(n m:Str):Bool:=n == m || m == "LumpError"
section
variable{K:Frag}{C:Addr}{te:TE}{ea:Ev}
structure IsiN (K:Frag) (R:List Str) (m:Str) (c:Addr):Prop where
 own:∀n∈R,ExcN K n
 g:ExcG K
 k:∀n∈R,∀c',nsIn K mainGlobals n=some (some (.ref c'))->kitOne K (.ref c') (.ref c)=some (exB n m)
 o:kitOne K (.type "NoneType") (.ref c)=some false
end
end LE
namespace L2
open PySem PySem.Spec PyProof.Rows PySem.Calls LE
section
variable{X:Cx}
end
end L2
namespace LE
open PySem L2 LR
noncomputable def IsiL(K:Frag)(R:List Str):List Str->List Addr->Prop
 | [],[]=>True
 | m::ms,c::cs=>IsiN K R m c/\IsiL K R ms cs
 | _,_=>False
theorem IsiL.exc{K:Frag}{R:List Str}{n:Str}{c':Addr}(hn:n∈R)(hc:nsIn K mainGlobals n=some (some (.ref c'))):∀{ms:List Str} {cs:List Addr},IsiL K R ms cs->kitAny K (.ref c') (cs.map Value.ref)=some (ms.any (exB n))
 | [],[],_=>rfl
 | m::ms,c::cs,⟨h,t⟩=>by show(match kitOne K (.ref c') (.ref c) with|some true=>some true|some false=>kitAny K (.ref c') (cs.map Value.ref)|none=>none)=_;rw[h.k n hn c' hc,t.exc hn hc,G2];cases exB n m <;> rfl
theorem IsiL.non{K:Frag}{R:List Str}:∀{ms:List Str} {cs:List Addr},IsiL K R ms cs->kitAny K (.type "NoneType") (cs.map Value.ref)=some false
 | [],[],_=>rfl
 | m::ms,c::cs,⟨h,t⟩=>by show(match kitOne K (.type "NoneType") (.ref c) with | some true=>some true | some false=>kitAny K (.type "NoneType") (cs.map Value.ref) | none=>none)=_;rw[h.o,t.non]
section
variable{K:Frag}{C:Addr}{te:TE}{ea:Ev}
structure IsiV (K:Frag) (R:List Str):Prop where
 own:∀n∈R,ExcN K n
 g:ExcG K
 k:∀n∈R,∀c',nsIn K mainGlobals n=some (some (.ref c'))->kitOne K (.ref c') (.type "ValueError")=some true
end
end LE

namespace L2
open PySem PySem.Spec PyProof.Rows PySem.Calls LE
section
variable{X:Cx}{K:Frag}
end
end L2
namespace LE
open PySem L2 LR
section
variable{K:Frag}{C:Addr}{ts:TS}
structure AtX (K:Frag) (n:Str) (c:Addr):Prop where
 ns:nsIn K mainGlobals n=some (some (.ref c))
 ok:PySem.W.excIn K c VEm "ValueError.__new__"=true
 ga:findIn K (.ref c) "__getattribute__"=some (some (.builtin "BaseException.__getattribute__"))
 gn:findIn K (.ref c) "__getattr__"=some none
 mb:mroIn K c (.type "BaseException")=some true
 hd:hasDictIn K c=true
 fi:findIn K (.ref c) "__class__"=some (some (.builtin "object.__class__"))
 mr:mroIn K c (.type "object")=some true
theorem AtX.n{n:Str}{c:Addr}(h:AtX K n c):ExcN K n:=⟨⟨c,h.ns,h.ok⟩,fun c' e=>by have:=h.ns.symm.trans e;cases this;exact⟨h.ga,h.gn,h.mb,h.hd,h.fi,h.mr⟩⟩
noncomputable def OwnL(K:Frag):List Str->List Addr->Prop
 | [],[]=>True
 | n::ns,c::cs=>AtX K n c/\OwnL K ns cs
 | _,_=>False
theorem OwnL.all:∀{ns:List Str} {cs:List Addr},OwnL K ns cs->∀n∈ns,ExcN K n
 | [],[],_,n,h=>nomatch h
 | m::ns,c::cs,⟨h,t⟩,n,hn=>by
  rcases Qe.mp hn with e|e
  ·rw[e];exact h.n
  ·exact t.all n e
noncomputable def ExmL(K:Frag)(CL:Addr):List Addr->Prop
 | []=>True
 | c::cs=>PySem.W.exmOne K (.ref c) (.ref CL)=some true/\ExmL K CL cs
theorem ExmL.all{CL:Addr}:∀{ns:List Str} {cs:List Addr},OwnL K ns cs->ExmL K CL cs->∀m∈ns,∀c,nsIn K mainGlobals m=some (some (.ref c))->PySem.W.exmOne K (.ref c) (.ref CL)=some true
 | [],[],_,_,n,h=>nomatch h
 | m::ns,c::cs,⟨h,t⟩,⟨h',t'⟩,n,hn=>fun c' e=>by
  rcases Qe.mp hn with z|z
  ·rw[z,h.ns] at e;cases e;exact h'
  ·exact t'.all t n z c' e
noncomputable def KitL(K:Frag)(m:Str)(c:Addr):List Str->List Addr->Prop
 | [],[]=>True
 | n::ns,d::ds=>kitOne K (.ref d) (.ref c)=some (exB n m)/\KitL K m c ns ds
 | _,_=>False
theorem KitL.all{m:Str}{c:Addr}:∀{ns:List Str} {cs:List Addr},OwnL K ns cs->KitL K m c ns cs->∀n∈ns,∀c',nsIn K mainGlobals n=some (some (.ref c'))->kitOne K (.ref c') (.ref c)=some (exB n m)
 | [],[],_,_,n,h=>nomatch h
 | m::ns,c::cs,⟨h,t⟩,⟨h',t'⟩,n,hn=>fun c' e=>by
  rcases Qe.mp hn with z|z
  ·rw[z] at e ⊢;rw[h.ns] at e;cases e;exact h'
  ·exact t'.all t n z c' e
noncomputable def KivL(K:Frag):List Addr->Prop
 | []=>True
 | c::cs=>kitOne K (.ref c) (.type "ValueError")=some true/\KivL K cs
theorem KivL.all:∀{ns:List Str} {cs:List Addr},OwnL K ns cs->KivL K cs->∀n∈ns,∀c',nsIn K mainGlobals n=some (some (.ref c'))->kitOne K (.ref c') (.type "ValueError")=some true
 | [],[],_,_,n,h=>nomatch h
 | m::ns,c::cs,⟨h,t⟩,⟨h',t'⟩,n,hn=>fun c' e=>by
  rcases Qe.mp hn with z|z
  ·rw[z,h.ns] at e;cases e;exact h'
  ·exact t'.all t n z c' e
end
section
variable(K:Frag)(C:Addr)
end
section
variable{K:Frag}{C:Addr}{W:XK}{ta te:TE}{t tr:TA}{ea:Ev}{xa xr ex:Xv}{wi:TI}
end
end LE

namespace LE
open PySem L2 LR
section
variable{K:Frag}{C:Addr}{W:XK}{t:TS}{et:Es}{xt:Xv}
end
end LE
namespace L2
open PySem PySem.Spec PyProof.Rows PySem.Calls LE
structure RoomH (k:Nat) (A:Around):Prop where
 dp:A.depth+3*k+5<recursionLimit
 un:A.units+16*k+200<cLine
theorem Room.h{k:Nat}{A:Around}(r:Room k A):RoomH k A:=⟨r.dp,r.un⟩
theorem RoomH.mono{j k:Nat}{A:Around}(r:RoomH k A)(h:j<=k):RoomH j A:=⟨by have:=r.dp;omega,by have:=r.un;omega⟩
theorem RoomH.deeper{k:Nat}{A:Around}(r:RoomH (k+1) A)(env:Env):RoomH k (A.deeper env) :=
 ⟨by have:=r.dp;show A.depth+1+3*k+5<_;omega,by have:=r.un;show A.units+3+16*k+200<_;omega⟩
theorem RoomH.units{k:Nat}{A:Around}(r:RoomH k A):A.units+64<cLine:=by have:=r.un;omega
structure FnH (P:Program) (w:World) (K:Frag) (mg:Str->Option Value) (base:Heap) (k:Nat) (f:Addr) (fd:FuncData) (ps:List Str) (sp:Sp):Prop where
 len:∀vs H Q E,sp vs H Q E->vs.length=ps.length
 run:∀(A:Around) (outer:List Env) (s:Shared) (H:Hp) (args:Args) (us:List Value) (vs:List V) (Q:VK) (E:XK),RoomH k A->Env0 P w K mg base A outer s H->BindsTo s fd args (ps.zip us)->Vals vs us->sp vs H Q E ->
  codeAny (model P w) A (.call (.ref f) args) (CR CX0 outer P w H s Q E) s
theorem FnH.ok{P:Program}{w:World}{K:Frag}{mg:Str->Option Value}{base:Heap}{k:Nat}{f:Addr}{fd:FuncData}{ps:List Str}{sp:Sp}(F:FnH P w K mg base k f fd ps sp):FnOk P w K mg base CX0 k f fd ps sp :=
 ⟨F.len,fun A outer s H args us vs Q E hr=>F.run A outer s H args us vs Q E hr.h⟩
structure CalH (P:Program) (w:World) (K:Frag) (mg:Str->Option Value) (base:Heap) (x:Str) (k:Nat) (ps:List Str) (sp:Sp):Prop where
 ex:∃(f:Addr) (fd:FuncData),FnH P w K mg base k f fd ps sp/\mg x=some (.ref f)/\keepIn K (.ref f)=true/\Binds K fd ps []
section
variable{X:Cx}{k:Nat}{ps:List Str}{sp:Sp}{x:Str}{p pos:Pos}{e:Expr}{es:List Expr}{t:TA}
end
end L2

namespace L2
open PySem PySem.Spec PyProof.Rows PySem.Calls LE
structure CalMX (P:Program) (w:World) (K:Frag) (mg:Str->Option Value) (base:Heap) (x:Str) (C:Addr) (k:Nat) (ps:List Str) (sp:Sp):Prop where
 ex:∃(f:Addr) (fd:FuncData),Mk K C f/\FnOk P w K mg base (CX1 P w) k f fd ps sp/\mg x=some (.ref C)/\Binds K fd ps []
section
variable{X:Cx}{k:Nat}{C:Addr}{ps:List Str}{sp:Sp}{x:Str}{p pos:Pos}{e:Expr}{es:List Expr}{t:TA}
end
end L2
namespace LE
open PySem L2 LR
section
variable(K:Frag)(C:Addr)
end
section
variable{K:Frag}{C:Addr}{W:XK}{t:TA}{ev:En->Option (List Sl)}{H0 H H2:Hp}
noncomputable def ZD(ss:List Sl):Bool:=ss.all fun s=>!Js s
theorem RRL.more{vs:List V}{ss:List Sl}(st:Same H H2):ZD ss=true->RRL K C H H0 H vs ss->RRL K C H2 H0 H2 vs ss:=fun ho r=>by
 revert ho
 induction r with
 | nil=>exact fun _=>.nil
 | @cons v s vs ss h _ ih =>
  intro ho
  have hs:Js s=false/\ZD ss=true:=by unfold ZD at ho ⊢;rw[Lb,Qn] at ho;exact⟨by simpa using ho.1,ho.2⟩
  refine .cons ?_ (ih hs.2)
  cases s with
  | no=>exact h
  | sh d=>exact h
  | bo ds=>obtain⟨l,xs,e,g,q⟩:=h;exact⟨l,xs,e,st _ _ g,q⟩
  | bd ks ds=>obtain⟨l,xs,e,g,q⟩:=h;exact⟨l,xs,e,st _ _ g,q⟩
  | bt ks ds=>obtain⟨l,xs,e,g,q⟩:=h;exact⟨l,xs,e,st _ _ g,q⟩
  | own ds=>exact absurd hs.1 (by simp[Js])
  | od ks ds=>exact absurd hs.1 (by simp[Js])
  | ot ks ds=>exact absurd hs.1 (by simp[Js])
end
end LE

namespace L2
open PySem PySem.Spec PyProof.Rows PySem.Calls
section
variable{X:Cx}
end
end L2
namespace LE
open PySem L2 LR
noncomputable def lst?:Sl->Option (List D)
 | .bo ds=>some ds
 | .own ds=>some ds
 | .sh (.lst ds)=>some ds
 | _=>none
section
variable{K:Frag}{C:Addr}{to te:TE}{eo ea:Ev}{Hs H0 H:Hp}{v:V}
theorem RR.lst{s:Sl}{ds:List D}(i:Same H0 H)(r:RR K C Hs H0 H v s)(e:lst? s=some ds):∃l xs,v=.ref l/\H l=some (.lst xs)/\RDL K C H0 xs ds:=by
 cases s with
 | bo es=>cases e;exact r
 | own es=>cases e;obtain⟨l,xs,e,h,_,_,q⟩:=r;exact⟨l,xs,e,h,q⟩
 | sh d =>
  cases d with
  | lst es=>cases e;obtain⟨l,xs,e,h,q⟩:=RD.lstI r;exact⟨l,xs,e,i _ _ h,q⟩
  | _=>cases e
 | _=>cases e
end
end LE

namespace LE
open PySem L2 LR
section
variable{K:Frag}{C:Addr}
end
end LE

namespace PySem
abbrev Jc0(h:Heap)(z TI TO a:Addr)(f:Bool):Prop :=
 h.get? z=some { cls:=.type "zip",dict:=none,data:=.fields #[rawInt a,.bool f,.bool false,.ref TI,.ref TO],slots:=#[] }
section
variable{prog:Program}{w:World}{A:Around}{E:Value->Shared->Prop}{s:Shared}{z TI TO i1 i2 a:Addr}{f:Bool}{oa:Obj}{p1 p2:List Addr}{n1 n2 k:Nat}{P1 P2:Nat->Value->Prop}{S1 S2:Nat->Heap->Prop}
end
end PySem

namespace PySem
section
variable{prog:Program}{w:World}{A:Around}{E:Value->Shared->Prop}{s:Shared}{b1 b2:Bool}{a1 a2 z TI TO i1 i2 S:Addr}{xs ys:Array Value}{i:Nat}
def LzSt(b1 b2:Bool)(a1 a2 z TI TO i1 i2 S:Addr)(xs ys:Array Value)(i:Nat)(h:Heap):Prop :=
 IsPair h TI (.ref i1) (.ref i2)/\(IsItr b1 h i1 a1 i/\IsSq b1 h a1 xs)/\(IsItr b2 h i2 a2 i/\IsSq b2 h a2 ys) ∧
 ((IsZip h z TI TO .none/\∃u v,IsPair h TO u v)\/∃a f oa,Jc0 h z TI TO a f/\h.get? a=some oa/\a≠S/\a≠z/\a≠i1/\a≠i2)
theorem IsSq.keep{b:Bool}{h h':Heap}{a:Addr}{xs:Array Value}(q:IsSq b h a xs)(k:∀o,h.get? a=some o->h'.get? a=some o):IsSq b h' a xs:=by
 cases b with
 | true=>obtain⟨o,e,r⟩:=q;exact⟨o,k o e,r⟩
 | false=>obtain⟨o,e,r⟩:=q;exact⟨o,k o e,r⟩
theorem IsItr.keep'{b:Bool}{h h':Heap}{j a:Addr}{i:Nat}(q:IsItr b h j a i)(k:∀o,h.get? j=some o->h'.get? j=some o):IsItr b h' j a i:=by
 cases b with
 | true=>obtain⟨o,e,r⟩:=q;exact⟨o,k o e,r⟩
 | false=>obtain⟨o,e,r⟩:=q;exact⟨o,k o e,r⟩
theorem LzSt.keep{h h':Heap}(x:LzSt b1 b2 a1 a2 z TI TO i1 i2 S xs ys i h)(k:∀b o,b≠S->h.get? b=some o->h'.get? b=some o)(n:S∉[z,TI,TO,i1,i2,a1,a2]):LzSt b1 b2 a1 a2 z TI TO i1 i2 S xs ys i h':=by
 simp only[Qe,QO,or_false,not_or] at n;obtain⟨n1,n2,n3,n4,n5,n6,n7⟩:=n;obtain⟨x1,x2,x3,x4⟩:=x;refine⟨k _ _ (Qy n2) x1,⟨IsItr.keep' x2.1 fun o e=>k _ o (Qy n4) e,IsSq.keep x2.2 fun o e=>k _ o (Qy n6) e⟩,⟨IsItr.keep' x3.1 fun o e=>k _ o (Qy n5) e,IsSq.keep x3.2 fun o e=>k _ o (Qy n7) e⟩,?_⟩;rcases x4 with ⟨y1,u,v,y2⟩|⟨a,f,oa,y1,y2,y3⟩
 ·exact .inl ⟨k _ _ (Qy n1) y1,u,v,k _ _ (Qy n3) y2⟩
 ·exact .inr ⟨a,f,oa,k _ _ (Qy n1) y1,k _ _ y3.1 y2,y3⟩
end
structure LzG (xs ys:Array Value) (lo:Addr) (h:Heap) (as:List Addr):Prop where
 rise:as.Pairwise (·<·)
 above:∀a∈as,lo<a
 pairs:∀(j:Nat) (a:Addr),as[j]?=some a->∃u v,xs[j]?=some u/\ys[j]?=some v/\IsPair h a u v
theorem LzG.there{xs ys:Array Value}{lo:Addr}{h:Heap}{as:List Addr}(g:LzG xs ys lo h as){a:Addr}(ha:a∈as):a<h.objs.size:=by obtain⟨j,hj⟩:=KZ.mp ha;obtain⟨_,_,_,_,e⟩:=g.pairs j a hj;exact Qf e
section
variable{prog:Program}{w:World}{A:Around}{s:Shared}{R:Result->Shared->Prop}{b1 b2:Bool}{a1 a2 z TI TO i1 i2 S:Addr}{xs ys:Array Value}
end
end PySem

namespace PySem
open PySem.Calls PyProof.Rows PyProof.V PySem.Spec
section
variable{prog:Program}{w:World}{A:Around}{E:Value->Shared->Prop}{s:Shared}{b1 b2:Bool}{a1 a2 z TI TO i1 i2:Addr}{xs ys:Array Value}
end
end PySem

namespace L2
open PySem PySem.Spec PyProof.Rows
end L2

namespace LE
open PySem L2 LR
section
variable{K:Frag}{C:Addr}
end
end LE

namespace L2
open PySem PySem.Spec PyProof.Rows
section
variable{X:Cx}{pins:List (Addr×Obj)}{σ:St}{H:Hp}{s:Shared}{a:Addr}{kvs:List (Key×V)}{k:Key}{z:V}{u r:Value}{A:Around}{E:Value->Shared->Prop}
end
section
variable{X:Cx}{o e f:Expr}{apos cpos:Pos}{td ty tx:TE}
end
end L2
namespace LE
open PySem L2 LR
section
variable(K:Frag)(C:Addr)(j:Nat)
noncomputable def Left(σ:St)(E:En)(σ':St)(E':En):Prop:=σ'[j]?=σ[j]?/\∀(i:Nat) (s:Sl),E'[i]?=some s->Js s=true->E[i]?=some s/\σ'[i]?=σ[i]?
end
section
variable{K:Frag}{C:Addr}{j:Nat}
theorem Left.refl(σ:St)(E:En):Left j σ E σ E:=⟨rfl,fun _ _ e _=>⟨e,rfl⟩⟩
theorem Left.trans{σ σ1 σ2:St}{E E1 E2:En}(a:Left j σ E σ1 E1)(b:Left j σ1 E1 σ2 E2):Left j σ E σ2 E2 :=
 ⟨b.1.trans a.1,fun i s e o=>by obtain⟨h1,h2⟩:=b.2 i s e o;obtain⟨h3,h4⟩:=a.2 i s h1 o;exact⟨h3,h2.trans h4⟩⟩
end
end LE

namespace LE
open PySem L2 LR
section
variable(K:Frag)(C:Addr)
structure Grp (B H0 H:Hp) (σ:St) (E:En) (j c:Nat) (ks:List Int) (dss:List (List D)) (l:Addr) (ls:List Addr):Prop where
 at':σ[j]?=some (some (.ref l))
 dict:H l=some (dkO ks (ls.map V.ref))
 l0:H0 l=none
 lb:B l=none
 len:ks.length=ls.length
 len2:dss.length=ls.length
 cnt:ks.length<=c
 lists:∀(m:Nat) (a:Addr) (ds:List D),ls[m]?=some a->dss[m]?=some ds->ds.length<=c/\∃xs,H a=some (.lst xs)/\H0 a=none/\B a=none/\RDL K C H0 xs ds
 nd:(l::ls).Nodup
 own:∀(i:Nat) (s:Sl) (a:Addr),E[i]?=some s->Js s=true->σ[i]?=some (some (.ref a))->a∉l::ls
end
section
variable{K:Frag}{C:Addr}{B H0 H H0' H':Hp}{σ σ':St}{E E':En}{j c:Nat}{ks:List Int}{dss:List (List D)}{l:Addr}{ls:List Addr}
theorem Grp.there(g:Grp K C B H0 H σ E j c ks dss l ls){a:Addr}(ha:a∈l::ls):∃o,H a=some o/\isT o=false/\H0 a=none/\B a=none:=by
 rcases Qe.mp ha with z|z
 ·subst z;exact⟨_,g.dict,rfl,g.l0,g.lb⟩
 ·obtain⟨m,hm⟩:=KZ.mp z;have hl:m<dss.length:=by rw[g.len2];exact(Qi.mp hm).1
  obtain⟨_,xs,h1,h2,h3,_⟩:=g.lists m a dss[m] hm (QU hl);exact⟨_,h1,rfl,h2,h3⟩
theorem Grp.off(g:Grp K C B H0 H σ E j c ks dss l ls)(st:Step H H0 H H0' H'){a:Addr}(ha:a∈l::ls):H0' a=none:=by
 obtain⟨o,h1,h2,h3,_⟩:=g.there ha
 cases z:H0' a with
 | none=>rfl
 | some u =>
  rcases st.n a u z with y|y|y
  ·rw[h3] at y;cases y
  ·rw[h1] at y;cases y
  ·have:=st.i a u z;rw[st.h a o h1] at this;cases this;rw[h2] at y;cases y
theorem Grp.step(g:Grp K C B H0 H σ E j c ks dss l ls)(st:Step H H0 H H0' H'):Grp K C B H0' H' σ E j c ks dss l ls :=
 ⟨g.at',st.h _ _ g.dict,g.off st Qj,g.lb,g.len,g.len2,g.cnt,fun m a ds e1 e2=>by obtain⟨h0,xs,h1,h2,h3,h4⟩:=g.lists m a ds e1 e2;exact⟨h0,xs,st.h _ _ h1,g.off st (Qh _ (QL e1)),h3,h4.mono st.z⟩,g.nd,g.own⟩
theorem Grp.left(g:Grp K C B H0 H σ E j c ks dss l ls)(f:Left j σ E σ' E'):Grp K C B H0 H σ' E' j c ks dss l ls :=
 ⟨f.1.trans g.at',g.dict,g.l0,g.lb,g.len,g.len2,g.cnt,g.lists,g.nd,fun i s a e o q=>by obtain⟨h1,h2⟩:=f.2 i s e o;exact g.own i s a h1 o (by rw[<- h2];exact q)⟩
theorem Grp.free(g:Grp K C B H0 H σ E j c ks dss l ls){a:Addr}(ha:a∈l::ls):∀(i:Nat) (s:Sl),E[i]?=some s->Js s=true->σ[i]?≠some (some (.ref a)):=fun i s e o q=>g.own i s a e o q ha
theorem EnvR.fresh(I:EnvR K C B H0 H σ E){p:Addr}(hp:H p=none):∀(i:Nat) (s:Sl),E[i]?=some s->Js s=true->σ[i]?≠some (some (.ref p)):=fun i s e o q=>by
 rcases I.at' i s e with z|⟨v,q1,q2⟩
 ·subst z;cases o
 ·rw[q1] at q;cases q
  cases s with
  | own es=>obtain⟨l',ys,p1,p2,_⟩:=q2;cases p1;rw[hp] at p2;cases p2
  | od ks es=>obtain⟨l',ys,p1,p2,_⟩:=q2;cases p1;rw[hp] at p2;cases p2
  | ot ks es=>obtain⟨l',ys,p1,p2,_⟩:=q2;cases p1;rw[hp] at p2;cases p2
  | _=>cases o
end
end LE

namespace LE
open PySem L2 LR
section
variable{K:Frag}{C:Addr}{B H0 H H0' H':Hp}{σ σ':St}{E E':En}{j c:Nat}{ks:List Int}{dss:List (List D)}{l:Addr}{ls:List Addr}
noncomputable def W6(H0 H:Hp)(ls:List Addr):Hp:=fun a=>if a∈ls then H a else H0 a
theorem UV{Hz:Hp}:∀{ls:List Addr} {dss:List (List D)},dss.length=ls.length->(∀(m:Nat) (a:Addr) (ds:List D),ls[m]?=some a->dss[m]?=some ds->∃xs,Hz a=some (.lst xs)/\RDL K C Hz xs ds)->RDL K C Hz (ls.map V.ref) (dss.map .lst)
 | [],[],_,_=>.nil
 | [],_::_,h,_=>by simp at h
 | _::_,[],h,_=>by simp at h
 | a::ls,ds::dss,h,f=>by obtain⟨xs,h1,h2⟩:=f 0 a ds rfl rfl;exact .cons (.mkL h1 h2) (UV (by simpa using h) fun m a ds e1 e2=>f (m+1) a ds (by simpa using e1) (by simpa using e2))
theorem Grp.done(I:EnvR K C B H0 H σ E)(g:Grp K C B H0 H σ E j c ks dss l ls)(hj:j<E.length):SStep B H0 (W6 H0 H ls) H/\EnvR K C B (W6 H0 H ls) H σ (E.set j (.od ks (dss.map .lst))):=by
 have out:∀{a:Addr},a∉ls->W6 H0 H ls a=H0 a:=fun {a} h=>if_neg h
 have inn:∀{a:Addr},a∈ls->W6 H0 H ls a=H a:=fun {a} h=>if_pos h
 have z:Same H0 (W6 H0 H ls):=fun a o e=>by
  by_cases c:a∈ls
  ·rw[inn c];exact I.h a o e
  ·rw[out c];exact e
 have i:Same (W6 H0 H ls) H:=fun a o e=>by
  by_cases c:a∈ls
  ·rw[inn c] at e;exact e
  ·rw[out c] at e;exact I.h a o e
 have ln:l∉ls:=(Gh.mp g.nd).1;refine⟨⟨I.b,z,fun a o e=>?_,i⟩,I.b,i,by simp[I.len],fun k s e=>?_,fun k m s t v hkm e1 e2 o1 o2 e3 e4=>?_⟩
 ·by_cases c:a∈ls
  ·exact .inr (.inl (g.there (Qh _ c)).choose_spec.2.2.2)
  ·rw[out c] at e;exact .inl e
 ·rw[QF] at e
  by_cases c:j=k
  ·subst c;rw[if_pos rfl,if_pos hj] at e;have e':=Qr e;subst e';refine .inr ⟨_,g.at',l,ls.map V.ref,rfl,g.dict,by rw[out ln];exact g.l0,g.lb,by rw[Qx,g.len2];exact g.len,UV g.len2 fun m a ds q1 q2=>?_⟩;obtain⟨_,xs,h1,_,_,h4⟩:=g.lists m a ds q1 q2;exact⟨xs,by rw[inn (QL q1)];exact h1,h4.mono z⟩
  ·rw[if_neg c] at e;rcases I.at' k s e with y|⟨v,q1,q2⟩
   ·exact .inl y
   ·refine .inr ⟨v,q1,?_⟩
    cases s with
    | no=>trivial
    | sh d=>exact RD.mono z q2
    | bo es=>obtain⟨l',ys,p1,p2,p3⟩:=q2;exact⟨l',ys,p1,p2,p3.mono z⟩
    | bd ks es=>obtain⟨l',ys,p1,p2,p3,p4⟩:=q2;exact⟨l',ys,p1,p2,p3,p4.mono z⟩
    | bt ks es=>obtain⟨l',ys,p1,p2,p3,p4⟩:=q2;exact⟨l',ys,p1,p2,p3,p4.mono z⟩
    | own es=>obtain⟨l',ys,p1,p2,p3,p4,p5⟩:=q2;subst p1;have:=g.own k _ l' e rfl q1;exact⟨l',ys,rfl,p2,by rw[out fun m=>this (Qh _ m)];exact p3,p4,p5.mono z⟩
    | od ks es=>obtain⟨l',ys,p1,p2,p3,p4,p5,p6⟩:=q2;subst p1;have:=g.own k _ l' e rfl q1;exact⟨l',ys,rfl,p2,by rw[out fun m=>this (Qh _ m)];exact p3,p4,p5,p6.mono z⟩
    | ot ks es=>obtain⟨l',ys,p1,p2,p3,p4,p5,p6⟩:=q2;subst p1;have:=g.own k _ l' e rfl q1;exact⟨l',ys,rfl,p2,by rw[out fun m=>this (Qh _ m)];exact p3,p4,p5,p6.mono z⟩
 ·have get:∀(i:Nat) (s:Sl),(E.set j (Sl.od ks (dss.map .lst)))[i]?=some s->i=j\/(i≠j/\E[i]?=some s):=fun i s e=>by
   rw[QF] at e
   by_cases c:j=i
   ·exact .inl c.symm
   ·rw[if_neg c] at e;exact .inr ⟨fun z=>c z.symm,e⟩
  rcases get k s e1 with y1|⟨n1,y1⟩
  ·subst y1;rcases get m t e2 with y2|⟨n2,y2⟩
   ·exact hkm y2.symm
   ·rw[g.at'] at e3;have e3':=Qr (Qr e3);subst e3';exact g.own m t l y2 o2 e4 Qj
  ·rcases get m t e2 with y2|⟨n2,y2⟩
   ·subst y2;rw[g.at'] at e4;have e4':=Qr (Qr e4);subst e4';exact g.own k s l y1 o1 e3 Qj
   ·exact I.sep k m s t v hkm y1 y2 o1 o2 e3 e4
end
end LE

namespace L2
open PySem PySem.Spec PyProof.Rows
section
open PySem.SeqAt
open PySem.AutoSeq1 (wpAny_loadPart')
open PySem.MeetsSeq PySem.MeetsSeq2 PySem.MeetsSeq3
end
section
variable{prog:Program}{w:World}{A:Around}{E:Value->Shared->Prop}{s:Shared}
end
end L2
namespace LE
open PySem L2 LR
section
variable{K:Frag}{C:Addr}
end
end LE

namespace L2
open PySem PySem.Spec PyProof.Rows
section
open PySem.SeqAt
open PySem.AutoSeq1 (wpAny_loadPart')
open PySem.MeetsSeq PySem.MeetsSeq2 PySem.MeetsSeq3
end
section
variable{prog:Program}{w:World}{A:Around}{E:Value->Shared->Prop}{s:Shared}
end
end L2
namespace LE
open PySem L2 LR
section
variable{K:Frag}{C:Addr}
end
end LE

namespace L2
open PySem PySem.Spec PyProof.Rows
noncomputable def Jfe(i j:Int):Prop:=i.natAbs<=10 ^ 200/\j.natAbs<=10 ^ 200
theorem Wl{i:Int}(h:i.natAbs<=10 ^ 200):K9 i<=2 ^ 20:=by
 unfold K9;split
 ·exact Gr _
 ·next hz =>
  have h0:i.natAbs≠0:=fun z=>hz (by simp;omega)
  have h1:i.natAbs.log2<1000:=by rw[Nat.log2_lt h0];exact Nat.lt_of_le_of_lt h (by decide +kernel)
  have:(1000:Nat)<=2 ^ 20:=by decide +kernel
  omega
end L2
namespace LE
open PySem L2 LR
noncomputable def YU(a:Int):Bool:=Kq a.natAbs (10 ^ 200)
section
variable{K:Frag}{C:Addr}
end
end LE

namespace LE
open PySem L2 LR
section
variable{K:Frag}{C:Addr}{W:XK}{t:TA}{ev:En->Option (List Sl)}{ts us:TS}{x:Xv}{H:Hp}
end
end LE

namespace PySem
open PySem.Calls PyProof.Rows PyProof.V PySem.Spec
section
variable{prog:Program}{w:World}{A:Around}{E:Value->Shared->Prop}{s:Shared}{r a:Addr}{xs:Array Value}{n:Nat}
end
end PySem
namespace L2
open PySem PySem.Spec PyProof.Rows
end L2
namespace LE
open PySem L2 LR
section
variable{K:Frag}{C:Addr}
end
end LE

namespace L2
open PySem PySem.Spec PyProof.Rows PySem.Calls
section
variable{X:Cx}
end
end L2
namespace L2
open PySem PySem.Spec PyProof.Rows PySem.Calls
section
variable{X:Cx}{es:List Expr}{t:TA}{x:Str}{j:Nat}{p:Pos}
structure PSi (X:Cx) (st:Stmt) (ts:TS):Prop where
 out:PS X st ts
structure PSsi (X:Cx) (ss:List Stmt) (ts:TS):Prop where
 out:PSs X ss ts
end
end L2

namespace LE
open PySem L2 LR
noncomputable def Jfl(ys:List Str)(r:En->Option (List Sl)):En->Option (List Sl):=fun E=>(r E).map fun ss=>ys.map (fun y=>.sh (.str y))++ss
section
variable{K:Frag}{C:Addr}{te:TE}{ea:Ev}{tl th:TO}{el eh:Option Ev}{m:Bool}
end
end LE

namespace L2
open PySem PySem.Spec PyProof.Rows PySem.Calls
noncomputable def WG:V->List V->Hp->VK->Prop:=fun x vs H Q=>∃(l:Addr) (ns:List Int) (b:Int),x=.ref l/\vs=[.int b]/\H l=some (.lst (ns.map V.int))/\Q (.int (ns.count b:Nat)) H
theorem Y4(b:Int):∀{vs:List Value} {ns:List Int},IntsAre vs ns->vs.countP (isInt b)=ns.count b
 | _,_,.nil=>rfl
 | _,_,.cons n t h=>by rw[List.countP_cons,Y4 b h,List.count_cons];rfl
section
variable{X:Cx}
theorem Zk:MtR X "list.count" WG:=by
 intro pins s σ H x vs v us Q I rx rv h;obtain⟨l,ns,b,rfl,rfl,hH,q⟩:=h;cases rx;obtain⟨u,rfl,hu⟩:=rv.one;obtain⟨t,rfl⟩:=hu;obtain⟨z,its,n,r,hl,e⟩:=I.lstM hH;have ia:=Yz r;refine call_meets F.slot_list_count ⟨_,e,rfl⟩ F.entry_list_count (F.args_list_count_2 _ _) (MeetsSeq.list_count l its.toArray n (.int b t) (isInt b) (fun y hy=>eq_isInt b t ia y (by simpa using hy))) ⟨e,?_⟩;refine⟨.int (ns.count b:Nat),H,I.tok _,⟨s.toks,?_⟩,q⟩;show Value.int ((its.countP (isInt b):Nat):Int) s.toks=_
 rw[Y4 b ia]
end
end L2
namespace LE
open PySem L2 LR
noncomputable def eMI(f:List Int->Int->Option Int)(o a:Ev):Ev:=fun E=>(o E).bind fun s=>(lst? s).bind fun ds=>(ints? ds).bind fun ns=>(a E).bind fun y=>(int? y).bind fun b=>(f ns b).map fun i=>.sh (.int i)
noncomputable def Wr(ns:List Int)(b:Int):Option Int:=some (ns.count b:Nat)
section
variable{K:Frag}{C:Addr}{to te:TE}{eo ea:Ev}{Hs H0 H:Hp}{v:V}
theorem Jg7{rm:V->List V->Hp->VK->Prop}{f:List Int->Int->Option Int}(hm:∀(l:Addr) (ns:List Int) (b:Int) (i:Int) (H:Hp) (Q:VK),H l=some (.lst (ns.map V.int))->f ns b=some i->Q (.int i) H->rm (.ref l) [.int b] H Q)
 (ho:SE K C to eo) (ha:SE K C te ea):SE K C (tBM K "list" rm to (YT te VY)) (eMI f eo ea):=by
 intro B H0 H σ E r Q I e q;obtain⟨s,e1,e⟩:=bind_some e;obtain⟨ds,e2,e⟩:=bind_some e;obtain⟨ns,e3,e⟩:=bind_some e;obtain⟨y,e4,e⟩:=bind_some e;obtain⟨b,e5,e⟩:=bind_some e;obtain⟨i,e6,rfl⟩:=map_some e;refine ho B H0 H σ E s _ I e1 fun x H1 H1' s1 r1=>?_
 obtain⟨l,xs,rfl,hl,rl⟩:=r1.lst s1.i e2;refine⟨.inl ⟨rfl,_,.of hl⟩,?_⟩;refine ha B H1 H1' σ E y _ (I.step s1) e4 fun u H2 H2' s2 r2=>?_
 rw[Jah e5] at r2;cases RD.intI r2;rw[Yt e3] at rl;have hx:=RDL.ints rl;subst hx;exact hm l ns b i H2' Q (s2.h _ _ hl) e6 (q _ _ _ (s1.trans s2) (RD.int i))
theorem JaM(ho:SE K C to eo)(ha:SE K C te ea):SE K C (tBM K "list" WG to (YT te VY)) (eMI Wr eo ea) :=
 Jg7 (fun l ns b i H Q h e q=>by cases e;exact⟨l,ns,b,rfl,rfl,h,q⟩) ho ha
end
end LE

namespace L2
open PySem PySem.Spec PyProof.Rows PySem.Calls
section
variable{X:Cx}
end
end L2
namespace LE
open PySem L2 LR
section
variable{K:Frag}{C:Addr}
end
end LE

namespace PySem
open AutoSeq1 (wpAny_loadPart')
section
variable{prog:Program}{w:World}{A:Around}{E:Value->Shared->Prop}{s:Shared}
end
section
variable{prog:Program}{w:World}{A:Around}{E:Value->Shared->Prop}{s:Shared}
end
section
variable{prog:Program}{w:World}{A:Around}{E:Value->Shared->Prop}{s:Shared}{b:Bool}{a e it:Addr}{xs:Array Value}
end
end PySem
namespace L2
open PySem PySem.Spec PyProof.Rows
end L2
namespace LE
open PySem L2 LR
section
variable{K:Frag}{C:Addr}{m:Bool}
end
end LE

namespace L2
open PySem PySem.Spec PyProof.Rows PySem.Calls
section
variable{X:Cx}{K:Frag}{e:Expr}{te:TE}{p2 pos:Pos}
end
end L2
namespace LE
open PySem L2 LR
section
variable{K:Frag}{C:Addr}{te:TE}{ea:Ev}
end
end LE

namespace LE
open PySem L2 LR
section
variable{K:Frag}{C:Addr}
end
end LE

namespace L2
open PySem PySem.Spec PyProof.Rows
structure Blk1 (X:Cx) (sc:Scope) (cl:List (Str×Addr)) (y:Str) (N':List Str) (imp:List (Option Nat)):Prop where
 clos:closureFor sc X.env=pure cl
 kind:sc.kind=.function
 cf:∀n,cellsFrom n sc.names cl=(y,n)::cl
 cf0:∀n,cellsFrom n sc.names []=[(y,n)]
 names:∀y∈sc.names,y.2=.local->sc.names.lookup y.1=some .local
 sub:∀p∈cl,X.env.cells.lookup p.1=some p.2
 has:∀z∈(relabel sc X.env).names,(z.2=.cell\/z.2=.free)->z.1=y\/(cl.lookup z.1).isSome=true
 len:imp.length=N'.length
 im:∀p∈imp.zip N',∀k,p.1=some k->p.2≠y/\X.N[k]?=some p.2/\(X.env.scope.names.lookup p.2=some .cell\/X.env.scope.names.lookup p.2=some .free)/\((relabel sc X.env).names.lookup p.2=some .cell\/(relabel sc X.env).names.lookup p.2=some .free)
section
variable{X:Cx}{tg iter elt:Expr}{ifs:List Expr}{sc:Scope}{cl:List (Str×Addr)}{y:Str}{N':List Str}{imp:List (Option Nat)}{pos:Pos}{wi:TI}{g:TG}{tt:TT}{te:TE}
theorem Blk1.subL(B:Blk1 X sc cl y N' imp):∀x c,cl.lookup x=some c->X.env.cells.lookup x=some c:=fun x c e=>B.sub (x,c) (Yh e)
end
end L2

namespace L2
open PySem PySem.W PyProof.Rows
structure Pm (p:Array Nat) (N:Nat):Prop where
 size:p.size=N
 low:∀a,a<N->p.getD a 0<N
 inj:∀a b,a<N->b<N->p.getD a 0=p.getD b 0->a=b
theorem JdU{l:List Nat}(nd:l.Nodup){a b:Nat}(h1:a<l.length)(h2:b<l.length)(e:l[a]=l[b]):a=b:=by
 rcases Nat.lt_trichotomy a b with c|c|c
 ·exact absurd e (GD.mp nd a b h1 h2 c)
 ·exact c
 ·exact absurd e.symm (GD.mp nd b a h2 h1 c)
theorem Pm.of{p:Array Nat}{N:Nat}(h:p.toList.Perm (Gs N)):Pm p N:=by
 have hz:p.size=N:=by have:=h.length_eq;simpa using this
 have get:∀a,a<N->p.toList[a]?=some (p.getD a 0):=fun a ha=>by rw[Gg,Q0 (by omega)];simp[Lf,show a<p.size by omega]
 refine⟨hz,fun a ha=>?_,fun a b ha hb e=>?_⟩
 ·have:=h.mem_iff.mp (QL (get a ha))
  simpa using this
 ·have nd:p.toList.Nodup:=h.nodup_iff.mpr List.nodup_range
  have ga:=get a ha
  have gb:=get b hb;rw[e] at ga;obtain⟨h1,e1⟩:=Qi.mp ga;obtain⟨h2,e2⟩:=Qi.mp gb;exact JdU nd h1 h2 (e1.trans e2.symm)
section
variable{N:Nat}{lt:Nat->Nat->Bool}{cmp:Nat->Nat->(Bool->Shared->Prop)->Shared->Prop}{I:Shared->Prop}
end
end L2

namespace L2
open PySem PySem.W PyProof.Rows
section
variable{prog:Program}{w:World}{A:Around}{E:Value->Shared->Prop}{s:Shared}
end
end L2

namespace L2
open PySem PySem.W PyProof.Rows
noncomputable abbrev PrI:=Int×Int
noncomputable def TupP(h:Heap)(v:Value)(p:PrI):Prop:=∃a o n t u,v=.ref a/\h.get? a=some o/\o.cls=.type "tuple"/\o.data=.seq #[.int p.1 t,.int p.2 u] n
section
variable{prog:Program}{w:World}{A:Around}{E:Value->Shared->Prop}{s:Shared}
theorem TupP.off{h h1:Heap}{a:Addr}{vs:Array Value}{n:Nat}{v:Value}{p:PrI}(ho:h.get? a=some (seqObj "list" vs n))(keep:∀b ob,b≠a->h.get? b=some ob->h1.get? b=some ob)(t:TupP h v p):TupP h1 v p:=by obtain⟨b,o,m,t,u,rfl,hb,hc,hd⟩:=t;refine⟨b,o,m,t,u,rfl,keep b o (fun e=>?_) hb,hc,hd⟩;subst e;rw[ho] at hb;cases hb;have z:(Value.type "list":Value)=.type "tuple":=hc;exact absurd z (by decide)
end
end L2

namespace L2
open PySem PySem.Spec PySem.W PyProof.Rows
section
variable{prog:Program}{w:World}{A:Around}{E:Value->Shared->Prop}{s:Shared}
end
section
variable{X:Cx}
end
end L2

namespace L2
open PySem PySem.Spec PySem.W PyProof.Rows
noncomputable def RawD(h:Heap)(d:Addr)(es:Array DictEntry)(ep:Nat):Prop:=∃o,h.get? d=some o/\o.ExactDict/\o.data=.dict es ep
section
variable{prog:Program}{w:World}{A:Around}{E:Value->Shared->Prop}{s:Shared}{it d v:Addr}{i ep:Nat}{es:Array DictEntry}
theorem RawD.at{h h':Heap}(x:RawD h d es ep)(e:∀o,h.get? d=some o->h'.get? d=some o):RawD h' d es ep:=let ⟨o,ho,r⟩:=x;⟨o,e _ ho,r⟩
theorem RawD.lt{h:Heap}(x:RawD h d es ep):d<h.objs.size:=let ⟨_,ho,_⟩:=x;Qf ho
end
end L2

namespace L2
open PySem PySem.Spec PySem.W PyProof.Rows
noncomputable abbrev pk(p:PrI):List Key:=LE.dtK p
theorem KT.get{H:Hp}:∀{kvs:List (List Key×V)} {xs:List (List Key×Addr×Value)},KT H kvs xs->kvs.length=xs.length/\∀(i:Nat) (k:List Key×V) (x:List Key×Addr×Value),kvs[i]?=some k->xs[i]?=some x->k.1=x.1/\H x.2.1=some (.tup (k.1.map kV))
 | _,_,.nil=>⟨rfl,fun i k x e=>by simp at e⟩
 | _,_,.cons h t=>by
  obtain⟨h1,h2⟩:=KT.get t;refine⟨by simp[h1],fun i k x e1 e2=>?_⟩
  cases i with
  | zero=>simp at e1 e2;subst e1 e2;exact⟨h.1,h.2.1⟩
  | succ i=>exact h2 i k x (by simpa using e1) (by simpa using e2)
end L2

namespace L2
open PySem PySem.Spec PySem.W PyProof.Rows
end L2
namespace LE
open PySem L2 LR
section
variable{K:Frag}{C:Addr}{Hs H0 H:Hp}
end
noncomputable def Sl.dt:Sl->Option (List (Int×Int)×List D)
 | .bt ks ds=>some (ks,ds)
 | .ot ks ds=>some (ks,ds)
 | _=>none
noncomputable def pr?:Sl->Option (Int×Int)
 | .sh (.tup [.int a,.int b])=>some (a,b)
 | _=>none
section
variable{K:Frag}{C:Addr}{Hs H0 H:Hp}{td ty te tk1 tk2:TE}{ed ek ea k1 k2:Ev}
theorem RR.dt{v:V}{s:Sl}{p:List (Int×Int)×List D}(r:RR K C Hs H0 H v s)(e:s.dt=some p):∃l xs,v=.ref l/\H l=some (dtO p.1 xs)/\p.1.length=p.2.length/\RDL K C H0 xs p.2:=by
 cases s with
 | bt ks ds=>cases e;exact r
 | ot ks ds=>cases e;obtain⟨l,xs,h1,h2,_,_,h3⟩:=r;exact⟨l,xs,h1,h2,h3⟩
 | _=>cases e
noncomputable def JfC:List Sl->Option (Int×Int)
 | [.sh (.int a),.sh (.int b)]=>some (a,b)
 | _=>none
end
end LE

namespace LE
open PySem L2 LR
section
variable{K:Frag}{C:Addr}
theorem RDL.eraseIdx{H:Hp}:∀{xs:List V} {ds:List D} (k:Nat),RDL K C H xs ds->RDL K C H (xs.eraseIdx k) (ds.eraseIdx k)
 | [],[],_,h=>by simpa using h
 | [],_::_,_,h=>by have:=h.1;simp at this
 | _::_,[],_,h=>by have:=h.1;simp at this
 | x::xs,d::ds,0,h=>by simpa using h.tail
 | x::xs,d::ds,k+1,h=>by rw[KC,KC];exact .cons h.head (RDL.eraseIdx k h.tail)
end
end LE

namespace LE
open PySem L2 LR
section
variable{X:Cx}
end
section
variable{K:Frag}{C:Addr}
end
end LE

namespace L2
open PySem
noncomputable def Ris(xs:Array Nat):Prop:=xs.toList.Pairwise (·<·)
theorem Ris.lt{xs:Array Nat}(r:Ris xs){i j:Nat}(h:i<j)(hj:j<xs.size):xs[i]'(by omega)<xs[j]:=by
 have:=GD.mp r i j (by simp;omega) (by simpa using hj) h
 simpa using this
theorem V2{xs:Array Nat}(r:Ris xs)(j:Nat):∀(fuel lo hi:Nat),hi-lo<=fuel->lo<=hi->hi<=xs.size->(∀i,(h:i<xs.size)->i<lo->xs[i]<j)->(∀i,(h:i<xs.size)->hi<=i->j<=xs[i]) ->
 ∃p,Lh xs j fuel lo hi=p/\p<=xs.size/\(∀i,(h:i<xs.size)->i<p->xs[i]<j)/\∀i,(h:i<xs.size)->p<=i->j<=xs[i]
 | 0,lo,hi,hf,h1,h2,ha,hb=>⟨lo,rfl,by omega,ha,fun i hi' hp=>hb i hi' (by omega)⟩
 | fuel+1,lo,hi,hf,h1,h2,ha,hb=>by
  unfold Lh
  by_cases c:lo<hi
  ·rw[if_pos c];have hm:(lo+hi) / 2<xs.size:=by omega
   have e:xs.getD ((lo+hi) / 2) j=xs[(lo+hi) / 2]:=by simp[Lf,hm]
   dsimp only;rw[e]
   by_cases d:xs[(lo+hi) / 2]<j
   ·rw[if_pos d];refine V2 r j fuel _ _ (by omega) (by omega) h2 (fun i h hi'=>?_) hb;rcases KR i ((lo+hi) / 2) with q|q
    ·exact KO (r.lt q hm) d
    ·have:i=(lo+hi) / 2:=by omega
     subst this;exact d
   ·rw[if_neg d];refine V2 r j fuel _ _ (by omega) (by omega) (by omega) ha (fun i h hi'=>?_);rcases KR ((lo+hi) / 2) i with q|q
    ·exact QA (KQ.mp d) (GB (r.lt q h))
    ·have:i=(lo+hi) / 2:=by omega
     subst this;exact KQ.mp d
  ·rw[if_neg c];exact⟨lo,rfl,by omega,ha,fun i hi' hp=>hb i hi' (by omega)⟩
theorem bel{xs:Array Nat}(r:Ris xs)(j:Nat):Qv xs j<=xs.size/\(∀i,(h:i<xs.size)->i<Qv xs j->xs[i]<j)/\∀i,(h:i<xs.size)->Qv xs j<=i->j<=xs[i]:=by obtain⟨p,e,h1,h2,h3⟩:=V2 r j xs.size 0 xs.size (by omega) (by omega) (Qm _) (fun i _ h=>by omega) (fun i h h'=>by omega);have e':Qv xs j=p:=e;rw[e'];exact⟨h1,h2,h3⟩
theorem ZH{xs:Array Nat}(r:Ris xs){i:Nat}(hi:i<xs.size):Qv xs (xs[i]+1)=i+1:=by
 obtain⟨h1,h2,h3⟩:=bel r (xs[i]+1);rcases Nat.lt_trichotomy (Qv xs (xs[i]+1)) (i+1) with c|c|c
 ·have:=h3 i hi (by omega);omega
 ·exact c
 ·have l:i+1<xs.size:=by omega
  have:=h2 (i+1) l c
  have:=r.lt (i:=i) (j:=i+1) (QM i) l;omega
theorem ZI{xs:Array Nat}(r:Ris xs):Qv xs 0=0:=by
 obtain⟨h1,h2,h3⟩:=bel r 0;rcases Nat.eq_zero_or_pos (Qv xs 0) with c|c
 ·exact c
 ·have:=h2 0 (by omega) c;omega
theorem Jci{xs:Array Nat}(r:Ris xs){j:Nat}(no:xs[Qv xs j]?≠some j):Ris (SetTable.insertAt xs (Qv xs j) j):=by
 obtain⟨h1,h2,h3⟩:=bel r j;unfold Ris;rw[SetTable.toList_insertAt];have r':=r;unfold Ris at r';rw[<- List.take_append_drop (Qv xs j) xs.toList] at r';obtain⟨ra,rb,rc⟩:=K3.mp r'
 have low:∀x∈xs.toList.take (Qv xs j),x<j:=fun x hx=>by obtain⟨i,hi,e⟩:=G7.mp hx;rw[List.length_take,Qw] at hi;rw[List.getElem_take,K4] at e;rw[<- e];exact h2 i (by omega) (by omega)
 have high:∀x∈xs.toList.drop (Qv xs j),j<x:=fun x hx=>by
  obtain⟨i,hi,e⟩:=G7.mp hx;rw[List.length_drop,Qw] at hi;rw[List.getElem_drop,K4] at e;have g:=h3 (Qv xs j+i) (by omega) (by omega);rw[e] at g;rcases KR j x with q|q
  ·exact q
  ·exfalso
   have ex:x=j:=by omega
   apply no
   have b0:Qv xs j<xs.size:=by omega
   rw[Q0 b0];have g0:=h3 (Qv xs j) b0 (Qm _);rcases Nat.eq_zero_or_pos i with z|z
   ·subst z;simp only[Nat.add_zero] at e;rw[e,ex]
   ·have:=r.lt (i:=Qv xs j) (j:=Qv xs j+i) (by omega) (by omega);rw[e] at this;omega
 refine K3.mpr ⟨ra,QH.mpr ⟨high,rb⟩,fun a ha b hb=>?_⟩;rcases Qe.mp hb with e|e
 ·rw[e];exact low a ha
 ·exact rc a ha b e
noncomputable def Vac(t:SetTable)(j:Nat):Prop:=t.place[Qv t.place j]?≠some j
theorem VW{t:SetTable}{j:Nat}(h:∀i,t.slot j≠.live i):Vac t j:=by intro e;refine h (Qv t.place j) ?_;unfold SetTable.slot;dsimp only;rw[e];simp
theorem UG(t:SetTable)(p:SetTable.Probe):(t.advance p).dummy=p.dummy:=by unfold SetTable.advance;split <;> rfl
theorem Y3{t:SetTable}{hashAt:Nat->Int}{h:Int}:∀(fuel:Nat) (p:SetTable.Probe) {j:Nat} {d:Option Nat},(∀x,p.dummy=some x->Vac t x)->Kr t hashAt h fuel p=some (.empty j d)->Vac t j/\∀x,d=some x->Vac t x
 | 0,p,j,d,hp,e=>by simp[Kr] at e
 | fuel+1,p,j,d,hp,e=>by
  unfold Kr at e;split at e
  ·rename_i c
   injection e with e
   injection e with e1 e2
   subst e1 e2;exact⟨VW fun i q=>(by rw[c] at q;cases q),hp⟩
  ·rename_i c;refine Y3 fuel _ (fun x hx=>?_) e;rw[UG] at hx
   injection hx with hx
   subst hx;exact VW fun i q=>by rw[c] at q;cases q
  ·split at e
   ·injection e with e;cases e
   ·exact Y3 fuel _ (fun x hx=>hp x (by rwa [UG] at hx)) e
theorem Jac{t:SetTable}{h:Int}{j:Nat}{b:Bool}(e:t.freeSlot h=some (j,b)):Vac t j:=by
 unfold SetTable.freeSlot at e;split at e
 ·rename_i j' d c
  injection e with e
  injection e with e1 _
  unfold SetTable.probe at c;obtain⟨a1,a2⟩:=Y3 _ _ (fun x hx=>by simp[SetTable.probeStart] at hx) c
  cases d with
  | none=>simp at e1;subst e1;exact a1
  | some x=>simp at e1;subst e1;exact a2 _ rfl
 ·cases e
noncomputable def TOk(led:Bool)(t:SetTable):Prop:=(t.plain=true->Ris t.place)/\t.led=led
theorem Yw(led:Bool)(t:SetTable)(n:Nat)(h:t.led=led):TOk led (t.standIn n):=⟨fun e=>by simp[SetTable.standIn] at e,h⟩
theorem Ja2{led:Bool}{t:SetTable}(h:TOk led t):TOk led { t with plain:=false }:=⟨fun e=>by simp at e,h.2⟩
theorem Jcx{led:Bool}{t:SetTable}(h:TOk led t)(es:Array (Int×Value))(k:Int)(x:Value):TOk led (layNew t es k x).2.1:=by
 unfold layNew;split
 ·rename_i j b c;dsimp only;unfold SetTable.orStandIn;split
  ·exact⟨fun e=>Jci (h.1 (by simpa [Li] using e)) (Jac c),by simpa [Li] using h.2⟩
  ·exact Yw _ _ _ (by simpa [Li] using h.2)
 ·exact Yw _ _ _ h.2
theorem Uq(g:Nat->Option Nat):∀l:List Nat,((l.filterMap fun j=>(g j).map (j,·)).map (·.1)).Sublist l
 | []=>.slnil
 | j::l=>by
  rw[Gm]
  cases h:g j with
  | none=>exact(Uq g l).cons _
  | some k=>exact(Uq g l).cons₂ _
theorem Ja3{t:SetTable}{mask f m:Nat}{led plain:Bool}{hs:Array Int}{o:Array Nat}(e:Lc mask f m led plain hs=some (t,o)):TOk led t:=by
 unfold Lc at e
 cases c:SetTable.layClean mask hs with
 | none=>rw[c] at e;cases e
 | some ow =>
  rw[c] at e;have e':some _=some (t,o):=e
  injection e' with e'
  injection e' with e1 e2
  subst e1;refine⟨fun _=>?_,rfl⟩;show List.Pairwise _ _;refine List.Pairwise.sublist (Uq _ _) ?_;exact List.pairwise_lt_range
theorem Zv{led:Bool}{t:SetTable}(h:TOk led t)(es:Array (Int×Value))(n:Nat):TOk led (relayAll t es n).2.1:=by
 unfold relayAll;split
 ·rename_i t' o c;dsimp only;split
  ·have:=Ja3 (show Lc _ _ _ _ _ _=some (t',o) from c);rw[h.2] at this;exact this
  ·exact Yw _ _ _ h.2
 ·exact Yw _ _ _ h.2
theorem Zu(a b:Nat)(led:Bool):TOk led (.fresh a b led):=⟨fun _=>List.Pairwise.nil,rfl⟩
theorem Uh{α:Type}:∀{l:List α} {i:Nat} (h:i<l.length),(l[i]::l.eraseIdx i).Perm l
 | x::l,0,_=>.refl _
 | x::l,i+1,h=>by have:=Uh (l:=l) (i:=i) (by simpa using h);exact(List.Perm.swap x (l[i]'(by simpa using h)) _).trans (this.cons x)
theorem WA{α:Type}(next:Nat->Nat):∀(fuel k:Nat) (left:List α) (out:Array α),left.length=fuel->(Lj next fuel k left out).toList.Perm (out.toList++left)
 | 0,k,left,out,h=>by have:left=[]:=QR h;subst this;simp[Lj]
 | fuel+1,k,left,out,h=>by
  unfold Lj;have hl:next k % left.length<left.length:=Nat.mod_lt _ (by omega)
  rw[QU hl];dsimp only;refine(WA next fuel (k+1) _ _ (by rw[Kl hl];omega)).trans ?_;rw[Array.toList_push,List.append_assoc];refine List.Perm.append_left _ ?_;exact(Uh hl)
theorem UT{α:Type}(next:Nat->Nat)(xs:Array α):(pickOrder next xs).toList.Perm xs.toList:=by
 have:=WA next xs.size 0 xs.toList #[] (by simp)
 simpa [pickOrder] using this
theorem UO{prog:Program}{w:World}{A:Around}{E:Value->Shared->Prop}{α:Type}:∀(n:Nat) (xs:List α) (s:Shared) (Q:List α->Shared->Prop),xs.length=n->(∀ys d,ys.Perm xs->Q ys { s with drawn:=d })->wpAny (model prog w) A (drawOrder n xs) Q E s
 | 0,xs,s,Q,hl,h=>by have:xs=[]:=QR hl;subst this;exact Qd (h [] s.drawn (.refl _))
 | n+1,xs,s,Q,hl,h=>by
  cases xs with
  | nil=>simp at hl
  | cons x xs =>
   show wpAny _ A ((choose .order (x::xs).length) >>= _) Q E s;refine Qa ?_;intro Γ p hΓ;unfold choose;rw[Sem.wp_choose];refine⟨by simp,?_⟩;rw[Sem.wp_pure]
   generalize hi:(model prog w).w.draws Source.order (s.drawn.get Source.order) % (x::xs).length=i
   have hlt:i<(x::xs).length:=by rw[<- hi];exact Nat.mod_lt _ (by simp)
   rw[QU hlt];show wpAny _ A (drawOrder n ((x::xs).eraseIdx i) >>= _) Q E _;refine Qa (UO n _ _ _ (by rw[Kl hlt];omega) fun ys d hp=>?_);refine Qd (h ((x::xs)[i]::ys) d ?_);exact(hp.cons _).trans (Uh hlt)
end L2

namespace L2
open PySem PyProof.Rows
structure SetS (prog:Program) (w:World) (led:Bool) (h:Heap) (a:Addr) (S:Int->Bool) (n:Nat) (o:Obj) (es:Array (Int×Value)) (ep:Nat) (t:SetTable):Prop where
 got:h.get? a=some o
 ex:o.ExactSet
 data:o.data=.set es ep t
 els:ElemsOf (intKind prog w) es.toList
 mem:∀k,S k=true↔∃e∈es.toList,(intKind prog w).is k e.2=true
 few:es.size<scanBound
 fits:t.fits es.size=true
 size:es.size=n
 tok:TOk led t
noncomputable def SetL(prog:Program)(w:World)(led:Bool)(h:Heap)(a:Addr)(S:Int->Bool)(n:Nat):Prop:=∃o es ep t,SetS prog w led h a S n o es ep t
section
variable{prog:Program}{w:World}{A:Around}{E:Value->Shared->Prop}{s:Shared}{led:Bool}{a:Addr}{S:Int->Bool}{n:Nat}
theorem SetL.move{h h':Heap}(x:SetL prog w led h a S n)(e:∀o,h.get? a=some o->h'.get? a=some o):SetL prog w led h' a S n :=
 let ⟨o,es,ep,t,z⟩:=x;⟨o,es,ep,t,{ z with got:=e _ z.got }⟩
theorem SetL.as{h:Heap}{S':Int->Bool}{n':Nat}(x:SetL prog w led h a S n)(e:∀k,S k=S' k)(en:n=n'):SetL prog w led h a S' n':=by have:S=S':=funext e;subst this en;exact x
theorem VQ{h:Heap}{o:Obj}{es:Array (Int×Value)}{ep:Nat}{t:SetTable}(ho:h.get? a=some o)(hex:o.ExactSet)(hd:o.data=.set es ep t){es':Array (Int×Value)}{t':SetTable}{S':Int->Bool}
 (h1:ElemsOf (intKind prog w) es'.toList) (h2:∀k,S' k=true↔∃e∈es'.toList,(intKind prog w).is k e.2=true) (h3:es'.size<scanBound) (h4:t'.fits es'.size=true) (h5:TOk led t') :
 SetS prog w led (h.update a (Obj.putSet es' t')) a S' es'.size { o with data:=.set es' (ep+1) t' } es' (ep+1) t' :=
 ⟨(SetOf_store (knd:=intKind prog w) ho hex hd h1 h2 h3 h4).1,hex,rfl,h1,h2,h3,h4,rfl,h5⟩
theorem VT{g:Bool->Sem Unit}(hg:∀(b:Bool) (s1:Shared) (Q:Unit->Shared->Prop),Q () s1->wpAny (model prog w) A (g b) Q E s1)
 {o:Obj} {es:Array (Int×Value)} {ep:Nat} {t:SetTable} (ho:s.heap.get? a=some o) (hex:o.ExactSet) (hd:o.data=.set es ep t) {es1:Array (Int×Value)} {t2:SetTable} {S':Int->Bool}
 (h1:ElemsOf (intKind prog w) es1.toList) (h2:∀k,S' k=true↔∃e∈es1.toList,(intKind prog w).is k e.2=true) (h3:es1.size<scanBound) (h4:t2.fits es1.size=true) (h5:TOk led t2) {dm:Bool} {R:Option Bool->Shared->Prop}
 (h:∀h',Qz a s.heap h'->SetL prog w led h' a S' es1.size->R (some true) { s with heap:=h' }) :
 wpAny (model prog w) A (storeSet a es1 t2 >>= fun _=>if (!dm && t2.tooFull)=true then
  (g (relayAll t2 es1 (Gp es1.size)).2.2 >>= fun _=>storeSet a (relayAll t2 es1 (Gp es1.size)).1 (relayAll t2 es1 (Gp es1.size)).2.1 >>= fun _=>pure (some true))
  else pure (some true)) R E s:=by
 refine Qa (wpAny_storeSet_of ho hd ?_ (fits_of_scanBound h3));have z:=VQ (prog:=prog) (w:=w) ho hex hd h1 h2 h3 h4 h5;have sb:=QE s.heap a (Obj.putSet es1 t2);split
 ·have hp:=relayAll_perm t2 es1 (Gp es1.size)
  have hf:=relayAll_fits t2 es1 (Gp es1.size)
  have hk:=Zv h5 es1 (Gp es1.size)
  generalize relayAll t2 es1 (Gp es1.size)=T at hp hf hk ⊢
  obtain⟨es2,t3,gv⟩:=T;dsimp only at hp hf hk ⊢;have sz:es2.size=es1.size:=by rw[<- Qw,hp.length_eq,Qw]
  refine Qa (hg _ _ _ ?_);refine Qa (wpAny_storeSet_of z.got rfl ?_ (fits_of_scanBound (by rw[sz];exact h3)));have z2:=VQ (prog:=prog) (w:=w) (led:=led) (S':=S') (es':=es2) (t':=t3) z.got hex rfl (h1.perm hp) (fun k=>(h2 k).trans ⟨fun⟨e,he,q⟩=>⟨e,hp.mem_iff.mpr he,q⟩,fun⟨e,he,q⟩=>⟨e,hp.mem_iff.mp he,q⟩⟩) (by rw[sz];exact h3) hf hk;rw[sz] at z2;exact Qd (h _ (sb.trans (QE _ a _)) ⟨_,_,_,_,z2⟩)
 ·exact Qd (h _ sb ⟨_,_,_,_,z⟩)
theorem Jcq{k:Int}{tk:Tok}{Q:Bool->Shared->Prop}(hS:SetL prog w led s.heap a S n)(room:n+1<scanBound)
 (h:∀h',Qz a s.heap h'->SetL prog w led h' a (fun k'=>S k' || decide (k'=k)) (if S k then n else n+1)->Q (!S k) { s with heap:=h' }) :
 wpAny (model prog w) A (setAddHashed a (.int k tk) ((intKind prog w).hash k)) Q E s:=by
 have key:(intKind prog w).is k (.int k tk)=true:=intKind_is _ _ _ _;obtain⟨o,es,ep,t,z⟩:=hS
 have few1:es.size+1<scanBound:=by rw[z.size];exact room
 unfold setAddHashed setAddHashedIn;refine G3 (Qa (QS z.got z.data z.fits ?_));dsimp only;rw[byScan_of (x:=.int k tk) rfl z.few z.els];simp only[↓reduceIte];unfold setAddByScan;refine Qa (Qa (GP (Qa (wpAny_setScan_of key z.got z.data z.fits z.els ?_))))
 cases hr:List.findIdx? (fun e=>(intKind prog w).is k e.2) es.toList with
 | some j =>
  dsimp only;obtain⟨hj,hpj,_⟩:=List.findIdx?_eq_some_iff_getElem.mp hr;have yes:S k=true:=(z.mem k).mpr ⟨es.toList[j],List.getElem_mem hj,hpj⟩;refine Qd (Qd ?_)
  have:=h s.heap (Heap.SameBut.refl a s.heap) (SetL.as ⟨o,es,ep,t,z⟩ (fun k'=>by
   cases hk:S k' with
   | true=>rfl
   | false =>
    have:k'≠k:=fun e=>by rw[e,yes] at hk;cases hk
    simp[this]) (by rw[yes];rfl))
  rw[yes] at this;exact this
 | none =>
  dsimp only
  have no:S k=false:=by
   cases hk:S k with
   | false=>rfl
   | true=>obtain⟨e,he,hp⟩:=(z.mem k).mp hk;have:=List.findIdx?_eq_none_iff.mp hr e he;rw[hp] at this;cases this
  have hp:=layNew_perm t es ((intKind prog w).hash k) (.int k tk)
  have hf:=layNew_fits t es ((intKind prog w).hash k) (.int k tk)
  have ht:=Jcx z.tok es ((intKind prog w).hash k) (.int k tk)
  generalize layNew t es ((intKind prog w).hash k) (.int k tk)=L at hp hf ht ⊢
  obtain⟨es1,t1,dm,gv⟩:=L;dsimp only at hp hf ht ⊢;rw[Array.toList_push] at hp;have e1:ElemsOf (intKind prog w) es1.toList:=(z.els.push key rfl).perm hp;have m1:=mem_push_iff key z.mem hp;have sz1:es1.size=n+1:=by rw[<- Qw,hp.length_eq,Q1,Qw,z.size];rfl
  have f1:es1.size<scanBound:=by rw[sz1];exact room
  have gw:∀(b:Bool) {s1:Shared} {Q':Unit->Shared->Prop},Q' () s1->wpAny (model prog w) A (match b with | true=>rule "set.scan.the-table-gave-way" | false=>pure ()) Q' E s1:=fun b s1 Q' hq=>by
   cases b
   ·exact Qd hq
   ·exact GP hq
  refine Qa (gw _ ?_)
  have fin:∀h',Qz a s.heap h'->SetL prog w led h' a (fun k'=>S k' || decide (k'=k)) es1.size->Q true { s with heap:=h' }:=by intro h' sb hS';have:=h h' sb;rw[no] at this;rw[sz1] at hS';exact this hS'
  split
  ·refine Qa ?_;rw[hashByValue_scannable 8 (x:=.int k tk) rfl];refine Qd ?_;refine VT (led:=led) ?_ z.got z.ex z.data e1 m1 f1 ?_ ?_ ?_
   ·intro b s1 Q' hq;cases b <;> first|exact Qd hq|exact GP hq
   ·split
    ·exact hf
    ·exact SetTable.fits_plain_off hf
   ·split
    ·exact ht
    ·exact Ja2 ht
   ·intro h' sb hS';dsimp only;exact Qd (fin h' sb hS')
  ·refine Qa (Qd ?_);simp only[↓reduceIte];refine VT (led:=led) ?_ z.got z.ex z.data e1 m1 f1 hf ht ?_
   ·intro b s1 Q' hq;cases b <;> first|exact Qd hq|exact GP hq
   ·intro h' sb hS';dsimp only;exact Qd (fin h' sb hS')
end
section
variable{prog:Program}{w:World}{A:Around}{R:Result->Shared->Prop}{I:Addr}{fp wr:List Addr}{G:Array GenState->Array GenState->Prop}{n:Nat}{P:Nat->Value->Prop}{St:Nat->Shared->Prop}
theorem JaQ{led:Bool}(W:WalksS prog w A.in1 I fp wr G n P St)(a:Addr)(hf:a∉fp)(val:Nat->Int)(hv:∀i v,P i v->∃t,v=.int (val i) t)(hb:n+1<scanBound) :
 ∀(k i:Nat) (s:Shared),n-i=k->i<=n->St i s->SetL prog w led s.heap a (fun k'=>(firstMet val i).any (· == k')) (firstMet val i).length ->
  (∀s',Moved (a::wr) G s s'->SetL prog w led s'.heap a (fun k'=>(firstMet val n).any (· == k')) (firstMet val n).length->R (.ok (.ret .none)) s') ->
  codeAny (model prog w) A (.builtin "set.update.loop" ⟨[.ref a,.ref I],[]⟩) R s:=by
 have hw:a∉wr:=fun h=>hf (W.sub _ h)
 have up:∀b∈wr,b∈a::wr:=fun b hb=>Qh _ hb
 intro k
 induction k with
 | zero =>
  intro i s hk hi st hS hR;obtain rfl:i=n:=by omega
  refine Gz KD ?_;rw[Gk GQ _];show wpAny _ A.in1 (pyNext (.ref I) >>= _) _ _ s;exact Qa (W.done s _ _ st fun s' hm=>Qd (hR s' (hm.mono up) (hS.move fun o e=>hm.heap a _ hw e)))
 | succ k ih =>
  intro i s hk hi st hS hR;have lt:i<n:=by omega
  refine Gz KD ?_;rw[Gk GQ _];show wpAny _ A.in1 (pyNext (.ref I) >>= _) _ _ s;refine Qa (W.item i s _ _ lt st fun v s' hP st' hm=>?_);obtain⟨t,rfl⟩:=hv i v hP;have hS':=hS.move (h':=s'.heap) fun o e=>hm.heap a _ hw e
  show wpAny _ A.in1 (holding [Value.int (val i) t] (setAdd a (.int (val i) t)) >>= _) _ _ s';refine Qa (G3 ?_);unfold setAdd;refine G3 (Qa ((intKind prog w).pyHash (k:=val i) (intKind_is _ _ _ _) ?_))
  have room:(firstMet val i).length+1<scanBound:=by have:=firstMet_length_le val i;omega
  refine Jcq (s:={ s' with toks:=s'.toks+1 }) hS' room fun h' sb hS2=>?_
  have hS3:=hS2.as (S':=fun k'=>(firstMet val (i+1)).any (· == k')) (n':=(firstMet val (i+1)).length) (fun k'=>by rw[firstMet_succ,step_any]) (by rw[firstMet_succ,step_length]);refine Qd ⟨G4 GQ _,ih (i+1) _ (by omega) lt (W.frame _ s' _ _ st' (K5 _) fun b hb o e=>?_) hS3 fun s'' hm'' hS''=>?_⟩
  ·rw[sb.2 b (fun h:b=a=>hf (by rw[<- h];exact hb))];exact e
  ·refine hR s'' (Moved.trans W.gtrans ((hm.mono up).then_heap (K5 _) fun b o hb e=>?_) hm'') hS'';rw[sb.2 b (fun h:b=a=>hb (by rw[h];exact Qj))];exact e
end
end L2

namespace L2
open PySem PyProof.Rows
noncomputable def JW(w:World):Bool:=!(w.params.followText "set-order")
noncomputable def Yd(led:Bool):Obj:={ cls:=.type "set",dict:=none,data:=.set #[] 0 (.fresh 0 0 led) }
section
variable{prog:Program}{w:World}{A:Around}{E:Value->Shared->Prop}{s:Shared}
theorem JaP(led:Bool){h:Heap}{a:Addr}(e:h.get? a=some (Yd led)):SetL prog w led h a (fun _=>false) 0 :=
 ⟨_,#[],0,_,e,⟨rfl,rfl,rfl⟩,rfl,fun e he=>by simp at he,fun k=>by simp,by decide,by rfl,rfl,Zu 0 0 led⟩
theorem VS(a:Value){Q:Value->Shared->Prop}(h:Q (.ref s.heap.objs.size) { s with heap:=s.heap.push (Yd (JW w)) }) :
 codeAny (model prog w) A (.call (.builtin "set.__new__") ⟨[.type "set",a],[]⟩) (wants Q E) s:=by
 refine codeAny_of_tree ?_;show wpAny _ A.in1 (checkBuiltinCall "set.__new__" ⟨[.type "set",a],[]⟩ >>= fun _=>again (.builtin "set.__new__" ⟨[.type "set",a],[]⟩)) _ _ s;refine Qa (wpAny_of_eq (F.newCall_set_1 a) (Qd ⟨G4 F.plain_set_new _,Gz F.entry_set_new ?_⟩));rw[Gk F.plain_set_new _];unfold Builtin.«set.__new__» Builtin.Frozenset.newClass;have hsub:=sub_set_self;obtain⟨hp,g,d,tk,os⟩:=s;dsimp only;wp_walk;refine Gq (Qd ?_)
 dsimp only;simp only[newObj];exact Qa (wpAny_alloc (Qd (Qd h)))
theorem WY{l:Addr}{items:Array Value}{ns:List Int}{Q:Value->Shared->Prop}(hh:A.handled=none)(hl:s.heap.IsList l items)(hi:IntsAre items.toList ns)(hb:items.size+1<scanBound)
 (h:∀(h':Heap) (tk:Nat),SetL prog w (JW w) h' s.heap.objs.size (fun k'=>(firstMet (fun i=>ns.getD i 0) items.size).any (· == k')) (firstMet (fun i=>ns.getD i 0) items.size).length ->
  (∀b o,s.heap.get? b=some o->h'.get? b=some o)->Q (.ref s.heap.objs.size) { s with heap:=h',toks:=tk }) :
 wpAny (model prog w) A (call (.type "set") [.ref l]) Q E s:=by
 obtain⟨c,tl,hmro⟩:=Gv.mro;have hmade:=Gv.made;have hsub:=Gv.sub;refine wpAny_call (codeAny_of_tree ?_);show wpAny _ _ (callAny (.type "set") _) _ _ _;refine Qd ⟨Code.quiet_builtin _ (by decide +kernel),Gz F.entry_type_call ?_⟩;rw[Around.under_plain (weight_type_call_type "set" [.ref l] []) rfl];have n1:=Gv.notType;have n2:=Gv.canCreate;have n3:=F.typeCall_set_1 (.ref l)
 repeat (any_goals (first|assumption|wp_step))
 refine GU (VS (.ref l) (E:=E) (Q:=fun obj s1=>obj=.ref s.heap.objs.size/\s1={ s with heap:=s.heap.push (Yd (JW w)) }) ⟨rfl,rfl⟩) fun r s1 hr=>?_
 cases r with
 | error e=>exact hr
 | ok fl =>
  cases fl with
  | ret obj =>
   obtain⟨rfl,rfl⟩:=hr;have hS:(s.heap.push (Yd (JW w))).get? s.heap.objs.size=some (Yd (JW w)):=Qg _ rfl;have hT:Shared.TypeIs { s with heap:=s.heap.push (Yd (JW w)) } (.ref s.heap.objs.size) "set":=⟨_,hS,rfl⟩
   have i1:=Gv.init.lookup
   have i2:=Gv.init.bind (.ref s.heap.objs.size)
   repeat (any_goals (first|assumption|wp_step))
   refine GU (codeAny_call_builtin (R:=wants (fun r s2=>r=.none/\∃h' tk,s2={ s with heap:=h',toks:=tk } ∧
    SetL prog w (JW w) h' s.heap.objs.size (fun k'=>(firstMet (fun i=>ns.getD i 0) items.size).any (· == k')) (firstMet (fun i=>ns.getD i 0) items.size).length ∧
    (∀b o,s.heap.get? b=some o->h'.get? b=some o)) E) Gv.init.plain F.entry_set_init (check_set_init_1 hT ?_)) fun r2 s2 hr2=>?_
   ·obtain⟨ol,hol,hcl,nl,hdl⟩:=hl;obtain⟨oc,od,oda,osl⟩:=ol;simp only at hcl hdl;subst hcl;subst hdl;have hol':(s.heap.push (Yd (JW w))).get? l=some { cls:=.type "list",dict:=od,data:=.seq items nl,slots:=osl }:=Qc _ hol;have b1:=F.sub_list_set;have b2:=F.sub_list_frozenset;have b3:(Value.type "list" == Value.type "dict")=false:=by decide
    have hl1:(s.heap.push (Yd (JW w))).IsList l items:=⟨_,hol',rfl,nl,rfl⟩
    unfold Builtin.«set.__init__» noKeywords Builtin.Frozenset.updateFrom
    generalize hPI:pyIter=PI
    wp_walk
    subst hPI;refine GS hl1 (Qa (wpAny_runValue ?_));have lS:l<s.heap.objs.size:=Qf hol;have hh3:A.in1.in1.in1.handled=none:=by simp[hh]
    have neI:l≠(s.heap.push (Yd (JW w))).objs.size:=by rw[QC];exact Qo (QK lS)
    have off:s.heap.objs.size∉[(s.heap.push (Yd (JW w))).objs.size,l]:=by rw[QC];simp only[Qe,Gw,Q2,or_false,not_or];exact⟨Qo (QM _),GC lS⟩
    refine JaQ (led:=JW w) ((Walks.list hh3 _ l neI items).toS) s.heap.objs.size off (fun i=>ns.getD i 0) (fun i v hv=>IntsAre.int_at hi i v (by rw[Gg];exact hv)) hb (items.size-0) 0 _ (by omega) (Gr _)
     ⟨⟨_,Qg _ rfl,rfl,rfl⟩,(hl1.push _)⟩ (JaP _ (Qc _ hS)) fun s' hm hS'=>?_
    obtain⟨h',g',d',tk',os'⟩:=s';have eg:g'=s.gens:=hm.gens;have ed:d'=s.drawn:=hm.drawn;have eo:os'=s.os:=hm.os;subst eg;subst ed;subst eo;show wpAny _ _ _ _ _ _;refine Qd ?_;show wpAny _ _ (ret Value.none) _ _ _;refine Qd ⟨rfl,h',tk',rfl,hS',fun b o e=>?_⟩;have hb0:=Qf e;refine hm.heap b o ?_ (Qc _ (Qc _ e));rw[QC];simp only[Qe,Gw,Q2,or_false,not_or]
    exact⟨Qo hb0,Qo (QK hb0)⟩
   ·cases r2 with
    | error e=>exact hr2
    | ok fl2 =>
     cases fl2 with
     | ret r =>
      obtain⟨rfl,h',tk,rfl,hS',hk'⟩:=hr2
      repeat (any_goals (first|assumption|wp_step))
      exact h _ _ hS' hk'
     | _=>exact hr2.elim
  | _=>exact hr.elim
end
end L2

namespace L2
open PySem PyProof.Rows PySem.W
theorem si_slot_next:Slot "set_iterator" "__next__" "set_iterator.__next__" :=
 .of (owner:="set_iterator") (n:="__next__") (by rw[typeLookup_type,builtinLookup_eq_fast];kernel_rfl) (by decide +kernel) (by decide +kernel) (by decide +kernel) (.inl (by decide +kernel)) (by rw[K6];kernel_rfl)
theorem Yx:entryFor table "set_iterator.__next__"=some Builtin.«set_iterator.__next__»:=entryFor_of_tree (by kernel_rfl)
theorem VV:Manifest.owners.lookup (String.ofList ['r','o','t','a','r','e','t','i','_','t','e','s'].reverse)=some Manifest.sig_set_iterator:=by kernel_rfl
theorem YQ(a:Value):argsOk "set_iterator.__next__" ⟨[a],[]⟩:=by
 unfold argsOk;rw[signature?_of (id:="set_iterator.__next__") (n:=['_','_','t','x','e','n','_','_']) (o:=['r','o','t','a','r','e','t','i','_','t','e','s']) (by kernel_rfl) VV]
 kernel_rfl
theorem YR:Slot "set_iterator" "__iter__" "set_iterator.__iter__" :=
 .of (owner:="set_iterator") (n:="__iter__") (by rw[typeLookup_type,builtinLookup_eq_fast];kernel_rfl) (by decide +kernel) (by decide +kernel) (by decide +kernel) (.inl (by decide +kernel)) (by rw[K6];kernel_rfl)
theorem UF:entryFor table "set_iterator.__iter__"=some Builtin.«dict_keyiterator.__iter__»:=entryFor_alias (id':="dict_keyiterator.__iter__") (by kernel_rfl) rfl (by decide +kernel) (by kernel_rfl)
theorem Ve(a:Value):argsOk "set_iterator.__iter__" ⟨[a],[]⟩:=by
 unfold argsOk;rw[signature?_of (id:="set_iterator.__iter__") (n:=['_','_','r','e','t','i','_','_']) (o:=['r','o','t','a','r','e','t','i','_','t','e','s']) (by kernel_rfl) VV]
 kernel_rfl
theorem Uy:entryFor table "set.__iter__"=some Builtin.«frozenset.__iter__»:=entryFor_alias (id':="frozenset.__iter__") (by kernel_rfl) rfl (by decide +kernel) (by kernel_rfl)
end L2

namespace L2
open PySem PyProof.Rows PySem.W
noncomputable def SIt(h:Heap)(I d:Addr)(f:Value)(i n ep:Nat):Prop:=∃o,h.get? I=some o/\o.cls=.type "set_iterator"/\o.data=.fields #[f,.int i 0,.ref d,.int n 0,.int ep 0]
section
variable{prog:Program}{w:World}{A:Around}{E:Value->Shared->Prop}{s:Shared}{I d:Addr}{f:Value}{i n ep:Nat}{es:Array (Int×Value)}{t:SetTable}{o:Obj}
theorem SIt.type{s:Shared}(x:SIt s.heap I d f i n ep):s.TypeIs (.ref I) "set_iterator":=let ⟨o,ho,hc,_⟩:=x;⟨o,ho,hc⟩
theorem SIt.at{h h':Heap}(x:SIt h I d f i n ep)(e:∀o,h.get? I=some o->h'.get? I=some o):SIt h' I d f i n ep:=let ⟨o,ho,r⟩:=x;⟨o,e _ ho,r⟩
theorem WJ{Q:Value->Shared->Prop}(hit:SIt s.heap I d f i n ep)(h:Q (.ref I) s):wpAny (model prog w) A (pyIter (.ref I)) Q E s:=by refine wpAny_pyIter_slot hit.type YR (QX YR hit.type UF ?_ (Ve _));show wpAny _ _ (ret (.ref I)) _ _ s;exact Qd ⟨_,rfl,"set_iterator",_,hit.type,si_slot_next.lookup,h⟩
theorem WK{Q:Option Value->Shared->Prop}(hh:A.handled=none){h1:Heap}(hx:∀h',G6 I s.heap h'->Q none { s with heap:=h' })(he:G6 I s.heap h1) :
 wpAny (model prog w) A.in1 (newExc (.type "StopIteration") [] >>= fun e=>raiseNew e) (fun(fin:Fin) s'=>∃r,fin=.done (.ret r)/\wpAny (model prog w) A (pure (some r)) Q E s') (fun e s'=>wpAny (model prog w) A (isInstance e (.type "StopIteration") >>= fun b=>if b=true then pure none else throw e) Q E s') { s with heap:=h1 }:=by
 refine Qa ?_;simp only[newExc,newTuple];refine Qa (QQ ?_ (by size_fits));refine Qa (m:=firstArgMember _ _) (wpAny_of_eq (a:=Value.none) (by first | rfl | (simp only[firstArgMember];rfl)) ?_);refine QQ ?_ (by size_fits);simp only[raiseNew];refine Qa (wpAny_handled ?_);rw[show A.in1.handled=none from hh];refine Qa (Qd (wpAny_throw ?_));refine Qa (KB (T:="StopIteration") (b:=true) ⟨_,Qg _ rfl,rfl⟩ isSubtype_stop ?_)
 exact Qd (hx _ ((he.push _).push _))
theorem WI{Q:Option Value->Shared->Prop}{sl:Nat}{r:Option (Value×Nat)}(hh:A.handled=none)(hit:SIt s.heap I d (.int sl 0) i es.size ep)(ho:s.heap.get? d=some o)(hd:o.data=.set es ep t)(hf:t.fits es.size=true)
 (nx:∀(A:Around) (E:Value->Shared->Prop) (Q:Option (Value×Nat)->Shared->Prop),Q r s->wpAny (model prog w) A (setNext d sl i ep) Q E s)
 (item:∀x j h',r=some (x,j)->SIt h' I d (.int j 0) (i+1) es.size ep->Qz I s.heap h'->Q (some x) { s with heap:=h' })
 (done:r=none->∀h',G6 I s.heap h'->Q none { s with heap:=h' }):wpAny (model prog w) A (pyNext (.ref I)) Q E s:=by
 obtain⟨oi,hoi,hci,hdi⟩:=id hit;unfold pyNext;refine Qa (Kw (QW (name:=GX "__next__") hit.type si_slot_next (QX si_slot_next hit.type Yx ?_ (YQ _))));unfold Builtin.«set_iterator.__next__»;refine Qa (Qd (Qa (wpAny_fieldsOf hoi hdi ?_)));show wpAny _ _ (setEntries d >>= _) _ _ s;refine Qa (Kb ho hd hf ?_);rw[if_neg (by simp)];show wpAny _ _ (setNext d ((sl:Int).toNat) ((i:Int).toNat) ((ep:Int).toNat) >>= _) _ _ s
 rw[QZ,QZ,QZ];refine Qa (nx _ _ _ ?_)
 cases hr:r with
 | some p =>
  obtain⟨x,j⟩:=p;dsimp only;refine Qa (Gd hoi hdi (by simp) ?_);have h1:=QT (Kx (·.setIfInBounds 0 (rawInt j))) hoi (Gf (QG hdi _));have d1:=QG hdi (·.setIfInBounds 0 (rawInt j));refine Qa (Gd h1 d1 (by simp) ?_);refine Qd ⟨_,rfl,Qd (item x j _ hr ⟨_,QT _ h1 (Gf (QG d1 _)),?_,?_⟩ ((QE ..).trans (QE ..)))⟩
  ·rw[GY,GY];exact hci
  ·rw[QG d1];simp[rawInt]
 | none=>dsimp only;refine Qa (Gd hoi hdi (by simp) ?_);exact WK hh (done hr) (QE ..).extBut
theorem VU{Q:Option Value->Shared->Prop}{T:Addr}{ps:List Nat}{oT:Obj}{cT:Nat}(hh:A.handled=none)(hit:SIt s.heap I d (.ref T) i es.size ep)(ho:s.heap.get? d=some o)(hd:o.data=.set es ep t)(hf:t.fits es.size=true)
 (hT:s.heap.get? T=some oT) (hTd:oT.data=.seq (ps.map fun(i:Nat)=>rawInt i).toArray cT)
 (item:∀p e h',ps[i]?=some p->es[p]?=some e->SIt h' I d (.ref T) (i+1) es.size ep->Qz I s.heap h'->Q (some e.2) { s with heap:=h' }) (inn:∀p∈ps,p<es.size)
 (done:ps[i]?=none->∀h',G6 I s.heap h'->Q none { s with heap:=h' }):wpAny (model prog w) A (pyNext (.ref I)) Q E s:=by
 obtain⟨oi,hoi,hci,hdi⟩:=id hit;unfold pyNext;refine Qa (Kw (QW (name:=GX "__next__") hit.type si_slot_next (QX si_slot_next hit.type Yx ?_ (YQ _))));unfold Builtin.«set_iterator.__next__»;refine Qa (Qd (Qa (wpAny_fieldsOf hoi hdi ?_)));show wpAny _ _ (setEntries d >>= _) _ _ s;refine Qa (Kb ho hd hf ?_);rw[if_neg (by simp)];show wpAny _ _ (seqItems? (.ref T) >>= _) _ _ s
 unfold seqItems?;refine Qa (Qa (wpAny_load hT ?_));rw[hTd];refine Qd ?_;dsimp only;rw[QZ];have ee:(ps.map fun(i:Nat)=>rawInt i).toArray[i]?=(ps[i]?).map fun(i:Nat)=>rawInt i:=by simp
 rw[ee]
 cases hp:ps[i]? with
 | some p =>
  have hlt:=inn p (QL hp)
  show wpAny _ _ (setNextDrawn d ((p:Int).toNat) ((ep:Int).toNat) >>= _) _ _ s;rw[QZ,QZ];unfold setNextDrawn;refine Qa (Qa (QS ho hd hf ?_));dsimp only;rw[if_neg (by simp)];refine Qa (Qd ?_);rw[Q0 hlt];dsimp only;refine Qd ?_;refine Qa (Gd hoi hdi (by simp) ?_);refine Qd ⟨_,rfl,Qd (item p es[p] _ hp (Q0 hlt) ⟨_,QT _ hoi (Gf (QG hdi _)),?_,?_⟩ (QE ..))⟩
  ·rw[GY];exact hci
  ·rw[QG hdi];simp[rawInt]
 | none =>
  show wpAny _ _ (setField (.ref I) 0 (rawInt 0) >>= _) _ _ s;refine Qa (Gd hoi hdi (by simp) ?_)
  have h1:=QT (Kx (·.setIfInBounds 0 (rawInt 0))) hoi (Gf (QG hdi _))
  have d1:=QG hdi (·.setIfInBounds 0 (rawInt 0))
  generalize hg:s.heap.update I (Kx (·.setIfInBounds 0 (rawInt 0)))=g at h1
  have sb:Qz I s.heap g:=by rw[<- hg];exact QE ..
  generalize Kx (·.setIfInBounds 0 (rawInt 0)) oi=oj at h1 d1
  refine Qa (Gd (s:={ s with heap:=g }) h1 d1 (by simp) ?_);exact WK (s:=s) hh (done hp) (sb.trans (QE ..)).extBut
noncomputable def SHas(h:Heap)(d:Addr)(es:Array (Int×Value))(ep:Nat)(t:SetTable):Prop:=∃o,h.get? d=some o/\o.ExactSet/\o.data=.set es ep t
theorem SHas.at{h h':Heap}(x:SHas h d es ep t)(e:∀o,h.get? d=some o->h'.get? d=some o):SHas h' d es ep t:=let ⟨o,ho,r⟩:=x;⟨o,e _ ho,r⟩
theorem Jct{Q:Option (Value×Nat)->Shared->Prop}(bt:w.params.followText "set-order"=true)(hs:SHas s.heap d es ep t)(hf:t.fits es.size=true){sl:Nat}
 (h:Q (((pickOrder (w.params.setOrder d ep) es)[i]?).map fun e=>(e.2,sl)) s):wpAny (model prog w) A (setNext d sl i ep) Q E s:=by
 obtain⟨o,ho,_,hd⟩:=hs;unfold setNext setsByText;refine Qa (QS ho hd hf (Qa (Qa (Gq (Qd ?_)))));show wpAny _ _ (if w.params.followText "set-order"=true then _ else _) _ _ s;rw[if_pos bt,if_neg (by simp)];refine Qa ?_;unfold setWalk setsByText;refine Qa (QS ho hd hf (Qa (Qa (Gq (Qd ?_)))));show wpAny _ _ (if w.params.followText "set-order"=true then _ else _) _ _ s
 rw[if_pos bt];exact Qa (Gq (Qd (Qd h)))
noncomputable def Wf(t:SetTable)(i:Nat):Nat:=if i=0 then 0 else t.place.getD (i-1) 0+1
theorem JaS{t:SetTable}(r:Ris t.place){i:Nat}(h:i<=t.place.size):Qv t.place (Wf t i)=i:=by
 unfold Wf
 by_cases c:i=0
 ·rw[if_pos c,c];exact ZI r
 ·rw[if_neg c];have hi:i-1<t.place.size:=by omega
  have e:t.place.getD (i-1) 0=t.place[i-1]:=by simp[Lf,hi]
  rw[e,ZH r hi];omega
theorem JaU{Q:Option (Value×Nat)->Shared->Prop}(bt:w.params.followText "set-order"=false)(hs:SHas s.heap d es ep t)(hf:t.fits es.size=true)(tok:TOk (JW w) t)(nd:(!t.plain && decide (es.size>1))=false)(hi:i<=es.size)
 (h:Q ((es[i]?).map fun e=>(e.2,Wf t (i+1))) s):wpAny (model prog w) A (setNext d (Wf t i) i ep) Q E s:=by
 obtain⟨o,ho,_,hd⟩:=hs;have hp:t.place.size=es.size:=by simp only[SetTable.fits,Qn,beq_iff_eq] at hf;exact hf.1
 have ris:Ris t.place:=by
  cases c:t.plain with
  | true=>exact tok.1 c
  | false =>
   rw[c] at nd;have z:es.size<=1:=by simpa using nd
   unfold Ris;have:t.place.toList.length<=1:=by rw[Qw];omega
   match t.place.toList,this with
   | [],_=>exact .nil
   | [x],_=>exact List.pairwise_singleton _ _
 have led:t.led=true:=by rw[tok.2];unfold JW;rw[bt];rfl
 unfold setNext setsByText;refine Qa (QS ho hd hf (Qa (Qa (Gq (Qd ?_)))));show wpAny _ _ (if w.params.followText "set-order"=true then _ else _) _ _ s;rw[if_neg (by rw[bt];exact Qp)];show wpAny _ _ (if (!t.plain && decide (es.size>1))=true then _ else _) _ _ s;rw[if_neg (by rw[nd];exact Qp)];refine Qa (m:=if (!t.led && !es.isEmpty)=true then _ else _) ?_;rw[if_neg (by rw[led];simp)]
 refine Qd ?_;dsimp only;rw[JaS ris (by omega)];refine Qd ?_
 cases c:es[i]? with
 | none=>rw[c] at h;exact h
 | some e =>
  have hlt:i<t.place.size:=by rw[hp];exact(Array.getElem?_eq_some_iff.mp c).1
  rw[Q0 hlt];rw[c] at h
  have:Wf t (i+1)=t.place[i]+1:=by unfold Wf;rw[if_neg (by omega)];simp[Lf,hlt]
  rw[Option.map_some,this] at h;exact h
theorem Jcr{Q:Value->Shared->Prop}(hh:A.handled=none)(hs:SHas s.heap d es ep t)(hf:t.fits es.size=true)(tok:TOk (JW w) t)(hz:es.size<=sizeLine)
 (h:∀(I:Addr) (h':Heap) (dr:Drawn) (ys:List Value) (fp:List Addr) (St:Nat->Heap->Prop),ys.Perm (es.toList.map (·.2))->s.heap.objs.size<=I->(∀b o,s.heap.get? b=some o->h'.get? b=some o) ->
  Walks prog w A I fp [I] es.size (fun i v=>ys[i]?=some v) St->St 0 h'->(∀b∈fp,s.heap.objs.size<=b\/b=d)->(∀b∈fp,b<h'.objs.size)->Q (.ref I) { s with heap:=h',drawn:=dr }) :
 wpAny (model prog w) A (pyIter (.ref d)) Q E s:=by
 obtain⟨o,ho,hex,hd⟩:=id hs;have hT:s.TypeIs (.ref d) "set":=⟨o,ho,hex.1⟩
 have dlt:d<s.heap.objs.size:=Qf ho;refine wpAny_pyIter_slot hT F.slot_set_iter (QX F.slot_set_iter hT Uy ?_ (F.args_set_iter_1 _));unfold Builtin.«frozenset.__iter__» Builtin.Frozenset.slot0 Builtin.Frozenset.sizeOf Builtin.Frozenset.addrOf;refine Qa (Qa (Qd (Qd ?_)));refine Qa (Qa (Kb ho hd hf (Qd ?_)));refine Qa ?_;unfold setDrawn setsByText;refine Qa (QS ho hd hf (Qa (Qa (Gq (Qd (Qd ?_))))))
 show wpAny _ _ (if (!w.params.followText "set-order" && (!t.plain && decide (es.size>1)))=true then _ else _) _ _ s
 have one:∀(sl:Nat->Nat) (ys:List Value),sl 0=0->ys.Perm (es.toList.map (·.2))->ys.length=es.size ->
  (∀(i:Nat) (s:Shared),i<=es.size->SHas s.heap d es ep t->∀(A:Around) (E:Value->Shared->Prop) (Q:Option (Value×Nat)->Shared->Prop),Q ((ys[i]?).map fun v=>(v,sl (i+1))) s->wpAny (model prog w) A (setNext d (sl i) i ep) Q E s) ->
  Walks prog w A s.heap.objs.size [s.heap.objs.size,d] [s.heap.objs.size] es.size (fun i v=>ys[i]?=some v) (fun i h=>SIt h s.heap.objs.size d (.int (sl i) 0) i es.size ep/\SHas h d es ep t/\i<=es.size):=fun sl ys s0 pm yl nx=>{
  sub:=fun b hb=>by simp at hb;simp[hb]
  frame:=fun i h h' st hk=>⟨st.1.at fun o e=>hk _ (by simp) o e,st.2.1.at fun o e=>hk d (by simp) o e,st.2.2⟩
  item:=fun i s1 Q E hi st hQ=>by
   obtain⟨o1,ho1,_,hd1⟩:=id st.2.1;refine WI hh st.1 ho1 hd1 hf (fun A E Q hq=>nx i s1 st.2.2 st.2.1 A E Q hq) (fun x j h' e hit' hs'=>?_) (fun e=>?_)
   ·obtain⟨v,e1,e2⟩:=Q7.mp e;cases e2;exact hQ _ h' s1.toks e1 ⟨hit',st.2.1.at fun o x=>hs'.extBut d o (Qo dlt) x,hi⟩ fun b o hb x=>hs'.extBut b o (fun h=>hb (by simp[h])) x
   ·rw[Option.map_eq_none_iff,Kn] at e;omega
  done:=fun s1 Q E st hQ=>by obtain⟨o1,ho1,_,hd1⟩:=id st.2.1;refine WI hh st.1 ho1 hd1 hf (fun A E Q hq=>nx _ s1 st.2.2 st.2.1 A E Q hq) (fun x j h' e _ _=>?_) (fun _ h' he=>hQ h' s1.toks fun b o hb e=>he b o (fun h=>hb (by simp[h])) e);obtain⟨v,e1,e2⟩:=Q7.mp e;have:=(Qi.mp e1).1;omega
  self:=fun _ _ _ _ st hQ=>WJ st.1 hQ }
 have enter:∀(sl:Nat->Nat) (ys:List Value),sl 0=0->ys.Perm (es.toList.map (·.2))->ys.length=es.size ->
  (∀(i:Nat) (s:Shared),i<=es.size->SHas s.heap d es ep t->∀(A:Around) (E:Value->Shared->Prop) (Q:Option (Value×Nat)->Shared->Prop),Q ((ys[i]?).map fun v=>(v,sl (i+1))) s->wpAny (model prog w) A (setNext d (sl i) i ep) Q E s) ->
  Q (.ref s.heap.objs.size) { s with heap:=s.heap.push { cls:=.type "set_iterator",data:=.fields #[.int 0 0,.int 0 0,.ref d,.int es.size 0,.int ep 0] } }:=fun sl ys s0 pm yl nx=>by
  refine h s.heap.objs.size _ s.drawn ys [s.heap.objs.size,d] _ pm (Qm _) (fun b o e=>Qc _ e) (one sl ys s0 pm yl nx) ⟨⟨_,Qg _ rfl,rfl,?_⟩,hs.at fun o e=>Qc _ e,Gr _⟩ (fun b hb=>?_) (fun b hb=>?_)
  ·rw[s0];rfl
  ·rcases Qe.mp hb with e|e
   ·exact .inl (KJ e.symm)
   ·exact .inr (by simpa using e)
  ·rw[QC];rcases Qe.mp hb with e|e
   ·rw[e];exact QM _
   ·rw[Gw.mp e];exact QK dlt
 cases bt:w.params.followText "set-order" with
 | true =>
  rw[if_neg (by simp)];refine Qa (Qd ?_);unfold setEpoch;refine Qa (Qa (QS ho hd hf (Qd ?_)));refine Qa (QQ ?_);refine Qd ⟨_,rfl,"set_iterator",_,⟨_,Qg _ rfl,rfl⟩,si_slot_next.lookup,?_⟩;refine enter (fun _=>0) ((pickOrder (w.params.setOrder d ep) es).toList.map (·.2)) rfl ((UT _ es).map _) (by rw[Qx,(UT _ es).length_eq,Qw]) fun i s1 hi hs1 A E Q hq=>Jct bt hs1 hf ?_
  rw[QB,Gg,Option.map_map] at hq;exact hq
 | false =>
  cases dw:(!t.plain && decide (es.size>1)) with
  | false =>
   rw[if_neg (by simp)];refine Qa (Qd ?_);unfold setEpoch;refine Qa (Qa (QS ho hd hf (Qd ?_)));refine Qa (QQ ?_);refine Qd ⟨_,rfl,"set_iterator",_,⟨_,Qg _ rfl,rfl⟩,si_slot_next.lookup,?_⟩;refine enter (Wf t) (es.toList.map (·.2)) rfl (.refl _) (by rw[Qx,Qw]) fun i s1 hi hs1 A E Q hq=>JaU bt hs1 hf tok dw hi ?_
   rw[QB,Gg,Option.map_map] at hq;exact hq
  | true =>
   rw[if_pos (by simp)];refine Qa (UO _ _ _ _ (by rw[Ks]) fun ps dr pm=>?_);refine Qa (wpAny_newTuple (items:=ps.map fun(i:Nat)=>rawInt i) ?_ (by rw[Qx,pm.length_eq,Ks];exact hz));have hT1:(s.heap.push { cls:=.type "tuple",data:=.seq (ps.map fun(i:Nat)=>rawInt i).toArray }).get? s.heap.objs.size=some { cls:=.type "tuple",data:=.seq (ps.map fun(i:Nat)=>rawInt i).toArray }:=Qg _ rfl
   have ho1:(s.heap.push { cls:=.type "tuple",data:=.seq (ps.map fun(i:Nat)=>rawInt i).toArray }).get? d=some o:=Qc _ ho
   generalize hg:s.heap.push { cls:=.type "tuple",data:=.seq (ps.map fun(i:Nat)=>rawInt i).toArray }=g at hT1 ho1 ⊢
   have gz:g.objs.size=s.heap.objs.size+1:=by rw[<- hg,QC]
   have gk:∀b o,s.heap.get? b=some o->g.get? b=some o:=fun b o e=>by rw[<- hg];exact Qc _ e
   unfold setEpoch;refine Qa (Qa (QS (s:={ s with heap:=g,drawn:=dr }) ho1 hd hf (Qd ?_)));refine Qa (QQ ?_);refine Qd ⟨_,rfl,"set_iterator",_,⟨_,Qg _ rfl,rfl⟩,si_slot_next.lookup,?_⟩;have inn:∀p∈ps,p<es.size:=fun p hp=>by simpa using pm.mem_iff.mp hp
   have pl:ps.length=es.size:=by rw[pm.length_eq,Ks]
   have dne:d≠g.objs.size:=by rw[gz];exact Qo (QK dlt)
   have tne:s.heap.objs.size≠g.objs.size:=by rw[gz];exact Qo (QM _)
   refine h g.objs.size _ dr (ps.map fun p=>(es[p]?.map (·.2)).getD Value.none) [g.objs.size,d,s.heap.objs.size] (fun i h=>SIt h g.objs.size d (.ref s.heap.objs.size) i es.size ep/\SHas h d es ep t/\h.get? s.heap.objs.size=some { cls:=.type "tuple",data:=.seq (ps.map fun(i:Nat)=>rawInt i).toArray }) ?_ (by rw[gz];exact K5 _) (fun b o e=>Qc _ (gk b o e)) ?_ ⟨⟨_,Qg _ rfl,rfl,rfl⟩,⟨o,Qc _ ho1,hex,hd⟩,Qc _ hT1⟩ (fun b hb=>?_) (fun b hb=>?_)
   ·refine(pm.map _).trans (.of_eq ?_);refine KE (by simp) fun i h1 h2=>?_
    have hi:i<es.size:=by simpa using h1
    simp[hi]
   ·exact {
     sub:=fun b hb=>by simp at hb;simp[hb]
     frame:=fun i h h' st hk=>⟨st.1.at fun o e=>hk _ (by simp) o e,st.2.1.at fun o e=>hk d (by simp) o e,hk _ (by simp) _ st.2.2⟩
     item:=fun i s1 Q E hi st hQ=>by
      obtain⟨o1,ho1,_,hd1⟩:=id st.2.1;refine VU hh st.1 ho1 hd1 hf st.2.2 rfl (fun p e h' e1 e2 hit' hs'=>?_) inn (fun e=>?_)
      ·exact hQ _ h' s1.toks (by rw[QB,e1];simp[e2]) ⟨hit',st.2.1.at fun o x=>hs'.extBut d o dne x,hs'.extBut _ _ tne st.2.2⟩ fun b o hb x=>hs'.extBut b o (fun h=>hb (by simp[h])) x
      ·rw[Kn] at e;omega
     done:=fun s1 Q E st hQ=>by obtain⟨o1,ho1,_,hd1⟩:=id st.2.1;refine VU hh st.1 ho1 hd1 hf st.2.2 rfl (fun p e h' e1 _ _ _=>?_) inn (fun _ h' he=>hQ h' s1.toks fun b o hb e=>he b o (fun h=>hb (by simp[h])) e);have:=(Qi.mp e1).1;omega
     self:=fun _ _ _ _ st hQ=>WJ st.1 hQ }
   ·simp only[Qe,Q2,or_false] at hb;rcases hb with e|e|e
    ·exact .inl (by rw[e,gz];exact K5 _)
    ·exact .inr e
    ·exact .inl (KJ e.symm)
   ·rw[QC,gz];simp only[Qe,Q2,or_false] at hb;rcases hb with e|e|e
    ·rw[e,gz];exact QM _
    ·rw[e];exact QK (QK dlt)
    ·rw[e];exact QK (QM _)
end
end L2

namespace L2
open PySem PyProof.Rows PySem.W PySem.Spec
section
variable{prog:Program}{w:World}{A:Around}{E:Value->Shared->Prop}{s:Shared}{d:Addr}{ep:Nat}{es:Array (Int×Value)}{t:SetTable}
theorem Jag{Q:Bool->Shared->Prop}(hT:s.TypeIs (.ref d) "set")(h:Q false s):wpAny (model prog w) A (Kf (.ref d)) Q E s:=by
 unfold Kf;refine Qa (wpAny_specialOf hT PySem.F.slot_set_len.lookup ?_)
 generalize hid:("set.__len__":String)=id0
 wp_delta
 rw[show splitId id0=some ("set","__len__") from by subst hid;decide +kernel];subst hid;refine Qa (KB (T:="set") (b:=true) hT (by rw[K6];kernel_rfl) ?_);refine KU (fun hab=>absurd hab (by decide)) (fun _=>?_);refine KU (fun _=>?_) (fun hab=>absurd (by decide +kernel) hab);exact Qa (wpAny_typeOf hT (Qd h))
theorem We{R:Result->Shared->Prop}(hh:A.handled=none)(hs:SHas s.heap d es ep t)(hf:t.fits es.size=true)(tok:TOk (JW w) t)(hz:es.size<=sizeLine)(S:Addr)(ne:S≠d)(res:Value)(hS:s.heap.get? S=some { cls:=.type "list",data:=.seq #[] })
 (hR:∀h' tk dr acc c,(∀b o,b≠S->s.heap.get? b=some o->h'.get? b=some o)->h'.get? S=some { cls:=.type "list",dict:=none,data:=.seq acc c,slots:=#[] }->acc.toList.Perm (es.toList.map (·.2))->R (.ok (.ret res)) { s with heap:=h',toks:=tk,drawn:=dr }) :
 wpAny (model prog w) A.in1 (Kg (.ref S) (.ref d) res)
  (fun fin s'=>match fin with|.done f=>R (.ok f) s'|.again c'=>c'.quiet=true/\codeAny (model prog w) A c' R s') (fun e s'=>R (.error e) s') s:=by
 obtain⟨o,ho,hex,hd⟩:=id hs;have hT:s.TypeIs (.ref d) "set":=⟨o,ho,hex.1⟩
 have Slt:S<s.heap.objs.size:=Qf hS;unfold Kg;refine Qa (wpAny_typeOf (T:="set") hT ?_)
 have h1:Ky (.ref S) (.ref d)=false:=by simp[Ky,ne]
 have h2:(Value.type "set" == Value.type "list")=false:=by decide
 have h3:(Value.type "set" == Value.type "tuple")=false:=by decide
 simp only[h1,h2,h3,Bool.or_false,Bool.false_eq_true,if_false];refine Qa (Jcr (A:=A.in1) hh hs hf tok hz fun I h' dr ys fp St pm le old W st fpo fpl=>?_);have SI:S∉fp:=fun m=>(fpo S m).elim (fun x=>absurd Slt (KQ.mpr x)) fun x=>ne x
 have hS1:=old S _ hS
 have key:∀(g:Heap) (c1 tk:Nat),St 0 g->(∀b o,b≠S->s.heap.get? b=some o->g.get? b=some o)->g.get? S=some { cls:=.type "list",data:=.seq #[] c1 } ->
  codeAny (model prog w) A (.builtin "list.extend.loop" ⟨[.ref S,.ref I,res],[]⟩) R { s with heap:=g,toks:=tk,drawn:=dr }:=by
  intro g c1 tk st1 hk hS2;refine codeAny_extend_loopS W.toS hz S SI res es.size 0 _ #[] c1 rfl (Gr _) st1 hS2 (ItemsOf.nil _) fun s' acc c' hm hS' hacc=>?_
  rw[Moved.eq_with hm];refine hR s'.heap s'.toks dr acc c' (fun b o hb e=>hm.heap b o (fun m=>?_) (hk b o hb e)) hS' ?_
  ·rcases Qe.mp m with e'|m
   ·exact hb e'
   ·rw[Gw] at m;exact absurd (Qf e) (KQ.mpr (m▸le))
  ·have yl:ys.length=es.size:=by rw[pm.length_eq,Qx,Qw]
   have:acc.toList=ys:=KE (by rw[Qw,hacc.1,yl]) fun i a1 a2=>by have:ys[i]?=some acc.toList[i]:=hacc.2 i acc.toList[i] (by rw[<- Gg];exact QU a1);rw[QU a2] at this;exact(Qr this).symm
   rw[this];exact pm
 refine Qa (G3 (Jag (s:={ s with heap:=h',drawn:=dr }) ⟨o,old _ _ ho,hex.1⟩ ?_));refine KU (fun _=>?_) (fun _=>Qd ⟨G4 Ko _,key _ _ _ st (fun b o _ e=>old b o e) hS1⟩);refine Qa (GP (Qa ?_));show wpAny _ _ (updateSeq S (·.push .none) >>= fun _=>updateSeq S (·.pop)) _ _ _;refine Qa (wpAny_updateSeq hS1 rfl ?_);have hS2:=QT (Le (·.push Value.none)) hS1 rfl
 refine wpAny_updateSeq (hz:=by seq_fits) hS2 rfl ?_;have hS3:=QT (Le (·.pop)) hS2 rfl;refine Qd ⟨G4 Ko _,key _ _ _ ?_ (fun b o hb e=>?_) hS3⟩
 ·refine W.frame 0 _ _ st fun b hb o e=>?_
  have bS:b≠S:=fun h=>SI (h▸hb)
  exact(QN _ _ (Qy bS)).trans ((QN _ _ (Qy bS)).trans e)
 ·exact(QN _ _ (Qy hb)).trans ((QN _ _ (Qy hb)).trans (old b o e))
theorem VR{R:List Value->Shared->Prop}(hh:A.handled=none)(hs:SHas s.heap d es ep t)(hf:t.fits es.size=true)(tok:TOk (JW w) t)(hz:es.size<=sizeLine)
 (h:∀(h':Heap) (tk:Nat) (dr:Drawn) (acc:Array Value),(∀b o,s.heap.get? b=some o->h'.get? b=some o)->s.heap.objs.size<h'.objs.size->acc.toList.Perm (es.toList.map (·.2))->R acc.toList { s with heap:=h',toks:=tk,drawn:=dr }):wpAny (model prog w) A (collect (.ref d)) R E s:=by
 obtain⟨o,ho,hex,hd⟩:=id hs;have dlt:d<s.heap.objs.size:=Qf ho;have old:∀b o,s.heap.get? b=some o->(s.heap.push { cls:=.type "list",data:=.seq ([]:List Value).toArray }).get? b=some o:=fun b o e=>Qc _ e
 unfold collect;refine Qa (wpAny_runValue (Gz entry_proto_collect' ?_));rw[Gk PySem.F.plain_proto_collect _];show wpAny _ A.in1 (newList [] >>= fun l=>again (.builtin "list.__iadd__" ⟨[l,.ref d],[]⟩)) _ _ s;refine Qa (QQ (Qd ⟨G4 KF _,Gz entry_list_iadd' ?_⟩));rw[Gk KF _];have at0:(s.heap.push { cls:=.type "list",data:=.seq ([]:List Value).toArray }).get? s.heap.objs.size=some { cls:=.type "list",data:=.seq #[] }:=Qg _ rfl
 have fin:∀(h':Heap) (tk:Nat) (dr:Drawn) (acc:Array Value) (c:Nat),(∀b o,s.heap.get? b=some o->h'.get? b=some o)->h'.get? s.heap.objs.size=some { cls:=.type "list",dict:=none,data:=.seq acc c,slots:=#[] }->acc.toList.Perm (es.toList.map (·.2)) ->
  wpAny (model prog w) A (load s.heap.objs.size >>= fun o=>match o.data with | .seq xs _=>pure xs.toList | _=>unsupported "internal:collect") R E { s with heap:=h',toks:=tk,drawn:=dr }:=fun h' tk dr acc c hk hS hi=>Qa (wpAny_load hS (Qd (h h' tk dr acc hk (Qf hS) hi)))
 have got:=We (prog:=prog) (A:=A) (s:={ s with heap:=s.heap.push { cls:=.type "list",data:=.seq ([]:List Value).toArray } }) (R:=fun q s'=>∃h' tk dr acc c,q=.ok (.ret (.ref s.heap.objs.size))/\s'={ s with heap:=h',toks:=tk,drawn:=dr }/\(∀b o,s.heap.get? b=some o->h'.get? b=some o)/\h'.get? s.heap.objs.size=some { cls:=.type "list",dict:=none,data:=.seq acc c,slots:=#[] }/\acc.toList.Perm (es.toList.map (·.2)))
  hh (hs.at fun o e=>old _ o e) hf tok hz s.heap.objs.size (GC dlt) (.ref s.heap.objs.size) at0 (fun h' tk dr acc c hk hS hi=>⟨h',tk,dr,acc,c,rfl,rfl,fun b o e=>hk b o (Qo (Qf e)) (old b o e),hS,hi⟩)
 refine Kh got (fun f s' x=>?_) fun e s' ⟨_,_,_,_,_,z,_⟩=>nomatch z
 cases f with
 | done f=>obtain⟨h',tk,dr,acc,c,e,rfl,hk,hS,hi⟩:=x;cases e;exact fin h' tk dr acc c hk hS hi
 | again c1=>exact⟨x.1,GU x.2 fun q s2 ⟨h',tk,dr,acc,c,e1,e2,hk,hS,hi⟩=>by subst e1;subst e2;exact fin h' tk dr acc c hk hS hi⟩
end
noncomputable def fM(ns:List Int):List Int:=firstMet (fun i=>ns.getD i 0) ns.length
theorem Ws(ns:List Int):fM ns=ns.foldl step_dedup []:=by
 unfold fM firstMet;congr 1;refine KE (by simp) fun i h1 h2=>?_
 simp[Ga,h2]
theorem Vm:∀(ns acc:List Int),acc.Nodup->(ns.foldl step_dedup acc).Nodup
 | [],acc,h=>h
 | n::ns,acc,h=>by
  rw[Gi];refine Vm ns _ ?_;unfold step_dedup;split
  ·exact h
  ·rename_i c;refine List.nodup_append.mpr ⟨h,by simp,fun a ha b hb=>?_⟩;rw[Gw] at hb;subst hb;intro e;subst e;exact c (G1.mpr ⟨a,ha,by simp⟩)
theorem ZT:∀(ns acc:List Int) (k:Int),k∈ns.foldl step_dedup acc↔k∈acc\/k∈ns
 | [],acc,k=>by simp
 | n::ns,acc,k=>by
  rw[Gi,ZT ns];unfold step_dedup;split
  ·rename_i c;obtain⟨x,hx,e⟩:=G1.mp c;have:x=n:=by simpa using e
   subst this;simp only[Qe];constructor
   ·exact fun h=>h.elim .inl fun h=>.inr (.inr h)
   ·rintro(h|h|h)
    ·exact .inl h
    ·exact .inl (h▸hx)
    ·exact .inr h
  ·simp only[GK,Qe,Q2,or_false,or_assoc]
theorem Vq(ns:List Int):(fM ns).Nodup:=by rw[Ws];exact Vm ns [] List.nodup_nil
theorem Jdr(ns:List Int)(k:Int):k∈fM ns↔k∈ns:=by rw[Ws,ZT];simp
theorem Z3(ns:List Int):(fM ns).length<=ns.length:=firstMet_length_le _ _
theorem Y5:∀{a b:List Int},a.Nodup->(∀x∈a,x∈b)->b.length=a.length->b.Perm a
 | [],b,_,_,h=>by have:b=[]:=QR (by simpa using h);rw[this]
 | x::a,b,nd,sub,h=>by
  have hx:=sub x Qj
  have pb:=List.perm_cons_erase hx;refine pb.trans (List.Perm.cons x ?_)
  have nd':=Gh.mp nd;refine Y5 nd'.2 (fun y hy=>?_) (by rw[List.length_erase_of_mem hx,h];simp);rcases Qe.mp (pb.mem_iff.mp (sub y (Qh _ hy))) with e|e
  ·exact absurd (e▸hy) nd'.1
  ·exact e
theorem Vu{prog:Program}{w:World}:∀{l:List (Int×Value)},ElemsOf (intKind prog w) l->∃ks:List Int,IntsAre (l.map (·.2)) ks
 | [],_=>⟨[],.nil⟩
 | e::l,h=>by obtain⟨ks,r⟩:=Vu h.tail;obtain⟨⟨k,hk,_⟩,_⟩:=h.head;obtain⟨tk,e2⟩:=Kp (show Lm k e.2=true from hk);refine⟨k::ks,?_⟩;rw[Qq,e2];exact .cons k tk r
theorem Vw{x:Int}:∀{vs:List Value} {ks:List Int},IntsAre vs ks->∀v∈vs,Lm x v=true->x∈ks
 | _,_,.nil,v,h,_=>by simp at h
 | _,_,.cons n t r,v,h,e=>by
  rcases Qe.mp h with q|q
  ·subst q;obtain⟨tk,e2⟩:=Kp e
   injection e2 with e2
   subst e2;exact Qj
  ·exact Qh _ (Vw r v q e)
theorem W8{a b:List Value}(p:a.Perm b):∀{ks:List Int},IntsAre a ks->∃ks',IntsAre b ks'/\ks'.Perm ks:=by
 induction p with
 | nil=>intro ks r;exact⟨ks,r,.refl _⟩
 | cons x p ih =>
  intro ks r
  cases r with
  | cons n t r=>obtain⟨ks',r',q⟩:=ih r;exact⟨n::ks',.cons n t r',q.cons n⟩
 | swap x y l =>
  intro ks r
  cases r with
  | cons n t r=>cases r with
   | cons m u r=>exact⟨m::n::_,.cons m u (.cons n t r),List.Perm.swap _ _ _⟩
 | trans p q ih1 ih2=>intro ks r;obtain⟨k1,r1,q1⟩:=ih1 r;obtain⟨k2,r2,q2⟩:=ih2 r1;exact⟨k2,r2,q2.trans q1⟩
theorem JaR{prog:Program}{w:World}{led:Bool}{h:Heap}{a:Addr}{ns:List Int}(x:SetL prog w led h a (fun k=>(fM ns).any (· == k)) (fM ns).length) :
 ∃es ep t ks,SHas h a es ep t/\t.fits es.size=true/\TOk led t/\es.size=(fM ns).length/\IntsAre (es.toList.map (·.2)) ks/\ks.Perm (fM ns):=by
 obtain⟨o,es,ep,t,z⟩:=x;obtain⟨ks,r⟩:=Vu z.els;refine⟨es,ep,t,ks,⟨o,z.got,z.ex,z.data⟩,z.fits,z.tok,z.size,r,?_⟩;refine Y5 (Vq ns) (fun y hy=>?_) ?_
 ·obtain⟨e,he,hi⟩:=(z.mem y).mp (G1.mpr ⟨y,hy,by simp⟩);exact Vw r e.2 (Kc.mpr ⟨e,he,rfl⟩) hi
 ·have:=K7 r;rw[Qx,Qw] at this;rw[<- this,z.size]
noncomputable def Jcp(X:Cx)(l:Addr)(ns:List Int):HO:=.ext fun h=>SetL X.prog X.w (JW X.w) h l (fun k=>(fM ns).any (· == k)) (fM ns).length
noncomputable def JcP(X:Cx):List V->Hp->VK->Prop:=fun xs H Q=>∃a ns,xs=[.ref a]/\SqL X.K H a (ns.map V.int)/\ns.length+1<scanBound/\∀l,H l=none->Q (.ref l) (upd H l (Jcp X l ns))
noncomputable def Jek(X:Cx):List V->Hp->VK->Prop:=fun xs H Q=>∃r ns,xs=[.ref r]/\H r=some (Jcp X r ns)/\ns.length<64/\∀l,H l=none->Q (.ref l) (upd H l (.lst ((Yl (fM ns)).map V.int)))
section
variable{X:Cx}
theorem Inv.drew{pins:List (Addr×Obj)}{σ:List (Option V)}{H:Hp}{s:Shared}{d:Drawn}(I:Inv X pins σ H s):Inv X pins σ H { s with drawn:=d } :=
 ⟨I.ok,I.os,I.bare,I.base,I.loc,I.cell,I.free,I.freeC,I.pin,I.hok,I.len⟩
theorem WZ(hc:X.calm=true):CallR X (.type "set") (JcP X):=by
 intro pins s σ H xs us Q I r h;obtain⟨a,ns,rfl,hq,hb,q⟩:=h;obtain⟨u,rfl,rx⟩:=WQ r;cases rx;obtain⟨its,r',pl,hz⟩:=I.list hq;have hh:X.A.handled=none:=I.ok.hd hc;have hi:=Yz r';have il:its.length=ns.length:=K7 hi;have hne:H s.heap.objs.size=none:=I.hok.fresh (Qm _);refine WY (ns:=ns) hh pl.isList hi (by rw[Qk,il];exact hb) fun h' tk hS old=>?_
 have ez:its.toArray.size=ns.length:=by rw[Qk,il]
 rw[ez] at hS;refine⟨.ref s.heap.objs.size,_,I.laid (t':=tk) (o:=Jcp X s.heap.objs.size ns) old (Qm _) ⟨hS,?_,fun h1 h2 p k=>p.move k⟩,rfl,q _ hne⟩;obtain⟨o,_,_,_,z⟩:=hS;exact⟨o,z.got⟩
theorem V3(hc:X.calm=true):CallR X (.builtin "sorted") (Jek X):=by
 intro pins s σ H xs us Q I r h;obtain⟨p,ns,rfl,ds,h64,q⟩:=h;obtain⟨u,rfl,rx⟩:=WQ r;cases rx;have z:=(show ObjOk X.prog X.w H s.heap p (Jcp X p ns) from I.hok p _ ds).1;obtain⟨es,ep,t,ks,hs,hf,tok,sz,ri,pm⟩:=JaR z;have hh:X.A.in1.handled=none:=I.ok.hd hc;have fl:=Z3 ns;have room:∀n:Nat,n<64->n<=sizeLine:=fun n h=>by show n<=16777216;omega
 refine Calls.call_function_entry kind_sorted plain_sorted entry_sorted (args_sorted1 _) ?_;unfold Builtin.«sorted»;refine Qa (m:=checkCount "sorted" 1 1 _) (Qd ?_);refine Qa (VR hh hs hf tok (room _ (by omega)) fun h' tk dr acc hk hsz pa=>?_);obtain⟨k2,hI,p2⟩:=W8 pa.symm ri;have pk:=p2.trans pm;have hal:acc.toList.length=(fM ns).length:=by rw[K7 hI,pk.length_eq]
 refine Qa (wpAny_newList ?_ (room _ (by omega)));have hoL:(h'.push (seqObj "list" acc.toList.toArray 0)).get? h'.objs.size=some (seqObj "list" acc.toList.toArray 0):=Qg _ rfl;refine Qa (G3 (QX slot_list_sort ⟨_,hoL,rfl⟩ entry_list_sort (list_sort_tree hoL hI (by omega) fun out ns' a1 a2 a3=>⟨_,rfl,?_⟩) (args_list_sort _)));refine Qd ⟨_,rfl,?_⟩;have e0:ns'=Yl (fM ns):=UW ((a2.trans pk).trans (J7 _).symm) a3 (VX _)
 subst e0;obtain⟨e,he⟩:=sortedHeap_at (out:=out) hoL;have hle:s.heap.objs.size<=h'.objs.size:=GB hsz;have hne:H h'.objs.size=none:=I.hok.fresh hle;have hn:((Yl (fM ns)).map V.int).length<=sizeLine:=by rw[Qx,(J7 _).length_eq];exact room _ (by omega)
 refine⟨.ref h'.objs.size,_,(I.drew (d:=dr)).laid (t':=tk) (fun b o x=>?_) hle (show ObjOk X.prog X.w _ _ _ (.lst ((Yl (fM ns)).map V.int)) from⟨hn,out.toList,e,Vg a1,?_⟩),rfl,q _ hne⟩
 ·have hx:=hk b o x
  have hlt:b<h'.objs.size:=Qf hx;rw[sortedHeap_old (Qo hlt) (by rw[size_push'];exact QK hlt)];exact Qc _ hx
 ·rw[he]
noncomputable def tUp(te:TE):TE:=fun σ H Q=>∃A:VK,te σ H A/\∀x H1,A x H1->Q x H1
theorem JfT{e:Expr}{te:TE}(h:PE X e te):PE X e (tUp te):=by intro pins s σ H Q I ⟨A,h1,h2⟩;exact thn (h pins s σ H A I h1) fun v s1 ⟨x,H1,I1,r1,a⟩=>⟨x,H1,I1,r1,h2 x H1 a⟩
theorem PE.imp{e:Expr}{t1 t2:TE}(h:PE X e t1)(i:∀σ H Q,t2 σ H Q->t1 σ H Q):PE X e t2:=fun pins s σ H Q I x=>h pins s σ H Q I (i σ H Q x)
end
noncomputable def Ja0(K:Frag)(te:TE):TE:=fun σ H Q=>te σ H fun x H1=>∃a ns,x=.ref a/\SqL K H1 a (ns.map V.int)/\ns.length<64/\∀l o l',H1 l=none->upd H1 l o l'=none->Q (.ref l') (upd (upd H1 l o) l' (.lst ((Yl (fM ns)).map V.int)))
section
variable{X:Cx}{e:Expr}{te:TE}{p1 p2 q1 q2:Pos}
theorem Jd8(hc:X.calm=true)(hg:Gl X "set")(hm:X.mg "set"=none)(he:PE X e te)(h1:starEach [e] X.env=(false,eval e X.env)::starEach [] X.env:=by rfl):PE X (.Call (.Name "set" p1) [e] [] q1) (tCB (JcP X) (YT (tUp te) VY)) :=
 Zn (WZ hc) hg hm (by rfl) (Ja (JfT he) Jg h1) (he:=h1)
theorem Jaw{K:Frag}(hK:X.K=K)(hc:X.calm=true)(hg:Gl X "sorted")(hm:X.mg "sorted"=none)(hg2:Gl X "set")(hm2:X.mg "set"=none)(he:PE X e te)(h1:starEach [e] X.env=(false,eval e X.env)::starEach [] X.env:=by rfl)
 (h2:starEach [Expr.Call (.Name "set" p1) [e] [] q1] X.env=(false,eval (.Call (.Name "set" p1) [e] [] q1) X.env)::starEach [] X.env:=by rfl):PE X (.Call (.Name "sorted" p2) [.Call (.Name "set" p1) [e] [] q1] [] q2) (Ja0 K te):=by
 subst hK;refine PE.imp (JU (V3 hc) hg hm (by rfl) (Ja (Jd8 hc hg2 hm2 he h1) Jg h2) (he:=h2)) fun σ H Q h=>⟨_,h,?_⟩
 rintro x H1 ⟨a,ns,rfl,hq,h64,q⟩;exact⟨a,ns,rfl,hq,by show ns.length+1<4096;omega,fun l hl=>⟨l,ns,rfl,Ju,h64,fun l' hl'=>q l _ l' hl hl'⟩⟩
end
end L2

namespace LE
open PySem L2 LR
noncomputable def V5(a:Ev):Ev:=fun E=>(a E).bind fun s=>s.r.bind fun ds=>(ints? ds).bind fun ns=>if ns.length<64 then some (.own ((Yl (fM ns)).map .int)) else none
section
variable{K:Frag}{C:Addr}{td:TE}{ed:Ev}
theorem Jck(ha:SE K C td ed):SE K C (Ja0 K td) (V5 ed):=by
 intro B H0 H σ E r Q I e q;obtain⟨s,e1,e⟩:=bind_some e;obtain⟨ds,e2,e⟩:=bind_some e;obtain⟨ns,e3,e⟩:=bind_some e;split at e
 ·next h64 =>
  cases e;refine ha B H0 H σ E s _ I e1 fun x H1 H1' s1 r1=>?_
  obtain⟨l,ys,rfl,h,r2⟩:=r1.r s1.i e2;rw[Yt e3] at r2;have:=r2.ints;subst this;refine⟨l,ns,rfl,h,h64,fun w o l' hw hl'=>?_⟩;have st:Step H1' H1 H1' H1 (upd H1' w o):=⟨.new hw,Same.refl _,fun _ _ e=>.inl e,s1.i.trans (.new hw)⟩
  have s2:=s1.trans st;exact Ud s2.i s2.h hl' (JaL _) fun v H2 H2' s3 r3=>q v H2 H2' (s2.comp s3 fun _ y=>y) r3
 ·cases e
end
end LE

namespace L2
open PySem PyProof.Rows PySem.W PySem.Spec
section
variable{X:Cx}
end
end L2
namespace LE
open PySem L2 LR
section
variable{K:Frag}{C:Addr}
end
end LE

namespace L2
open PySem PyProof.Rows PySem.W PySem.Spec
end L2
namespace LE
open PySem L2 LR
section
variable{K:Frag}{C:Addr}
end
end LE

namespace L2
open PySem PyProof.Rows PySem.W PySem.Spec
section
variable{prog:Program}{w:World}{A:Around}{E:Value->Shared->Prop}{s:Shared}
end
section
variable{prog:Program}{w:World}{A:Around}{R:Result->Shared->Prop}{I:Addr}{fp wr:List Addr}{G:Array GenState->Array GenState->Prop}{n:Nat}{P:Nat->Value->Prop}{St:Nat->Shared->Prop}
end
section
variable{prog:Program}{w:World}{A:Around}{E:Value->Shared->Prop}{s:Shared}
end
end L2

namespace L2
open PySem PyProof.Rows PySem.W PySem.Spec
end L2
namespace LE
open PySem L2 LR
noncomputable def prs?:List D->Option (List PrI)
 | []=>some []
 | .tup [.int a,.int b]::r=>(prs? r).map ((a,b)::·)
 | _=>none
theorem WB:∀ps:List PrI,prs? (ps.map prE)=some ps
 | []=>rfl
 | p::ps=>by show(prs? (ps.map prE)).map _=_;rw[WB ps];rfl
section
variable{K:Frag}{C:Addr}{td:TE}{ed:Ev}
end
end LE

namespace LE
open PySem L2 LR
noncomputable def ifB(f:Sl->Sl->Option Sl)(d:D)(ew:Ev)(a b:Es):Es:=fun E=>((ew E).bind fun s=>(f (.sh d) s).bind bool?).bind fun k=>if k=true then a E else b E
section
variable{K:Frag}{C:Addr}{r:R2}{f:Sl->Sl->Option Sl}{j:Nat}{ty tx tw:TE}{ek ev ew:Ev}{t u:TS}{et eu:Es}
end
end LE

namespace LE
open PySem L2 LR
section
variable{K:Frag}{C:Addr}{Hs H0 H:Hp}{td tx:TE}{ed ex:Ev}
end
end LE

namespace L2
open PySem PySem.Spec PyProof.Rows
noncomputable def JfD:TIp:=fun x y H Q=>∃i j,x=.int i/\y=.int j/\Jfe i j/\Q (.int (i*j)) H
theorem JbG{X:Cx}:PIp X .Mult JfD:=by intro pins s σ H x y v u Q I r1 r2 h;obtain⟨i,j,e1,e2,hc,q⟩:=h;subst e1;subst e2;obtain⟨t,rfl⟩:=r1;obtain⟨t',rfl⟩:=r2;exact imul_int ⟨.int _,H,I.tok _,⟨_,rfl⟩,q⟩ (IntMulOk.of_bits (Wl hc.1) (Wl hc.2))
end L2
namespace LE
open PySem L2 LR
noncomputable def WS(i:Nat)(a:Ev):Es:=fun E=>match E[i]? with
 | some (.sh (.int x))=>(a E).bind fun s=>match s with
  | .sh (.int y)=>if (YU x && YU y)=true then some (.nx (E.set i (.sh (.int (x*y))))) else none
  | _=>none
 | _=>none
section
variable{K:Frag}{C:Addr}{te:TE}{ea:Ev}
theorem Je9{i:Nat}(ha:SE K C te ea):SS K C (Jgs i te JfD) (WS i ea):=by
 intro B H0 H σ E o D I e f;unfold WS at e;split at e
 ·next x h =>
  obtain⟨s,e1,e⟩:=bind_some e;split at e
  ·split at e
   ·next hb =>
    cases e;simp only[Qn,YU,Gu] at hb;rcases I.at' i _ h with z|⟨v,h1,h2⟩
    ·cases z
    ·have hi:i<E.length:=(Qi.mp h).1;refine⟨v,h1,ha B H0 H σ E _ _ I e1 fun w H1 H1' s1 r1=>⟨_,_,RD.intI h2,RD.intI r1,hb,f _ _ _ (s1.ss I.b) ((I.step s1).setSh hi (.int _))⟩⟩
   ·cases e
  ·cases e
 ·cases e
end
theorem JbM{x y:Int}{α:Type}{r:α}(h:x.natAbs<=10 ^ 200/\y.natAbs<=10 ^ 200):(if (YU x && YU y)=true then some r else none)=some r:=by rw[if_pos];simp only[Qn,YU,Gu];exact h
end LE

namespace LE
open PySem L2 LR
theorem Jds{P:Program}{w:World}{K:Frag}{C:Addr}{mg:Str->Option Value}{base:Heap}{CX:CXT}{k n:Nat}{f:Addr}{fd:FuncData}{ps:List Str}{ev:List Sl->Option Sl}(h:∀as,ev as=none):FnOk P w K mg base CX k f fd ps (spE K C n ev) :=
 ⟨fun _ _ _ _ ⟨_,as,_,_,_,_,_,e,_⟩=>(by rw[h as] at e;cases e),fun _ _ _ _ _ _ _ _ _ _ _ _ _ ⟨_,as,_,_,_,_,_,e,_⟩=>(by rw[h as] at e;cases e)⟩
end LE

end
open L2 LR
local macro_rules | `(tactic| walk_at "side")=>`(tactic| first | decide | exact⟨by decide,by decide,by decide⟩ | exact⟨by decide,by decide⟩ | (show(0:Int)<_;omega) | (show(0:Int)<_/\_<(1073741824:Int);omega) | exact Or.inl ⟨by omega,by omega⟩ | exact Or.inr ⟨by omega,by omega⟩ | assumption)
local macro_rules | `(tactic| walk_at "rd1")=>`(tactic| with_reducible first | refine JeG ?_ | refine Jen ?_ | refine Jes ?_ | refine JeF ?_ | refine Jb5 ?_ | refine Jcc ?_ | refine Jf5 ?_ | refine Jf8 ?_ | refine Jcg ?_ | refine Jf7 ?_ | refine Jch ?_ | refine Jem ?_ | refine Jf6 ?_ | refine JeD ?_ | refine Jce ?_ | refine Jb3 ?_ | refine JeE ?_ | refine Jer ?_ | refine Jb4 ?_ | refine JeC ?_ | refine Jf2 ?_ | refine WH ?_ | refine LR.Jcb ?_ | refine JeH ?_ | refine Jey ?_ | refine Jf4 ?_ | refine JaI ?_ | refine Jb7 ?_ | refine JaH ?_ | refine Jb6 ?_ | refine Jeq ?_ | refine Jcf ?_ | refine JaG ?_ | refine JeJ ?_ | refine Jg0 ?_ | refine Jf3 ?_ | refine Jg2 ?_ | refine Jb2 ?_ | refine Jeo ?_ | refine JeA ?_ | refine Jep ?_ | refine JeB ?_ | refine Jet ?_ | refine Jcd ?_ | refine Jez ?_ | refine JaK ?_ | refine Exists.intro _ (And.intro (LR.Je4 _ _ _) ?_))
local macro_rules | `(tactic| walk_at "rd2")=>`(tactic| first | ((with_reducible refine Jg1 ?hc ?_);(case hc=>walk_at "side")) | ((with_reducible refine JeI (v:=?vv) ?hx ?_);(case hx=>exact rfl)) | (with_reducible refine Exists.intro _ (And.intro (Eq.refl (V.bl _)) ?_)))
local macro_rules | `(tactic| walk_at "rd")=>`(tactic| repeat (first | walk_at "rd1" | walk_at "rd2"))
noncomputable section
namespace LK
open PySem L2 LR LE
noncomputable def JA:List Sl->Option Sl:=Yy 4 (JI (xIf (tB? (e2 fLt (Jb 1) (eC (.int 0)))) (Yr (eC (.int 0))) J2)
 (JI (JV 2 (eC (.int 1)))
 (JI (Vi (iR1 (aC (Jb 1) a0)) (.nm 3) (JV 2 (e2 Z0 (e2 Y8 (Jb 2) (e2 Ui (Jb 0) (Jb 3))) (e2 J5 (Jb 3) (eC (.int 1))))))
 (UY 2))))
noncomputable def JC:List Sl->Option Sl:=Yy 2 (JI (xIf (tB? (e2 fGt (e2 Y8 (eC (.int 2)) (Jb 1)) (Jb 0))) (Yr (eC (.int 0))) J2)
 (Yr (e2 Ui (eU 2 JA (aC (Jb 0) (aC (Jb 1) a0))) (eU 2 JA (aC (Jb 0) (aC (e2 Ui (Jb 1) (eC (.int 1))) a0))))))
noncomputable def Jz:List Sl->Option Sl:=Yy 2 (JI (xIf (tB? (e2 fLt (Jb 1) (eF U3 (aC (Jb 0) a0)))) (Yr (e2 fIx (Jb 0) (Jb 1))) J2)
 (Yr (eC (.int 0))))
noncomputable def J4(Jh:List Sl->Option Sl):List Sl->Option Sl:=Yy 5 (JI (xIf (tB? (e2 fEq (Jb 0) (eC (.int 0)))) (Yr (V4 (aC (V4 a0) a0))) J2)
 (JI (Je7 2 (V4 a0))
 (JI (Vi (iR2 (aC (eC (.int 1)) (aC (e2 J5 (eF Z9 (aC (Jb 0) (aC (Jb 1) a0))) (eC (.int 1))) a0))) (.nm 3) (Vi (iE false (eU 2 Jh (aC (e2 Ui (Jb 0) (Jb 3)) (aC (Jb 3) a0)))) (.nm 4) (JcA 2 (e2 J5 (Jb 4) (V4 (aC (Jb 3) a0))))))
 (UY 2))))
noncomputable def JQ:Nat->List Sl->Option Sl
 | 0=>fun _=>none
 | n+1=>J4 (JQ n)
noncomputable def Jh:List Sl->Option Sl:=JQ 11
noncomputable def JS:List Sl->Option Sl:=Yy 2 (Yr (eIf (tB? (e2 fIs (Jb 1) (eC .non))) (Jb 0) (eF Z9 (aC (Jb 0) (aC (Jb 1) a0)))))
noncomputable def Jo:List Sl->Option Sl:=Yy 2 (xIf (tB? (e2 fGt (eF Jaa (aC (UP (iE true (Jb 0)) (.tp (.cons (.nm 0) (.cons (.nm 1) .nil))) yes? (Jb 1) [none,none]) a0)) (Jb 1))) YE J2)
noncomputable def Jp:List Sl->Option Sl:=Yy 4 (JI (JV 1 (eC (.int 0)))
 (Vi (iV 0) (.tp (.cons (.nm 2) (.cons (.nm 3) .nil))) (JI (xIf (tB? (e2 fLe (Jb 2) (Jb 1))) YE J2)
 (JI (xIf (tB? (e2 fLt (Jb 3) (eC (.int 1)))) YE J2)
 (JV 1 (Jb 2))))))
noncomputable def Jx:List Sl->Option Sl:=Yy 1 (xIf (tAnd? (tB? (e2 U2 (Jb 0) (eC .non))) (tB? (e2 fLt (Jb 0) (eC (.int 1))))) YE J2)
noncomputable def Jy:List Sl->Option Sl:=Yy 2 (JI (UC (eU 1 Jx (aC (Jb 1) a0)))
 (JI (UC (eU 1 Jp (aC (Jb 0) a0)))
 (JI (UC (eU 2 Jo (aC (Jb 0) (aC (eC (.int 30)) a0))))
 (Yr (eF Jaa (aC (UP (iE true (Jb 0)) (.tp (.cons (.nm 0) (.cons (.nm 1) .nil))) yes? (e2 Y8 (Jb 1) (eU 2 JS (aC (Jb 0) (aC (Jb 2) a0)))) [none,none,some 1]) a0))))))
noncomputable def Ye:List Sl->Option Sl:=Yy 2 (JI (UC (eU 1 Jp (aC (Jb 1) a0)))
 (JI (UC (eU 2 Jo (aC (Jb 1) (aC (eC (.int 12)) a0))))
 (Yr (UP (iE true (Jb 1)) (.tp (.cons (.nm 0) (.cons (.nm 1) .nil))) yes? (ZX (aC (Jb 0) (aC (e2 Ui (Jb 2) (e2 Y8 (eC (.int 2)) (eU 2 Jy (aC (Jb 3) (aC (Jb 0) a0))))) a0))) [none,none,some 0,some 1]))))
noncomputable def JD:List Sl->Option Sl:=Yy 2 (Yr (eIf (tB? (e2 fLt (Jb 0) (eC (.int 0)))) (eC (.int 0)) (eU 2 JA (aC (e2 J5 (Jb 0) (Jb 1)) (aC (Jb 1) a0)))))
noncomputable def JR:List Sl->Option Sl:=Yy 5 (JI (JV 2 (eC (.int 1)))
 (JI (Vi (Jdw false (aC (eU 2 Ye (aC (Jb 0) (aC (Jb 1) a0))) (aC (Jb 1) a0))) (.tp (.cons (.nm 3) (.cons (.nm 4) .nil))) (WS 2 (eU 2 JD (aC (e2 fIx (Jb 3) (eC (.int 1))) (aC (e2 fIx (Jb 4) (eC (.int 1))) a0)))))
 (UY 2)))
noncomputable def V6:List Sl->Option Sl:=Yy 12 (JI (JV 1 (eU 2 Jz (aC (Jb 0) (aC (eC (.int 0)) a0))))
 (JI (JV 2 (eU 2 Jz (aC (Jb 0) (aC (eC (.int 1)) a0))))
 (JI (JV 3 (e2 fIx (V4 (aC (e2 Vr (Jb 2) (eC (.int 31))) (aC (e2 Vr (Jb 2) (e2 J5 (e2 JbA (eC (.int 10)) (eC (.int 4))) (eC (.int 1)))) (aC (e2 Vr (Jb 2) (e2 J5 (e2 JbA (eC (.int 10)) (eC (.int 9))) (eC (.int 1)))) a0)))) (e2 Vr (e2 Z0 (Jb 1) (eC (.int 10))) (eC (.int 3)))))
 (JI (JV 4 (e2 Vr (Jb 1) (eC (.int 10))))
 (JI (JV 5 (eC (.int 0)))
 (JI (Vi (iE false (eU 2 Jh (aC (Jb 4) (aC (Jb 4) a0)))) (.nm 6) (JV 5 (e2 J5 (Jb 5) (eU 2 JR (aC (Jb 3) (aC (UP (iE true (V5 (Jb 6))) (.nm 0) yes? (ZX (aC (Jb 0) (aC (eMI Wr (Jb 1) (Jb 0)) a0))) [none,some 6]) a0))))))
 (JI (JV 7 (eU 2 JC (aC (Jb 3) (aC (Jb 4) a0))))
 (JI (xIf (tOr? (tNot? (tTru? (ZW "int" (Jb 7)))) (tOr? (tTru? (ZW "bool" (Jb 7))) (tB? (e2 fNe (Jb 7) (Jb 5))))) (Yr (eC (.bl false))) J2)
 (JI (JV 8 (e2 Vr (eU 2 Jz (aC (Jb 0) (aC (eC (.int 2)) a0))) (eC (.int 201))))
 (JI (JV 9 (eC (.int 1)))
 (JI (Vi (iR1 (aC (Jb 8) a0)) (.nm 10) (JV 9 (e2 Z0 (e2 Y8 (Jb 9) (e2 Ui (e2 Y8 (eC (.int 2)) (Jb 8)) (Jb 10))) (e2 J5 (Jb 10) (eC (.int 1))))))
 (JI (xIf (tB? (e2 fNe (e2 Y8 (eU 2 JC (aC (e2 Y8 (eC (.int 2)) (Jb 8)) (aC (Jb 8) a0))) (e2 J5 (Jb 8) (eC (.int 1)))) (Jb 9))) (Yr (eC (.bl false))) J2)
 (JI (JV 11 (eU 2 JC (aC (Jb 3) (aC (Jb 8) a0))))
 (JI (xIf (tB? (e2 fGt (e2 Y8 (eC (.int 2)) (Jb 8)) (Jb 3))) (Yr (Jc9 (e2 fEq (Jb 11) (eC (.int 0))) (Jdb (ZW "bool" (Jb 11))))) J2)
 (JI (xIf (tOr? (tB? (e2 fEq (Jb 8) (eC (.int 0)))) (tB? (e2 fGt (e2 Y8 (eC (.int 2)) (Jb 8)) (e2 Ui (Jb 3) (eC (.int 1)))))) (Yr (e2 fGt (Jb 11) (eC (.int 0)))) J2)
 (Yr (e2 fEq (Jb 11) (e2 J5 (eU 2 JC (aC (e2 Ui (Jb 3) (eC (.int 1))) (aC (Jb 8) a0))) (eU 2 JC (aC (e2 Ui (Jb 3) (eC (.int 1))) (aC (e2 Ui (Jb 8) (eC (.int 1))) a0)))))))))))))))))))))
end LK
end
namespace LK
open PySem L2 LR LE
local macro_rules | `(tactic| omega)=>`(tactic| first | lia | omega (config:={}))
local macro_rules | `(tactic| walk_at "sd")=>`(tactic| first | omega (config:={}) | assumption | (simp only[Q1,Qx,List.length_reverse,Gn,List.length_nil,KW];omega (config:={})))
local macro_rules | `(tactic| walk_at "ev")=>`(tactic| simp -implicitDefEqProofs (disch:=walk_at "sd") only[Yy,Jcs,Int.reduceToNat,Gn,List.length_nil,Nat.reduceAdd,Nat.reduceSub,Nat.reduceLT,Nat.reduceLeDiff,QY,Nat.zero_lt_succ,Nat.succ_lt_succ_iff,List.reduceReplicate,List.cons_append,List.nil_append,GN,List.set_cons_zero,List.set_cons_succ,List.getElem?_cons_succ,List.getElem?_cons_zero,Qx,List.length_reverse,List.length_set,Go,Option.map_some,Option.bind_none,Option.map_none,if_true,if_false,ite_true,ite_false,decide_true,decide_false,Bool.not_true,Bool.not_false,Bool.and_true,Bool.true_and,reduceIte,reduceCtorEq,Bool.false_eq_true,Qq,KN,if_pos,
 JI,xIf,Yr,UY,J2,Je7,JV,UC,JcA,WS,JbM,Sl.dt,pr?,JfC,Jda,Jgv,V5,WB,ifB,lst?,Jfl,eMI,Sl.dk,int?,Jdt,Vi,tB?,tTru?,tAnd?,tOr?,tNot?,Je3,e2,e1,Jb,eF,eC,aC,a0,eU,Ue,Sl.pass,ZX,V4,Uj,Sl.frz,Jc9,Jdb,eIf,sh?,bool?,str?,keep?,ZW,tyN,D.isRow,JdW,JdV,Jcn,Jco,Jcl,Jcm,Jbh,Jbi,
 Jfq,Jbz,Jby,Jbx,JbB,Jbp,Jbw,Jbt,Jbs,Jbn,Jbm,Jbu,Jbv,Jbq,Jbo,Jbr,Jdp,Jdn,Jdm,Jdq,Jdl,Jdo,Jft,Jfs,Jfv,Jfr,Jfu,Z9,Sl.q,Sl.r,Sl.m,Sl.d,Sl.it,fEq,fNe,Jdh,Jdj,Jdg,Jdi,Jde,Jdf,Jdd,fIs,U2,Zc,Za,Jai,Ze,Zf,Zb,Jaj,Zd,iE,iV,iR1,iR2,UP,YG,Jdw,Uk,Jdz,Jdy,JaT,JdO,JbI,JdN,JdR,JdP,JdQ,Jfi,Jfj,Jba,ZC,JgH,JgI,JgJ,JgK,JgL,eq_self])
noncomputable section
theorem Wa(ns:List Int)(k:Int)(hk:0<=k):Jz [.sh (.fz (ns.map .int)),.sh (.int k)]=some (.sh (.int (cell ns k))):=by
 unfold Jz;walk_at "ev"
 by_cases h:k<(ns.length:Int)
 ·simp only[h,Wk,Vj hk h];walk_at "ev"
 ·simp only[h,ZS h];walk_at "ev"
theorem Good.cons'{p:Pr}{ps:List Pr}(g:Good (p::ps)):Good ps:=⟨fun i q e=>g.one (i+1) q (by simpa using e),fun i q r e1 e2=>g.gap (i+1) q r (by simpa using e1) (by simpa using e2)⟩
theorem Good.all{ps:List Pr}(g:Good ps):∀p∈ps,1<=p.2:=fun p hp=>by obtain⟨i,hi,e⟩:=G7.mp hp;exact g.one i p (by simp[hi,e])
theorem Good.first{p:Pr}:∀{ps:List Pr},Good (p::ps)->∀q∈ps,p.1+p.2<q.1
 | [],_,q,hq=>nomatch hq
 | r::ps,g,q,hq=>by
  have h1:=g.gap 0 p r rfl rfl;rcases Qe.mp hq with z|z
  ·rw[z];exact h1
  ·have h2:=Good.first (Good.cons' g) q z
   have h3:=g.one 1 r rfl;omega
theorem Z1(p:Pr):fIx (.sh (prE p)) (.sh (.int 1))=some (.sh (.int p.2)):=rfl
noncomputable abbrev JgF:Es:=(JI (xIf (tB? (e2 fLe (Jb 2) (Jb 1))) YE J2) (JI (xIf (tB? (e2 fLt (Jb 3) (eC (.int 1)))) YE J2) (JV 1 (Jb 2))))
noncomputable abbrev JgG:Pt:=(.tp (.cons (.nm 2) (.cons (.nm 3) .nil)))
noncomputable def Y7:Int->List Pr->Bool
 | _,[]=>false
 | a,p::r=>decide (p.1<=a) || (decide (p.2<1) || Y7 p.1 r)
theorem Vl:∀(ps:List Pr) (a:Int) (x j2 j3:Sl),Y7 a ps=false->∃E',Yn JgG JgF (ps.map prE) [x,.sh (.int a),j2,j3]=some (.nx E')
 | [],a,x,j2,j3,_=>⟨_,rfl⟩
 | p::r,a,x,j2,j3,h=>by rw[Y7,Q4,Q4] at h;obtain⟨E',ih⟩:=Vl r p.1 x (.sh (.int p.1)) (.sh (.int p.2)) h.2.2;refine⟨E',?_⟩;rw[Qq,Yn];simp only[prE];walk_at "ev";rw[h.1];walk_at "ev";rw[h.2.1];walk_at "ev";exact ih
theorem JcK(ps:List Pr)(h:Y7 0 ps=false):∃r,Jp [.sh (.lst (ps.map prE))]=some r:=by obtain⟨E',e⟩:=Vl ps 0 (.sh (.lst (ps.map prE))) .no .no h;unfold Jp;walk_at "ev";rw[e];exact⟨_,rfl⟩
theorem Jgr(ps:List Pr):Yo (.tp (.cons (.nm 0) (.cons (.nm 1) .nil))) yes? (Jb 1) [.no,.no] (ps.map prE)=some (ps.map fun p=>D.int p.2):=Yp fun p _=>by simp only[prE];walk_at "ev"
theorem JfF(ps:List Pr)(hl:ps.length<=20)(h:¬(ps.map (·.2)).sum>30):∃r,Jo [.sh (.lst (ps.map prE)),.sh (.int 30)]=some r:=by unfold Jo;walk_at "ev";rw[Jgr];walk_at "ev";rw[U4 (ns:=ps.map (·.2)) (by simp[Sl.q])];walk_at "ev";rw[decide_eq_false h];walk_at "ev";exact⟨_,rfl⟩
noncomputable def sE:Option Int->D
 | none=>.non
 | some s=>.int s
noncomputable def shr(s:Option Int)(x:Int):Int:=match s with
 | none=>x
 | some t=>min x t
noncomputable def Jfm:Option Int->Bool
 | none=>false
 | some s=>decide (s<1)
theorem JgQ(s:Option Int)(h:Jfm s=false):∃r,Jx [.sh (sE s)]=some r:=by
 unfold Jx
 cases s with
 | none=>simp only[sE];walk_at "ev";exact⟨_,rfl⟩
 | some s=>simp only[sE];walk_at "ev";rw[show decide (s<1)=false from h];walk_at "ev";exact⟨_,rfl⟩
theorem JfH(s:Option Int)(x:Int):JS [.sh (.int x),.sh (sE s)]=some (.sh (.int (shr s x))):=by
 unfold JS
 cases s with
 | none=>simp only[sE,shr];walk_at "ev"
 | some s=>simp only[sE,shr];walk_at "ev"
theorem Uc:∀{ps:List Pr} {a:Int},Y7 a ps=false->∀p∈ps,1<=p.2
 | [],_,_,_,hp=>by cases hp
 | q::r,a,h,p,hp=>by
  rw[Y7,Q4,Q4] at h;rcases Qe.mp hp with z|z
  ·have:=of_decide_eq_false h.2.1;rw[z];omega
  ·exact Uc h.2.2 p z
theorem U7:∀{ps:List Pr},(∀p∈ps,1<=p.2)->0<=(ps.map (·.2)).sum/\∀p∈ps,p.2<=(ps.map (·.2)).sum
 | [],_=>⟨K8 _,fun _ h=>by cases h⟩
 | q::r,h=>by
  obtain⟨h1,h2⟩:=U7 fun p hp=>h p (Qh q hp)
  have hq:=h q Qj;rw[Qq,List.sum_cons];refine⟨by omega,fun p hp=>?_⟩;rcases Qe.mp hp with z|z
  ·rw[z];omega
  ·have:=h2 p z;omega
theorem Wx{ps:List Pr}(h2:Y7 0 ps=false)(h3:¬(ps.map (·.2)).sum>30):∀p∈ps,1<=p.2/\p.2<=30:=fun p hp=>⟨Uc h2 p hp,by have:=(U7 (Uc h2)).2 p hp;omega⟩
noncomputable def tkF(ps:List Pr)(s:Option Int):Int:=(ps.map fun p=>p.2*shr s p.1).sum
theorem JgR(ps:List Pr)(s:Option Int)(hl:ps.length<=20)(h1:Jfm s=false)(h2:Y7 0 ps=false)(h3:¬(ps.map (·.2)).sum>30):Jy [.sh (.lst (ps.map prE)),.sh (sE s)]=some (.sh (.int (tkF ps s))):=by
 obtain⟨r1,e1⟩:=JgQ s h1;obtain⟨r2,e2⟩:=JcK ps h2;obtain⟨r3,e3⟩:=JfF ps hl h3;unfold Jy;walk_at "ev";rw[e1];walk_at "ev";rw[e2];walk_at "ev";rw[e3];walk_at "ev";rw[Yp (g:=fun p:Pr=>D.int (p.2*shr s p.1))]
 ·walk_at "ev";rw[U4 (ns:=ps.map fun p=>p.2*shr s p.1) (by simp[Sl.q])];walk_at "ev";rfl
 ·intro p hp;have nf:=Wx h2 h3 p hp;simp only[prE];walk_at "ev";rw[JfH];walk_at "ev"
noncomputable def bn:Nat->Nat->Nat
 | _,0=>1
 | 0,_+1=>0
 | m+1,n+1=>bn m n+bn m (n+1)
theorem ZL(m:Nat):bn m 0=1:=by cases m <;> rfl
theorem YV:∀(m n:Nat),(bn m (n+1):Int)*((n:Int)+1)=(bn m n:Int)*((m:Int)-(n:Int))
 | 0,0=>by simp[bn]
 | 0,n+1=>by simp[bn]
 | m+1,0=>by have h:=YV m 0;rw[ZL] at h ⊢;rw[show bn (m+1) (0+1)=bn m 0+bn m (0+1) from rfl,ZL];simp at h ⊢;omega
 | m+1,n+1=>by
  have h1:=YV m n
  have h2:=YV m (n+1);rw[show bn (m+1) (n+1+1)=bn m (n+1)+bn m (n+1+1) from rfl,show bn (m+1) (n+1)=bn m n+bn m (n+1) from rfl];simp only[Int.natCast_add,Int.cast_ofNat_Int] at h1 h2 ⊢
  revert h1 h2
  generalize (bn m (n+1):Int)=a
  generalize (bn m n:Int)=b
  generalize (bn m (n+1+1):Int)=c
  generalize (m:Int)=m
  generalize (n:Int)=n
  intro h1 h2
  grind
noncomputable def chF(m:Int):Nat->Int
 | 0=>1
 | n+1=>chF m n*(m-n) / (n+1)
theorem Wn(m:Nat):∀n:Nat,chF m n=bn m n
 | 0=>by rw[ZL];rfl
 | n+1=>by rw[chF,Wn m n,<- YV,Int.mul_ediv_cancel _ (by omega)]
theorem ZK:∀(m n:Nat),n<=m->0<bn m n
 | m,0,_=>by rw[ZL];omega
 | 0,n+1,h=>by omega
 | m+1,n+1,h=>by
  have:=ZK m n (by omega)
  show 0<bn m n+bn m (n+1);omega
noncomputable def cb(N k:Int):Int:=if k<0 then 0 else chF N k.toNat
noncomputable def inF(N k:Int):Int:=if N<2*k then 0 else cb N k-cb N (k-1)
theorem UN{N k:Int}(h:0<=N)(hk:0<=k):cb N k=bn N.toNat k.toNat:=by
 unfold cb;rw[if_neg (by omega)]
 conv=>lhs;rw[show N=(N.toNat:Int) by omega]
 exact Wn _ _
theorem ZQ{N k:Int}(h:0<=N)(hk:0<=k):cb N (k+1)*(k+1)=cb N k*(N-k):=by have e:=YV N.toNat k.toNat;rw[UN h (by omega),UN h hk,show(k+1).toNat=k.toNat+1 by omega];rw[show(k.toNat:Int)=k by omega,show(N.toNat:Int)=N by omega] at e;exact e
theorem YY{N k:Int}(h:k<0):cb N k=0:=if_pos h
theorem U0(N:Int):cb N 0=1:=rfl
theorem ZR{N k:Int}(h:0<=N):cb (N+1) k=cb N k+cb N (k-1):=by
 by_cases c:k<0
 ·rw[YY c,YY c,YY (by omega)];rfl
 ·by_cases c2:k=0
  ·subst c2;rw[U0,U0,YY (by omega)];rfl
  ·rw[UN (by omega) (by omega),UN h (by omega),UN h (by omega),show(N+1).toNat=N.toNat+1 by omega,show k.toNat=(k-1).toNat+1 by omega];rw[show bn (N.toNat+1) ((k-1).toNat+1)=bn N.toNat (k-1).toNat+bn N.toNat ((k-1).toNat+1) from rfl];omega
theorem JdA{m:Int}(h:0<=m):inF (2*m) m*(m+1)=chF (2*m) m.toNat:=by
 unfold inF;rw[if_neg (by omega)];have e:chF (2*m) m.toNat=cb (2*m) m:=by unfold cb;rw[if_neg (by omega)]
 rw[e]
 by_cases c:m=0
 ·subst c;rfl
 ·have z:=ZQ (N:=2*m) (k:=m-1) (by omega) (by omega);rw[show m-1+1=m by omega,show 2*m-(m-1)=m+1 by omega] at z;rw[Int.sub_mul,<- z,Kt];omega
theorem JdC{N k:Int}(h:0<=k)(hk:2*k<=N):0<inF N k:=by
 unfold inF;rw[if_neg (by omega)]
 by_cases c:k=0
 ·subst c;rw[U0,YY (by omega)];decide
 ·have z:=ZQ (N:=N) (k:=k-1) (by omega) (by omega);rw[show k-1+1=k by omega] at z
  have p:0<cb N (k-1):=by rw[UN (by omega) (by omega)];have:=ZK N.toNat (k-1).toNat (by omega);omega
  have q:cb N (k-1)*(k+1)<=cb N (k-1)*(N-(k-1)):=Int.mul_le_mul_of_nonneg_left (by omega) (by omega);rw[<- z,Kt,Int.mul_one] at q
  have r:(cb N k-cb N (k-1))*k ≥ 1:=by rw[Int.sub_mul];omega
  false_or_by_contra
  rename_i hn;have:(cb N k-cb N (k-1))*k<=0*k:=Int.mul_le_mul_of_nonneg_right (by omega) (by omega);omega
theorem JdB{N k:Int}(h:1<=k)(hk:2*k<=N-1):inF N k=inF (N-1) k+inF (N-1) (k-1):=by unfold inF;rw[if_neg (by omega),if_neg (by omega),if_neg (by omega)];have a:=ZR (N:=N-1) (k:=k) (by omega);have b:=ZR (N:=N-1) (k:=k-1) (by omega);rw[show N-1+1=N by omega] at a b;omega
noncomputable def pe(x:Int):List Int->Int
 | []=>0
 | a::p=>a+x*pe x p
noncomputable def pa:List Int->List Int->List Int
 | [],q=>q
 | p,[]=>p
 | a::p,b::q=>(a+b)::pa p q
noncomputable def pc(c:Int)(p:List Int):List Int:=p.map (c*·)
noncomputable def pm:List Int->List Int->List Int
 | [],_=>[]
 | a::p,q=>pa (pc a q) (0::pm p q)
theorem VJ(x:Int):∀p q:List Int,pe x (pa p q)=pe x p+pe x q
 | [],q=>by simp[pa,pe]
 | a::p,[]=>by simp[pa,pe]
 | a::p,b::q=>by rw[pa,pe,pe,pe,VJ x p q,Kt];omega
theorem VL(x c:Int):∀p:List Int,pe x (pc c p)=c*pe x p
 | []=>by simp[pc,pe]
 | a::p=>by have ih:=VL x c p;unfold pc at ih ⊢;rw[Qq,pe,pe,ih,Kt,Int.mul_left_comm]
theorem Jav(x:Int):∀p q:List Int,pe x (pm p q)=pe x p*pe x q
 | [],q=>by simp[pm,pe]
 | a::p,q=>by rw[pm,VJ,VL,pe,pe,Jav x p q,Int.add_mul,GJ];omega
noncomputable def fac:Nat->Int
 | 0=>1
 | n+1=>(n+1)*fac n
noncomputable def W5(y:Int):Nat->Int
 | 0=>1
 | n+1=>W5 y n*(y-n)
theorem U1{m:Int}(h:0<=m):∀n:Nat,chF m n*fac n=W5 m n
 | 0=>rfl
 | n+1=>by
  have ih:=U1 h n
  have z:=YV m.toNat n
  have e:∀k,chF m k=bn m.toNat k:=fun k=>by
   conv=>lhs;rw[show m=(m.toNat:Int) by omega]
   exact Wn _ _
  rw[<- e,<- e,show(m.toNat:Int)=m by omega] at z;rw[fac,W5,<- ih,<- GJ,z,GJ,Int.mul_comm (m-n),<- GJ]
noncomputable def fP(a:Int):Nat->List Int
 | 0=>[1]
 | n+1=>pm (fP a n) [a-n,1]
theorem Wy(x a:Int):∀n:Nat,pe x (fP a n)=W5 (x+a) n
 | 0=>by simp[fP,pe,W5]
 | n+1=>by rw[fP,Jav,Wy x a n,W5];simp only[pe];congr 1;rw[Int.mul_zero,Lk,Int.mul_one];omega
noncomputable abbrev Cm:=List (Int×Nat)
noncomputable def tP:Cm->List Int
 | []=>[1]
 | q::r=>pm (fP ((q.2:Int)-2*q.1) q.2) (tP r)
noncomputable def tW:Cm->Int
 | []=>1
 | q::r=>fac q.2*tW r
noncomputable def tV(N:Int):Cm->Int
 | []=>1
 | q::r=>chF (N-2*q.1+q.2) q.2*tV N r
theorem JcT(N:Int):∀r:Cm,(∀q∈r,2*q.1<=N)->tW r*tV N r=pe N (tP r)
 | [],_=>by simp[tW,tV,tP,pe]
 | q::r,h=>by
  have ih:=JcT N r fun z hz=>h z (Qh _ hz)
  have c:=U1 (m:=N-2*q.1+q.2) (by have:=h q Qj;omega) q.2;rw[tW,tV,tP,Jav,Wy,<- ih,show N+((q.2:Int)-2*q.1)=N-2*q.1+q.2 by omega,<- c]
  generalize chF (N-2*q.1+q.2) q.2=A
  generalize fac q.2=B
  generalize tW r=C
  generalize tV N r=D
  grind
noncomputable def sV(N:Int):List Cm->Int
 | []=>0
 | r::l=>tV N r+sV N l
noncomputable def sP(F:Int):List Cm->List Int
 | []=>[]
 | r::l=>pa (pc (F / tW r) (tP r)) (sP F l)
theorem JcQ(N F:Int):∀l:List Cm,(∀r∈l,(∀q∈r,2*q.1<=N)/\F / tW r*tW r=F)->F*sV N l=pe N (sP F l)
 | [],_=>by simp[sV,sP,pe]
 | r::l,h=>by
  have ih:=JcQ N F l fun z hz=>h z (Qh _ hz)
  obtain⟨h1,h2⟩:=h r Qj;rw[sV,sP,VJ,VL,<- ih,<- JcT N r h1,Kt,<- GJ,h2]
noncomputable def zeL(p:List Int):Bool:=p.all (· == 0)
theorem JfU(x:Int):∀p:List Int,zeL p=true->pe x p=0
 | [],_=>rfl
 | a::p,h=>by unfold zeL at h;rw[Lb,Qn] at h;have ih:=JfU x p h.2;rw[pe,ih,show a=0 from eq_of_beq h.1];simp
theorem Jc1{N:Int}{b:Nat}{l:List Cm}(hb:1<=b)(hN:2*(b:Int)<=N)(h1:l.all (fun r=>r.all (fun q=>decide (q.1<=(b:Int))) && decide ((362880:Int) / tW r*tW r=362880))=true)
 (h2:(362880 / fac b*fac b == 362880 && 362880 / fac (b-1)*fac (b-1) == 362880)=true)
 (hz:zeL (pa (sP 362880 l) (pa (pc (-(362880 / fac b)) (fP 0 b)) (pc (362880 / fac (b-1)) (fP 0 (b-1)))))=true):sV N l=inF N b:=by
 have a:=JcQ N 362880 l fun r hr=>by
  have:=QI.mp h1 r hr;rw[Qn] at this;refine⟨fun q hq=>?_,of_decide_eq_true this.2⟩
  have:=of_decide_eq_true (QI.mp this.1 q hq);omega
 have z:=JfU N _ hz;rw[Qn] at h2
 have f1:=eq_of_beq h2.1
 have f2:=eq_of_beq h2.2;rw[VJ,VJ,VL,VL,Wy,Wy,Lk,<- a,<- U1 (by omega),<- U1 (by omega)] at z;unfold inF cb;rw[if_neg (by omega),if_neg (by omega),if_neg (by omega),show((b:Int)).toNat=b by omega,show((b:Int)-1).toNat=b-1 by omega]
 revert z f1 f2
 generalize (362880:Int) / fac b=u
 generalize (362880:Int) / fac (b-1)=v
 generalize fac b=fb
 generalize fac (b-1)=fc
 generalize chF N b=x
 generalize chF N (b-1)=y
 generalize sV N l=s
 intro z f1 f2;have e1:-u*(x*fb)=-(362880*x):=by rw[<- f1];grind
 have e2:v*(y*fc)=362880*y:=by rw[<- f2];grind
 omega
theorem Y1(m k:Int)(hm:-10 ^ 12<=m/\m<=10 ^ 12)(hk:k<=1000):JA [.sh (.int m),.sh (.int k)]=some (.sh (.int (cb m k))):=by
 unfold JA;walk_at "ev"
 by_cases c:k<0
 ·rw[decide_eq_true c];walk_at "ev";rw[YY c]
 ·rw[decide_eq_false c];walk_at "ev";rw[Jf9,GZ];refine Vz (fun i E=>∃j3,E=[.sh (.int m),.sh (.int k),.sh (.int (chF m i)),j3]) ⟨.no,rfl⟩ ?_ ?_
  ·rintro i E hi ⟨j3,rfl⟩;walk_at "ev";exact⟨_,rfl⟩
  ·rintro E' ⟨j3,rfl⟩;walk_at "ev";unfold cb;rw[if_neg c]
theorem YJ(N k:Int)(hN:-10 ^ 12<=N/\N<=10 ^ 12)(hk:-1000<=k/\k<=1000):JC [.sh (.int N),.sh (.int k)]=some (.sh (.int (inF N k))):=by
 unfold JC inF;walk_at "ev"
 by_cases c:N<2*k
 ·rw[decide_eq_true c,if_pos c];walk_at "ev"
 ·rw[decide_eq_false c,if_neg c];walk_at "ev";rw[Y1 _ _ hN (by omega)];walk_at "ev";rw[Y1 _ _ hN (by omega)];walk_at "ev"
noncomputable def spF(r c:Int):Int:=if r<0 then 0 else chF (r+c) c.toNat
theorem JdT(r c:Int)(hr:-10 ^ 11<=r/\r<=10 ^ 11)(hc:0<=c/\c<=1000):JD [.sh (.int r),.sh (.int c)]=some (.sh (.int (spF r c))):=by
 unfold JD spF;walk_at "ev"
 by_cases d:r<0
 ·rw[decide_eq_true d,if_pos d];walk_at "ev"
 ·rw[decide_eq_false d,if_neg d];walk_at "ev";rw[Y1 _ _ (by omega) (by omega)];unfold cb;rw[if_neg (by omega)];walk_at "ev"
theorem ZJ:∀(m n:Nat),bn m n<=m ^ n
 | m,0=>by rw[ZL];exact Qm _
 | 0,n+1=>Gr _
 | m+1,n+1=>by
  have h1:=ZJ m n
  have h2:=ZJ m (n+1)
  show bn m n+bn m (n+1)<=(m+1) ^ (n+1)
  have p:m ^ n<=(m+1) ^ n:=Nat.pow_le_pow_left (by omega) n
  have q:m ^ n*m<=(m+1) ^ n*m:=Nat.mul_le_mul_right m p;rw[Nat.pow_succ] at h2 ⊢;rw[Nat.mul_add,Nat.mul_one];omega
theorem Jgq{r c:Int}(hr:r<=9*10 ^ 9)(hc:0<=c/\c<=10 ^ 9):(spF r c).natAbs<=10 ^ (10*c.toNat):=by
 unfold spF;split
 ·exact Gr _
 ·have e:chF (r+c) c.toNat=bn (r+c).toNat c.toNat:=by
   conv=>lhs;rw[show r+c=((r+c).toNat:Int) by omega]
   exact Wn _ _
  rw[e,Int.natAbs_natCast,Nat.pow_mul];exact QA (ZJ _ _) (Nat.pow_le_pow_left (by omega) _)
theorem JdS(ps:List Pr)(n:Int)(hl:ps.length<=20)(h:¬(ps.map (·.2)).sum>n):∃r,Jo [.sh (.lst (ps.map prE)),.sh (.int n)]=some r:=by unfold Jo;walk_at "ev";rw[Jgr];walk_at "ev";rw[U4 (ns:=ps.map (·.2)) (by simp[Sl.q])];walk_at "ev";rw[decide_eq_false h];walk_at "ev";exact⟨_,rfl⟩
noncomputable def rmF(N:Int)(L:List Pr)(p:Pr):Int:=N-2*tkF L (some p.1)
structure OkL (L:List Pr):Prop where
 len:L.length<=20
 bad:Y7 0 L=false
 few:(L.map (·.2)).sum<=12
 tk:∀p∈L,0<=tkF L (some p.1)/\tkF L (some p.1)<=10 ^ 9
theorem YF:∀{a:Int} {ps:List Pr},0<=a->Y7 a ps=false->∀p∈ps,1<=p.1/\1<=p.2
 | _,[],_,_,p,hp=>by cases hp
 | a,q::r,ha,h,p,hp=>by
  rw[Y7,Q4,Q4] at h;have h1:=of_decide_eq_false h.1;have h2:=of_decide_eq_false h.2.1;rcases Qe.mp hp with e|e
  ·subst e;omega
  ·exact YF (by omega) h.2.2 p e
theorem JbL(N:Int)(L:List Pr)(hN:0<=N/\N<=10 ^ 9)(o:OkL L):Ye [.sh (.int N),.sh (.lst (L.map prE))]=some (.own ((L.map fun p=>((p.1,rmF N L p):Pr)).map prE)):=by
 obtain⟨r2,e2⟩:=JcK L o.bad;obtain⟨r3,e3⟩:=JdS L 12 o.len (by have:=o.few;omega);have hl:=o.len;unfold Ye;walk_at "ev";rw[e2];walk_at "ev";rw[e3];walk_at "ev";rw[Ll,Yp (g:=fun p:Pr=>prE (p.1,rmF N L p))]
 ·walk_at "ev";rfl
 ·intro p hp;have lo:=YF (K8 _) o.bad p hp;have t:=o.tk p hp;have mt:=JgR L (some p.1) o.len (by show decide (p.1<1)=false;exact decide_eq_false (by omega)) o.bad (by have:=o.few;omega);simp only[prE];walk_at "ev";rw[show D.int p.1=sE (some p.1) from rfl,mt];walk_at "ev";rfl
noncomputable def cnS(L:List Pr):Nat:=(L.map fun p=>p.2.toNat).sum
noncomputable def hmF(N:Int)(L:List Pr):Int:=L.foldl (fun a p=>a*spF (rmF N L p) p.2) 1
noncomputable def zrE(N:Int)(L:List Pr)(p:Pr):D:=.tup [prE (p.1,rmF N L p),prE p]
theorem Ja7(g:Pr->Pr):∀L:List Pr,List.zip (L.map g) L=L.map fun p=>(g p,p)
 | []=>rfl
 | p::L=>by rw[Qq,List.zip_cons_cons,Ja7 g L,Qq]
theorem JfG(N:Int)(L:List Pr)(hN:0<=N/\N<=10 ^ 9)(o:OkL L)(hc:cnS L<=12):JR [.sh (.int N),.sh (.lst (L.map prE))]=some (.sh (.int (hmF N L))):=by
 have mr:=JbL N L hN o
 have hl:=o.len;unfold JR;walk_at "ev";rw[mr];walk_at "ev";rw[JcC,Ja7,Ll,GZ];refine YI (f:=zrE N L) (fun(Yc:List Pr) (a:Int) E=>∃j3 j4,E=[.sh (.int N),.sh (.lst (L.map prE)),.sh (.int a),j3,j4]/\a.natAbs*10 ^ (10*cnS Yc)<=10 ^ 120/\∀p∈Yc,p∈L) (fun a p=>a*spF (rmF N L p) p.2) 1 ⟨.no,.no,rfl,?_,fun _ h=>h⟩ ?_ ?_
 ·show 1*10 ^ (10*cnS L)<=10 ^ 120;rw[Nat.one_mul];exact Nat.pow_le_pow_right (by decide) (by omega)
 ·rintro p Yc a E ⟨j3,j4,rfl,hb,hm⟩;have pm:=hm p Qj;have lo:=YF (K8 _) o.bad p pm;have nf:=Wx o.bad (by have:=o.few;omega) p pm;have t:=o.tk p pm;have rb:-10 ^ 11<=rmF N L p/\rmF N L p<=9*10 ^ 9:=by unfold rmF;omega
  have sl:=Jgq rb.2 (show 0<=p.2/\p.2<=10 ^ 9 by omega)
  have ce:cnS (p::Yc)=p.2.toNat+cnS Yc:=by unfold cnS;rw[Qq,List.sum_cons]
  rw[ce,Nat.mul_add,Nat.pow_add,<- Nat.mul_assoc] at hb;have one:1<=10 ^ (10*cnS Yc):=Nat.pos_of_ne_zero (by simp);have ten:1<=10 ^ (10*p.2.toNat):=Nat.pos_of_ne_zero (by simp);have b1:a.natAbs*10 ^ (10*p.2.toNat)<=10 ^ 120:=QA (KG _ one) hb;have b0:a.natAbs<=10 ^ 120:=QA (KG _ ten) b1
  have g1:a.natAbs<=10 ^ 200/\(spF (rmF N L p) p.2).natAbs<=10 ^ 200:=by
   refine⟨QA b0 (by decide +kernel),QA sl (Nat.pow_le_pow_right (by decide) ?_)⟩
   have:p.2<=12:=by
    have:=(U7 (Uc o.bad)).2 p pm
    have:=o.few;omega
   omega
  simp only[zrE];walk_at "ev";rw[Z1,Z1];walk_at "ev";rw[JdT _ _ (by omega) (by omega)];walk_at "ev";refine⟨.sh (prE (p.1,rmF N L p)),.sh (prE p),rfl,?_,fun q hq=>hm q (Qh _ hq)⟩;rw[Int.natAbs_mul];exact QA (Nat.mul_le_mul_right _ (Nat.mul_le_mul_left _ sl)) hb
 ·rintro E' ⟨j3,j4,rfl,_,_⟩;walk_at "ev";rfl
noncomputable def Jbf:List D->Option (List (List Int))
 | []=>some []
 | .lst es::ds=>(ints? es).bind fun n=>(Jbf ds).map (n::·)
 | _::_=>none
noncomputable def Jbg:Option Sl->Option (List (List Int))
 | some (.own ds)=>Jbf ds
 | _=>none
noncomputable def liE(l:List Int):D:=.lst (l.map .int)
theorem Vv:∀{ds:List D} {ns:List Int},ints? ds=some ns->ds=ns.map .int
 | [],ns,h=>by cases h;rfl
 | .int i::ds,ns,h=>by obtain⟨m,e,rfl⟩:=Q7.mp (show(ints? ds).map (i::·)=some ns from h);rw[Vv e];rfl
theorem Vn:∀{ds:List D} {l:List (List Int)},Jbf ds=some l->ds=l.map liE
 | [],l,h=>by cases h;rfl
 | .lst es::ds,l,h=>by obtain⟨n,e1,h⟩:=Option.bind_eq_some_iff.mp (show(ints? es).bind (fun n=>(Jbf ds).map (n::·))=some l from h);obtain⟨m,e2,rfl⟩:=Q7.mp h;rw[Vn e2,Vv e1];rfl
theorem ZU{o:Option Sl}{l:List (List Int)}(h:Jbg o=some l):o=some (.own (l.map liE)):=by
 unfold Jbg at h;split at h
 ·rw[Vn h]
 ·cases h
noncomputable def prt(b:Nat):List (List Int):=(Jbg (Jh [.sh (.int b),.sh (.int b)])).getD []
noncomputable def ddL:List Int->List Int
 | []=>[]
 | [x]=>[x]
 | x::y::l=>if x=y then ddL (y::l) else x::ddL (y::l)
noncomputable def V1:List Int->Bool
 | x::y::l=>decide (x<=y) && V1 (y::l)
 | _=>true
theorem ZE:∀{l:List Int},V1 l=true->l.Pairwise (·<=·)
 | [],_=>List.Pairwise.nil
 | [x],_=>by simp
 | x::y::l,h=>by
  have h':(decide (x<=y) && V1 (y::l))=true:=h;rw[Qn] at h'
  have ih:=ZE h'.2
  have xy:=of_decide_eq_true h'.1;refine QH.mpr ⟨fun z hz=>?_,ih⟩;rcases Qe.mp hz with e|e
  ·omega
  ·have:=(QH.mp ih).1 z e;omega
theorem JcE:∀{l:List Int},l.Pairwise (·<=·)->(ddL l).Pairwise (·<·)/\∀x,x∈ddL l↔x∈l
 | [],_=>⟨List.Pairwise.nil,fun x=>Iff.rfl⟩
 | [x],_=>⟨by simp[ddL],fun x=>Iff.rfl⟩
 | x::y::l,h=>by
  obtain⟨h1,h2⟩:=QH.mp h;obtain⟨i1,i2⟩:=JcE h2;rw[ddL];split
  ·rename_i e;subst e;refine⟨i1,fun z=>?_⟩;rw[i2];simp
  ·rename_i e;refine⟨QH.mpr ⟨fun z hz=>?_,i1⟩,fun z=>?_⟩
   ·have hz':=(i2 z).mp hz
    have a:=h1 y Qj;rcases Qe.mp hz' with q|q
    ·omega
    ·have:=(QH.mp h2).1 z q;omega
   ·rw[Qe,i2,Qe (a:=z) (b:=x)]
theorem JcN:∀{a b:List Int},a.Pairwise (·<·)->b.Pairwise (·<·)->(∀x,x∈a↔x∈b)->a=b
 | [],[],_,_,_=>rfl
 | [],y::b,_,_,h=>(Q2 ((h y).mpr Qj)).elim
 | x::a,[],_,_,h=>(Q2 ((h x).mp Qj)).elim
 | x::a,y::b,ha,hb,h=>by
  obtain⟨a1,a2⟩:=QH.mp ha;obtain⟨b1,b2⟩:=QH.mp hb
  have e:x=y:=by
   rcases Qe.mp ((h x).mp Qj) with z|z
   ·exact z
   ·rcases Qe.mp ((h y).mpr Qj) with w|w
    ·exact w.symm
    ·have:=a1 y w;have:=b1 x z;omega
  subst e;rw[JcN a2 b2 fun z=>?_];constructor
  ·intro hz;rcases Qe.mp ((h z).mp (Qh _ hz)) with w|w
   ·have:=a1 z hz;omega
   ·exact w
  ·intro hz;rcases Qe.mp ((h z).mpr (Qh _ hz)) with w|w
   ·have:=b1 z hz;omega
   ·exact w
theorem JeU(xs:List Int):(Yl (fM xs)).Pairwise (·<·):=by have nd:=(J7 (fM xs)).nodup_iff.mpr (Vq xs);exact((VX (fM xs)).and nd).imp fun {a b} h=>by have:=h.1;have:=h.2;omega
theorem JeT{l:List Int}(h:V1 l=true):Yl (fM l)=ddL l:=by
 obtain⟨a,b⟩:=JcE (ZE h);refine JcN (JeU l) a fun x=>?_
 rw[(J7 _).mem_iff,Jdr,b]
noncomputable def rlL(l:List Int):List Pr:=(ddL l).map fun x=>(x,(l.count x:Int))
theorem ZY{l:List Int}(h:V1 l=true):Yo (.nm 0) yes? (ZX (aC (Jb 0) (aC (eMI Wr (Jb 1) (Jb 0)) a0))) [.no,.sh (.lst (l.map D.int))] ((Yl (fM l)).map D.int)=some ((rlL l).map prE):=by
 unfold rlL;rw[JeT h,Ll];refine Yp fun x _=>?_
 walk_at "ev";simp only[Wr];walk_at "ev";rfl
noncomputable def cmL(L:List Pr):Cm:=L.map fun p=>(tkF L (some p.1),p.2.toNat)
noncomputable def okB(b:Nat)(l:List Int):Bool:=V1 l && Kq l.length 20 && Kq (ddL l).length 20 && !(Y7 0 (rlL l)) && decide (((rlL l).map (·.2)).sum<=12) && Kq (cnS (rlL l)) 12 && (rlL l).all (fun p=>decide (0<=tkF (rlL l) (some p.1)) && decide (tkF (rlL l) (some p.1)<=(b:Int))) && (b == 0 || (rlL l).any (fun p=>decide (tkF (rlL l) (some p.1)=(b:Int))))
noncomputable def ckB(b:Nat):Bool:=(Jbg (Jh [.sh (.int b),.sh (.int b)])).isSome && (prt b).all (okB b)
theorem Jc7:(Gs 10).all ckB=true:=by decide +kernel
noncomputable def czB(b:Nat):Bool:=b == 0 || (((prt b).map fun l=>cmL (rlL l)).all (fun r=>r.all (fun q=>decide (q.1<=(b:Int))) && decide ((362880:Int) / tW r*tW r=362880)) && (362880 / fac b*fac b == 362880 && 362880 / fac (b-1)*fac (b-1) == 362880) && zeL (pa (sP 362880 ((prt b).map fun l=>cmL (rlL l))) (pa (pc (-(362880 / fac b)) (fP 0 b)) (pc (362880 / fac (b-1)) (fP 0 (b-1))))))
theorem Jc8:(Gs 10).all czB=true:=by decide +kernel
theorem Wu(N:Int)(L:List Pr):∀(l:List Pr) (a:Int),(∀p∈l,0<=rmF N L p/\0<=p.2)->l.foldl (fun a p=>a*spF (rmF N L p) p.2) a=a*tV N (l.map fun p=>(tkF L (some p.1),p.2.toNat))
 | [],a,_=>by simp[tV]
 | p::l,a,h=>by
  obtain⟨h1,h2⟩:=h p Qj;rw[Gi,Wu N L l _ fun q hq=>h q (Qh _ hq),Qq,tV,GJ]
  have e:spF (rmF N L p) p.2=chF (N-2*tkF L (some p.1)+(p.2.toNat:Int)) p.2.toNat:=by unfold spF;rw[if_neg (by omega),show(p.2.toNat:Int)=p.2 by omega];rfl
  rw[e]
theorem Jab(f:Pr->Int):∀(l:List Pr),l.foldl (fun a p=>a*f p) 0=0
 | []=>rfl
 | p::l=>by rw[Gi,Int.zero_mul,Jab f l]
theorem Vs(f:Pr->Int):∀(l:List Pr) (a:Int),(∃p∈l,f p=0)->l.foldl (fun a p=>a*f p) a=0
 | [],a,h=>by obtain⟨p,hp,_⟩:=h;cases hp
 | p::l,a,h=>by
  rw[Gi];obtain⟨q,hq,e⟩:=h;rcases Qe.mp hq with z|z
  ·subst z;rw[e,Int.mul_zero,Jab]
  ·exact Vs f l _ ⟨q,z,e⟩
theorem JaV(N:Int):∀(P:List (List Int)) (S:Int),(∀l∈P,hmF N (rlL l)=tV N (cmL (rlL l)))->P.foldl (fun S l=>S+hmF N (rlL l)) S=S+sV N (P.map fun l=>cmL (rlL l))
 | [],S,_=>by simp[sV]
 | l::P,S,h=>by rw[Gi,JaV N P _ fun q hq=>h q (Qh _ hq),h l Qj,Qq,sV,Int.add_assoc]
theorem WM(N:Int):∀(P:List (List Int)) (S:Int),(∀l∈P,hmF N (rlL l)=0)->P.foldl (fun S l=>S+hmF N (rlL l)) S=S
 | [],S,_=>rfl
 | l::P,S,h=>by rw[Gi,WM N P _ fun q hq=>h q (Qh _ hq),h l Qj,Lk]
structure OkP (b:Nat) (l:List Int):Prop where
 asc:V1 l=true
 len:l.length<=20
 ok:OkL (rlL l)
 cn:cnS (rlL l)<=12
 tk:∀p∈rlL l,tkF (rlL l) (some p.1)<=(b:Int)
 mx:b=0\/∃p∈rlL l,tkF (rlL l) (some p.1)=(b:Int)
theorem JfO{b:Nat}(h9:b<10){l:List Int}(h:okB b l=true):OkP b l:=by
 unfold okB at h;simp only[Qn,GO,Gu,Bool.not_eq_true',decide_eq_true_eq,QI,G1,beq_iff_eq] at h;obtain⟨⟨⟨⟨⟨⟨⟨h1,h2⟩,h3⟩,h4⟩,h5⟩,h6⟩,h7⟩,h8⟩:=h;refine⟨h1,h2,⟨?_,h4,h5,fun p hp=>?_⟩,h6,fun p hp=>(h7 p hp).2,h8⟩
 ·unfold rlL;rw[Qx];exact h3
 ·have:=h7 p hp;omega
theorem WU{b:Nat}(h9:b<10){N:Int}(hN:0<=N)(h:∀l∈prt b,OkP b l):(prt b).foldl (fun S l=>S+hmF N (rlL l)) 0=inF N b:=by
 by_cases c:N<2*(b:Int)
 ·rw[WM N _ 0 fun l hl=>?_]
  ·unfold inF;rw[if_pos c]
  ·have o:=h l hl;rcases o.mx with z|⟨p,hp,e⟩
   ·omega
   ·refine Vs _ _ 1 ⟨p,hp,?_⟩;unfold spF rmF;rw[e,if_pos (by omega)]
 ·rw[JaV N _ 0 fun l hl=>?_,Int.zero_add]
  ·by_cases z:b=0
   ·subst z;have p0:(prt 0).map (fun l=>cmL (rlL l))=[[]]:=by decide +kernel
    rw[p0];unfold inF;rw[if_neg c];rfl
   ·have cz:=QI.mp Jc8 b (K0.mpr h9);unfold czB at cz;rw[GO,Qn,Qn] at cz;rcases cz with q|⟨⟨q1,q2⟩,q3⟩
    ·exact(z (eq_of_beq q)).elim
    ·exact Jc1 (by omega) (by omega) q1 q2 q3
  ·have o:=h l hl;unfold hmF cmL;rw[Wu N (rlL l) (rlL l) 1 fun p hp=>?_,Int.one_mul]
   have t:=o.tk p hp
   have lo:=YF (K8 _) o.ok.bad p hp;unfold rmF;omega
theorem law_true(ns:List Int)(hn:ns.length<=63):V6 [.sh (.fz (ns.map .int))]=some (.sh (.bl true)):=by
 have a3:=ZG (l:=[cell ns 1 % 31,cell ns 1 % (10 ^ 4+1),cell ns 1 % (10 ^ 9+1)]) (k:=cell ns 0 / 10 % 3) (by omega) (by show _<(3:Int);omega);simp only[Qq,KN] at a3
 have hN:0<=Zp [cell ns 1 % 31,cell ns 1 % (10 ^ 4+1),cell ns 1 % (10 ^ 9+1)] (cell ns 0 / 10 % 3)/\Zp [cell ns 1 % 31,cell ns 1 % (10 ^ 4+1),cell ns 1 % (10 ^ 9+1)] (cell ns 0 / 10 % 3)<=10 ^ 9:=Jay (P:=fun x=>0<=x/\x<=10 ^ 9) (by omega) (by show _<(3:Int);omega) (by
  intro x hx;simp only[Qe,Q2,or_false] at hx;omega)
 revert a3 hN
 generalize Zp [cell ns 1 % 31,cell ns 1 % (10 ^ 4+1),cell ns 1 % (10 ^ 9+1)] (cell ns 0 / 10 % 3)=N
 intro a3 hN;obtain⟨b,hb,h9⟩:∃b:Nat,cell ns 0 % 10=(b:Int)/\b<10:=⟨(cell ns 0 % 10).toNat,by omega,by omega⟩
 obtain⟨m,hm,h200⟩:∃m:Int,cell ns 2 % 201=m/\(0<=m/\m<=200):=⟨_,rfl,by omega⟩
 have ck:=QI.mp Jc7 b (K0.mpr h9);unfold ckB at ck;rw[Qn] at ck
 have okP:∀l∈prt b,OkP b l:=fun l hl=>JfO h9 (QI.mp ck.2 l hl)
 have ep:Jh [.sh (.int b),.sh (.int b)]=some (.own ((prt b).map liE)):=by
  obtain⟨l,e⟩:=GH.mp ck.1;have:prt b=l:=by unfold prt;rw[e];rfl
  rw[this];exact ZU e
 have al:=WU h9 hN.1 okP
 have i1:=YJ N b (by omega) (by omega)
 have i2:=YJ (2*m) m (by omega) (by omega)
 have i3:=YJ N m (by omega) (by omega)
 have i4:=YJ (N-1) m (by omega) (by omega)
 have i5:=YJ (N-1) (m-1) (by omega) (by omega);unfold V6;walk_at "ev";rw[Wa _ _ (by decide)];walk_at "ev";rw[Wa _ _ (by decide)];walk_at "ev";rw[a3];walk_at "ev";rw[hb,ep];walk_at "ev";rw[GZ];refine YI (f:=liE) (fun(Yc:List (List Int)) (S:Int) E=>∃j6,E=[.sh (.fz (ns.map .int)),.sh (.int (cell ns 0)),.sh (.int (cell ns 1)),.sh (.int N),.sh (.int b),.sh (.int S),j6,.no,.no,.no,.no,.no]/\∀l∈Yc,OkP b l) (fun S l=>S+hmF N (rlL l)) 0 ⟨.no,rfl,okP⟩ ?_ ?_
 ·rintro l Yc S E ⟨j6,rfl,hr⟩;have o:=hr l Qj;have ol:=o.len
  have dl:(Yl (fM l)).length<=20:=by rw[(J7 _).length_eq];exact QA (Z3 l) ol
  simp only[liE];walk_at "ev";rw[ZY o.asc];walk_at "ev";rw[JfG N (rlL l) hN o.ok o.cn];walk_at "ev";exact⟨_,rfl,fun q hq=>hr q (Qh _ hq)⟩
 ·rintro E' ⟨j6,rfl,_⟩;rw[al];walk_at "ev";rw[i1];walk_at "ev";rw[Wa _ _ (by decide)];walk_at "ev";rw[hm,Jf9,GZ];refine Vz (fun i E=>∃j10,E=[.sh (.fz (ns.map .int)),.sh (.int (cell ns 0)),.sh (.int (cell ns 1)),.sh (.int N),.sh (.int b),.sh (.int (inF N b)),j6,.sh (.int (inF N b)),.sh (.int m),.sh (.int (chF (2*m) i)),j10,.no]) ⟨.no,rfl⟩ ?_ ?_
  ·rintro i E hi ⟨j10,rfl⟩;walk_at "ev";exact⟨_,rfl⟩
  ·rintro E' ⟨j10,rfl⟩;walk_at "ev";rw[i2];walk_at "ev";rw[JdA h200.1];walk_at "ev";rw[i3];walk_at "ev"
   by_cases c1:N<2*m
   ·rw[decide_eq_true c1];walk_at "ev";rw[show inF N m=0 by unfold inF;rw[if_pos c1]];rfl
   ·have pos:=JdC h200.1 (show 2*m<=N by omega);rw[decide_eq_false c1];walk_at "ev"
    by_cases c2:m=0
    ·rw[decide_eq_true c2];walk_at "ev";rw[decide_eq_true pos]
    ·rw[decide_eq_false c2];walk_at "ev"
     by_cases c3:N-1<2*m
     ·rw[decide_eq_true c3];walk_at "ev";rw[decide_eq_true pos]
     ·rw[decide_eq_false c3];walk_at "ev";rw[i4];walk_at "ev";rw[i5];walk_at "ev";rw[<- JdB (by omega) (by omega)];walk_at "ev"
end
end LK
noncomputable section
namespace LK
open PySem L2 LR LE
local macro_rules | `(tactic| walk_at "s")=>`(tactic| repeat' first | rfl | assumption | with_reducible apply JcR | with_reducible apply JeN | with_reducible apply Jg8 | with_reducible apply Jgg | with_reducible apply Jgj | with_reducible apply Jgz | with_reducible apply JeL | with_reducible apply JgN | with_reducible apply JeR | with_reducible apply Jfc | with_reducible apply Jgy | with_reducible apply Jhb | with_reducible apply Jfa | with_reducible apply Jdv | with_reducible apply JfI | with_reducible apply JfL | with_reducible apply JfN | with_reducible apply Jgx | with_reducible apply JfK | with_reducible apply Jgc | with_reducible apply Jfx | with_reducible apply Jfy | with_reducible apply JgT | with_reducible apply JgX | with_reducible apply Jg4 | with_reducible apply Jgi | with_reducible apply Je8 | with_reducible apply JgS | with_reducible apply JgV | with_reducible apply JeM | with_reducible apply Jgp | with_reducible apply JcB | with_reducible apply JfJ | with_reducible apply Jgh | with_reducible apply Jgm | with_reducible apply Jfb | with_reducible apply Jfo | with_reducible apply Jfp | with_reducible apply Jan | with_reducible apply JgY | with_reducible apply JfM | with_reducible apply Jg5 | with_reducible apply Jgd | with_reducible apply Jgf | with_reducible apply Jgk | with_reducible apply Jgn | with_reducible apply Jgo | with_reducible apply Jfn | with_reducible apply JbJ | with_reducible apply JgU | with_reducible apply JbO | with_reducible apply JgW | with_reducible apply Jgb | with_reducible apply JaM | with_reducible apply Jge | with_reducible apply Jg6 | with_reducible apply JeO | with_reducible apply Jgl | with_reducible apply Jck | with_reducible apply JeP | with_reducible apply JeQ | with_reducible apply Jgw | with_reducible apply Je9 | with_reducible apply JgA)
noncomputable def top(i:Nat):Stmt:=PySem.Challenge.pw_lumprow_k57_whole_in_all.main.body.getD i (.Pass ⟨0,0,0,0⟩)
noncomputable abbrev J3:Stmt:=top 16
noncomputable abbrev Yf:Stmt:=top 19
noncomputable abbrev JZ:Stmt:=top 21
noncomputable abbrev Jn:Stmt:=top 22
noncomputable abbrev J0:Stmt:=top 7
noncomputable abbrev JT:Stmt:=top 11
noncomputable abbrev JE:Stmt:=top 10
noncomputable abbrev JF:Stmt:=top 6
noncomputable abbrev JG:Stmt:=top 12
noncomputable abbrev Yv:Stmt:=top 15
noncomputable abbrev JM:Stmt:=top 17
noncomputable abbrev JY:Stmt:=top 18
noncomputable abbrev YO:Stmt:=top 23
section
variable{P:Program}{w:World}{K:Frag}{C:Addr}{mg:Str->Option Value}{base:Heap}
theorem sc_choices:FnScope ["many","few","told","chosen"] ["many","few"] (Jc J3):=⟨rfl,rfl,rfl,by decide +kernel,rfl,by decide +kernel,by decide +kernel⟩
theorem Wc{f:Addr}{fd:FuncData}(F:Fun K "choices" "choices" J3 f fd)(qd:mg "range"=none):FnOk P w K mg base CX0 1 f fd ["many","few"] (spE K C 2 JA):=by
 refine F.ok sc_choices (fun vs H Q E h=>JN h) (fun cdv A outer s H vs Q E hr h=>?_);have hu:=hr.units;refine⟨_,(Je (Yk (Jw VG (pv 1) Jf (JB _)) (Ji (JH Jf)) JP)
  (Je (JK (i:=2) sc_choices.nd rfl (.inl rfl) Jf)
  (Je (YD Gj rfl (US rfl qd (Ja (pv 1) Jg)) (Jv (i:=3) sc_choices.nd rfl (.inl rfl)) (Ji (JK (i:=2) sc_choices.nd rfl (.inl rfl) (Jm Va (Jm Ya (pv 2) (Jm Yb (pv 0) (pv 3))) (Jm (J1 (K:=K) rfl) (pv 3) Jf)))))
  (Ji (JH (pv 2)))))),?_⟩
 refine JL (N:=["many","few","told","chosen"]) ?_ h;walk_at "s"
theorem Zr:FnScope ["boxes","balls"] ["boxes","balls"] (Jc Yf):=⟨rfl,rfl,rfl,by decide +kernel,rfl,by decide +kernel,by decide +kernel⟩
theorem Zm{f:Addr}{fd:FuncData}(F:Fun K "in_all" "in_all" Yf f fd)(qg:Cal P w K mg base "choices" 1 ["many","few"] (spE K C 2 JA)):FnOk P w K mg base CX0 2 f fd ["boxes","balls"] (spE K C 2 JC):=by
 refine F.ok Zr (fun vs H Q E h=>JN h) (fun cdv A outer s H vs Q E hr h=>?_);have hu:=hr.units;refine⟨_,(Je (Yk (Jw VF (Jm Ya Jf (pv 1)) (pv 0) (JB _)) (Ji (JH Jf)) JP)
  (Ji (JH (Jm Yb (Jj qg (hr.mono (by decide)) rfl (Ja (pv 0) (Ja (pv 1) Jg))) (Jj qg (hr.mono (by decide)) rfl (Ja (pv 0) (Ja (Jm Yb (pv 1) Jf) Jg))))))),?_⟩
 refine JL (N:=["boxes","balls"]) ?_ h;walk_at "s"
theorem VO:FnScope ["script","k"] ["script","k"] (Jc JZ):=⟨rfl,rfl,rfl,by decide +kernel,rfl,by decide +kernel,by decide +kernel⟩
theorem VD{f:Addr}{fd:FuncData}(F:Fun K "_law_cell" "_law_cell" JZ f fd)(qC:mg "len"=none):FnOk P w K mg base CX0 1 f fd ["script","k"] (spE K C 2 Jz):=by
 refine F.ok VO (fun vs H Q E h=>JN h) (fun cdv A outer s H vs Q E hr h=>?_);have hu:=hr.units;refine⟨_,(Je (Yk (Jw VG (pv 1) (JU (WV (K:=K) rfl) rfl qC Jc5 (Ja (pv 0) Jg)) (JB _)) (Ji (JH (Wz (Ub (K:=K) rfl) (pv 0) (pv 1) (fun _ _=>rfl)))) JP)
  (Ji (JH Jf))),?_⟩
 refine JL (N:=["script","k"]) ?_ h;walk_at "s"
theorem sc_law_partitions:FnScope ["balls","most","found","size","rest"] ["balls","most"] (Jc Jn):=⟨rfl,rfl,rfl,by decide +kernel,rfl,by decide +kernel,by decide +kernel⟩
theorem YC{f:Addr}{fd:FuncData}(F:Fun K "_law_partitions" "_law_partitions" Jn f fd)(qd:mg "range"=none)(qr:mg "min"=none){j:Nat}{Jh:List Sl->Option Sl}(qa:Cal P w K mg base "_law_partitions" j ["balls","most"] (spE K C 2 Jh)):FnOk P w K mg base CX0 (j+1) f fd ["balls","most"] (spE K C 2 (J4 Jh)):=by
 refine F.ok sc_law_partitions (fun vs H Q E h=>JN h) (fun cdv A outer s H vs Q E hr h=>?_);have hu:=hr.units;refine⟨_,(Je (Yk (Jw (U9 (K:=K) rfl hu) (pv 0) Jf (JB _)) (Ji (JH (Uu (Ja (Uu Jg) Jg)))) JP)
  (Je (JK (i:=2) sc_law_partitions.nd rfl (.inl rfl) (Uu Jg))
  (Je (YD Gj rfl (Zo rfl qd (Ja Jf (Ja (Jm (J1 (K:=K) rfl) (JU (UL rfl) rfl qr ZM (Ja (pv 0) (Ja (pv 1) Jg))) Jf) Jg))) (Jv (i:=3) sc_law_partitions.nd rfl (.inl rfl)) (Ji (YD Gj rfl (Yi (K:=K) rfl (Jj qa (hr.mono (Qm _)) rfl (Ja (Jm Yb (pv 0) (pv 3)) (Ja (pv 3) Jg)))) (Jv (i:=4) sc_law_partitions.nd rfl (.inl rfl)) (Ji (Yu (Jat (K:=K) rfl KH PySem.F.slot_list_append PySem.F.type_list_append Zj (pv 2) (Ja (Jm (J1 (K:=K) rfl) (pv 4) (Uu (Ja (pv 3) Jg))) Jg)))))))
  (Ji (JH (pv 2)))))),?_⟩
 refine JL (N:=["balls","most","found","size","rest"]) ?_ h;walk_at "s"
theorem J6{f:Addr}{fd:FuncData}(F:Fun K "_law_partitions" "_law_partitions" Jn f fd)(qd:mg "range"=none)(qr:mg "min"=none)(hm:mg "_law_partitions"=some (.ref f))(hk:keepIn K (.ref f)=true)(hb:Binds K fd ["balls","most"] []):∀n:Nat,FnOk P w K mg base CX0 (n+1) f fd ["balls","most"] (spE K C 2 (JQ n))
 | 0=>Jds (C:=C) (fun _=>rfl)
 | n+1=>YC (C:=C) F qd qr ⟨f,fd,J6 F qd qr hm hk hb n,hm,hk,hb⟩
theorem VP:FnScope ["size","seats"] ["size","seats"] (Jc J0):=⟨rfl,rfl,rfl,by decide +kernel,rfl,by decide +kernel,by decide +kernel⟩
theorem VE{f:Addr}{fd:FuncData}(F:Fun K "share_of" "share_of" J0 f fd)(qr:mg "min"=none):FnOk P w K mg base CX0 1 f fd ["size","seats"] (spE K C 2 JS):=by refine F.ok VP (fun vs H Q E h=>JN h) (fun cdv A outer s H vs Q E hr h=>?_);have hu:=hr.units;refine⟨_,(Ji (JH (VI (Jw JbT (pv 1) Jau (JB _)) (pv 0) (JU (UL rfl) rfl qr ZM (Ja (pv 0) (Ja (pv 1) Jg)))))),?_⟩;refine JL (N:=["size","seats"]) ?_ h;walk_at "s"
theorem Vd:FnScope ["lumps","most"] ["lumps","most"] (Jc JT):=⟨rfl,rfl,rfl,by decide +kernel,rfl,by decide +kernel,by decide +kernel⟩
theorem U8{f:Addr}{fd:FuncData}(F:Fun K "check_few" "check_few" JT f fd)(qw:mg "sum"=none):FnOk P w K mg base CX0 1 f fd ["lumps","most"] (spE K C 2 Jo):=by
 refine F.ok Vd (fun vs H Q E h=>JN h) (fun cdv A outer s H vs Q E hr h=>?_);have hu:=hr.units;refine⟨_,(Ji (Yk (Jw VF (JU (UM (K:=K) rfl rfl) rfl qw ZN (Ja (Uf (N':=["size","number"]) (imp:=[none,none]) rfl (Yi (K:=K) rfl (pv 0)) (JgE rfl rfl) (fun _ _ _ _=>(YK (K:=K) (n:=2) rfl rfl (JO (Jv (i:=0) (show(["size","number"]:List Str).Nodup from by decide +kernel) rfl (.inl rfl) (.inr rfl)) (JO (Jv (i:=1) (show(["size","number"]:List Str).Nodup from by decide +kernel) rfl (.inl rfl) (.inr rfl)) YL)) rfl rfl)) (fun _ _ _ _=>YM) (fun _ _ _ _=>(pv 1))) Jg)) (pv 1) (JB _)) (Ji YN) JP)),?_⟩
 refine JL (N:=["lumps","most"]) ?_ h;walk_at "s"
theorem sc_check_lumps:FnScope ["lumps","ahead","size","number"] ["lumps"] (Jc JE):=⟨rfl,rfl,rfl,by decide +kernel,rfl,by decide +kernel,by decide +kernel⟩
theorem Ur{f:Addr}{fd:FuncData}(F:Fun K "check_lumps" "check_lumps" JE f fd) :FnOk P w K mg base CX0 1 f fd ["lumps"] (spE K C 1 Jp):=by
 refine F.ok sc_check_lumps (fun vs H Q E h=>JN h) (fun cdv A outer s H vs Q E hr h=>?_);have hu:=hr.units;refine⟨_,(Je (JK (i:=1) sc_check_lumps.nd rfl (.inl rfl) Jf)
  (Ji (YD Gj rfl (Yi (K:=K) rfl (pv 0)) (YK (K:=K) (n:=2) rfl rfl (JO (Jv (i:=2) sc_check_lumps.nd rfl (.inl rfl)) (JO (Jv (i:=3) sc_check_lumps.nd rfl (.inl rfl)) YL)) rfl rfl) (Je (Yk (Jw JfQ (pv 2) (pv 1) (JB _)) (Ji YN) JP)
  (Je (Yk (Jw VG (pv 3) Jf (JB _)) (Ji YN) JP)
  (Ji (JK (i:=1) sc_check_lumps.nd rfl (.inl rfl) (pv 2)))))))),?_⟩
 refine JL (N:=["lumps","ahead","size","number"]) ?_ h;walk_at "s"
theorem Uw:FnScope ["seats"] ["seats"] (Jc JF):=⟨rfl,rfl,rfl,by decide +kernel,rfl,by decide +kernel,by decide +kernel⟩
theorem Us{f:Addr}{fd:FuncData}(F:Fun K "check_seats" "check_seats" JF f fd) :FnOk P w K mg base CX0 1 f fd ["seats"] (spE K C 1 Jx):=by refine F.ok Uw (fun vs H Q E h=>JN h) (fun cdv A outer s H vs Q E hr h=>?_);have hu:=hr.units;refine⟨_,(Ji (Yk (PW.pt (Jeh (Jw Jar (pv 0) Jau (JB _)) (Jb0 (Jw VG (pv 0) Jf (JB _))))) (Ji YN) JP)),?_⟩;refine JL (N:=["seats"]) ?_ h;walk_at "s"
theorem Ux:FnScope ["lumps","seats"] ["lumps","seats"] (Jc JG):=⟨rfl,rfl,rfl,by decide +kernel,rfl,by decide +kernel,by decide +kernel⟩
theorem Ut{f:Addr}{fd:FuncData}(F:Fun K "told_taking" "told_taking" JG f fd)(qw:mg "sum"=none)(qm:GV mg "MOST_LUMPS" (.int 30))(qp:Cal P w K mg base "share_of" 1 ["size","seats"] (spE K C 2 JS))(qe:Cal P w K mg base "check_few" 1 ["lumps","most"] (spE K C 2 Jo))(qb:Cal P w K mg base "check_lumps" 1 ["lumps"] (spE K C 1 Jp))(qk:Cal P w K mg base "check_seats" 1 ["seats"] (spE K C 1 Jx)):FnOk P w K mg base CX0 2 f fd ["lumps","seats"] (spE K C 2 Jy):=by
 refine F.ok Ux (fun vs H Q E h=>JN h) (fun cdv A outer s H vs Q E hr h=>?_);have hu:=hr.units;refine⟨_,(Je (Yu (Jj qk (hr.mono (by decide)) rfl (Ja (pv 1) Jg)))
  (Je (Yu (Jj qb (hr.mono (by decide)) rfl (Ja (pv 0) Jg)))
  (Je (Yu (Jj qe (hr.mono (by decide)) rfl (Ja (pv 0) (Ja (VH rfl qm) Jg))))
  (Ji (JH (JU (UM (K:=K) rfl rfl) rfl qw ZN (Ja (Uf (N':=["size","number","seats"]) (imp:=[none,none,some 1]) rfl (Yi (K:=K) rfl (pv 0)) (Jc3 (own:=["size","number"]) (fr:=[("seats",1)]) rfl rfl rfl ⟨rfl,trivial⟩ rfl ⟨⟨rfl,rfl,rfl⟩,trivial⟩) (fun _ _ _ _=>(YK (K:=K) (n:=2) rfl rfl (JO (Jv (i:=0) (show(["size","number","seats"]:List Str).Nodup from by decide +kernel) rfl (.inl rfl) (.inr rfl)) (JO (Jv (i:=1) (show(["size","number","seats"]:List Str).Nodup from by decide +kernel) rfl (.inl rfl) (.inr rfl)) YL)) rfl rfl)) (fun _ _ _ _=>YM) (fun _ _ _ _=>(Jm Ya (pv 1) (Jj qp (hr.mono (by decide)) rfl (Ja (pv 0) (Ja (pv 2) Jg)))))) Jg))))))),?_⟩
 refine JL (N:=["lumps","seats"]) ?_ h;walk_at "s"
theorem JaN:FnScope ["boxes","lumps"] ["boxes","lumps"] (Jc Yv):=⟨rfl,rfl,rfl,by decide +kernel,rfl,by decide +kernel,by decide +kernel⟩
theorem Jap{f:Addr}{fd:FuncData}(F:Fun K "rooms" "rooms" Yv f fd)(qi:GV mg "MOST_COUNTED" (.int 12))(ql:Cal P w K mg base "told_taking" 2 ["lumps","seats"] (spE K C 2 Jy))(qe:Cal P w K mg base "check_few" 1 ["lumps","most"] (spE K C 2 Jo))(qb:Cal P w K mg base "check_lumps" 1 ["lumps"] (spE K C 1 Jp)):FnOk P w K mg base CX0 3 f fd ["boxes","lumps"] (spE K C 2 Ye):=by
 refine F.ok JaN (fun vs H Q E h=>JN h) (fun cdv A outer s H vs Q E hr h=>?_);have hu:=hr.units;refine⟨_,(Je (Yu (Jj qb (hr.mono (by decide)) rfl (Ja (pv 1) Jg)))
  (Je (Yu (Jj qe (hr.mono (by decide)) rfl (Ja (pv 1) (Ja (VH rfl qi) Jg))))
  (Ji (JH (Uf (N':=["size","number","boxes","lumps"]) (imp:=[none,none,some 0,some 1]) rfl (Yi (K:=K) rfl (pv 1)) (Jc3 (own:=["size","number"]) (fr:=[("boxes",0),("lumps",1)]) rfl rfl rfl ⟨rfl,rfl,trivial⟩ rfl ⟨⟨rfl,rfl,rfl⟩,⟨rfl,rfl,rfl⟩,trivial⟩) (fun _ _ _ _=>(YK (K:=K) (n:=2) rfl rfl (JO (Jv (i:=0) (show(["size","number","boxes","lumps"]:List Str).Nodup from by decide +kernel) rfl (.inl rfl) (.inr rfl)) (JO (Jv (i:=1) (show(["size","number","boxes","lumps"]:List Str).Nodup from by decide +kernel) rfl (.inl rfl) (.inr rfl)) YL)) rfl rfl)) (fun _ _ _ _=>YM) (fun _ _ _ _=>(Jax (Ja (pv 0) (Ja (Jm Yb (pv 2) (Jm Ya Jf (Jj ql (hr.mono (by decide)) rfl (Ja (pv 3) (Ja (pv 0) Jg))))) Jg))))))))),?_⟩
 refine JL (N:=["boxes","lumps"]) ?_ h;walk_at "s"
theorem UE:FnScope ["room","count"] ["room","count"] (Jc JM):=⟨rfl,rfl,rfl,by decide +kernel,rfl,by decide +kernel,by decide +kernel⟩
theorem UD{f:Addr}{fd:FuncData}(F:Fun K "spot_lists" "spot_lists" JM f fd)(qg:Cal P w K mg base "choices" 1 ["many","few"] (spE K C 2 JA)):FnOk P w K mg base CX0 2 f fd ["room","count"] (spE K C 2 JD):=by refine F.ok UE (fun vs H Q E h=>JN h) (fun cdv A outer s H vs Q E hr h=>?_);have hu:=hr.units;refine⟨_,(Ji (JH (VI (Jw VG (pv 0) Jf (JB _)) Jf (Jj qg (hr.mono (by decide)) rfl (Ja (Jm (J1 (K:=K) rfl) (pv 0) (pv 1)) (Ja (pv 1) Jg)))))),?_⟩;refine JL (N:=["room","count"]) ?_ h;walk_at "s"
theorem sc_how_many:FnScope ["boxes","lumps","told","room","lump"] ["boxes","lumps"] (Jc JY):=⟨rfl,rfl,rfl,by decide +kernel,rfl,by decide +kernel,by decide +kernel⟩
theorem VC{f:Addr}{fd:FuncData}(F:Fun K "how_many" "how_many" JY f fd)(qD:mg "zip"=none)(qx:Cal P w K mg base "rooms" 3 ["boxes","lumps"] (spE K C 2 Ye))(qo:Cal P w K mg base "spot_lists" 2 ["room","count"] (spE K C 2 JD)):FnOk P w K mg base CX0 4 f fd ["boxes","lumps"] (spE K C 2 JR):=by
 refine F.ok sc_how_many (fun vs H Q E h=>JN h) (fun cdv A outer s H vs Q E hr h=>?_);have hu:=hr.units;refine⟨_,(Je (JK (i:=2) sc_how_many.nd rfl (.inl rfl) Jf)
  (Je (YD Gj rfl (JbY (K:=K) rfl rfl qD (Ja (Jj qx (hr.mono (by decide)) rfl (Ja (pv 0) (Ja (pv 1) Jg))) (Ja (pv 1) Jg))) (YK (K:=K) (n:=2) rfl rfl (JO (Jv (i:=3) sc_how_many.nd rfl (.inl rfl)) (JO (Jv (i:=4) sc_how_many.nd rfl (.inl rfl)) YL)) rfl rfl) (Ji (Jed (i:=2) sc_how_many.nd rfl (.inl rfl) (Jj qo (hr.mono (by decide)) rfl (Ja (Wz (Ub (K:=K) rfl) (pv 3) Jf (fun _ _=>rfl)) (Ja (Wz (Ub (K:=K) rfl) (pv 4) Jf (fun _ _=>rfl)) Jg))) JbG)))
  (Ji (JH (pv 2))))),?_⟩
 refine JL (N:=["boxes","lumps","told","room","lump"]) ?_ h;walk_at "s"
theorem sc_law:FnScope ["script","lead","cell","boxes","balls","total","sizes","found","many","ways_to","k","here"] ["script"] (Jc YO):=⟨rfl,rfl,rfl,by decide +kernel,rfl,by decide +kernel,by decide +kernel⟩
theorem JdX{f:Addr}{fd:FuncData}(F:Fun K "law" "law" YO f fd)(qf:mg "isinstance"=none)(qy:mg "bool"=none)(qd:mg "range"=none)(qE:mg "int"=none)(qt:mg "sorted"=none)(qF:mg "set"=none)(qj:Cal P w K mg base "in_all" 2 ["boxes","balls"] (spE K C 2 JC))(qh:Cal P w K mg base "_law_cell" 1 ["script","k"] (spE K C 2 Jz))(qa:Cal P w K mg base "_law_partitions" 12 ["balls","most"] (spE K C 2 Jh))(qq:Cal P w K mg base "how_many" 4 ["boxes","lumps"] (spE K C 2 JR)):FnOk P w K mg base CX0 13 f fd ["script"] (spE K C 1 V6):=by
 refine F.ok sc_law (fun vs H Q E h=>JN h) (fun cdv A outer s H vs Q E hr h=>?_);have hu:=hr.units;refine⟨_,(Je (JK (i:=1) sc_law.nd rfl (.inl rfl) (Jj qh (hr.mono (by decide)) rfl (Ja (pv 0) (Ja Jf Jg))))
  (Je (JK (i:=2) sc_law.nd rfl (.inl rfl) (Jj qh (hr.mono (by decide)) rfl (Ja (pv 0) (Ja Jf Jg))))
  (Je (JK (i:=3) sc_law.nd rfl (.inl rfl) (Wz (Ub (K:=K) rfl) (Uu (Ja (Jm Y2 (pv 2) Jf) (Ja (Jm Y2 (pv 2) (Jm (J1 (K:=K) rfl) (Jm Jas Jf Jf) Jf)) (Ja (Jm Y2 (pv 2) (Jm (J1 (K:=K) rfl) (Jm Jas Jf Jf) Jf)) Jg)))) (Jm Y2 (Jm Va (pv 1) Jf) Jf) (fun _ _=>rfl)))
  (Je (JK (i:=4) sc_law.nd rfl (.inl rfl) (Jm Y2 (pv 1) Jf))
  (Je (JK (i:=5) sc_law.nd rfl (.inl rfl) Jf)
  (Je (YD Gj rfl (Yi (K:=K) rfl (Jj qa (hr.mono (by decide)) rfl (Ja (pv 4) (Ja (pv 4) Jg)))) (Jv (i:=6) sc_law.nd rfl (.inr rfl)) (Ji (JK (i:=5) sc_law.nd rfl (.inl rfl) (Jm (J1 (K:=K) rfl) (pv 5) (Jj qq (hr.mono (by decide)) rfl (Ja (pv 3) (Ja (Uf (N':=["size","sizes"]) (imp:=[none,some 6]) rfl (Yi (K:=K) rfl (Jaw (K:=K) rfl rfl rfl qt rfl qF (pv 6))) (Jc3 (own:=["size"]) (fr:=[("sizes",6)]) rfl rfl rfl ⟨rfl,trivial⟩ rfl ⟨⟨rfl,rfl,rfl⟩,trivial⟩) (fun _ _ _ _=>(Jv (i:=0) (show(["size","sizes"]:List Str).Nodup from by decide +kernel) rfl (.inl rfl) (.inr rfl))) (fun _ _ _ _=>YM) (fun _ _ _ _=>(Jax (Ja (pv 0) (Ja (Jat (K:=K) rfl KH PySem.F.slot_list_count PySem.F.type_list_count Zk (pv 1) (Ja (pv 0) Jg)) Jg))))) Jg)))))))
  (Je (JK (i:=7) sc_law.nd rfl (.inl rfl) (Jj qj (hr.mono (by decide)) rfl (Ja (pv 3) (Ja (pv 4) Jg))))
  (Je (Yk (PW.pt (JaA (Jee (WC (K:=K) rfl (JU (YX (K:=K) rfl) rfl qf J9 (Ja (pv 7) (Ja (Vb (v:=V.ty "int") rfl qE Jc4 rfl) Jg))) (fun _=>rfl))) (JaA (WC (K:=K) rfl (JU (YX (K:=K) rfl) rfl qf J9 (Ja (pv 7) (Ja (Vb (v:=V.ty "bool") rfl qy Wm rfl) Jg))) (fun _=>rfl)) (JaB (Jw (Jaq (K:=K) rfl hu) (pv 7) (pv 5) (JB _)))))) (Ji (JH JcM)) JP)
  (Je (JK (i:=8) sc_law.nd rfl (.inl rfl) (Jm Y2 (Jj qh (hr.mono (by decide)) rfl (Ja (pv 0) (Ja Jf Jg))) Jf))
  (Je (JK (i:=9) sc_law.nd rfl (.inl rfl) Jf)
  (Je (YD Gj rfl (US rfl qd (Ja (pv 8) Jg)) (Jv (i:=10) sc_law.nd rfl (.inl rfl)) (Ji (JK (i:=9) sc_law.nd rfl (.inl rfl) (Jm Va (Jm Ya (pv 9) (Jm Yb (Jm Ya Jf (pv 8)) (pv 10))) (Jm (J1 (K:=K) rfl) (pv 10) Jf)))))
  (Je (Yk (Jw (Jaq (K:=K) rfl hu) (Jm Ya (Jj qj (hr.mono (by decide)) rfl (Ja (Jm Ya Jf (pv 8)) (Ja (pv 8) Jg))) (Jm (J1 (K:=K) rfl) (pv 8) Jf)) (pv 9) (JB _)) (Ji (JH JcM)) JP)
  (Je (JK (i:=11) sc_law.nd rfl (.inl rfl) (Jj qj (hr.mono (by decide)) rfl (Ja (pv 3) (Ja (pv 8) Jg))))
  (Je (Yk (Jw VF (Jm Ya Jf (pv 8)) (pv 3) (JB _)) (Ji (JH (Jd5 (Vc (U9 (K:=K) rfl hu) (pv 11) Jf (JB _)) (Jd7 (Jd6 (JU (YX (K:=K) rfl) rfl qf J9 (Ja (pv 11) (Ja (Vb (v:=V.ty "bool") rfl qy Wm rfl) Jg)))))))) JP)
  (Je (Yk (PW.pt (JaA (Jw (U9 (K:=K) rfl hu) (pv 8) Jf (JB _)) (JaB (Jw VF (Jm Ya Jf (pv 8)) (Jm Yb (pv 3) Jf) (JB _))))) (Ji (JH (Vc VF (pv 11) Jf (JB _)))) JP)
  (Ji (JH (Vc (U9 (K:=K) rfl hu) (pv 11) (Jm (J1 (K:=K) rfl) (Jj qj (hr.mono (by decide)) rfl (Ja (Jm Yb (pv 3) Jf) (Ja (pv 8) Jg))) (Jj qj (hr.mono (by decide)) rfl (Ja (Jm Yb (pv 3) Jf) (Ja (Jm Yb (pv 8) Jf) Jg)))) (JB _))))))))))))))))))),?_⟩
 refine JL (N:=["script","lead","cell","boxes","balls","total","sizes","found","many","ways_to","k","here"]) ?_ h;walk_at "s"
end
theorem vl1{α:Type}{us:List α}(h:us.length=1):∃a,us=[a]:=match us,h with|[a],_=>⟨a,rfl⟩
theorem vl2{α:Type}{us:List α}(h:us.length=2):∃a b,us=[a,b]:=match us,h with|[a,b],_=>⟨a,b,rfl⟩
theorem all_mk{l:PySem.W.OpenLaw}{w:World}{K:Frag}{h:Heap}{mg:Str->Option Value}{fa:Addr}{C:Addr}{f1:Addr}{od1 an1:Option Addr}{sl1:Array (Option Value)}{oc1 kV1 dc1 pm1 cd1 ct1:Value}{f2:Addr}{od2 an2:Option Addr}{sl2:Array (Option Value)}{oc2 kV2 dc2 pm2 cd2 ct2:Value}{f3:Addr}{od3 an3:Option Addr}{sl3:Array (Option Value)}{oc3 kV3 dc3 pm3 cd3 ct3:Value}{f4:Addr}{od4 an4:Option Addr}{sl4:Array (Option Value)}{oc4 kV4 dc4 pm4 cd4 ct4:Value}{f5:Addr}{od5 an5:Option Addr}{sl5:Array (Option Value)}{oc5 kV5 dc5 pm5 cd5 ct5:Value}{f6:Addr}{od6 an6:Option Addr}{sl6:Array (Option Value)}{oc6 kV6 dc6 pm6 cd6 ct6:Value}{f7:Addr}{od7 an7:Option Addr}{sl7:Array (Option Value)}{oc7 kV7 dc7 pm7 cd7 ct7:Value}{f8:Addr}{od8 an8:Option Addr}{sl8:Array (Option Value)}{oc8 kV8 dc8 pm8 cd8 ct8:Value}{f9:Addr}{od9 an9:Option Addr}{sl9:Array (Option Value)}{oc9 kV9 dc9 pm9 cd9 ct9:Value}{f10:Addr}{od10 an10:Option Addr}{sl10:Array (Option Value)}{oc10 kV10 dc10 pm10 cd10 ct10:Value}{f11:Addr}{od11 an11:Option Addr}{sl11:Array (Option Value)}{oc11 kV11 dc11 pm11 cd11 ct11:Value}{f12:Addr}{od12 an12:Option Addr}{sl12:Array (Option Value)}{oc12 kV12 dc12 pm12 cd12 ct12:Value}{f13:Addr}{od13 an13:Option Addr}{sl13:Array (Option Value)}{oc13 kV13 dc13 pm13 cd13 ct13:Value}{qz:Tok}{qu:Tok}(X:K.In h)(G:h.Ns mainGlobals mg)(hfa:mg "law"=some (.ref fa))
 (a1:nsIn K mainGlobals "choices"=some (some (.ref f1)))
 (l1:K.lookup f1=some ⟨oc1,od1,.func (fnOf "choices" "choices" (Jr J3) (Jq J3) (Jc J3) .none kV1 dc1 pm1 an1 cd1 ct1),sl1⟩)
 (c1:codeIn K cd1 "choices"=true)
 (k1:keepIn K (.ref f1)=true)
 (a2:nsIn K mainGlobals "in_all"=some (some (.ref f2)))
 (l2:K.lookup f2=some ⟨oc2,od2,.func (fnOf "in_all" "in_all" (Jr Yf) (Jq Yf) (Jc Yf) .none kV2 dc2 pm2 an2 cd2 ct2),sl2⟩)
 (c2:codeIn K cd2 "in_all"=true)
 (k2:keepIn K (.ref f2)=true)
 (a3:nsIn K mainGlobals "_law_cell"=some (some (.ref f3)))
 (l3:K.lookup f3=some ⟨oc3,od3,.func (fnOf "_law_cell" "_law_cell" (Jr JZ) (Jq JZ) (Jc JZ) .none kV3 dc3 pm3 an3 cd3 ct3),sl3⟩)
 (c3:codeIn K cd3 "_law_cell"=true)
 (k3:keepIn K (.ref f3)=true)
 (a4:nsIn K mainGlobals "_law_partitions"=some (some (.ref f4)))
 (l4:K.lookup f4=some ⟨oc4,od4,.func (fnOf "_law_partitions" "_law_partitions" (Jr Jn) (Jq Jn) (Jc Jn) .none kV4 dc4 pm4 an4 cd4 ct4),sl4⟩)
 (c4:codeIn K cd4 "_law_partitions"=true)
 (k4:keepIn K (.ref f4)=true)
 (a5:nsIn K mainGlobals "share_of"=some (some (.ref f5)))
 (l5:K.lookup f5=some ⟨oc5,od5,.func (fnOf "share_of" "share_of" (Jr J0) (Jq J0) (Jc J0) .none kV5 dc5 pm5 an5 cd5 ct5),sl5⟩)
 (c5:codeIn K cd5 "share_of"=true)
 (k5:keepIn K (.ref f5)=true)
 (a6:nsIn K mainGlobals "check_few"=some (some (.ref f6)))
 (l6:K.lookup f6=some ⟨oc6,od6,.func (fnOf "check_few" "check_few" (Jr JT) (Jq JT) (Jc JT) .none kV6 dc6 pm6 an6 cd6 ct6),sl6⟩)
 (c6:codeIn K cd6 "check_few"=true)
 (k6:keepIn K (.ref f6)=true)
 (a7:nsIn K mainGlobals "check_lumps"=some (some (.ref f7)))
 (l7:K.lookup f7=some ⟨oc7,od7,.func (fnOf "check_lumps" "check_lumps" (Jr JE) (Jq JE) (Jc JE) .none kV7 dc7 pm7 an7 cd7 ct7),sl7⟩)
 (c7:codeIn K cd7 "check_lumps"=true)
 (k7:keepIn K (.ref f7)=true)
 (a8:nsIn K mainGlobals "check_seats"=some (some (.ref f8)))
 (l8:K.lookup f8=some ⟨oc8,od8,.func (fnOf "check_seats" "check_seats" (Jr JF) (Jq JF) (Jc JF) .none kV8 dc8 pm8 an8 cd8 ct8),sl8⟩)
 (c8:codeIn K cd8 "check_seats"=true)
 (k8:keepIn K (.ref f8)=true)
 (a9:nsIn K mainGlobals "told_taking"=some (some (.ref f9)))
 (l9:K.lookup f9=some ⟨oc9,od9,.func (fnOf "told_taking" "told_taking" (Jr JG) (Jq JG) (Jc JG) .none kV9 dc9 pm9 an9 cd9 ct9),sl9⟩)
 (c9:codeIn K cd9 "told_taking"=true)
 (k9:keepIn K (.ref f9)=true)
 (a10:nsIn K mainGlobals "rooms"=some (some (.ref f10)))
 (l10:K.lookup f10=some ⟨oc10,od10,.func (fnOf "rooms" "rooms" (Jr Yv) (Jq Yv) (Jc Yv) .none kV10 dc10 pm10 an10 cd10 ct10),sl10⟩)
 (c10:codeIn K cd10 "rooms"=true)
 (k10:keepIn K (.ref f10)=true)
 (a11:nsIn K mainGlobals "spot_lists"=some (some (.ref f11)))
 (l11:K.lookup f11=some ⟨oc11,od11,.func (fnOf "spot_lists" "spot_lists" (Jr JM) (Jq JM) (Jc JM) .none kV11 dc11 pm11 an11 cd11 ct11),sl11⟩)
 (c11:codeIn K cd11 "spot_lists"=true)
 (k11:keepIn K (.ref f11)=true)
 (a12:nsIn K mainGlobals "how_many"=some (some (.ref f12)))
 (l12:K.lookup f12=some ⟨oc12,od12,.func (fnOf "how_many" "how_many" (Jr JY) (Jq JY) (Jc JY) .none kV12 dc12 pm12 an12 cd12 ct12),sl12⟩)
 (c12:codeIn K cd12 "how_many"=true)
 (k12:keepIn K (.ref f12)=true)
 (a13:nsIn K mainGlobals "law"=some (some (.ref f13)))
 (l13:K.lookup f13=some ⟨oc13,od13,.func (fnOf "law" "law" (Jr YO) (Jq YO) (Jc YO) .none kV13 dc13 pm13 an13 cd13 ct13),sl13⟩)
 (c13:codeIn K cd13 "law"=true)
 (k13:keepIn K (.ref f13)=true)
 (qH:nsIn K mainGlobals "range"=some none)
 (qJ:nsIn K mainGlobals "len"=some none)
 (qK:nsIn K mainGlobals "min"=some none)
 (qL:nsIn K mainGlobals "sum"=some none)
 (qM:nsIn K mainGlobals "zip"=some none)
 (qA:nsIn K mainGlobals "isinstance"=some none)
 (qI:nsIn K mainGlobals "bool"=some none)
 (qN:nsIn K mainGlobals "int"=some none)
 (qG:nsIn K mainGlobals "sorted"=some none)
 (qO:nsIn K mainGlobals "set"=some none)
 (qB:nsIn K mainGlobals "MOST_LUMPS"=some (some (.int 30 qz)))
 (qv:nsIn K mainGlobals "MOST_COUNTED"=some (some (.int 12 qu)))
:∃fd:FuncData,(∀(s:Shared) (v:Value),BindsTo s fd ⟨[v],[]⟩ [("script",v)])/\∀base:Heap,K.In base->base.Ns mainGlobals mg->FnOk l.prog w K mg base CX0 13 fa fd ["script"] (WL K):=by
 have e:=hfa.symm.trans (mg_of X G a13);cases e
 have qd:=mg_none_of X G qH
 have qC:=mg_none_of X G qJ
 have qr:=mg_none_of X G qK
 have qw:=mg_none_of X G qL
 have qD:=mg_none_of X G qM
 have qf:=mg_none_of X G qA
 have qy:=mg_none_of X G qI
 have qE:=mg_none_of X G qN
 have qt:=mg_none_of X G qG
 have qF:=mg_none_of X G qO
 have qm:GV mg "MOST_LUMPS" (.int 30):=⟨_,mg_of X G qB,⟨_,rfl⟩⟩
 have qi:GV mg "MOST_COUNTED" (.int 12):=⟨_,mg_of X G qv,⟨_,rfl⟩⟩
 have F1:=JX (st:=J3) l1 c1 k1
 have B1:=F1.binds (ps:=["many","few"]) fun _ _ _ _ _ _ us hl=>by obtain⟨_,_,rfl⟩:=vl2 hl;rfl
 have F2:=JX (st:=Yf) l2 c2 k2
 have B2:=F2.binds (ps:=["boxes","balls"]) fun _ _ _ _ _ _ us hl=>by obtain⟨_,_,rfl⟩:=vl2 hl;rfl
 have F3:=JX (st:=JZ) l3 c3 k3
 have B3:=F3.binds (ps:=["script","k"]) fun _ _ _ _ _ _ us hl=>by obtain⟨_,_,rfl⟩:=vl2 hl;rfl
 have F4:=JX (st:=Jn) l4 c4 k4
 have B4:=F4.binds (ps:=["balls","most"]) fun _ _ _ _ _ _ us hl=>by obtain⟨_,_,rfl⟩:=vl2 hl;rfl
 have F5:=JX (st:=J0) l5 c5 k5
 have B5:=F5.binds (ps:=["size","seats"]) fun _ _ _ _ _ _ us hl=>by obtain⟨_,_,rfl⟩:=vl2 hl;rfl
 have F6:=JX (st:=JT) l6 c6 k6
 have B6:=F6.binds (ps:=["lumps","most"]) fun _ _ _ _ _ _ us hl=>by obtain⟨_,_,rfl⟩:=vl2 hl;rfl
 have F7:=JX (st:=JE) l7 c7 k7
 have B7:=F7.binds (ps:=["lumps"]) fun _ _ _ _ _ _ us hl=>by obtain⟨_,rfl⟩:=vl1 hl;rfl
 have F8:=JX (st:=JF) l8 c8 k8
 have B8:=F8.binds (ps:=["seats"]) fun _ _ _ _ _ _ us hl=>by obtain⟨_,rfl⟩:=vl1 hl;rfl
 have F9:=JX (st:=JG) l9 c9 k9
 have B9:=F9.binds (ps:=["lumps","seats"]) fun _ _ _ _ _ _ us hl=>by obtain⟨_,_,rfl⟩:=vl2 hl;rfl
 have F10:=JX (st:=Yv) l10 c10 k10
 have B10:=F10.binds (ps:=["boxes","lumps"]) fun _ _ _ _ _ _ us hl=>by obtain⟨_,_,rfl⟩:=vl2 hl;rfl
 have F11:=JX (st:=JM) l11 c11 k11
 have B11:=F11.binds (ps:=["room","count"]) fun _ _ _ _ _ _ us hl=>by obtain⟨_,_,rfl⟩:=vl2 hl;rfl
 have F12:=JX (st:=JY) l12 c12 k12
 have B12:=F12.binds (ps:=["boxes","lumps"]) fun _ _ _ _ _ _ us hl=>by obtain⟨_,_,rfl⟩:=vl2 hl;rfl
 have F13:=JX (st:=YO) l13 c13 k13
 have B13:=F13.binds (ps:=["script"]) fun _ _ _ _ _ _ us hl=>by obtain⟨_,rfl⟩:=vl1 hl;rfl
 refine⟨fnOf "law" "law" (Jr YO) (Jq YO) (Jc YO) .none kV13 dc13 pm13 an13 cd13 ct13,fun s v=>.of_eq rfl,fun base _ _=>?_⟩;have qg:Cal l.prog w K mg base "choices" 1 ["many","few"] (spE K C 2 JA):=⟨f1,_,Wc (C:=C) F1 qd,mg_of X G a1,k1,B1⟩
 have qj:Cal l.prog w K mg base "in_all" 2 ["boxes","balls"] (spE K C 2 JC):=⟨f2,_,Zm (C:=C) F2 qg,mg_of X G a2,k2,B2⟩
 have qh:Cal l.prog w K mg base "_law_cell" 1 ["script","k"] (spE K C 2 Jz):=⟨f3,_,VD (C:=C) F3 qC,mg_of X G a3,k3,B3⟩
 have qa:Cal l.prog w K mg base "_law_partitions" 12 ["balls","most"] (spE K C 2 Jh):=⟨f4,_,J6 (C:=C) F4 qd qr (mg_of X G a4) k4 B4 11,mg_of X G a4,k4,B4⟩
 have qp:Cal l.prog w K mg base "share_of" 1 ["size","seats"] (spE K C 2 JS):=⟨f5,_,VE (C:=C) F5 qr,mg_of X G a5,k5,B5⟩
 have qe:Cal l.prog w K mg base "check_few" 1 ["lumps","most"] (spE K C 2 Jo):=⟨f6,_,U8 (C:=C) F6 qw,mg_of X G a6,k6,B6⟩
 have qb:Cal l.prog w K mg base "check_lumps" 1 ["lumps"] (spE K C 1 Jp):=⟨f7,_,Ur (C:=C) F7 ,mg_of X G a7,k7,B7⟩
 have qk:Cal l.prog w K mg base "check_seats" 1 ["seats"] (spE K C 1 Jx):=⟨f8,_,Us (C:=C) F8 ,mg_of X G a8,k8,B8⟩
 have ql:Cal l.prog w K mg base "told_taking" 2 ["lumps","seats"] (spE K C 2 Jy):=⟨f9,_,Ut (C:=C) F9 qw qm qp qe qb qk,mg_of X G a9,k9,B9⟩
 have qx:Cal l.prog w K mg base "rooms" 3 ["boxes","lumps"] (spE K C 2 Ye):=⟨f10,_,Jap (C:=C) F10 qi ql qe qb,mg_of X G a10,k10,B10⟩
 have qo:Cal l.prog w K mg base "spot_lists" 2 ["room","count"] (spE K C 2 JD):=⟨f11,_,UD (C:=C) F11 qg,mg_of X G a11,k11,B11⟩
 have qq:Cal l.prog w K mg base "how_many" 4 ["boxes","lumps"] (spE K C 2 JR):=⟨f12,_,VC (C:=C) F12 qD qx qo,mg_of X G a12,k12,B12⟩
 exact JbK (JdX (C:=C) F13 qf qy qd qE qt qF qj qh qa qq) law_true
theorem walk{l:PySem.W.OpenLaw}{q:Program}{loose:List Str}{XP:(Str->Option Value)->Heap->Prop}{YP:World->Heap->Prop}{d:DefRec}{K:Params->Frag}(hn:l.most=some 63)(hdf:d.params.defaults=[])
 (hY:∀(w:World) (h:Heap),YP w h->(K w.params).In h)
 (F:∀(w:World) (mg:Str->Option Value) (fa:Addr) (h:Heap),(K w.params).In h->h.Ns mainGlobals mg->mg d.name=some (.ref fa) ->
  ∃fd:FuncData,(∀(s:Shared) (u:Value),BindsTo s fd ⟨[u],[]⟩ [("script",u)])/\∀base:Heap,(K w.params).In base->base.Ns mainGlobals mg->FnOk l.prog w (K w.params) mg base CX0 13 fa fd ["script"] (WL (K w.params))) :
 PySem.W.WalkO q loose XP YP l.row.toRowW d [] (fun f vs=>PySem.call f vs) :=
 L2.Jcz (n:=63) (k:=13) (x:="script") (CX:=fun _=>CX0) (sp:=fun w=>WL (K w.params)) hn (by decide) hdf ⟨rfl,by decide,by decide⟩ hY F (fun _ _ a ns hl _ hS=>⟨a,ns,rfl,hS,hl,fun _=>rfl⟩) fun _ _ _ _ _ z=>z
end LK
end
theorem PySem.W.Fast.tw9764637788606479394:True:=trivial
theorem PySem.W.Fast.tw2404888347401896612:True:=trivial
theorem PySem.W.Fast.tw8940590245834680478:True:=trivial
theorem PySem.W.Fast.tw2959425171567283207:True:=trivial
theorem PySem.W.Fast.tw8421925233076160092:True:=trivial
theorem PySem.W.Fast.tw15782156577818095377:True:=trivial
theorem PySem.W.Fast.tw10482808897772831953:True:=trivial
theorem PySem.W.Fast.tw1159733852798120825:True:=trivial
theorem PySem.W.Fast.tw7506408962737734540:True:=trivial
theorem PySem.W.Fast.tw17737407218863899347:True:=trivial
theorem PySem.W.Fast.tw17694819609500072303:True:=trivial
theorem PySem.W.Fast.tw14585039082006515889:True:=trivial
theorem PySem.W.Fast.tw13001699607742702223:True:=trivial
theorem PySem.W.Fast.tw6633944415570310192:True:=trivial
theorem PySem.W.Fast.tw6724901614946490508:True:=trivial
theorem PySem.W.Fast.tw3130453606215472666:True:=trivial
theorem PySem.W.Fast.tw17805968820845580910:True:=trivial
theorem PySem.W.Fast.tw1251479896671367797:True:=trivial
theorem PySem.W.Fast.tw17254978074638994251:True:=trivial
theorem PySem.W.Fast.tw8590708644600282767:True:=trivial
theorem PySem.W.Fast.tw1130465750932775864:True:=trivial
theorem PySem.W.Fast.tw17310841294644205324:True:=trivial
theorem PySem.W.Fast.tw14039041059759690361:True:=trivial
theorem PySem.W.Fast.tw7663522691987717074:True:=trivial
theorem PySem.W.Fast.tw12747803050781868753:True:=trivial
theorem PySem.W.Fast.tw15967595728256699727:True:=trivial
theorem PySem.W.Fast.tw5244236757259230280:True:=trivial
theorem PySem.W.Fast.tw11751571842112295505:True:=trivial
theorem PySem.W.Fast.tw17480375437229755855:True:=trivial
open PySem PySem.W PyProof.Rows
set_option maxRecDepth 100000 in
set_option maxHeartbeats 0 in
theorem PySem.Challenge.cw_lumprow_k57_whole_in_all_holds : PySem.Challenge.rw_lumprow_k57_whole_in_all.Holds := by
 w_on; o_law; k_head; (case hw => w_witness2)
 k_fill
 refine LK.walk (l := PySem.Challenge.rw_lumprow_k57_whole_in_all) rfl rfl (fun w h Y => PySem.W.kIn_of Y) ?F
 case F =>
  intro w mg fa h KX G hmg; apply LK.all_mk (C := 0) KX G hmg; all_goals k_is
