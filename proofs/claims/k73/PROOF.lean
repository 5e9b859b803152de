import PyProof.Rows.All
import Wide.All
import OpenK.AllK
import Wide.FinOn
import Lean
import PyProof.EqAt
import PyProof.EqKinds
import PyProof.TupleCall
import PySem.Challenge.RW_lumprow_k73_texts_of_no_tables
open Array renaming getElem?_eq_some_iff→QP,length_toList→Kz,getElem?_toList→K0,getElem?_eq_getElem→Lw
open Bool renaming false_ne_true→QA,and_eq_true→QL,eq_iff_iff→Ga,and_true→GY,or_eq_false_iff→Kq,not_eq_true'→KR,false_or→LJ,or_eq_true→Me,or_false→Mz,or_assoc→MC
open False renaming elim→Q3
open Int renaming toNat_natCast→Gv,emod_nonneg→Gz,emod_lt_of_pos→GL
open List renaming length_append→Qh,mem_cons_of_mem→Qj,length_cons→Qk,size_toArray→Qn,getElem?_eq_some_iff→Qo,map_cons→Qt,mem_cons→Qv,length_map→Qy,mem_cons_self→QB,length_singleton→QE,getElem?_append_left→QF,getElem?_append_right→QM,getElem?_set→QN,replicate→QO,getElem?_map→QR,append_nil→QT,map_append→QU,length_nil→QV,mem_of_getElem?→QX,all_eq_true→Q4,mem_append_right→Q6,getD_eq_getElem?_getD→Q9,map_nil→Gj,append_assoc→Gk,mem_append→Gm,mem_nil_iff→Gp,cons_append→Gr,eq_nil_of_length_eq_zero→Gs,replicate_succ→GB,map_map→GF,length_take→GH,drop_eq_getElem_cons→GN,nil_append→GO,reverse_cons→GQ,dropLast_concat→GS,any_cons→GW,getElem?_eq_getElem→GX,filterMap_cons→G1,getElem_mem→G4,range→G7,zip_cons_cons→Ka,find?_cons→Kc,dropLast_concat_getLast→Ke,getElem?_mapIdx→Kp,length_drop→Kt,mem_map→Ku,pairwise_iff_getElem→Kx,mem_or_eq_of_mem_set→Ky,length_reverse→KA,map_congr_left→KB,nodup_cons→KH,length_set→KI,getElem?_replicate→KL,eraseIdx_cons_succ→KM,getElem?_set_self→KO,flatten_cons→KQ,take_of_length_le→KS,mem_iff_getElem?→K1,not_mem_nil→K3,zipIdx_cons→K4,getElem?_set_ne→K6,range_eq_range'→K8,mem_of_mem_take→K9,getLast?_concat→La,of_mem_zip→Lc,drop_zero→Ls,mem_singleton→Lu,range'→LD,all_cons→LL,drop_length→LV,range'_succ→LW,getElem?_cons_succ→L4,drop_eq_nil_of_le→Md,getElem?_reverse→Mh,dropLast_eq_take→Mi,mem_append_left→Mn,length→Mo,length_dropLast→Mp,mem_iff_getElem→Mq,reduceReplicate→Ms,mem_of_mem_drop→Mt,sum_cons→MA
open List.cons renaming inj→LM
open Nat renaming le_refl→Qr,lt_of_lt_of_le→QD,ne_of_lt→QG,le_trans→QK,lt_irrefl→Gd,lt_trans→G9,ble_eq→Km,ne_of_gt→Kr,lt_of_le_of_lt→KJ,le_of_lt→KN,lt_succ_self→K2,mul_le_mul_right→Lb,min_le_left→Le,zero_le→Lz,ble→LC,le_add_right→LZ,toDigits_of_lt_base→L5,toDigits→Mc,digitChar→MB,le_of_eq→MN
open Ne renaming symm→Q0
open Option renaming bind_some→Qi,map_eq_some_iff→Gb,isSome_iff_exists→KD
open Option.some renaming inj→QI
open PyProof.Rows renaming slot_tuple_getitem→QZ,callWith_type1→Lg
open PySem renaming Value→Qa,Addr→Qc,Shared→Qd,wpAny_bind→Qe,Program→Qp,sizeLine→Qu,wpAny_pure→Qw,Around→Qx,World→QC,FuncData→QH,Heap→QJ,Expr→QQ,wpAny_mono→Q2,wpAny_field→Q5,wpAny_callSpecial?_slot→Gf,wpAny_holding→Gg,wpAny_newObj_type→Gi,codeAny_call_builtin→Gu,Stmt→Gw,wpAny_loadPart'→Gy,mem_of_lookup→GA,wpAny_setField→GK,wpAny_truthy_bool→GP,wpAny_call_entry→G3,wpAny_getItem_str_slice→G5,wpAny_Call_Name_kw→G8,wpAny_setField_rec→Kb,wpAny_standAt→Kf,wpAny_loadPart_at→Ki,wpAny_nameGoes_keeps→Kn,codeAny_mono→Ks,wpAny_execs_nil→KF,wpAny_passesOwn→KG,Keyword→Lh,wpAny_pyIter_tuple→Lm,wpAny_call→Ln,Scope→Lx,wpAny_pyIter_list→Ly,slot_list_getitem→LA,wpAny_execs_cons→LS,wpAny_typeOf→L9
open PySem.Around renaming under→MQ
open PySem.AutoSeq1 renaming sub_tuple_tuple→LN
open PySem.Builtin.Slice renaming slicePlaces→GM,sliceAdjust→Kw,sliceApplied→Lo
open PySem.Builtin.SmallTypes renaming ownedTupleHandOut→KC,ownedTupleIsFree→KE,nextOf→Lv
open PySem.Builtin.Str renaming occurrences→Q8,strKind→GC,strSliceIndices→Kj,subAt→KU,partsBetween→LO
open PySem.Builtin.Tuple renaming tupleExact→GU,tupleCompareSizes→KZ,tupleItemsOf→Lp
open PySem.Calls renaming evalArgs_plain→Kl,callWith_builtin→KP,Name_function_global→Ll
open PySem.Code renaming quiet_builtin→Lr,isFrame→MR
open PySem.EntryCells renaming newEntry→Mw
open PySem.F renaming plainAttrs_list→QW,excBase_ValueError→Q1,plainAttrs_str→Gc,attrBase_ValueError→GD,slot_tuple_iterator_next→GJ,slot_list_append→GZ,type_list_append→G0,slot_enumerate_next→Kh,slot_str_split→KW,type_str_split→KY,args_tuple_iterator_next_1→Ld,entry_tuple_iterator_next→Li,slot_str_startswith→Lj,type_str_startswith→Lk,args_str_split_2→Lq,entry_str_split→LH,args_tuple_add_2→LI,slot_list_insert→LP,type_list_insert→LQ,entry_tuple_add→LU,slot_str_split→LX,args_enumerate_next_1→LY,slot_tuple_add→L8,entry_bexc_ga→Mj,slot_str_join→Ml,type_str_join→Mm,args_bexc_ga→Mr
open PySem.Heap renaming get?_push_of_some→Qg,lt_size→Qm,get?_push_size→Qz,get?_update_other→QY,SameBut→Ge,get?_update_self→Go,size_push→G2,get?_none_of_le→Kk
open PySem.Heap.IsSliceOf renaming new→MI
open PySem.Heap.Ns1 renaming of_empty→MO
open PySem.Heap.SameBut renaming update→Lf
open PySem.NumText renaming digitsVal→L6
open PySem.Obj renaming data_mapFields→Gq,isFreed_of_fields→Kg,mapFields→K5,cls_mapFields→LG,mapSeq→Ma
open PySem.Paired renaming length→My
open PySem.PassesOwn renaming never→Mg,leaving→MU
open PySem.PyData renaming canLayAll0→QS,strOk→Q7,eqvAll→Gh,depthAll→Gn,eqv→Gx,canLay0→GI,depth→GR
open PySem.SeqAt.EqAt renaming int_none→Mv,int_str→MD,str_int→ME,int_int→MH
open PySem.Str renaming ofString→Qf,empty→GG,join→K7,length→MJ
open PySem.StrLaws renaming occBody→Mf,sliceText→MT
open PySem.Txt renaming split→G6,startswith→Ko,slice→Kv,slice_le→Mb
open PySem.W renaming Frag→Qq,cellsFrom_some→L7,looks_clsIn→Mx,kitx_tuple→MF,callWith_K→MG,isNs_of_in→MK,tail_of_in→ML,looks_find→MM,kitx_dict→MP,handed_on→MS
open PySem.W.KIN renaming val_back→Mu
set_option Elab.async false
set_option linter.all false
set_option maxRecDepth 100000
set_option maxHeartbeats 4000000
open PySem.W (instObj methodObj Frag lookIn InstAt hasDictIn findIn specialIn isFn keepIn emptyDict takesIn mroIn kitOne kia_one kitx_list fnOf codeIn notCls nsIn excIn exmOne Looks findObj looks_findIn looks_mroIn clsIn any_some kitAny takerIn mg_of mg_none_of)
noncomputable section
namespace L2
open PySem PySem.Spec PyProof.Rows

noncomputable abbrev Key:=Sum Int Str
noncomputable def Jiv:Key->Qa->Bool
 | .inl k,v=>Value.isInt k v
 | .inr x,v=>Value.isStrOf x v
noncomputable def Jmx(w:QC):Key->Int
 | .inl k=>hashInt k
 | .inr x=>hashStr w x
theorem Ya:∀{k:Key} {v:Qa},Jiv k v=true->(∃i t,k=Sum.inl i/\v=Value.int i t)\/(∃x t,k=Sum.inr x/\v=Value.str x t)
 | .inl i,v,h=>by obtain⟨t,e⟩:=Value.isInt_shape (k:=i) (v:=v) h;exact .inl ⟨i,t,rfl,e⟩
 | .inr x,v,h=>by obtain⟨t,e⟩:=Value.isStrOf_shape (x:=x) (v:=v) h;exact .inr ⟨x,t,rfl,e⟩
theorem JjB(a b:Int):decide ((Sum.inl a:Key)=Sum.inl b)=(a == b):=by
 by_cases e:a=b
 ·subst e;simp
 ·have h:¬(Sum.inl a:Key)=Sum.inl b:=fun q=>e (Sum.inl.inj q)
  rw[decide_eq_false h];exact(beq_eq_false_iff_ne.mpr e).symm
theorem JjE(a b:Str):decide ((Sum.inr a:Key)=Sum.inr b)=decide (a=b):=by
 by_cases e:a=b
 ·subst e;simp
 ·have h:¬(Sum.inr a:Key)=Sum.inr b:=fun q=>e (Sum.inr.inj q)
  rw[decide_eq_false h,decide_eq_false e]
theorem JjC(a:Int)(b:Str):decide ((Sum.inl a:Key)=Sum.inr b)=false:=decide_eq_false (fun q=>nomatch q)
theorem JjD(a:Str)(b:Int):decide ((Sum.inr a:Key)=Sum.inl b)=false:=decide_eq_false (fun q=>nomatch q)

noncomputable def Jax(prog:Qp)(w:QC):PySem.KeyKind prog w Key where
 is:=Jiv
 hash:=Jmx w
 inj:=fun v a b ha hb=>by
  rcases Ya ha with ⟨i,t,rfl,rfl⟩|⟨x,t,rfl,rfl⟩
  ·rcases Ya hb with ⟨j,u,rfl,e⟩|⟨y,u,rfl,e⟩
   ·injection e with e1 _;rw[e1]
   ·exact nomatch e
  ·rcases Ya hb with ⟨j,u,rfl,e⟩|⟨y,u,rfl,e⟩
   ·exact nomatch e
   ·injection e with e1 _;rw[e1]
 byValue:=fun k v h=>by rcases Ya h with ⟨i,t,rfl,rfl⟩|⟨x,t,rfl,rfl⟩ <;> rfl
 pyHash:=fun hv h=>by
  rcases Ya hv with ⟨i,t,rfl,rfl⟩|⟨x,t,rfl,rfl⟩
  ·exact wpAny_pyHash_int h
  ·exact wpAny_pyHash_str h
 eqBool:=fun hu hv h=>by
  rcases Ya hu with ⟨i,t,rfl,rfl⟩|⟨x,t,rfl,rfl⟩
  ·rcases Ya hv with ⟨j,u,rfl,rfl⟩|⟨y,u,rfl,rfl⟩
   ·rw[JjB] at h;exact wpAny_eqBool_int h
   ·rw[JjC] at h;exact MD i t y u _ _ _ _ h
  ·rcases Ya hv with ⟨j,u,rfl,rfl⟩|⟨y,u,rfl,rfl⟩
   ·rw[JjD] at h;exact ME x t j u _ _ _ _ h
   ·rw[JjE] at h;exact wpAny_eqBool_str h
 «strs»:=fun k x t v h=>by
  rcases Ya h with ⟨i,u,rfl,e⟩|⟨y,u,rfl,e⟩
  ·exact nomatch e
  ·injection e with e1 _
   subst e1;cases v <;> rfl

end L2

namespace L2
open PySem PySem.Spec PyProof.Rows

inductive V where
 | non|bl (b:Bool)|int (i:Int)|str (x:Str)|byt (b:Array UInt8)|flt (b:UInt64)|ref (a:Qc)|ty (n:String)
 deriving DecidableEq

noncomputable def RelV:V->Qa->Prop
 | .non,u=>u=Value.none
 | .bl b,u=>u=Value.bool b
 | .int i,u=>∃t,u=Value.int i t
 | .str x,u=>∃t,u=Value.str x t
 | .byt b,u=>∃t,u=Value.bytes b t
 | .flt b,u=>∃t,u=Value.float b t
 | .ref a,u=>u=Value.ref a
 | .ty n,u=>u=Value.type n

noncomputable abbrev Vals:List V->List Qa->Prop:=Paired RelV
theorem Vals.length{xs:List V}{us:List Qa}(r:Vals xs us):xs.length=us.length:=My r
theorem Vals.get:∀{xs:List V} {us:List Qa} {i:Nat} {x:V},Vals xs us->xs[i]?=some x->∃u,us[i]?=some u/\RelV x u
 | _,_,_,_,.nil,e=>by simp at e
 | _,_,0,_,.cons r _,e=>by simp at e;subst e;exact⟨_,rfl,r⟩
 | _,_,i+1,x,.cons _ t,e=>by obtain⟨u,h1,h2⟩:=Vals.get (i:=i) (x:=x) t (by simpa using e);exact⟨u,by simpa using h1,h2⟩
theorem Vals.set{x:V}{u:Qa}(r:RelV x u):∀{xs:List V} {us:List Qa} (i:Nat),Vals xs us->Vals (xs.set i x) (us.set i u)
 | _,_,_,.nil=>.nil
 | _,_,0,.cons _ t=>.cons r t
 | _,_,i+1,.cons q t=>.cons q (Vals.set r i t)
theorem Vals.append:∀{xs ys:List V} {us ws:List Qa},Vals xs us->Vals ys ws->Vals (xs++ys) (us++ws)
 | _,_,_,_,.nil,s=>s
 | _,_,_,_,.cons r t,s=>.cons r (Vals.append t s)
theorem Vals.take:∀{xs:List V} {us:List Qa} (n:Nat),Vals xs us->Vals (xs.take n) (us.take n)
 | _,_,0,_=>.nil
 | _,_,_+1,.nil=>.nil
 | _,_,n+1,.cons r t=>.cons r (Vals.take n t)
theorem Vals.drop:∀{xs:List V} {us:List Qa} (n:Nat),Vals xs us->Vals (xs.drop n) (us.drop n)
 | _,_,0,r=>r
 | _,_,_+1,.nil=>.nil
 | _,_,n+1,.cons _ t=>Vals.drop n t
noncomputable def RelO:Option V->Option Qa->Prop
 | some v,some u=>RelV v u
 | none,none=>True
 | _,_=>False
noncomputable def KV{κ:Type}:List (κ×V)->List (κ×Qa)->Prop:=Paired fun(p:κ×V) (q:κ×Qa)=>p.1=q.1/\RelV p.2 q.2

noncomputable def kV:Key->V
 | .inl i=>.int i
 | .inr x=>.str x

inductive HO where
 | lst (xs:List V)
 | tup (xs:List V)
 | dK (kvs:List (Key×V))|dT (kvs:List (List Key×V))
 | set (S:Int->Bool) (n:Nat)
 | ins (C dx:Qc) (fs:List (Str×V))
 | own (x:Qc)
 | xd (fs:List (Str×V))
 | met (f x:Qc)
 | rng (lo hi:Int)
 | frz (o:Obj) (u:HO)
 | tbl (ps:Array Qa)
 | ext (φ:QJ->Prop)

noncomputable abbrev Hp:=Qc->Option HO
noncomputable def upd(H:Hp)(a:Qc)(o:HO):Hp:=fun b=>if b=a then some o else H b
theorem JF{H:Hp}{a:Qc}{o:HO}:upd H a o a=some o:=by unfold upd;rw[if_pos rfl]
theorem Jm{H:Hp}{a b:Qc}{o:HO}(h:b≠a):upd H a o b=H b:=by unfold upd;rw[if_neg h]
theorem Jiw{H:Hp}{a b:Qc}{o u:HO}(h:H a=some o)(h':H b=some u)(d:o≠u):a≠b:=by intro e;subst e;rw[h] at h';exact d (QI h')
theorem JB{H:Hp}{a b:Qc}{o:HO}(h:H a=some o)(h':H b=none):a≠b:=by intro e;subst e;rw[h] at h';cases h'

section
variable(P:Qp)(w:QC)
noncomputable def ObjOk(H:Hp)(h:QJ)(a:Qc):HO->Prop
 | .lst xs=>xs.length<=Qu/\∃(its:List Qa) (n:Nat),Vals xs its/\h.get? a=some { cls:=.type "list",data:=.seq its.toArray n }
 | .tup xs=>xs.length<=Qu/\∃its:List Qa,Vals xs its/\IsTup h a its.toArray
 | .dK kvs=>kvs.length<=Qu/\(a == sysModules)=false/\∃vs,KV kvs vs/\h.DictOf (Jax P w) a vs
 | .dT kvs=>kvs.length<=Qu/\(a == sysModules)=false/\∃xs:List (List Key×Qc×Qa),
  Paired (fun(p:List Key×V) (q:List Key×Qc×Qa)=>p.1=q.1/\H q.2.1=some (.tup (p.1.map kV))/\RelV p.2 q.2.2) kvs xs ∧
  ∃o es ep,h.get? a=some o/\o.ExactDict/\o.data=.dict es ep/\es.toList=xs.map (entryOfKey (tupleKind (Jax P w)))/\(xs.map (·.1)).Nodup
 | .set S n=>h.SetOf (intKind P w) a S n
 | .ins C dx fs=>H dx=some (.own a)/\fs.length<=1000/\dx≠a/\h.get? a=some (instObj C dx) ∧
  ∃mA,h.Ns1 dx mA/\(∀f,RelO (fs.lookup f) (mA f))/\PySem.Within mA (fs.map (·.1))
 | .own _=>∃o,h.get? a=some o
 | .xd fs=>∃mA,h.Ns1 a mA/\∀f,RelO (fs.lookup f) (mA f)
 | .rng lo hi=>∃t u v,h.get? a=some { cls:=.type "range",data:=.fields #[.int lo t,.int hi u,.int 1 v] }
 | .frz o u=>h.get? a=some o/\ObjOk H h a u
 | .tbl ps=>h.get? a=some { cls:=.none,data:=.fields ps }
 | .met f x=>h.get? a=some (methodObj (.ref f) (.ref x))
 | .ext φ=>φ h/\(∃o,h.get? a=some o)/\∀h1 h2:QJ,φ h1->(∀o,h1.get? a=some o->h2.get? a=some o)->φ h2
noncomputable def HOk(H:Hp)(h:QJ):Prop:=∀a o,H a=some o->ObjOk P w H h a o
end

section
variable{P:Qp}{w:QC}{H H':Hp}{h h':QJ}{a:Qc}{o:HO}
theorem ObjOk.lt(x:ObjOk P w H h a o):a<h.objs.size:=by
 cases o with
 | lst xs=>obtain⟨_,_,_,_,e⟩:=x;exact Qm e
 | tup xs=>obtain⟨_,_,_,p⟩:=x;exact p.lt
 | dK kvs=>obtain⟨_,_,_,_,o,_,_,e,_⟩:=x;exact Qm e
 | dT kvs=>obtain⟨_,_,_,_,o,_,_,e,_⟩:=x;exact Qm e
 | set S n=>obtain⟨o,_,_,_,e,_⟩:=x;exact Qm e
 | ins C dx fs=>obtain⟨_,_,_,e,_⟩:=x;exact Qm e
 | own y=>obtain⟨_,e⟩:=x;exact Qm e
 | xd fs=>obtain⟨_,⟨_,_,_,e,_⟩,_⟩:=x;exact Qm e
 | rng lo hi=>obtain⟨_,_,_,e⟩:=x;exact Qm e
 | frz ob u=>obtain⟨e,_⟩:=x;exact Qm e
 | tbl ps=>exact Qm (show h.get? a=some _ from x)
 | met f y=>exact Qm (show h.get? a=some _ from x)
 | ext φ=>obtain⟨_,⟨_,e⟩,_⟩:=x;exact Qm e
theorem Paired.mapP{α β:Type}{F G:α->β->Prop}:∀{l₁:List α} {l₂:List β},Paired F l₁ l₂->(∀a b,F a b->G a b)->Paired G l₁ l₂
 | _,_,.nil,_=>.nil
 | _,_,.cons r t,f=>.cons (f _ _ r) (Paired.mapP t f)
theorem ObjOk.stay(x:ObjOk P w H h a o)(k:∀b u,(b=a\/H b=some (.own a))->h.get? b=some u->h'.get? b=some u)
 (ho:∀b,H b=some (.own a)->H' b=some (.own a)) (ht:∀b xs,H b=some (.tup xs)->H' b=some (.tup xs)):ObjOk P w H' h' a o:=by
 induction o with
 | lst xs=>obtain⟨z,its,n,r,e⟩:=x;exact⟨z,its,n,r,k _ _ (.inl rfl) e⟩
 | tup xs=>obtain⟨z,its,r,ob,e,c⟩:=x;exact⟨z,its,r,ob,k _ _ (.inl rfl) e,c⟩
 | dK kvs=>obtain⟨z,y,vs,r,ob,es,ep,e,c⟩:=x;exact⟨z,y,vs,r,ob,es,ep,k _ _ (.inl rfl) e,c⟩
 | dT kvs=>obtain⟨z,y,xs,r,ob,es,ep,e,c⟩:=x;exact⟨z,y,xs,Paired.mapP r fun p q z=>⟨z.1,ht _ _ z.2.1,z.2.2⟩,ob,es,ep,k _ _ (.inl rfl) e,c⟩
 | set S n=>obtain⟨ob,es,ep,t,e,c⟩:=x;exact⟨ob,es,ep,t,k _ _ (.inl rfl) e,c⟩
 | ins C dx fs=>obtain⟨d,z,ne,e,mA,⟨od,es,ep,e2,c⟩,r⟩:=x;exact⟨ho _ d,z,ne,k _ _ (.inl rfl) e,mA,⟨od,es,ep,k _ _ (.inr d) e2,c⟩,r⟩
 | own y=>obtain⟨ob,e⟩:=x;exact⟨ob,k _ _ (.inl rfl) e⟩
 | xd fs=>obtain⟨mA,⟨od,es,ep,e,c⟩,r⟩:=x;exact⟨mA,⟨od,es,ep,k _ _ (.inl rfl) e,c⟩,r⟩
 | rng lo hi=>obtain⟨t,u,v,e⟩:=x;exact⟨t,u,v,k _ _ (.inl rfl) e⟩
 | frz ob u ih=>obtain⟨e,q⟩:=x;exact⟨k _ _ (.inl rfl) e,ih q⟩
 | tbl ps =>
  have e:h.get? a=some { cls:=.none,data:=.fields ps }:=x
  show h'.get? a=some { cls:=.none,data:=.fields ps };exact k a _ (.inl rfl) e
 | met f y =>
  have e:h.get? a=some (methodObj (.ref f) (.ref y)):=x
  show h'.get? a=some (methodObj (.ref f) (.ref y));exact k a _ (.inl rfl) e
 | ext φ=>obtain⟨p,⟨o,e⟩,st⟩:=x;exact⟨st _ _ p fun o q=>k _ _ (.inl rfl) q,⟨o,k _ _ (.inl rfl) e⟩,st⟩
theorem HOk.lt(x:HOk P w H h)(e:H a=some o):a<h.objs.size:=(x a o e).lt
theorem HOk.fresh(x:HOk P w H h)(e:h.objs.size<=a):H a=none:=by
 cases q:H a with
 | none=>rfl
 | some u=>exact absurd (QD (x.lt q) e) (Gd _)
theorem HOk.kept(x:HOk P w H h)(k:∀b u,h.get? b=some u->h'.get? b=some u):HOk P w H h':=fun a o e=>(x a o e).stay (fun b u _ q=>k b u q) (fun _ q=>q) fun _ _ q=>q
theorem HOk.laid(x:HOk P w H h)(k:∀b u,h.get? b=some u->h'.get? b=some u)(hp:h.objs.size<=a)(new:ObjOk P w (upd H a o) h' a o):HOk P w (upd H a o) h':=fun b u e=>by
 have hn:=x.fresh hp
 by_cases hb:b=a
 ·subst hb;rw[JF] at e;cases e;exact new
 ·rw[Jm hb] at e;exact(x b u e).stay (fun c v _ q=>k c v q) (fun c q=>by rw[Jm (JB q hn)];exact q) fun c xs q=>by rw[Jm (JB q hn)];exact q
end

noncomputable def Rd(H:Hp)(a:Qc)(u:HO):Prop:=H a=some u\/∃o,H a=some (.frz o u)
theorem Rd.of{H:Hp}{a:Qc}{u:HO}(h:H a=some u):Rd H a u:=.inl h
theorem Rd.ok{P:Qp}{w:QC}{H:Hp}{h:QJ}{a:Qc}{u:HO}(r:Rd H a u)(x:HOk P w H h):ObjOk P w H h a u:=by
 rcases r with r|⟨o,r⟩
 ·exact x a u r
 ·obtain⟨_,q⟩:=x a _ r;exact q
noncomputable def Mut:Option HO->Prop
 | some (.lst _)=>True
 | some (.dK _)=>True
 | some (.dT _)=>True
 | some (.set _ _)=>True
 | some (.ins _ _ _)=>True
 | some (.ext _)=>True
 | _=>False
section
variable{P:Qp}{w:QC}{H:Hp}{h h':QJ}{x e:Qc}{o':HO}
theorem HOk.write(ok:HOk P w H h)(mu:Mut (H x))(he:e=x\/H e=some (.own x))(k:∀b u,b≠e->h.get? b=some u->h'.get? b=some u)(heo:∃u,h'.get? e=some u)
 (new:ObjOk P w (upd H x o') h' x o'):HOk P w (upd H x o') h':=fun b u q=>by
 have nown:∀c y,H c=some (.own y)->c≠x:=fun c y r z=>by subst z;rw[r] at mu;exact mu
 have ntup:∀c xs,H c=some (.tup xs)->c≠x:=fun c xs r z=>by subst z;rw[r] at mu;exact mu
 by_cases hb:b=x
 ·subst hb;rw[JF] at q;cases q;exact new
 ·rw[Jm hb] at q
  by_cases hbe:b=e
  ·have q':H b=some (.own x):=by
    rcases he with z|z
    ·exact absurd (hbe.trans z) hb
    ·rw[hbe];exact z
   rw[q] at q';cases q';obtain⟨v,hv⟩:=heo;exact⟨v,by rw[hbe];exact hv⟩
  ·refine(ok b u q).stay (fun c v hc r=>k c v ?_ r) (fun c r=>by rw[Jm (nown c b r)];exact r) fun c xs r=>by rw[Jm (ntup c xs r)];exact r
   rcases hc with rfl|hc
   ·exact hbe
   ·rintro rfl;rcases he with z|z
    ·exact nown c b hc z
    ·rw[hc] at z;cases z;exact hb rfl
end

structure Un (fs ex:List Qc) (H H':Hp) (h h':QJ):Prop where
 keep:∀b o,h.get? b=some o->H b=none->b∉fs->b∉ex->h'.get? b=some o
 slot:∀b o,h.get? b=some o->H b=none->b∈fs->b∉ex->∃sl,h'.get? b=some { o with slots:=sl }
 free:∀b o,h.get? b=some o->H b=none->b∉ex->H' b=none
 there:∀b o,h.get? b=some o->b∉ex->∃o',h'.get? b=some o'
 tups:∀b xs,H b=some (.tup xs)->H' b=some (.tup xs)
 frzs:∀b o u,H b=some (.frz o u)->H' b=some (.frz o u)
 tbls:∀b ps,H b=some (.tbl ps)->∃more,H' b=some (.tbl (ps++more))
section
variable{fs fs' ex ex':List Qc}{H H1 H2:Hp}{h h1 h2 h':QJ}{a x e:Qc}{o:HO}
theorem Un.any(u:Un fs ex H H1 h h1){b:Qc}{ob:Obj}(q:h.get? b=some ob)(n:H b=none)(hx:b∉ex):∃sl,h1.get? b=some { ob with slots:=sl }:=by
 by_cases hb:b∈fs
 ·exact u.slot b ob q n hb hx
 ·exact⟨ob.slots,u.keep b ob q n hb hx⟩
theorem Un.trans(a:Un fs ex H H1 h h1)(b:Un fs ex H1 H2 h1 h2):Un fs ex H H2 h h2 where
 keep:=fun c ob q n hc hx=>b.keep c ob (a.keep c ob q n hc hx) (a.free c ob q n hx) hc hx
 slot:=fun c ob q n hc hx=>by obtain⟨sl,e1⟩:=a.slot c ob q n hc hx;obtain⟨sl',e2⟩:=b.slot c _ e1 (a.free c ob q n hx) hc hx;exact⟨sl',e2⟩
 free:=fun c ob q n hx=>by obtain⟨o',e1⟩:=a.there c ob q hx;exact b.free c o' e1 (a.free c ob q n hx) hx
 there:=fun c ob q hx=>by obtain⟨o',e1⟩:=a.there c ob q hx;exact b.there c o' e1 hx
 tups:=fun c xs q=>b.tups c xs (a.tups c xs q)
 frzs:=fun c ob xs q=>b.frzs c ob xs (a.frzs c ob xs q)
 tbls:=fun c ps q=>by obtain⟨m1,e1⟩:=a.tbls c ps q;obtain⟨m2,e2⟩:=b.tbls c _ e1;exact⟨m1++m2,by rw[e2,Array.append_assoc]⟩
theorem Un.kept(k:∀b u,h.get? b=some u->h'.get? b=some u):Un fs ex H H h h' :=
 ⟨fun b ob q _ _ _=>k b ob q,fun b ob q _ _ _=>⟨ob.slots,k b ob q⟩,fun _ _ _ n _=>n,fun b ob q _=>⟨ob,k b ob q⟩,fun _ _ q=>q,fun _ _ _ q=>q,fun _ ps q=>⟨#[],by rw[q];simp⟩⟩
theorem Un.refl:Un fs ex H H h h:=Un.kept fun _ _ q=>q
theorem Un.laid(k:∀b u,h.get? b=some u->h'.get? b=some u)(hp:h.objs.size<=a)(hn:H a=none):Un fs ex H (upd H a o) h h' where
 keep:=fun b u q _ _ _=>k b u q
 slot:=fun b u q _ _ _=>⟨u.slots,k b u q⟩
 free:=fun b u q n _=>by rw[Jm (QG (QD (Qm q) hp))];exact n
 there:=fun b u q _=>⟨u,k b u q⟩
 tups:=fun b xs q=>by rw[Jm (JB q hn)];exact q
 frzs:=fun b u xs q=>by rw[Jm (JB q hn)];exact q
 tbls:=fun b ps q=>⟨#[],by rw[Jm (JB q hn),q];simp⟩
theorem Un.write(mu:Mut (H x))(he:e=x\/H e=some (.own x))(k:∀b u,b≠e->h.get? b=some u->h'.get? b=some u)(heo:∃u,h'.get? e=some u):Un fs ex H (upd H x o) h h':=by
 have hx:∀b,H b=none->b≠x:=fun b n z=>by subst z;rw[n] at mu;exact mu
 have hb:∀b,H b=none->b≠e:=fun b n z=>by
  subst z;rcases he with r|r
  ·exact hx b n r
  ·rw[n] at r;cases r
 have hm:∀b u,H b=some u->¬Mut (some u)->b≠x:=fun b u q nm z=>by subst z;rw[q] at mu;exact nm mu
 refine⟨fun b u q n _ _=>k b u (hb b n) q,fun b u q n _ _=>⟨u.slots,k b u (hb b n) q⟩,fun b u q n _=>by rw[Jm (hx b n)];exact n,fun b u q _=>?_,
  fun b xs q=>by rw[Jm (hm b _ q fun z=>z)];exact q,fun b u xs q=>by rw[Jm (hm b _ q fun z=>z)];exact q,fun b ps q=>⟨#[],by rw[Jm (hm b _ q fun z=>z),q];simp⟩⟩
 by_cases hbe:b=e
 ·subst hbe;exact heo
 ·exact⟨u,k b u hbe q⟩
theorem Un.mono(u:Un fs ex H H1 h h1)(hs:∀b∈fs,b∈fs')(hx:∀b∈ex,b∈ex'):Un fs' ex' H H1 h h1 :=
 ⟨fun b ob q n hb he=>u.keep b ob q n (fun z=>hb (hs b z)) fun z=>he (hx b z),fun _ _ q n _ he=>u.any q n fun z=>he (hx _ z),fun b ob q n he=>u.free b ob q n fun z=>he (hx b z),fun b ob q he=>u.there b ob q fun z=>he (hx b z),u.tups,u.frzs,u.tbls⟩
end

noncomputable def trk(h:QJ)(H:Hp):List Qc:=(G7 h.objs.size).filter fun a=>(H a).isSome
noncomputable def Jas(h:QJ)(H:Hp):QJ:=PySem.W.hideAll h (trk h H)
theorem JdA(h:QJ)(H:Hp):(Jas h H).objs.size=h.objs.size:=PySem.W.hideAll_size _ _
theorem JeJ{h:QJ}{H:Hp}{b:Qc}{o:Obj}(e:h.get? b=some o)(n:H b=none):(Jas h H).get? b=some o :=
 PySem.W.hideAll_get _ e fun hm=>by have q:(H b).isSome=true:=(List.mem_filter.mp hm).2;rw[n] at q;simp at q
theorem Jhg{h:QJ}{H:Hp}{b:Qc}{o:Obj}(e:(Jas h H).get? b=some o):h.get? b=some o/\H b=none:=by
 have e':h.get? b=some o:=PySem.W.of_hideAll (trk h H) e;refine⟨e',?_⟩
 cases q:H b with
 | none=>rfl
 | some x =>
  have hm:b∈trk h H:=List.mem_filter.mpr ⟨List.mem_range.mpr (Qm e'),by simp[q]⟩
  have z:(Jas h H).get? b=none:=PySem.W.hideAll_none (trk h H) hm;rw[z] at e;cases e

noncomputable def Jf8(g h:QJ)(L:Qc):List (Qc×Obj):=(G7 h.objs.size).filterMap fun a=>if a=L\/(g.get? a).isSome=true then none else(h.get? a).map fun o=>(a,o)
noncomputable def rest(g h:QJ)(L d:Qc):List (Qc×Obj):=(Jf8 g h L).filter fun p=>decide (p.1≠d)
end L2

namespace L2
open PySem PySem.Spec PyProof.Rows

structure Mod (K:Qq) (mg:Str->Option Qa) (base:QJ):Prop where
 kin:K.In base
 glob:base.Ns mainGlobals mg
 blt:∃mb,base.Ns builtinsNs mb/\∀x:Str,x≠"__name__"->mb x=bootBuiltins x
 nolimit:base.NoLimit

structure Cx where
 prog:Qp
 w:QC
 K:Qq
 mg:Str->Option Qa
 base:QJ
 A:Qx
 N:List Str
 s₀:Qd
 H₀:Hp
 env:Env
 outer:List Env
 stack:List Env
 ex:List Qc
 fn:Str->Bool
 calm:Bool
 pn:List (Qc×Obj)
 xe:Qa->Qd->Prop
noncomputable def frs(l:List Env):List Qc:=l.filterMap (·.frame)
noncomputable abbrev Cx.fs(X:Cx):List Qc:=frs X.outer

noncomputable def Vis(sc:Lx)(x:Str):Prop:=sc.names.lookup x=some .local\/sc.names.lookup x=some .cell\/sc.names.lookup x=some .free
noncomputable def Loc(sc:Lx)(x:Str):Prop:=sc.names.lookup x=some .local\/sc.names.lookup x=some .cell
noncomputable def Jli(env:Env)(h:QJ)(m:Str->Option Qa)(x:Str)(u:Qa):Prop :=
 (env.kindOf x=some .local/\m x=some u)\/((env.kindOf x=some .cell\/env.kindOf x=some .free)/\∃c,env.cells.lookup x=some c/\h.IsCell c (some u))

structure Cx.Ok (X:Cx):Prop where
 mod:Mod X.K X.mg X.base
 kind:X.env.scope.kind=.function
 glob:X.env.globals=mainGlobals
 blt:X.env.builtins=builtinsNs
 above:X.s₀.heap.objs.size<=X.env.locals
 inj:∀x y c,X.env.cells.lookup x=some c->X.env.cells.lookup y=some c->x=y
 has:∀x,(X.env.kindOf x=some .cell\/X.env.kindOf x=some .free)->∃c,X.env.cells.lookup x=some c
 cab:∀x c,X.fn x=true->X.env.cells.lookup x=some c->X.s₀.heap.objs.size<=c
 hd:X.calm=true->X.A.handled=none
 frames:X.A.frames=some X.stack
 stk:X.stack=X.outer\/(X.stack=X.env::X.outer/\X.env.frame=some X.env.locals)
 exf:∀b∈X.ex,b≠X.env.locals/\∀x c,X.env.cells.lookup x=some c->c≠b
 bs:∀b o,X.base.get? b=some o->X.s₀.heap.get? b=some o/\X.H₀ b=none
 bsz:X.base.objs.size<=X.s₀.heap.objs.size
 noex:∀b o,X.base.get? b=some o->b∉X.ex
 exfs:∀b∈X.ex,b∉X.fs
 funs:X.s₀.heap.FunFrames X.base X.outer
 frf:∀b∈X.fs,X.H₀ b=none

structure Inv (X:Cx) (pins:List (Qc×Obj)) (σ:List (Option V)) (H:Hp) (s:Qd):Prop where
 ok:X.Ok
 os:s.os=X.s₀.os
 bare:AllBare s.gens
 base:Un X.fs X.ex X.H₀ H X.s₀.heap s.heap
 loc:∃m,s.heap.Ns X.env.locals m/\∀(i:Nat) (x:Str) (v:V),X.N[i]?=some x->σ[i]?=some (some v)->Vis X.env.scope x->∃u,RelV v u/\Jli X.env s.heap m x u
 cell:∀x c,X.env.cells.lookup x=some c->∃v,s.heap.IsCell c v
 free:H X.env.locals=none
 freeC:∀x c,X.env.cells.lookup x=some c->H c=none
 pin:∀p∈X.pn++pins,s.heap.get? p.1=some p.2/\H p.1=none/\p.1≠X.env.locals/\p.1∉X.fs/\∀v,p.2.data≠.cell v
 hok:HOk X.prog X.w H s.heap
 len:σ.length=X.N.length

section
variable{X:Cx}{pins:List (Qc×Obj)}{σ:List (Option V)}{H H':Hp}{s:Qd}{h':QJ}

theorem Cx.Ok.nofr(ok:X.Ok){b:Qc}{o:Obj}(e:X.base.get? b=some o):b∉X.fs:=fun hb=>by have:=(ok.funs.mem hb).1;rw[e] at this;cases this
theorem Inv.bs(I:Inv X pins σ H s):∀b o,X.base.get? b=some o->s.heap.get? b=some o/\H b=none:=fun b o e=>⟨I.base.keep b o (I.ok.bs b o e).1 (I.ok.bs b o e).2 (I.ok.nofr e) (I.ok.noex b o e),I.base.free b o (I.ok.bs b o e).1 (I.ok.bs b o e).2 (I.ok.noex b o e)⟩
theorem Inv.bk(I:Inv X pins σ H s):∀b o,X.base.get? b=some o->s.heap.get? b=some o:=fun b o e=>(I.bs b o e).1
theorem Inv.mod(I:Inv X pins σ H s):Mod X.K X.mg X.base:=I.ok.mod
theorem Inv.kIn(I:Inv X pins σ H s):X.K.In s.heap:=I.ok.mod.kin.keeps I.bk
theorem Inv.nolimit(I:Inv X pins σ H s):s.heap.NoLimit:=I.ok.mod.nolimit.keeps I.bk
theorem Inv.fr(I:Inv X pins σ H s):∃m,Fr X.base X.env.locals s.heap m :=
 let ⟨m,hn,_⟩:=I.loc
 ⟨m,hn,I.bk,QK I.ok.bsz I.ok.above⟩
theorem Inv.lt(I:Inv X pins σ H s):X.env.locals<s.heap.objs.size:=let ⟨_,hn,_⟩:=I.loc;hn.lt
theorem Inv.sz(I:Inv X pins σ H s):X.s₀.heap.objs.size<=s.heap.objs.size:=QK I.ok.above (KN I.lt)
theorem Inv.nofs(I:Inv X pins σ H s){a:Qc}(h:s.heap.objs.size<=a):a∉X.fs:=fun hb=>by obtain⟨_,o,ho,_⟩:=I.ok.funs.mem hb;exact absurd (QD (Qm ho) (QK I.sz h)) (Gd _)
theorem Inv.cne(I:Inv X pins σ H s):∀x c,X.env.cells.lookup x=some c->c≠X.env.locals:=fun x c e z=>by obtain⟨v,o,ho,hd⟩:=I.cell x c e;obtain⟨m,⟨o',es,ep,ho',hd',_⟩,_⟩:=I.loc;rw[z,ho'] at ho;cases ho;rw[hd'] at hd;cases hd
theorem Inv.funs(I:Inv X pins σ H s):s.heap.FunFrames X.base X.outer:=by
 have all:∀(l:List Env),(∀b∈frs l,b∈X.fs)->X.s₀.heap.FunFrames X.base l->s.heap.FunFrames X.base l:=by
  intro l
  induction l with
  | nil=>intro _ _;trivial
  | cons env r ih =>
   intro hs hl;obtain⟨hk,⟨L,o,hf,hn,ho,hd⟩,hr⟩:=hl;have hL:L∈X.fs:=hs L (by unfold frs;rw[G1,hf];exact QB);obtain⟨sl,e⟩:=I.base.slot L o ho (I.ok.frf L hL) hL fun z=>I.ok.exfs L z hL
   exact⟨hk,⟨L,_,hf,hn,e,hd⟩,ih (fun b hb=>hs b (by unfold frs;rw[G1,hf];exact Qj _ hb)) hr⟩
 exact all X.outer (fun _ hb=>hb) I.ok.funs

theorem Inv.stack(I:Inv X pins σ H s):s.heap.FunFrames X.base X.stack:=by
 rcases I.ok.stk with e|⟨e,hf⟩
 ·rw[e];exact I.funs
 ·rw[e];obtain⟨m,hn,_⟩:=I.loc;refine .cons (by rw[I.ok.kind];decide) hf hn ?_ I.funs;exact Kk (QK I.ok.bsz I.ok.above)
theorem Inv.stkSub(I:Inv X pins σ H s):∀b∈frs X.stack,b∈X.env.locals::X.fs:=fun b hb=>by
 rcases I.ok.stk with e|⟨e,hf⟩
 ·rw[e] at hb;exact Qj _ hb
 ·rw[e] at hb;unfold frs at hb;rw[G1,hf] at hb;exact hb
theorem Inv.stkFree(I:Inv X pins σ H s):∀b∈frs X.stack,H b=none:=fun b hb=>by
 rcases Qv.mp (I.stkSub b hb) with e|hb
 ·rw[e];exact I.free
 ·obtain⟨_,o,ho,_⟩:=I.ok.funs.mem hb;exact I.base.free b o ho (I.ok.frf b hb) fun z=>I.ok.exfs b z hb

theorem Inv.step{g':Array GenState}{t':Nat}{d':Drawn}{ch:List Qc}(I:Inv X pins σ H s)
 (hch:∀b∈ch,(b∈X.ex\/X.s₀.heap.objs.size<=b)/\b≠X.env.locals/\(∀x c,X.env.cells.lookup x=some c->c≠b)/\∀p∈X.pn++pins,p.1≠b)
 (keep:∀b o,b≠X.env.locals->b∉X.fs->b∉ch->s.heap.get? b=some o->H b=none->h'.get? b=some o)
 (slot:∀b o,b≠X.env.locals->b∈X.fs->b∉ch->s.heap.get? b=some o->H b=none->∃sl,h'.get? b=some { o with slots:=sl }) (free:∀b o,b∉ch->s.heap.get? b=some o->H b=none->H' b=none)
 (there:∀b o,b∉ch->s.heap.get? b=some o->∃o',h'.get? b=some o')
 (tups:∀b xs,H b=some (.tup xs)->H' b=some (.tup xs)) (frzs:∀b o u,H b=some (.frz o u)->H' b=some (.frz o u)) (tbls:∀b ps,H b=some (.tbl ps)->∃more,H' b=some (.tbl (ps++more)))
 (ns:∀m,s.heap.Ns X.env.locals m->h'.Ns X.env.locals m) (hok:HOk X.prog X.w H' h') (hg:AllBare g') :
 Inv X pins σ H' { s with heap:=h',gens:=g',drawn:=d',toks:=t' }:=by
 have neL:∀b o,X.s₀.heap.get? b=some o->b≠X.env.locals:=fun b o e=>QG (QD (Qm e) I.ok.above)
 have neC:∀b o,X.s₀.heap.get? b=some o->b∉X.ex->b∉ch:=fun b o e hx hb=>by
  rcases(hch b hb).1 with z|z
  ·exact hx z
  ·exact absurd (QD (Qm e) z) (Gd _)
 have cellK:∀x c,X.env.cells.lookup x=some c->∀v,s.heap.IsCell c v->h'.IsCell c v:=fun x c e v ⟨o,ho,hd⟩=>by
  have nch:c∉ch:=fun z=>(hch c z).2.2.1 x c e rfl
  by_cases hc:c∈X.fs
  ·obtain⟨sl,q⟩:=slot c o (I.cne x c e) hc nch ho (I.freeC x c e);exact⟨_,q,hd⟩
  ·exact⟨o,keep c o (I.cne x c e) hc nch ho (I.freeC x c e),hd⟩
 refine⟨I.ok,I.os,hg,⟨fun b o e n hb hx=>?_,fun b o e n hb hx=>?_,fun b o e n hx=>?_,fun b o e hx=>?_,fun b xs e=>tups b xs (I.base.tups b xs e),fun b o xs e=>frzs b o xs (I.base.frzs b o xs e),fun b ps e=>?_⟩,?_,fun x c e=>?_,?_,fun x c e=>?_,fun p hp=>?_,hok,I.len⟩
 ·exact keep b o (neL b o e) hb (neC b o e hx) (I.base.keep b o e n hb hx) (I.base.free b o e n hx)
 ·obtain⟨sl,e1⟩:=I.base.slot b o e n hb hx;obtain⟨sl',e2⟩:=slot b _ (neL b o e) hb (neC b o e hx) e1 (I.base.free b o e n hx);exact⟨sl',e2⟩
 ·obtain⟨o',e1⟩:=I.base.there b o e hx;exact free b o' (neC b o e hx) e1 (I.base.free b o e n hx)
 ·obtain⟨o',e1⟩:=I.base.there b o e hx;exact there b o' (neC b o e hx) e1
 ·obtain⟨m1,e1⟩:=I.base.tbls b ps e;obtain⟨m2,e2⟩:=tbls b _ e1;exact⟨m1++m2,by rw[e2,Array.append_assoc]⟩
 ·obtain⟨m,hn,hl⟩:=I.loc;refine⟨m,ns m hn,fun i x v e1 e2 e3=>?_⟩;obtain⟨u,r,l⟩:=hl i x v e1 e2 e3;refine⟨u,r,?_⟩;rcases l with l|⟨k,c,e,z⟩
  ·exact .inl l
  ·exact .inr ⟨k,c,e,cellK x c e _ z⟩
 ·obtain⟨v,z⟩:=I.cell x c e;exact⟨v,cellK x c e v z⟩
 ·obtain⟨m,⟨o,_,_,ho,_⟩,_⟩:=I.loc;exact free _ o (fun z=>(hch _ z).2.1 rfl) ho I.free
 ·obtain⟨v,o,ho,hd⟩:=I.cell x c e;exact free c o (fun z=>(hch c z).2.2.1 x c e rfl) ho (I.freeC x c e)
 ·obtain⟨e,n,ne,nf,d⟩:=I.pin p hp;have nch:p.1∉ch:=fun z=>(hch p.1 z).2.2.2 p hp rfl
  exact⟨keep p.1 p.2 ne nf nch e n,free p.1 p.2 nch e n,ne,nf,d⟩
theorem Inv.un{t':Nat}(I:Inv X pins σ H s)(u:Un X.fs [] H H' s.heap h')(hok:HOk X.prog X.w H' h'):Inv X pins σ H' { s with heap:=h',toks:=t' }:=by
 obtain⟨m,⟨o,es,ep,ho,r⟩,_⟩:=id I.loc;obtain⟨sl,hL⟩:=u.any ho I.free (by simp);exact I.step (g':=s.gens) (d':=s.drawn) (ch:=[]) (fun _ z=>nomatch z) (fun b o _ hb _ e n=>u.keep b o e n hb (by simp)) (fun b o _ hb _ e n=>u.slot b o e n hb (by simp)) (fun b o _ e n=>u.free b o e n (by simp)) (fun b o _ e=>u.there b o e (by simp)) u.tups u.frzs u.tbls (fun m' hm=>by obtain⟨o',es',ep',ho',r'⟩:=hm;rw[ho] at ho';cases ho';exact⟨_,es',ep',hL,r'⟩) hok I.bare
theorem Inv.call{g':Array GenState}{t':Nat}{d':Drawn}{ch:List Qc}(I:Inv X pins σ H s)(u:Un (frs X.stack) ch H H' s.heap h')(hok:HOk X.prog X.w H' h')(hg:AllBare g')
 (hch:∀b∈ch,(b∈X.ex\/X.s₀.heap.objs.size<=b)/\b≠X.env.locals/\(∀x c,X.env.cells.lookup x=some c->c≠b)/\∀p∈X.pn++pins,p.1≠b) :
 Inv X pins σ H' { s with heap:=h',gens:=g',drawn:=d',toks:=t' }:=by
 obtain⟨m,⟨o,es,ep,ho,r⟩,_⟩:=id I.loc;obtain⟨sl,hL⟩:=u.any ho I.free fun z=>(hch _ z).2.1 rfl
 exact I.step (ch:=ch) hch (fun b o hL hb hc e n=>u.keep b o e n (fun z=>(Qv.mp (I.stkSub b z)).elim hL hb) hc) (fun b o _ _ hc e n=>u.any e n hc) (fun b o hc e n=>u.free b o e n hc) (fun b o hc e=>u.there b o e hc) u.tups u.frzs u.tbls (fun m' hm=>by obtain⟨o',es',ep',ho',r'⟩:=hm;rw[ho] at ho';cases ho';exact⟨_,es',ep',hL,r'⟩) hok hg
theorem Inv.turned{t':Nat}{it:Qc}(I:Inv X pins σ H s)(k:∀b o,b≠it->s.heap.get? b=some o->h'.get? b=some o)(hn:H it=none)(hL:it≠X.env.locals)
 (h1:it∈X.ex\/X.s₀.heap.objs.size<=it) (h2:∀x c,X.env.cells.lookup x=some c->c≠it) (h3:∀p∈X.pn++pins,p.1≠it):Inv X pins σ H { s with heap:=h',toks:=t' }:=by
 have nit:∀b u,H b=some u->b≠it:=fun b u e z=>by rw[z,hn] at e;cases e
 refine I.step (g':=s.gens) (d':=s.drawn) (ch:=[it]) (fun b hb=>?_) (fun b o _ _ hc e _=>k b o (fun z=>hc (by simp[z])) e) (fun b o _ _ hc e _=>⟨o.slots,k b o (fun z=>hc (by simp[z])) e⟩) (fun _ _ _ _ n=>n)
  (fun b o hc e=>⟨o,k b o (fun z=>hc (by simp[z])) e⟩) (fun _ _ e=>e) (fun _ _ _ e=>e) (fun b ps e=>⟨#[],by rw[e];simp⟩) (fun m hm=>?_) (fun b u e=>?_) I.bare
 ·have e:b=it:=by simpa using hb
  subst e;exact⟨h1,hL,h2,h3⟩
 ·obtain⟨o,es,ep,ho,r⟩:=hm;exact⟨o,es,ep,k _ o (Q0 hL) ho,r⟩
 ·refine(I.hok b u e).stay (fun c v hc q=>k c v ?_ q) (fun _ q=>q) fun _ _ q=>q
  rcases hc with z|z
  ·rw[z];exact nit b u e
  ·exact nit c _ z
theorem Inv.tok(I:Inv X pins σ H s)(t:Nat):Inv X pins σ H { s with toks:=t }:=I.un (h':=s.heap) (t':=t) Un.refl I.hok
theorem Inv.kept{t':Nat}(I:Inv X pins σ H s)(k:∀b u,s.heap.get? b=some u->h'.get? b=some u):Inv X pins σ H { s with heap:=h',toks:=t' }:=I.un (Un.kept k) (I.hok.kept k)
theorem Inv.laid{a:Qc}{o:HO}{t':Nat}(I:Inv X pins σ H s)(k:∀b u,s.heap.get? b=some u->h'.get? b=some u)(hp:s.heap.objs.size<=a)(new:ObjOk X.prog X.w (upd H a o) h' a o) :
 Inv X pins σ (upd H a o) { s with heap:=h',toks:=t' }:=I.un (Un.laid k hp (I.hok.fresh hp)) (I.hok.laid k hp new)
theorem Inv.write{x e:Qc}{o:HO}{t':Nat}(I:Inv X pins σ H s)(mu:Mut (H x))(he:e=x\/H e=some (.own x))(k:∀b u,b≠e->s.heap.get? b=some u->h'.get? b=some u)(heo:∃u,h'.get? e=some u)
 (new:ObjOk X.prog X.w (upd H x o) h' x o):Inv X pins σ (upd H x o) { s with heap:=h',toks:=t' }:=I.un (Un.write mu he k heo) (I.hok.write mu he k heo new)
theorem Inv.weak{σ':List (Option V)}(I:Inv X pins σ H s)(hl:σ'.length=σ.length)(w:∀(i:Nat) v,σ'[i]?=some (some v)->σ[i]?=some (some v)):Inv X pins σ' H s :=
 ⟨I.ok,I.os,I.bare,I.base,let ⟨m,hn,hl'⟩:=I.loc;⟨m,hn,fun i x v e1 e2 e3=>hl' i x v e1 (w i v e2) e3⟩,I.cell,I.free,I.freeC,I.pin,I.hok,hl.trans I.len⟩
theorem Inv.pins_of{pins':List (Qc×Obj)}(I:Inv X pins σ H s)(h:∀p∈pins',s.heap.get? p.1=some p.2/\H p.1=none/\p.1≠X.env.locals/\p.1∉X.fs/\∀v,p.2.data≠.cell v):Inv X pins' σ H s :=
 ⟨I.ok,I.os,I.bare,I.base,I.loc,I.cell,I.free,I.freeC,fun p hp=>(Gm.mp hp).elim (fun z=>I.pin p (Mn _ z)) (h p),I.hok,I.len⟩

theorem Jbj{N:List Str}(hN:N.Nodup){i j:Nat}{x:Str}(a:N[i]?=some x)(b:N[j]?=some x):i=j:=by obtain⟨h1,e1⟩:=Qo.mp a;obtain⟨h2,e2⟩:=Qo.mp b;exact(List.getElem_inj hN).mp (e1.trans e2.symm)

theorem Z4{M:Model}{A:Qx}{E:Qa->Qd->Prop}{i:Nat}{x:Str}{v:V}{u:Qa}{Q:Unit->Qd->Prop}(I:Inv X pins σ H s)(hN:X.N.Nodup)(hi:X.N[i]?=some x)(hx:Loc X.env.scope x)(r:RelV v u)
 (h:∀s',Inv X pins (σ.set i (some v)) H s'->(∃a,Ge a s.heap s'.heap/\(a=X.env.locals\/X.env.cells.lookup x=some a))->Q () s') (hf:X.fn x=true\/X.env.scope.names.lookup x=some .local:=by first|exact .inl rfl|exact .inr rfl|assumption):wpAny M A (storeName X.env x u) Q E s:=by
 obtain⟨m,hn,hl⟩:=id I.loc;have hcls:(X.env.scope.kind == .class || (X.env.scope.kind == .module && X.env.locals != X.env.globals))=false:=by rw[I.ok.kind];rfl
 have hiσ:i<σ.length:=by rw[I.len];exact(Qo.mp hi).1
 have cne:=I.cne
 have tracked:∀{a:Qc} {h':QJ},(∃o,s.heap.get? a=some o/\H a=none)->Ge a s.heap h'->HOk X.prog X.w H h':=fun {a h'} ha hs b ob e=>by
  obtain⟨_,_,hfree⟩:=ha;refine(I.hok b ob e).stay (fun c w' hc q=>(hs.2 c ?_).trans q) (fun _ q=>q) fun _ _ q=>q
  rintro rfl;rcases hc with rfl|hc
  ·rw[hfree] at e;cases e
  ·rw[hfree] at hc;cases hc
 rcases hx with hk|hk
 ·refine wpAny_storeName_local hk hn (fun h' hn' hs=>?_) hcls;obtain⟨oL,_,_,hoL,_⟩:=id hn;refine h _ ⟨I.ok,I.os,I.bare,⟨fun b o e n hb hx=>?_,fun b o e n hb hx=>?_,I.base.free,fun b o e hx=>?_,I.base.tups,I.base.frzs,I.base.tbls⟩,⟨_,hn',fun j y v' e1 e2 e3=>?_⟩,fun y c e=>?_,I.free,I.freeC,fun p hp=>?_,tracked ⟨oL,hoL,I.free⟩ hs,by simpa using I.len⟩ ⟨_,hs,.inl rfl⟩
  ·exact(hs.2 b (QG (QD (Qm e) I.ok.above))).trans (I.base.keep b o e n hb hx)
  ·obtain⟨sl,e1⟩:=I.base.slot b o e n hb hx;exact⟨sl,(hs.2 b (QG (QD (Qm e) I.ok.above))).trans e1⟩
  ·obtain⟨o',e1⟩:=I.base.there b o e hx;exact⟨o',(hs.2 b (QG (QD (Qm e) I.ok.above))).trans e1⟩
  ·by_cases hj:j=i
   ·subst hj;rw[hi] at e1;cases e1;rw[KO hiσ] at e2;cases e2;exact⟨u,r,.inl ⟨hk,by simp⟩⟩
   ·rw[K6 (Q0 hj)] at e2;obtain⟨u',r',q⟩:=hl j y v' e1 e2 e3;refine⟨u',r',?_⟩;rcases q with ⟨k,e⟩|⟨k,c,e,z⟩
    ·refine .inl ⟨k,?_⟩;have:y≠x:=fun e=>hj (Jbj hN e1 (e▸hi))
     simp[this,e]
    ·exact .inr ⟨k,c,e,z.sameBut hs (cne y c e)⟩
  ·obtain⟨w',z⟩:=I.cell y c e;exact⟨w',z.sameBut hs (cne y c e)⟩
  ·obtain⟨e,n,ne,nf,d⟩:=I.pin p hp;exact⟨(hs.2 p.1 ne).trans e,n,ne,nf,d⟩
 ·have hfn:X.fn x=true:=by
   rcases hf with z|z
   ·exact z
   ·rw[z] at hk;cases hk
  obtain⟨c,hc⟩:=I.ok.has x (.inl hk);obtain⟨w',z⟩:=I.cell x c hc;refine wpAny_storeName_cell I.ok.kind hk hc z (fun h' hc' hs=>?_);obtain⟨oc,hoc,hocd⟩:=id z;refine h { s with heap:=h' } ⟨I.ok,I.os,I.bare,⟨fun b o e n hb hx=>?_,fun b o e n hb hx=>?_,I.base.free,fun b o e hx=>?_,I.base.tups,I.base.frzs,I.base.tbls⟩,⟨m,hn.sameBut hs (Q0 (cne x c hc)),fun j y v' e1 e2 e3=>?_⟩,fun y c' e=>?_,I.free,I.freeC,fun p hp=>?_,tracked ⟨oc,hoc,I.freeC x c hc⟩ hs,by simpa using I.len⟩ ⟨c,hs,.inr hc⟩
  ·exact(hs.2 b (QG (QD (Qm e) (I.ok.cab x c hfn hc)))).trans (I.base.keep b o e n hb hx)
  ·obtain⟨sl,e1⟩:=I.base.slot b o e n hb hx;exact⟨sl,(hs.2 b (QG (QD (Qm e) (I.ok.cab x c hfn hc)))).trans e1⟩
  ·obtain⟨o',e1⟩:=I.base.there b o e hx;exact⟨o',(hs.2 b (QG (QD (Qm e) (I.ok.cab x c hfn hc)))).trans e1⟩
  ·by_cases hj:j=i
   ·subst hj;rw[hi] at e1;cases e1;rw[KO hiσ] at e2;cases e2;exact⟨u,r,.inr ⟨.inl hk,c,hc,hc'⟩⟩
   ·rw[K6 (Q0 hj)] at e2;obtain⟨u',r',q⟩:=hl j y v' e1 e2 e3;refine⟨u',r',?_⟩;rcases q with q|⟨k,c',e,z'⟩
    ·exact .inl q
    ·refine .inr ⟨k,c',e,z'.sameBut hs ?_⟩;rintro rfl;exact hj (Jbj hN e1 (I.ok.inj _ _ _ e hc▸hi))
  ·by_cases hcc:c'=c
   ·subst hcc;exact⟨_,hc'⟩
   ·obtain⟨w2,z2⟩:=I.cell y c' e;exact⟨w2,z2.sameBut hs hcc⟩
  ·obtain⟨e,n,ne,nf,d⟩:=I.pin p hp;refine⟨(hs.2 p.1 ?_).trans e,n,ne,nf,d⟩;intro q;rw[q,hoc] at e;have q':oc=p.2:=QI e;exact d w' (by rw[<- q'];exact hocd)
theorem VW{M:Model}{A:Qx}{E:Qa->Qd->Prop}{i:Nat}{x:Str}{v:V}{u:Qa}{Q:Unit->Qd->Prop}(I:Inv X pins σ H s)(hN:X.N.Nodup)(hi:X.N[i]?=some x)(hx:Loc X.env.scope x)(r:RelV v u)
 (h:∀s',Inv X pins (σ.set i (some v)) H s'->Q () s') (hf:X.fn x=true\/X.env.scope.names.lookup x=some .local:=by first|exact .inl rfl|exact .inr rfl|assumption):wpAny M A (storeName X.env x u) Q E s :=
 Z4 I hN hi hx r (fun s' I' _=>h s' I') hf
theorem Inv.call'{s':Qd}{ch:List Qc}(I:Inv X pins σ H s)(ho:s'.os=s.os)(u:Un (frs X.stack) ch H H' s.heap s'.heap)(hok:HOk X.prog X.w H' s'.heap)(hg:AllBare s'.gens)
 (hch:∀b∈ch,(b∈X.ex\/X.s₀.heap.objs.size<=b)/\b≠X.env.locals/\(∀x c,X.env.cells.lookup x=some c->c≠b)/\∀p∈X.pn++pins,p.1≠b):Inv X pins σ H' s':=by
 obtain⟨h',g',d',t',o'⟩:=s';have e:o'=s.os:=ho;subst e;exact I.call (g':=g') (t':=t') (d':=d') u hok hg hch
end

noncomputable abbrev XK:=Qa->Option Qc->Hp->Prop
noncomputable abbrev St:=List (Option V)
noncomputable abbrev VK:=V->Hp->Prop
noncomputable abbrev TE:=St->Hp->VK->Prop
noncomputable abbrev TT:=St->Hp->(Bool->Hp->Prop)->Prop
noncomputable abbrev TA:=St->Hp->(List V->Hp->Prop)->Prop
structure Ends where
 nx:St->Hp->Prop
 rt:VK
 bk:St->Hp->Prop:=fun _ _=>False
 ct:St->Hp->Prop:=fun _ _=>False
noncomputable abbrev TS:=Ends->St->Hp->Prop

noncomputable def EP(X:Cx)(pins:List (Qc×Obj))(σ:St)(Q:VK)(u:Qa)(s':Qd):Prop:=∃v H',Inv X pins σ H' s'/\RelV v u/\Q v H'
noncomputable def TP(X:Cx)(pins:List (Qc×Obj))(σ:St)(Q:Bool->Hp->Prop)(b:Bool)(s':Qd):Prop:=∃H',Inv X pins σ H' s'/\Q b H'
noncomputable def AP(X:Cx)(pins:List (Qc×Obj))(σ:St)(Q:List V->Hp->Prop)(us:List Qa)(s':Qd):Prop:=∃vs H',Inv X pins σ H' s'/\Vals vs us/\Q vs H'
noncomputable def SP(X:Cx)(pins:List (Qc×Obj))(D:Ends)(f:Flow)(s':Qd):Prop :=
 match f with
 | .next=>∃σ' H',Inv X pins σ' H' s'/\D.nx σ' H'
 | .brk=>∃σ' H',Inv X pins σ' H' s'/\D.bk σ' H'
 | .cont=>∃σ' H',Inv X pins σ' H' s'/\D.ct σ' H'
 | .ret u=>∃v σ' H',Inv X pins σ' H' s'/\RelV v u/\D.rt v H'

noncomputable def PE(X:Cx)(e:QQ)(t:TE):Prop :=
 ∀(pins:List (Qc×Obj)) (s:Qd) (σ:St) (H:Hp) (Q:VK),Inv X pins σ H s->t σ H Q->wpAny (model X.prog X.w) X.A (eval e X.env) (EP X pins σ Q) X.xe s
noncomputable def PT(X:Cx)(e:QQ)(t:TT):Prop :=
 ∀(pins:List (Qc×Obj)) (s:Qd) (σ:St) (H:Hp) (Q:Bool->Hp->Prop),Inv X pins σ H s->t σ H Q->wpAny (model X.prog X.w) X.A (isTrue e X.env (eval e X.env)) (TP X pins σ Q) X.xe s
noncomputable def PW(X:Cx)(e:QQ)(t:TT):Prop :=
 ∀(whole:Sem Qa) (pins:List (Qc×Obj)) (s:Qd) (σ:St) (H:Hp) (Q:Bool->Hp->Prop),Inv X pins σ H s->t σ H Q->wpAny (model X.prog X.w) X.A (isTrue e X.env whole) (TP X pins σ Q) X.xe s
theorem PW.pt{X:Cx}{e:QQ}{t:TT}(h:PW X e t):PT X e t:=h _
noncomputable def PA(X:Cx)(es:List QQ)(t:TA):Prop :=
 ∀(pos:Pos) (pins:List (Qc×Obj)) (s:Qd) (σ:St) (H:Hp) (Q:List V->Hp->Prop),Inv X pins σ H s->t σ H Q->wpAny (model X.prog X.w) X.A (spliced (backTo pos (starEach es X.env))) (AP X pins σ Q) X.xe s
noncomputable def PS(X:Cx)(st:Gw)(t:TS):Prop :=
 ∀(pins:List (Qc×Obj)) (s:Qd) (σ:St) (H:Hp) (D:Ends),Inv X pins σ H s->t D σ H->wpAny (model X.prog X.w) X.A (exec st X.env) (SP X pins D) X.xe s
noncomputable def PSs(X:Cx)(st:List Gw)(t:TS):Prop :=
 ∀(pins:List (Qc×Obj)) (s:Qd) (σ:St) (H:Hp) (D:Ends),Inv X pins σ H s->t D σ H->wpAny (model X.prog X.w) X.A (execs st X.env) (SP X pins D) X.xe s
theorem thn{α:Type}{t:Sem α}{Q Q':α->Qd->Prop}{M:Model}{A:Qx}{E:Qa->Qd->Prop}{s:Qd}(h:wpAny M A t Q E s)(hQ:∀a s,Q a s->Q' a s):wpAny M A t Q' E s:=Q2 h hQ fun _ _ x=>x
end L2

namespace L2
open PySem PySem.Spec PyProof.Rows
section
variable{X:Cx}

noncomputable def Zk(i:Nat):TE:=fun σ H Q=>∃v,σ[i]?=some (some v)/\Q v H
noncomputable def tC(v:V):TE:=fun _ H Q=>Q v H
theorem W6{i:Nat}{x:Str}{pos:Pos}(hN:X.N[i]?=some x)(hv:Vis X.env.scope x)(hd:(x == ("__debug__":Str))=false:=by decide)(hcd:(x == ("__classdict__":Str))=false:=by decide):PE X (.Name x pos) (Zk i):=by
 intro pins s σ H Q I h;obtain⟨v,e,h⟩:=h;obtain⟨m,hn,hl⟩:=I.loc;obtain⟨u,r,l⟩:=hl i x v hN e hv;have fin:EP X pins σ Q u s:=⟨v,H,I,r,h⟩
 rcases l with ⟨hk,hm⟩|⟨hk,c,hc,hcell⟩
 ·exact wpAny_Name (wpAny_loadName_local I.ok.kind hk hn hm fin) hd
 ·rcases hk with hk|hk
  ·exact wpAny_Name (wpAny_loadName_cell I.ok.kind hk hc hcell fin) hd
  ·exact wpAny_Name (wpAny_loadName_free I.ok.kind hk hc hcell fin hcd) hd
theorem Jg{i j pos}:PE X (.Constant (.int i) j pos) (tC (.int i)):=fun _ _ _ H _ I h=>wpAny_Constant_int ⟨.int i,H,I.tok _,⟨_,rfl⟩,h⟩
theorem JlO{b j pos}:PE X (.Constant (.bool b) j pos) (tC (.bl b)):=fun _ _ _ H _ I h=>Constant_bool ⟨.bl b,H,I,rfl,h⟩
theorem YB{j pos}:PE X (.Constant .none j pos) (tC .non):=fun _ _ _ H _ I h=>Constant_none ⟨.non,H,I,rfl,h⟩
theorem JE{x j pos}:PE X (.Constant (.str x) j pos) (tC (.str x)):=fun _ _ _ H _ I h=>Calls.Constant_str ⟨.str x,H,I.tok _,⟨_,rfl⟩,h⟩

noncomputable def Gl(X:Cx)(x:Str):Prop:=X.env.kindOf x=some .globalImplicit
theorem UC{E:Qa->Qd->Prop}{pins:List (Qc×Obj)}{s:Qd}{σ:St}{H:Hp}{x:Str}{u:Qa}{pos:Pos}{Q:Qa->Qd->Prop}(I:Inv X pins σ H s)(hg:Gl X x)(hm:X.mg x=some u)(h:Q u s)
 (hd:(x == ("__debug__":Str))=false:=by decide):wpAny (model X.prog X.w) X.A (eval (.Name x pos) X.env) Q E s :=
 Ll I.ok.kind hg (Calls.loadGlobal_global (by rw[I.ok.glob];exact I.mod.glob.keeps I.bk) hm h) hd
theorem WU{E:Qa->Qd->Prop}{pins:List (Qc×Obj)}{s:Qd}{σ:St}{H:Hp}{x:Str}{u:Qa}{pos:Pos}{Q:Qa->Qd->Prop}(I:Inv X pins σ H s)(hg:Gl X x)(hm:X.mg x=none)(hv:bootBuiltins x=some u)(h:Q u s)
 (hn:x≠"__name__":=by decide) (hd:(x == ("__debug__":Str))=false:=by decide):wpAny (model X.prog X.w) X.A (eval (.Name x pos) X.env) Q E s:=by
 obtain⟨mb,h1,h2⟩:=I.mod.blt;exact Ll I.ok.kind hg (Calls.loadGlobal_builtin (by rw[I.ok.glob];exact I.mod.glob.keeps I.bk) hm (by rw[I.ok.blt];exact h1.keeps I.bk) ((h2 x hn).trans hv) h) hd
theorem Yq{x:Str}{v:V}{u:Qa}{pos:Pos}(hg:Gl X x)(hm:X.mg x=some u)(r:RelV v u)(hd:(x == ("__debug__":Str))=false:=by decide):PE X (.Name x pos) (tC v) :=
 fun _ _ _ H _ I h=>UC I hg hm ⟨v,H,I,r,h⟩ hd
theorem JaG{x:Str}{v:V}{u:Qa}{pos:Pos}(hg:Gl X x)(hm:X.mg x=none)(hv:bootBuiltins x=some u)(r:RelV v u)(hn:x≠"__name__":=by decide)(hd:(x == ("__debug__":Str))=false:=by decide):PE X (.Name x pos) (tC v) :=
 fun _ _ _ H _ I h=>WU I hg hm hv ⟨v,H,I,r,h⟩ hn hd

variable{a b:QQ}{ta tb:TE}{pos:Pos}
noncomputable def tB(t:TE):TT:=fun σ H Q=>t σ H fun x H1=>∃c,x=.bl c/\Q c H1
variable{tA tB':TT}{rest:List QQ}
noncomputable def JkU(t u:TT):TT:=fun σ H Q=>t σ H fun c H1=>if c=true then u σ H1 Q else Q false H1
noncomputable def tOr(t u:TT):TT:=fun σ H Q=>t σ H fun c H1=>if c=true then Q true H1 else u σ H1 Q
noncomputable def JkX(t:TT):TT:=fun σ H Q=>t σ H fun c H1=>Q (!c) H1
theorem UK(ha:PT X a tA):PW X (.BoolOp .And [a] pos) tA:=by
 intro wh pins s σ H Q I h;refine isTrue_and (thn (ha pins s σ H Q I h) fun c s1 e=>?_)
 cases c with
 | true=>exact isTrue_and_nil e
 | false=>exact e
theorem JaI(ha:PT X a tA):PW X (.BoolOp .Or [a] pos) tA:=by
 intro wh pins s σ H Q I h;refine isTrue_or (thn (ha pins s σ H Q I h) fun c s1 e=>?_)
 cases c with
 | false=>exact isTrue_or_nil e
 | true=>exact e
theorem Vq(ha:PT X a tA)(hb:PW X (.BoolOp .And (b::rest) pos) tB'):PW X (.BoolOp .And (a::b::rest) pos) (JkU tA tB'):=by
 intro wh pins s σ H Q I h;refine isTrue_and (thn (ha pins s σ H _ I h) fun c s1 ⟨H1,I1,q1⟩=>?_)
 cases c with
 | true=>exact hb wh pins s1 σ H1 Q I1 q1
 | false=>exact⟨H1,I1,q1⟩
theorem Jbt(ha:PT X a tA)(hb:PW X (.BoolOp .Or (b::rest) pos) tB'):PW X (.BoolOp .Or (a::b::rest) pos) (tOr tA tB'):=by
 intro wh pins s σ H Q I h;refine isTrue_or (thn (ha pins s σ H _ I h) fun c s1 ⟨H1,I1,q1⟩=>?_)
 cases c with
 | true=>exact⟨H1,I1,q1⟩
 | false=>exact hb wh pins s1 σ H1 Q I1 q1
theorem Jfh(ha:PT X a tA):PT X (.UnaryOp .Not a pos) (JkX tA):=by intro pins s σ H Q I h;exact isTrue_not (ha pins s σ H (fun c H1=>Q (!c) H1) I h)
noncomputable def JfL(ta tb:TE):TE:=fun σ H Q=>ta σ H fun x H1=>∃c,x=.bl c/\if c=true then tb σ H1 Q else Q (.bl false) H1
noncomputable def JmP(ta tb:TE):TE:=fun σ H Q=>ta σ H fun x H1=>∃c,x=.bl c/\if c=true then Q (.bl true) H1 else tb σ H1 Q
noncomputable def JfO(ta:TE):TE:=fun σ H Q=>ta σ H fun x H1=>∃c,x=.bl c/\Q (.bl (!c)) H1
theorem Je8{op}{t:TE}(h:PE X a t):PE X (.BoolOp op [a] pos) t:=fun pins s σ H Q I hw=>BoolOp_one (h pins s σ H Q I hw)
theorem Jb8(ha:PE X a ta)(hb:PE X (.BoolOp .And (b::rest) pos) tb):PE X (.BoolOp .And (a::b::rest) pos) (JfL ta tb):=by
 intro pins s σ H Q I h;refine BoolOp_and (thn (ha pins s σ H _ I h) fun v s1 ⟨x,H1,I1,r1,q1⟩=>?_);obtain⟨c,rfl,q1⟩:=q1;cases r1;refine GP ?_
 cases c with
 | true=>exact hb pins s1 σ H1 Q I1 q1
 | false=>exact⟨.bl false,H1,I1,rfl,q1⟩
theorem Jka(ha:PE X a ta):PE X (.UnaryOp .Not a pos) (JfO ta):=by intro pins s σ H Q I h;refine UnaryOp_ (thn (ha pins s σ H _ I h) fun v s1 ⟨x,H1,I1,r1,q1⟩=>?_);obtain⟨c,rfl,q1⟩:=q1;cases r1;exact not_of (GP ⟨.bl (!c),H1,I1,rfl,q1⟩)
noncomputable def tIf(t:TT)(ta tb:TE):TE:=fun σ H Q=>t σ H fun c H1=>if c=true then ta σ H1 Q else tb σ H1 Q
theorem VQ{c:QQ}(hc:PT X c tA)(ha:PE X a ta)(hb:PE X b tb):PE X (.IfExp c a b pos) (tIf tA ta tb):=by
 intro pins s σ H Q I h;refine wpAny_IfExp (thn (hc pins s σ H _ I h) fun d s1 ⟨H1,I1,q1⟩=>?_)
 cases d with
 | true=>exact ha pins s1 σ H1 Q I1 q1
 | false=>exact hb pins s1 σ H1 Q I1 q1
end
end L2

namespace L2
open PySem PySem.Spec PyProof.Rows

noncomputable def SqL(K:Qq)(H:Hp)(a:Qc)(xs:List V):Prop :=
 Rd H a (.lst xs) ∨
  ∃(o:Obj) (its:Array Qa) (n:Nat),K.lookup a=some o/\o.cls=.type "list"/\o.dict=none/\o.data=.seq its n/\its.size<=Qu/\Vals xs its.toList
noncomputable def SqT(K:Qq)(H:Hp)(a:Qc)(xs:List V):Prop :=
 Rd H a (.tup xs) ∨
  ∃(o:Obj) (its:Array Qa) (n:Nat),K.lookup a=some o/\o.cls=.type "tuple"/\o.data=.seq its n/\its.size<=Qu/\Vals xs its.toList
noncomputable def Jmo:Qa->Option V
 | .none=>some .non
 | .bool b=>some (.bl b)
 | .int i _=>some (.int i)
 | .str x _=>some (.str x)
 | .bytes b _=>some (.byt b)
 | .float b _=>some (.flt b)
 | .ref a=>some (.ref a)
 | .type n=>some (.ty n)
 | _=>none
theorem RelV.abs{x:V}{u:Qa}(r:RelV x u):Jmo u=some x:=by
 cases x with
 | non=>cases r;rfl
 | bl _=>cases r;rfl
 | int _=>obtain⟨t,rfl⟩:=r;rfl
 | str _=>obtain⟨t,rfl⟩:=r;rfl
 | byt _=>obtain⟨t,rfl⟩:=r;rfl
 | flt _=>obtain⟨t,rfl⟩:=r;rfl
 | ref _=>cases r;rfl
 | ty _=>cases r;rfl
theorem RelV.inj{x y:V}{u:Qa}(r:RelV x u)(q:RelV y u):x=y:=QI (r.abs.symm.trans q.abs)
theorem Vals.inj:∀{xs ys:List V} {us:List Qa},Vals xs us->Vals ys us->xs=ys
 | _,_,_,.nil,.nil=>rfl
 | _,_,_,.cons r t,.cons r' t'=>by rw[r.inj r',Vals.inj t t']
section
variable{X:Cx}{pins:List (Qc×Obj)}{σ:St}{H:Hp}{s:Qd}{a:Qc}{xs ys:List V}
theorem SqL.of{K:Qq}(h:H a=some (.lst xs)):SqL K H a xs:=.inl (.inl h)
theorem SqT.of{K:Qq}(h:H a=some (.tup xs)):SqT K H a xs:=.inl (.inl h)
theorem Inv.list(I:Inv X pins σ H s)(h:SqL X.K H a xs):∃its:List Qa,Vals xs its/\PlainL s.heap a its.toArray/\xs.length<=Qu:=by
 rcases h with h|⟨o,its,n,hk,hc,hd,hs,hz,r⟩
 ·obtain⟨z,its,n,r,e⟩:=h.ok I.hok;exact⟨its,r,⟨_,n,e,rfl,rfl,rfl⟩,z⟩
 ·refine⟨its.toList,r,⟨o,n,I.kIn a o hk,hc,hd,by simpa using hs⟩,?_⟩;have e:=r.length;simp only[Kz] at e;omega
theorem Inv.tuple(I:Inv X pins σ H s)(h:SqT X.K H a xs):∃its:List Qa,Vals xs its/\IsTup s.heap a its.toArray/\xs.length<=Qu:=by
 rcases h with h|⟨o,its,n,hk,hc,hs,hz,r⟩
 ·obtain⟨z,its,r,p⟩:=h.ok I.hok;exact⟨its,r,p,z⟩
 ·refine⟨its.toList,r,⟨o,I.kIn a o hk,hc,n,by simpa using hs⟩,?_⟩;have e:=r.length;simp only[Kz] at e;omega
theorem Inv.list_inj(I:Inv X pins σ H s)(h:SqL X.K H a xs)(h':SqL X.K H a ys):xs=ys:=by
 obtain⟨its,r,⟨o,n,e,_,_,d⟩,_⟩:=I.list h;obtain⟨its',r',⟨o',n',e',_,_,d'⟩,_⟩:=I.list h';rw[e] at e';cases e';rw[d] at d'
 injection d' with d1 _
 have:its=its':=by simpa using congrArg Array.toList d1
 subst this;exact r.inj r'
theorem Inv.tuple_inj(I:Inv X pins σ H s)(h:SqT X.K H a xs)(h':SqT X.K H a ys):xs=ys:=by
 obtain⟨its,r,⟨o,e,_,n,d⟩,_⟩:=I.tuple h;obtain⟨its',r',⟨o',e',_,n',d'⟩,_⟩:=I.tuple h';rw[e] at e';cases e';rw[d] at d'
 injection d' with d1 _
 have:its=its':=by simpa using congrArg Array.toList d1
 subst this;exact r.inj r'
end

noncomputable abbrev Cx.wish(X:Cx)(E:Qa->Qd->Prop):Cx:={ X with xe:=E }
noncomputable abbrev Cx.nox(X:Cx):Cx:=X.wish fun _ _=>False
theorem Cx.Ok.wish{X:Cx}(ok:X.Ok)(E:Qa->Qd->Prop):(X.wish E).Ok :=
 ⟨ok.mod,ok.kind,ok.glob,ok.blt,ok.above,ok.inj,ok.has,ok.cab,ok.hd,ok.frames,ok.stk,ok.exf,ok.bs,ok.bsz,ok.noex,ok.exfs,ok.funs,ok.frf⟩
theorem Cx.Ok.unwish{X:Cx}{E:Qa->Qd->Prop}(ok:(X.wish E).Ok):X.Ok :=
 ⟨ok.mod,ok.kind,ok.glob,ok.blt,ok.above,ok.inj,ok.has,ok.cab,ok.hd,ok.frames,ok.stk,ok.exf,ok.bs,ok.bsz,ok.noex,ok.exfs,ok.funs,ok.frf⟩
section
variable{X:Cx}{pins:List (Qc×Obj)}{σ:St}{H:Hp}{s:Qd}{E:Qa->Qd->Prop}
theorem Inv.wish(I:Inv X pins σ H s)(E:Qa->Qd->Prop):Inv (X.wish E) pins σ H s:=⟨I.ok.wish E,I.os,I.bare,I.base,I.loc,I.cell,I.free,I.freeC,I.pin,I.hok,I.len⟩
theorem Inv.unwish(I:Inv (X.wish E) pins σ H s):Inv X pins σ H s:=⟨I.ok.unwish,I.os,I.bare,I.base,I.loc,I.cell,I.free,I.freeC,I.pin,I.hok,I.len⟩
theorem SP.unwish{D:Ends}{f:Flow}{s':Qd}(h:SP (X.wish E) pins D f s'):SP X pins D f s':=by
 cases f with
 | next=>obtain⟨σ',H',I,q⟩:=h;exact⟨σ',H',I.unwish,q⟩
 | brk=>obtain⟨σ',H',I,q⟩:=h;exact⟨σ',H',I.unwish,q⟩
 | cont=>obtain⟨σ',H',I,q⟩:=h;exact⟨σ',H',I.unwish,q⟩
 | ret u=>obtain⟨v,σ',H',I,r,q⟩:=h;exact⟨v,σ',H',I.unwish,r,q⟩
theorem PE.nox{e:QQ}{t:TE}(h:PE X.nox e t):PE X e t:=fun pins s σ H Q I hw=>Q2 (h pins s σ H Q (I.wish _) hw) (fun _ _ ⟨v,H',I',r,q⟩=>⟨v,H',I'.unwish,r,q⟩) fun _ _ z=>Q3 z
theorem PT.nox{e:QQ}{t:TT}(h:PT X.nox e t):PT X e t:=fun pins s σ H Q I hw=>Q2 (h pins s σ H Q (I.wish _) hw) (fun _ _ ⟨H',I',q⟩=>⟨H',I'.unwish,q⟩) fun _ _ z=>Q3 z
theorem PSs.nox{st:List Gw}{t:TS}(h:PSs X.nox st t):PSs X st t:=fun pins s σ H D I hw=>Q2 (h pins s σ H D (I.wish _) hw) (fun _ _ q=>q.unwish) fun _ _ z=>Q3 z
end

section
variable{X:Cx}{st:Gw}{rest:List Gw}{t u:TS}{e:QQ}{te:TE}{pos:Pos}
noncomputable def JfN:TS:=fun D σ H=>D.nx σ H
noncomputable def JfQ(t u:TS):TS:=fun D σ H=>t { D with nx:=u D } σ H
theorem JO:PSs X [] JfN:=fun _ _ σ H _ I h=>KF ⟨σ,H,I,h⟩
theorem Jf(h1:PS X st t)(h2:PSs X rest u):PSs X (st::rest) (JfQ t u):=by
 intro pins s σ H D I h;refine LS (thn (h1 pins s σ H { D with nx:=u D } I h) fun f s1 q=>?_)
 cases f with
 | next=>obtain⟨σ',H',I',q⟩:=q;exact h2 pins s1 σ' H' D I' q
 | ret v=>exact q
 | brk=>exact q
 | cont=>exact q
theorem Jo(h1:PS X st t):PSs X [st] t:=by
 intro pins s σ H D I h;refine LS (thn (h1 pins s σ H D I h) fun f s1 q=>?_)
 cases f with
 | next=>exact KF q
 | ret v=>exact q
 | brk=>exact q
 | cont=>exact q
theorem Inv.quiet{pins:List (Qc×Obj)}{σ:St}{H:Hp}{s:Qd}(I:Inv X pins σ H s):interactive X.env=false:=by simp[interactive,I.ok.kind]
noncomputable def Zj(te:TE):TS:=fun D σ H=>te σ H fun _ H1=>D.nx σ H1
theorem YW(he:PE X e te)(hs:swapsWith e none pos.line X.env=pure false:=by rfl):PS X (.Expr e pos) (Zj te):=by intro pins s σ H D I h;exact wpAny_Expr_any (thn (he pins s σ H _ I h) fun v s1 ⟨x,H1,I1,r1,q1⟩=>⟨σ,H1,I1,q1⟩) I.quiet hs
noncomputable def Jh6(te:TE):TS:=fun D σ H=>te σ H D.rt
theorem JV(he:PE X e te):PS X (.Return (some e) pos) (Jh6 te):=by intro pins s σ H D I h;exact wpAny_Return_some (thn (he pins s σ H _ I h) fun v s1 ⟨x,H1,I1,r1,q1⟩=>⟨x,σ,H1,I1,r1,q1⟩)
noncomputable def Jh4(c:TT)(t u:TS):TS:=fun D σ H=>c σ H fun b H1=>if b=true then t D σ H1 else u D σ H1
theorem Yi{c:QQ}{a b:List Gw}{tc:TT}(hc:PT X c tc)(ha:PSs X a t)(hb:PSs X b u):PS X (.If c a b pos) (Jh4 tc t u):=by
 intro pins s σ H D I h;refine wpAny_If (thn (hc pins s σ H _ I h) fun d s1 ⟨H1,I1,q1⟩=>?_)
 cases d with
 | true=>exact ha pins s1 σ H1 D I1 q1
 | false=>exact hb pins s1 σ H1 D I1 q1
end

noncomputable abbrev TG:=V->St->Hp->(St->Hp->Prop)->Prop
noncomputable abbrev TGs:=List V->St->Hp->(St->Hp->Prop)->Prop
noncomputable def PG(X:Cx)(target:QQ)(t:TG):Prop :=
 ∀(pins:List (Qc×Obj)) (s:Qd) (σ:St) (H:Hp) (v:V) (u:Qa) (Q:St->Hp->Prop),Inv X pins σ H s->RelV v u->t v σ H Q ->
  wpAny (model X.prog X.w) X.A (assign target X.env u) (fun _ s'=>∃σ' H',Inv X pins σ' H' s'/\Q σ' H') X.xe s
noncomputable def PGs(X:Cx)(ts:List QQ)(t:TGs):Prop :=
 ∀(pins:List (Qc×Obj)) (s:Qd) (σ:St) (H:Hp) (vs:List V) (us:List Qa) (Q:St->Hp->Prop),Inv X pins σ H s->Vals vs us->t vs σ H Q ->
  wpAny (model X.prog X.w) X.A (assignInOrder ((assignEach ts X.env).map (·.2)) us) (fun _ s'=>∃σ' H',Inv X pins σ' H' s'/\Q σ' H') X.xe s
noncomputable abbrev Jf7:=V->V->V->Hp->(Hp->Prop)->Prop
noncomputable def Jlj(X:Cx)(t:Jf7):Prop :=
 ∀(pins:List (Qc×Obj)) (s:Qd) (σ:St) (H:Hp) (o i v:V) (ov iv u:Qa) (Q:Hp->Prop),Inv X pins σ H s->RelV o ov->RelV i iv->RelV v u->t o i v H Q ->
  wpAny (model X.prog X.w) X.A (setItem ov iv u) (fun _ s'=>∃H',Inv X pins σ H' s'/\Q H') X.xe s
section
variable{X:Cx}{pos:Pos}
noncomputable def Ug(i:Nat):TG:=fun v σ H Q=>Q (σ.set i (some v)) H
theorem Yb{i:Nat}{x:Str}(hN:X.N.Nodup)(hi:X.N[i]?=some x)(hx:Loc X.env.scope x)(hf:X.fn x=true\/X.env.scope.names.lookup x=some .local:=by first|exact .inl rfl|exact .inr rfl|assumption):PG X (.Name x pos) (Ug i):=by intro pins s σ H v u Q I r h;exact wpAny_assign_Name (VW I hN hi hx r (fun s' I'=>⟨_,H,I',h⟩) hf)
noncomputable def Jjj:TGs:=fun vs σ H Q=>vs=[]/\Q σ H
noncomputable def JeI(t:TG)(u:TGs):TGs:=fun vs σ H Q=>∃v r,vs=v::r/\t v σ H fun σ' H'=>u r σ' H' Q
theorem UH:PGs X [] Jjj:=by intro pins s σ H vs us Q I r h;obtain⟨e,h⟩:=h;subst e;cases r;exact assignInOrder_nil ⟨σ,H,I,h⟩
theorem JP{e:QQ}{es:List QQ}{t:TG}{u:TGs}(h1:PG X e t)(h2:PGs X es u)
 (hs:(assignEach (e::es) X.env).map (·.2)=assign e X.env::(assignEach es X.env).map (·.2):=by rfl):PGs X (e::es) (JeI t u):=by
 intro pins s σ H vs us Q I r h;obtain⟨v,vr,e1,h⟩:=h;subst e1
 cases r with
 | cons r rr=>rw[hs];refine assignInOrder_cons (thn (h1 pins s σ H _ _ _ I r h) fun _ s1 ⟨σ1,H1,I1,q1⟩=>?_);exact h2 pins s1 σ1 H1 _ _ Q I1 rr q1
noncomputable def JgW(K:Qq)(n:Nat)(t:TGs):TG:=fun v σ H Q=>∃a xs,v=.ref a/\SqT K H a xs/\xs.length=n/\t xs σ H Q
theorem Jkb{es:List QQ}{k:Nat}{t:TGs}{n:Nat}(hc:X.calm=true)(h:PGs X es t)
 (hn:(assignEach es X.env).length=n:=by rfl) (hst:(assignEach es X.env).findIdx? (·.1)=none:=by rfl):PG X (.Tuple es k pos) (JgW X.K n t):=by
 intro pins s σ H v u Q I r hw;obtain⟨a,xs,e1,hq,hl,hw⟩:=hw;subst e1;cases r;obtain⟨its,rv,ht,hz⟩:=I.tuple hq;refine assign_Tuple_tuple (I.ok.hd hc) ht (by simp[hn,<- hl,rv.length]) hst fun h' hx=>?_
 have I1:Inv X pins σ H { s with heap:=h' }:=I.kept (t':=s.toks) fun b o e=>hx b o (QG (Qm e)) e
 exact h pins _ σ H xs _ Q I1 (by simpa using rv) hw
noncomputable def Jjk(to ti:TE)(t:Jf7):TG:=fun v σ H Q=>to σ H fun o H1=>ti σ H1 fun i H2=>t o i v H2 fun H3=>Q σ H3
theorem Jb9{o i:QQ}{to ti:TE}{t:Jf7}(ho:PE X o to)(hi:PE X i ti)(hs:Jlj X t)
 (ha:∀v,assign (.Subscript o i pos) X.env v=(do
  let ov <- holding [v] (eval o X.env)
  let iv <- holding [v,ov] (eval i X.env)
  standAt pos
  holding [v,ov,iv] (setItem ov iv v)
  release [v,ov,iv] []):=by intro _;rfl):PG X (.Subscript o i pos) (Jjk to ti t):=by
 intro pins s σ H v u Q I r h;rw[ha];refine Qe (Gg (thn (ho pins s σ H _ I h) fun ov s1 ⟨x,H1,I1,r1,q1⟩=>?_));refine Qe (Gg (thn (hi pins s1 σ H1 _ I1 q1) fun iv s2 ⟨y,H2,I2,r2,q2⟩=>?_));refine Qe (Kf (Qe (Gg (thn (hs pins s2 σ H2 x y v ov iv u _ I2 r1 r2 r q2) fun _ s3 ⟨H3,I3,q3⟩=>?_))));exact wpAny_release ⟨σ,H3,I3,q3⟩
noncomputable def Zi(te:TE)(g:TG):TS:=fun D σ H=>te σ H fun x H1=>g x σ H1 D.nx
theorem W8{tg e:QQ}{te:TE}{g:TG}(he:PE X e te)(hg:PG X tg g)(hs:swapsWithSole [tg] e pos.line X.env=pure false:=by rfl)(hw:swappedStores [tg] e X.env=pure none:=by rfl)
 (h1:(assignEach [tg] X.env).map (·.2)=[assign tg X.env]:=by rfl):PS X (.Assign [tg] e pos) (Zi te g):=by
 intro pins s σ H D I h;refine wpAny_Assign_stores (thn (he pins s σ H _ I h) fun v s1 ⟨x,H1,I1,r1,q1⟩=>?_) hs hw;rw[h1];exact thn (hg pins s1 σ H1 x v _ I1 r1 q1) fun _ s2 q=>q
theorem Jfe{i:Nat}{x:Str}{e:QQ}{te:TE}{pos':Pos}(hN:X.N.Nodup)(hi:X.N[i]?=some x)(hx:Loc X.env.scope x)(he:PE X e te)(hs:swapsWith e (some (.Name x pos')) pos.line X.env=pure false:=by rfl)(hf:X.fn x=true\/X.env.scope.names.lookup x=some .local:=by first|exact .inl rfl|exact .inr rfl|assumption) :
 PS X (.Assign [.Name x pos'] e pos) (Zi te (Ug i)):=by
 intro pins s σ H D I h;refine wpAny_Assign_Name (thn (he pins s σ H _ I h) fun v s1 ⟨y,H1,I1,r1,q1⟩=>?_) hs;exact VW I1 hN hi hx r1 (fun s2 I2=>⟨_,H1,I2,q1⟩) hf
end

section
variable{X:Cx}{pos:Pos}
end

structure It where
 go:Nat->Hp->Prop
 yld:Nat->Hp->V->Hp->Prop
 stop:Nat->Hp->Prop
noncomputable def FpOk(X:Cx)(pins:List (Qc×Obj))(H:Hp)(b:Qc):Prop :=
 H b=none/\b≠X.env.locals/\b∉X.fs/\(b∈X.ex\/X.s₀.heap.objs.size<=b)/\(∀x c,X.env.cells.lookup x=some c->c≠b)/\∀p∈X.pn++pins,p.1≠b
theorem Inv.fpOk{X:Cx}{pins:List (Qc×Obj)}{σ:St}{H H':Hp}{s:Qd}{b:Qc}(I:Inv X pins σ H s)(hb:s.heap.objs.size<=b)(hn:H' b=none):FpOk X pins H' b:=by
 refine⟨hn,Kr (QD I.lt hb),I.nofs hb,.inr (QK I.sz hb),fun x c e z=>?_,fun p hp z=>?_⟩
 ·obtain⟨v,q⟩:=I.cell x c e;exact absurd (QD q.lt (by rw[z];exact hb)) (Gd _)
 ·exact absurd (QD (Qm (I.pin p hp).1) (by rw[z];exact hb)) (Gd _)
structure Turn (P:Qp) (w:QC) (K:Qq) (tg:QQ) (J:It) (fp:List Qc) (it:Qc) (tn:Nat->QJ->Prop):Prop where
 mem:it∈fp
 obj:∀i h,tn i h->∀b∈fp,∃o,h.get? b=some o/\∀v,o.data≠.cell v
 keep:∀i h h',tn i h->(∀b∈fp,∀o,h.get? b=some o->h'.get? b=some o)->tn i h'
 item:∀(X:Cx),X.prog=P->X.w=w->X.K=K->X.calm=true->∀(i:Nat) (pins:List (Qc×Obj)) (s:Qd) (σ:St) (H:Hp) (E:Qa->Qd->Prop),Inv X pins σ H s->(∀b∈fp,FpOk X pins H b)->tn i s.heap->J.go i H ->
  wpAny (model P w) X.A (pyNext (.ref it)) (fun r s1=>∃u,r=some u ∧
   wpAny (model P w) X.A (letOwnedTupleGo tg (.ref it) u) (fun _ s2=>∃x H',Inv X pins σ H' s2/\RelV x u/\J.yld i H x H'/\tn (i+1) s2.heap/\∀b∈fp,H' b=none) E s1) E s
 done:∀(X:Cx),X.prog=P->X.w=w->X.K=K->X.calm=true->∀(i:Nat) (pins:List (Qc×Obj)) (s:Qd) (σ:St) (H:Hp) (E:Qa->Qd->Prop),Inv X pins σ H s->(∀b∈fp,FpOk X pins H b)->tn i s.heap->J.stop i H ->
  wpAny (model P w) X.A (pyNext (.ref it)) (fun r s1=>r=none/\Inv X pins σ H s1) E s
 self:∀(A:Qx) (i:Nat) (s:Qd) (Q:Qa->Qd->Prop) (E:Qa->Qd->Prop),tn i s.heap->Q (.ref it) s->wpAny (model P w) A (pyIter (.ref it)) Q E s
noncomputable abbrev TI:=St->Hp->(It->Hp->Prop)->Prop
noncomputable def PIE(X:Cx)(pins:List (Qc×Obj))(σ:St)(tg:QQ)(R:It->Hp->Prop)(itv:Qa)(s2:Qd):Prop :=
 ∃(it:Qc) (fp:List Qc) (tn:Nat->QJ->Prop) (J:It) (H':Hp),itv=.ref it/\Inv X pins σ H' s2/\Turn X.prog X.w X.K tg J fp it tn/\tn 0 s2.heap/\(∀b∈fp,FpOk X pins H' b)/\R J H'
noncomputable def PI(X:Cx)(tg iter:QQ)(wi:TI):Prop :=
 ∀(pins:List (Qc×Obj)) (s:Qd) (σ:St) (H:Hp) (R:It->Hp->Prop),Inv X pins σ H s->wi σ H R ->
  wpAny (model X.prog X.w) X.A (eval iter X.env) (fun v s1=>wpAny (model X.prog X.w) X.A (pyIter v) (PIE X pins σ tg R) X.xe s1) X.xe s

theorem JcH{M:Model}{A:Qx}{E:Qa->Qd->Prop}{s:Qd}{tg:QQ}{it:Qc}{u:Qa}{o:Obj}{n:String}{vs:Array Qa}{Q:Unit->Qd->Prop}(ho:s.heap.get? it=some o)(hc:o.cls=.type n)(hd:o.data=.fields vs)
 (hn:["enumerate","zip","dict_itemiterator","dict_reverseitemiterator","odict_iterator","itertools.zip_longest","itertools.pairwise"].contains n=false) (hQ:Q () s):wpAny M A (letOwnedTupleGo tg (.ref it) u) Q E s:=by
 unfold letOwnedTupleGo;cases tg <;> first
  | exact Qw hQ
  | (cases u <;> first
   | exact Qw hQ
   | (refine Qe (wpAny_load ho ?_)
      rw[hc,hd];show wpAny M A (if (["enumerate","zip","dict_itemiterator","dict_reverseitemiterator","odict_iterator","itertools.zip_longest","itertools.pairwise"].contains n && vs[0]? == some (rawInt _))=true then _ else _) Q E s;rw[if_neg (by intro h;rw[hn,Bool.false_and] at h;cases h)];exact Qw hQ))

noncomputable def Itl(K:Qq)(a:Qc):It :=
 ⟨fun i H=>∃xs x,SqL K H a xs/\xs[i]?=some x,fun i H x H'=>H'=H/\∀xs,SqL K H a xs->xs[i]?=some x,fun i H=>∃xs,SqL K H a xs/\xs.length<=i⟩
noncomputable def Itt(K:Qq)(a:Qc):It :=
 ⟨fun i H=>∃xs x,SqT K H a xs/\xs[i]?=some x,fun i H x H'=>H'=H/\∀xs,SqT K H a xs->xs[i]?=some x,fun i H=>∃xs,SqT K H a xs/\xs.length<=i⟩
noncomputable def Itr(lo:Int)(n:Nat):It:=⟨fun i _=>i<n,fun i H x H'=>H'=H/\x=.int (lo+i),fun i _=>n<=i⟩
theorem Jd0{P:Qp}{w:QC}{K:Qq}{tg:QQ}(a it:Qc):Turn P w K tg (Itl K a) [it] it (fun i h=>h.IsListIter it a i) where
 mem:=by simp
 obj:=fun i h st b hb=>by
  have e:b=it:=by simpa using hb
  subst e;obtain⟨o,e,c,d⟩:=st;exact⟨o,e,fun v z=>by rw[d] at z;cases z⟩
 keep:=fun i h h' st k=>st.at fun o e=>k it (by simp) o e
 item:=by
  intro X hP hw hK hc i pins s σ H E I hf st hg;subst hP hw hK;obtain⟨xs,x,hq,hx⟩:=hg;obtain⟨its,rv,p,hz⟩:=I.list hq;obtain⟨u,hu,ru⟩:=rv.get hx;obtain⟨f0,f1,f2,f3,f4,f5⟩:=hf it (by simp);refine wpAny_pyNext_list_item st p.isList (x:=u) (by simpa using hu) fun h' st' sb=>?_
  have I1:Inv X pins σ H { s with heap:=h' }:=I.turned (t':=s.toks) (fun b o hb e=>(sb.2 b hb).trans e) f0 f1 f3 f4 f5;obtain⟨o,e,c,d⟩:=id st';exact⟨u,rfl,JcH (s:={ s with heap:=h' }) e c d (by decide) ⟨x,H,I1,ru,⟨rfl,fun ys hy=>by rw[I.list_inj hy hq];exact hx⟩,st',fun b hb=>(hf b hb).1⟩⟩
 done:=by intro X hP hw hK hc i pins s σ H E I hf st hg;subst hP hw hK;obtain⟨xs,hq,hx⟩:=hg;obtain⟨its,rv,p,hz⟩:=I.list hq;obtain⟨f0,f1,f2,f3,f4,f5⟩:=hf it (by simp);have hl:=rv.length;exact wpAny_pyNext_list_end (I.ok.hd hc) st p.isList (by simp;omega) fun h' eb=>⟨rfl,I.turned (t':=s.toks) (fun b o hb e=>eb b o hb e) f0 f1 f3 f4 f5⟩
 self:=fun _ _ _ _ _ st h=>wpAny_pyIter_listiter st h
theorem Jcm{P:Qp}{w:QC}{K:Qq}{tg:QQ}(a it:Qc):Turn P w K tg (Itt K a) [it] it (fun i h=>h.IsTupleIter it a i) where
 mem:=by simp
 obj:=fun i h st b hb=>by
  have e:b=it:=by simpa using hb
  subst e;obtain⟨o,e,c,d⟩:=st;exact⟨o,e,fun v z=>by rw[d] at z;cases z⟩
 keep:=fun i h h' st k=>st.at fun o e=>k it (by simp) o e
 item:=by
  intro X hP hw hK hc i pins s σ H E I hf st hg;subst hP hw hK;obtain⟨xs,x,hq,hx⟩:=hg;obtain⟨its,rv,p,hz⟩:=I.tuple hq;obtain⟨u,hu,ru⟩:=rv.get hx;obtain⟨f0,f1,f2,f3,f4,f5⟩:=hf it (by simp);refine wpAny_pyNext_tuple_item st (show s.heap.IsTuple a its.toArray from p) (x:=u) (by simpa using hu) fun h' st' sb=>?_
  have I1:Inv X pins σ H { s with heap:=h' }:=I.turned (t':=s.toks) (fun b o hb e=>(sb.2 b hb).trans e) f0 f1 f3 f4 f5;obtain⟨o,e,c,d⟩:=id st';exact⟨u,rfl,JcH (s:={ s with heap:=h' }) e c d (by decide) ⟨x,H,I1,ru,⟨rfl,fun ys hy=>by rw[I.tuple_inj hy hq];exact hx⟩,st',fun b hb=>(hf b hb).1⟩⟩
 done:=by intro X hP hw hK hc i pins s σ H E I hf st hg;subst hP hw hK;obtain⟨xs,hq,hx⟩:=hg;obtain⟨its,rv,p,hz⟩:=I.tuple hq;obtain⟨f0,f1,f2,f3,f4,f5⟩:=hf it (by simp);have hl:=rv.length;exact wpAny_pyNext_tuple_end (I.ok.hd hc) st (show s.heap.IsTuple a its.toArray from p) (by simp;omega) fun h' eb=>⟨rfl,I.turned (t':=s.toks) (fun b o hb e=>eb b o hb e) f0 f1 f3 f4 f5⟩
 self:=fun _ _ _ _ _ st h=>wpAny_pyIter_tupleiter st h
theorem Jcl{P:Qp}{w:QC}{K:Qq}{tg:QQ}(it:Qc)(lo:Int)(n:Nat):Turn P w K tg (Itr lo n) [it] it (fun i h=>IsRangeIter h it (lo+(i:Nat)*1) ((n:Int)-(i:Nat)) 1) where
 mem:=by simp
 obj:=fun i h st b hb=>by
  have e:b=it:=by simpa using hb
  subst e;exact⟨_,st,fun v z=>by have z':Data.fields _=Data.cell v:=z;cases z'⟩
 keep:=fun i h h' st k=>k it (by simp) _ st
 item:=by
  intro X hP hw hK hc i pins s σ H E I hf st hg;subst hP hw hK;obtain⟨f0,f1,f2,f3,f4,f5⟩:=hf it (by simp);have W:=Walks.range (prog:=X.prog) (w:=X.w) (I.ok.hd hc) it lo 1 n;refine W.item i s _ _ hg st fun v h' tk hv st' kk=>?_
  obtain⟨t,rfl⟩:=hv;have I1:Inv X pins σ H { s with heap:=h',toks:=tk }:=I.turned (fun b o hb e=>kk b o (by simpa using hb) e) f0 f1 f3 f4 f5;refine⟨_,rfl,JcH (s:={ s with heap:=h',toks:=tk }) (n:="range_iterator") st' rfl rfl (by decide) ⟨.int (lo+i),H,I1,⟨t,?_⟩,⟨rfl,rfl⟩,st',fun b hb=>(hf b hb).1⟩⟩;rw[Int.mul_one]
 done:=by intro X hP hw hK hc i pins s σ H E I hf st hg;subst hP hw hK;obtain⟨f0,f1,f2,f3,f4,f5⟩:=hf it (by simp);exact wpAny_pyNext_range_end (I.ok.hd hc) st (by have:n<=i:=hg;omega) fun h' eb=>⟨rfl,I.turned (t':=s.toks) (fun b o hb e=>eb b o hb e) f0 f1 f3 f4 f5⟩
 self:=fun _ _ _ _ _ st h=>wpAny_pyIter_rangeiter st h
end L2

namespace L2
open PySem PySem.Spec PyProof.Rows
section
variable{X:Cx}{tg:QQ}
noncomputable def Jir(K:Qq)(tl:TE):TI:=fun σ H R=>tl σ H fun x H1=>∃a,x=.ref a/\(∃xs,SqL K H1 a xs)/\R (Itl K a) H1
noncomputable def JlB(K:Qq)(tl:TE):TI:=fun σ H R=>tl σ H fun x H1=>∃a,x=.ref a/\(∃xs,SqT K H1 a xs)/\R (Itt K a) H1
theorem Jhs{l:QQ}{tl:TE}(hl:PE X l tl):PI X tg l (Jir X.K tl):=by
 intro pins s σ H R I h;refine thn (hl pins s σ H _ I h) fun v s1 ⟨x,H1,I1,r1,q1⟩=>?_
 obtain⟨a,e,⟨xs,hq⟩,q⟩:=q1;subst e;cases r1;obtain⟨its,rv,p,hz⟩:=I1.list hq;refine Ly p.isList ?_;refine⟨s1.heap.objs.size,[s1.heap.objs.size],_,_,H1,rfl,I1.kept (t':=s1.toks) fun b o e=>Qg _ e,Jd0 a _,⟨_,Qz _ rfl,rfl,rfl⟩,fun b hb=>?_,q⟩;have e:b=s1.heap.objs.size:=by simpa using hb
 subst e;exact I1.fpOk (Qr _) (I1.hok.fresh (Qr _))
theorem Jkd{l:QQ}{tl:TE}(hl:PE X l tl):PI X tg l (JlB X.K tl):=by
 intro pins s σ H R I h;refine thn (hl pins s σ H _ I h) fun v s1 ⟨x,H1,I1,r1,q1⟩=>?_
 obtain⟨a,e,⟨xs,hq⟩,q⟩:=q1;subst e;cases r1;obtain⟨its,rv,p,hz⟩:=I1.tuple hq;refine Lm (show s1.heap.IsTuple a its.toArray from p) ?_;refine⟨s1.heap.objs.size,[s1.heap.objs.size],_,_,H1,rfl,I1.kept (t':=s1.toks) fun b o e=>Qg _ e,Jcm a _,⟨_,Qz _ rfl,rfl,rfl⟩,fun b hb=>?_,q⟩;have e:b=s1.heap.objs.size:=by simpa using hb
 subst e;exact I1.fpOk (Qr _) (I1.hok.fresh (Qr _))
theorem Jfp{pins:List (Qc×Obj)}{σ:St}{H:Hp}{s:Qd}{R:It->Hp->Prop}{E:Qa->Qd->Prop}{lo hi:Int}{t u v:Tok}{tk:Nat}(I:Inv X pins σ H s)(h1:-(2 ^ 62)<=lo)(h2:lo<2 ^ 62)(h3:-(2 ^ 62)<=hi)(h4:hi<2 ^ 62)
 (q:R (Itr lo (hi-lo).toNat) H):wpAny (model X.prog X.w) X.A (pyIter (.ref s.heap.objs.size)) (PIE X pins σ tg R) E { s with heap:=s.heap.push { cls:=.type "range",data:=.fields #[.int lo t,.int hi u,.int 1 v] },toks:=tk }:=by
 refine wpAny_pyIter_range (IsRange.new ..) (small_one h1 h2 h3 h4) ?_;have I1:Inv X pins σ H { s with heap:=s.heap.push { cls:=.type "range",data:=.fields #[.int lo t,.int hi u,.int 1 v] },toks:=tk }:=I.kept fun b o e=>Qg _ e
 refine⟨(s.heap.push { cls:=.type "range",data:=.fields #[.int lo t,.int hi u,.int 1 v] }).objs.size,[(s.heap.push { cls:=.type "range",data:=.fields #[.int lo t,.int hi u,.int 1 v] }).objs.size],_,_,H,rfl,
  I1.kept (t':=tk) fun b o e=>Qg _ e,Jcl _ lo (hi-lo).toNat,?_,fun b hb=>?_,q⟩
 ·have e1:lo+((0:Nat):Int)*1=lo:=by simp
  have e2:(((hi-lo).toNat:Nat):Int)-((0:Nat):Int)=Builtin.Range.rangeSize lo hi 1:=by rw[rangeSize_one];split <;> omega
  show IsRangeIter _ _ (lo+((0:Nat):Int)*1) ((((hi-lo).toNat:Nat):Int)-((0:Nat):Int)) 1;rw[e1,e2];exact Qz _ rfl
 ·have e:b=(s.heap.push { cls:=.type "range",data:=.fields #[.int lo t,.int hi u,.int 1 v] }).objs.size:=by simpa using hb
  subst e;exact I1.fpOk (Qr _) (I1.hok.fresh (Qr _))
noncomputable def Jis(ta:TA):TI:=fun σ H R=>ta σ H fun vs H1=>∃j:Int,vs=[.int j]/\-(2 ^ 62)<=j/\j<2 ^ 62/\R (Itr 0 j.toNat) H1
theorem Z0{a:QQ}{ta:TA}{p pos:Pos}(hg:Gl X "range")(hm:X.mg "range"=none)(ha:PA X [a] ta)(hs:starEach [a] X.env=[(false,eval a X.env)]:=by rfl):PI X tg (.Call (.Name "range" p) [a] [] pos) (Jis ta):=by
 intro pins s σ H R I h;refine Call_ (WU I hg hm boot_range (Lg (thn (ha pos pins s σ H _ I h) fun us s1 ⟨vs,H1,I1,r1,q1⟩=>?_) hs rfl));obtain⟨j,e,q1,q2,q⟩:=q1;subst e
 cases r1 with
 | cons r rr=>cases rr;obtain⟨t,rfl⟩:=r;exact call_range_1 (Jfp I1 (by omega) (by omega) q1 q2 (by simpa using q))
noncomputable def JkW(wi:TI)(g:TG)(tb:TS):TS:=fun D σ H=>wi σ H fun J H1=>∃W:Nat->Nat->St->Hp->Prop,(∃m,W 0 m σ H1)/\∀i m σ H,W i m σ H ->
 (J.stop i H/\D.nx σ H)\/(J.go i H/\∃N:St->Hp->Prop,(∀σ' H',N σ' H'->∃m',m'<m/\W (i+1) m' σ' H')/\∀x H',J.yld i H x H'->g x σ H' fun σ2 H2=>tb { D with nx:=N,ct:=N,bk:=D.nx } σ2 H2)
noncomputable def W7(fp:List Qc)(h:QJ):List (Qc×Obj):=fp.filterMap fun b=>(h.get? b).map fun o=>(b,o)
theorem Vl{fp:List Qc}{h:QJ}{b:Qc}{o:Obj}(hb:b∈fp)(e:h.get? b=some o):(b,o)∈W7 fp h:=List.mem_filterMap.mpr ⟨b,hb,by rw[e];rfl⟩
theorem JdP{fp:List Qc}{h:QJ}{p:Qc×Obj}(hp:p∈W7 fp h):p.1∈fp/\h.get? p.1=some p.2:=by
 obtain⟨b,hb,e⟩:=List.mem_filterMap.mp hp
 cases q:h.get? b with
 | none=>rw[q] at e;cases e
 | some o=>rw[q] at e;have e':(b,o)=p:=QI e;subst e';exact⟨hb,q⟩
theorem Inv.pinned{pins:List (Qc×Obj)}{σ:St}{H:Hp}{s:Qd}{fp:List Qc}(I:Inv X pins σ H s)(hf:∀b∈fp,FpOk X pins H b)(ho:∀b∈fp,∃o,s.heap.get? b=some o/\∀v,o.data≠.cell v):Inv X (pins++W7 fp s.heap) σ H s :=
 I.pins_of fun p hp=>(Gm.mp hp).elim (fun z=>I.pin p (Q6 _ z)) fun z=>by obtain⟨hb,e⟩:=JdP z;obtain⟨f0,f1,f2,_⟩:=hf p.1 hb;obtain⟨o,e',d⟩:=ho p.1 hb;rw[e] at e';cases e';exact⟨e,f0,f1,f2,d⟩
theorem Inv.unpinned{pins pl:List (Qc×Obj)}{σ:St}{H:Hp}{s:Qd}(I:Inv X (pins++pl) σ H s):Inv X pins σ H s:=I.pins_of fun p hp=>I.pin p (Q6 _ (Mn _ hp))
theorem W9{iter:QQ}{body:List Gw}{wi:TI}{g:TG}{tb:TS}{pos:Pos}(hp:PassesOwn (model X.prog X.w) X.A X.env X.xe)(hc:X.calm=true)(hi:PI X tg iter wi)(hg:PG X tg g)(hb:PSs X body tb)
 (hs:∀x,foldedSetIterable iter X.env x=pure x:=by intro _;rfl):PS X (.For tg iter body [] pos) (JkW wi g tb):=by
 intro pins s σ H D I h;refine wpAny_For (thn (hi pins s σ H _ I h) fun v s1 h1=>thn h1 fun itv s2 h2=>?_) hs;obtain⟨it,fp,tn,J,H2,e,I2,T,st2,f2,W,⟨m0,w0⟩,turn⟩:=h2;subst e
 -- what stays true of the iterator's objects through the loop
 have stat:∀{H':Hp},(∀b∈fp,H' b=none)->∀b∈fp,FpOk X pins H' b:=fun hn b hb=>⟨hn b hb,(f2 b hb).2⟩
 refine codeAny_forLoop_any (fun n s'=>∃i σ' H',Inv X pins σ' H' s'/\tn i s'.heap/\(∀b∈fp,H' b=none)/\W i n σ' H') ?_ m0 ⟨0,σ,H2,I2,st2,fun b hb=>(f2 b hb).1,w0⟩;rintro n s3 ⟨i,σ3,H3,I3,st3,fr3,w3⟩;rcases turn i n σ3 H3 w3 with ⟨stop,qn⟩|⟨go,N,hN,step⟩
 ·refine KG hp (thn (T.done X rfl rfl rfl hc i pins s3 σ3 H3 X.xe I3 (stat fr3) st3 stop) fun r s4 ⟨hr,I4⟩=>?_);subst hr;exact KF ⟨σ3,H3,I4,qn⟩
 ·refine KG hp (thn (T.item X rfl rfl rfl hc i pins s3 σ3 H3 X.xe I3 (stat fr3) st3 go) fun r s4 ⟨u,hr,h4⟩=>?_);subst hr;refine KG hp (thn h4 fun _ s5 ⟨x,H5,I5,r5,y5,st5,fr5⟩=>?_);have I5':=I5.pinned (stat fr5) (T.obj _ _ st5);refine KG hp (thn (hg _ s5 σ3 H5 x u _ I5' r5 (step x H5 y5)) fun _ s6 ⟨σ6,H6,I6,q6⟩=>?_);refine KG hp (thn (hb _ s6 σ6 H6 _ I6 q6) fun f s7 q7=>?_)
  have again:∀{σ7:St} {H7:Hp},Inv X (pins++W7 fp s5.heap) σ7 H7 s7->N σ7 H7->∃m,m<n/\∃i σ' H',Inv X pins σ' H' s7/\tn i s7.heap/\(∀b∈fp,H' b=none)/\W i m σ' H':=fun {σ7 H7} I7 n7=>by obtain⟨m',hm,w7⟩:=hN σ7 H7 n7;refine⟨m',hm,i+1,σ7,H7,I7.unpinned,T.keep _ _ _ st5 fun b hb o e=>(I7.pin (b,o) (Q6 _ (Q6 _ (Vl hb e)))).1,fun b hb=>?_,w7⟩;obtain⟨o,e,d⟩:=T.obj _ _ st5 b hb;exact(I7.pin (b,o) (Q6 _ (Q6 _ (Vl hb e)))).2.1
  cases f with
  | next=>obtain⟨σ7,H7,I7,n7⟩:=q7;exact again I7 n7
  | cont=>obtain⟨σ7,H7,I7,n7⟩:=q7;exact again I7 n7
  | brk=>obtain⟨σ7,H7,I7,q7⟩:=q7;exact⟨σ7,H7,I7.unpinned,q7⟩
  | ret v=>obtain⟨x7,σ7,H7,I7,r7,q7⟩:=q7;exact⟨x7,σ7,H7,I7.unpinned,r7,q7⟩
end

end L2

namespace L2
open PySem PySem.Spec PyProof.Rows

noncomputable abbrev R2:=V->V->Hp->VK->Prop
noncomputable def OpR(X:Cx)(f:Qa->Qa->Sem Qa)(r:R2):Prop :=
 ∀(pins:List (Qc×Obj)) (s:Qd) (σ:St) (H:Hp) (x y:V) (v u:Qa) (Q:VK),Inv X pins σ H s->RelV x v->RelV y u->r x y H Q ->
  wpAny (model X.prog X.w) X.A (f v u) (EP X pins σ Q) X.xe s
noncomputable def UnR(X:Cx)(f:Qa->Sem Qa)(r:V->Hp->VK->Prop):Prop :=
 ∀(pins:List (Qc×Obj)) (s:Qd) (σ:St) (H:Hp) (x:V) (v:Qa) (Q:VK),Inv X pins σ H s->RelV x v->r x H Q ->
  wpAny (model X.prog X.w) X.A (f v) (EP X pins σ Q) X.xe s
noncomputable def CallR(X:Cx)(f:Qa)(r:List V->Hp->VK->Prop):Prop :=
 ∀(pins:List (Qc×Obj)) (s:Qd) (σ:St) (H:Hp) (xs:List V) (us:List Qa) (Q:VK),Inv X pins σ H s->Vals xs us->r xs H Q ->
  wpAny (model X.prog X.w) X.A (call f us) (EP X pins σ Q) X.xe s
noncomputable def Jmn(X:Cx)(r:V->Hp->(Bool->Hp->Prop)->Prop):Prop :=
 ∀(pins:List (Qc×Obj)) (s:Qd) (σ:St) (H:Hp) (x:V) (v:Qa) (Q:Bool->Hp->Prop),Inv X pins σ H s->RelV x v->r x H Q ->
  wpAny (model X.prog X.w) X.A (truthy v) (TP X pins σ Q) X.xe s

noncomputable def tOp(r:R2)(ta tb:TE):TE:=fun σ H Q=>ta σ H fun x H1=>tb σ H1 fun y H2=>r x y H2 Q
noncomputable def tUn(r:V->Hp->VK->Prop)(ta:TE):TE:=fun σ H Q=>ta σ H fun x H1=>r x H1 Q
noncomputable def rI(C:Int->Int->Prop)(g:Int->Int->V):R2:=fun x y H Q=>∃i j,x=.int i/\y=.int j/\C i j/\Q (g i j) H
noncomputable def rI0(g:Int->Int->V):R2:=fun x y H Q=>∃i j,x=.int i/\y=.int j/\Q (g i j) H
noncomputable def rU(g:Int->V):V->Hp->VK->Prop:=fun x H Q=>∃i,x=.int i/\Q (g i) H

section
variable{X:Cx}{a b c:QQ}{ta tb tc:TE}{pos:Pos}

theorem JiO(ha:PE X a ta)(hb:PE X b tb){pins:List (Qc×Obj)}{s:Qd}{σ:St}{H:Hp}{R:V->V->Hp->Prop}(I:Inv X pins σ H s)
 (h:ta σ H fun x H1=>tb σ H1 fun y H2=>R x y H2) {Q:Qa->Qd->Prop} {f:Qa->Qa->Sem Qa}
 (hf:∀v u s2 x y H2,Inv X pins σ H2 s2->RelV x v->RelV y u->R x y H2->wpAny (model X.prog X.w) X.A (f v u) Q X.xe s2) :
 wpAny (model X.prog X.w) X.A (eval a X.env) (fun v s₁=>wpAny (model X.prog X.w) X.A (eval b X.env) (fun u s₂=>wpAny (model X.prog X.w) X.A (f v u) Q X.xe s₂) X.xe s₁) X.xe s:=by
 refine thn (ha pins s σ H _ I h) fun v s1 ⟨x,H1,I1,r1,q1⟩=>?_
 refine thn (hb pins s1 σ H1 _ I1 q1) fun u s2 ⟨y,H2,I2,r2,q2⟩=>?_
 exact hf v u s2 x y H2 I2 r1 r2 q2

theorem Js{op:Operator}{r:R2}(ho:OpR X (binaryOp op) r)(ha:PE X a ta)(hb:PE X b tb):PE X (.BinOp a op b pos) (tOp r ta tb):=by intro pins s σ H Q I h;exact wpAny_BinOp (JiO ha hb I h fun v u s2 x y H2 I2 rx ry q=>ho pins s2 σ H2 x y v u Q I2 rx ry q)
theorem W5{op:UnaryOp}{r:V->Hp->VK->Prop}(ho:UnR X (unaryOp op) r)(ha:PE X a ta):PE X (.UnaryOp op a pos) (tUn r ta):=by intro pins s σ H Q I h;exact UnaryOp_ (thn (ha pins s σ H _ I h) fun v s1 ⟨x,H1,I1,r1,q1⟩=>ho pins s1 σ H1 x v Q I1 r1 q1)
theorem opI{f:Qa->Qa->Sem Qa}{C:Int->Int->Prop}{g:Int->Int->Int}
 (rule:∀(i j:Int) (t u:Tok) (s:Qd) (Q:Qa->Qd->Prop) (E:Qa->Qd->Prop),C i j->Q (.int (g i j) s.toks) { s with toks:=s.toks+1 }->wpAny (model X.prog X.w) X.A (f (.int i t) (.int j u)) Q E s) :
 OpR X f (rI C fun i j=>.int (g i j)):=by
 intro pins s σ H x y v u Q I rx ry h;obtain⟨i,j,rfl,rfl,hc,q⟩:=h;obtain⟨t,rfl⟩:=rx;obtain⟨t',rfl⟩:=ry;exact rule i j t t' s _ _ hc ⟨.int (g i j),H,I.tok _,⟨_,rfl⟩,q⟩
theorem JlL{f:Qa->Qa->Sem Qa}{g:Int->Int->Int}
 (rule:∀(i j:Int) (t u:Tok) (s:Qd) (Q:Qa->Qd->Prop) (E:Qa->Qd->Prop),Q (.int (g i j) s.toks) { s with toks:=s.toks+1 }->wpAny (model X.prog X.w) X.A (f (.int i t) (.int j u)) Q E s) :
 OpR X f (rI0 fun i j=>.int (g i j)):=by
 intro pins s σ H x y v u Q I rx ry h;obtain⟨i,j,rfl,rfl,q⟩:=h;obtain⟨t,rfl⟩:=rx;obtain⟨t',rfl⟩:=ry;exact rule i j t t' s _ _ ⟨.int (g i j),H,I.tok _,⟨_,rfl⟩,q⟩
theorem JjY{f:Qa->Qa->Sem Qa}{g:Int->Int->Bool}
 (rule:∀(i j:Int) (t u:Tok) (s:Qd) (Q:Qa->Qd->Prop) (E:Qa->Qd->Prop),Q (.bool (g i j)) s->wpAny (model X.prog X.w) X.A (f (.int i t) (.int j u)) Q E s) :
 OpR X f (rI0 fun i j=>.bl (g i j)):=by
 intro pins s σ H x y v u Q I rx ry h;obtain⟨i,j,rfl,rfl,q⟩:=h;obtain⟨t,rfl⟩:=rx;obtain⟨t',rfl⟩:=ry;exact rule i j t t' s _ _ ⟨.bl (g i j),H,I,rfl,q⟩

noncomputable def Jle(i j:Int):Prop:=0<j/\j<1073741824
noncomputable def Jlf(i j:Int):Prop:=0<=j/\j<=1000000/\i.natAbs<2 ^ 64
noncomputable def CMul(i j:Int):Prop:=(-(2 ^ 64)<i/\i<2 ^ 64)\/(-(2 ^ 64)<j/\j<2 ^ 64)
theorem CMul.ok{i j:Int}(h:CMul i j):IntMulOk i j:=by
 rcases h with ⟨h1,h2⟩|⟨h1,h2⟩
 ·exact .of_left (intBits_le_64 h1 h2)
 ·exact .of_right (intBits_le_64 h1 h2)
theorem op_add:OpR X (binaryOp .Add) (rI0 fun i j=>.int (i+j)):=JlL fun _ _ _ _ _ _ _ q=>add_int q
theorem Vn:OpR X (binaryOp .Sub) (rI0 fun i j=>.int (i-j)):=JlL fun _ _ _ _ _ _ _ q=>sub_int q
theorem V8:OpR X (binaryOp .Mult) (rI CMul fun i j=>.int (i*j)):=opI fun _ _ _ _ _ _ _ hc q=>mul_int q hc.ok
theorem YH:OpR X (binaryOp .FloorDiv) (rI Jle fun i j=>.int (i / j)):=opI fun i j _ _ _ _ _ hc q=>by
 have h1:(0:Int)<j:=hc.1
 have h2:j<1073741824:=hc.2;exact floordiv_int (by omega) (by rw[Int.fdiv_eq_ediv_of_nonneg i (by omega)];exact q) (.inl (PyProof.noPylong_small (by omega)))
theorem Yk:OpR X (binaryOp .Mod) (rI (fun _ j=>0<j) fun i j=>.int (i % j)):=opI fun i j _ _ _ _ _ hc q=>by have h1:(0:Int)<j:=hc;exact mod_int' (by omega) (by rw[Int.fmod_eq_emod_of_nonneg i (by omega)];exact q)
theorem Jb7:OpR X (binaryOp .Pow) (rI Jlf fun i j=>.int (i ^ j.toNat)):=opI fun _ _ _ _ _ _ _ hc q=>pow_int_small hc.1 hc.2.1 hc.2.2 q
theorem unI{f:Qa->Sem Qa}{g:Int->Int}
 (rule:∀(i:Int) (t:Tok) (s:Qd) (Q:Qa->Qd->Prop) (E:Qa->Qd->Prop),Q (.int (g i) s.toks) { s with toks:=s.toks+1 }->wpAny (model X.prog X.w) X.A (f (.int i t)) Q E s) :
 UnR X f (rU fun i=>.int (g i)):=by
 intro pins s σ H x v Q I rx h;obtain⟨i,rfl,q⟩:=h;obtain⟨t,rfl⟩:=rx;exact rule i t s _ _ ⟨.int (g i),H,I.tok _,⟨_,rfl⟩,q⟩
theorem Vu:UnR X (unaryOp .USub) (rU fun i=>.int (-i)):=unI fun _ _ _ _ _ q=>neg_int q
end

noncomputable def JkR:V->V->Bool
 | .non,.non=>true|.non,.int _=>true|.int _,.non=>true|.non,.bl _=>true|.bl _,.non=>true|.non,.str _=>true|.str _,.non=>true
 | .int _,.int _=>true|.bl _,.bl _=>true|.str _,.str _=>true|.byt _,.byt _=>true
 | .int _,.str _=>true|.str _,.int _=>true|.bl _,.str _=>true|.str _,.bl _=>true
 | _,_=>false
noncomputable def rEq:R2:=fun x y H Q=>JkR x y=true/\Q (.bl (decide (x=y))) H
noncomputable def rNe:R2:=fun x y H Q=>JkR x y=true/\Q (.bl (!decide (x=y))) H

theorem Jcx{i j:Int}:decide (V.int i=V.int j)=(i == j):=by rw[Ga];simp
theorem Jen{i j:Bool}:decide (V.bl i=V.bl j)=(i == j):=by rw[Ga];simp
theorem Jcy{i j:Str}:decide (V.str i=V.str j)=(i == j):=by rw[Ga];simp
theorem Jcw{i j:Array UInt8}:decide (V.byt i=V.byt j)=(i.toList == j.toList):=by rw[Ga];cases i;cases j;simp

section
variable{X:Cx}{a b c:QQ}{ta tb tc:TE}{pos:Pos}
theorem JK{pins:List (Qc×Obj)}{σ:St}{H:Hp}{s:Qd}{Q:VK}{k k':Bool}(I:Inv X pins σ H s)(q:Q (.bl k) H)(e:k=k'):EP X pins σ Q (.bool k') s:=by subst e;exact⟨.bl k,H,I,rfl,q⟩
theorem op_eq:OpR X (compareOp .Eq) rEq:=by
 intro pins s σ H x y v u Q I rx ry h;obtain⟨hs,q⟩:=h
 cases x with
 | non =>
  cases rx
  cases y with
  | non=>cases ry;exact PySem.EqNone.eq_none_none (JK I q (by simp))
  | bl j=>cases ry;exact PySem.EqNone.eq_none_bool (JK I q (by simp))
  | int j=>obtain⟨t',rfl⟩:=ry;exact PySem.EqNone.eq_none_int (JK I q (by simp))
  | str j=>obtain⟨t',rfl⟩:=ry;exact PySem.EqNone.eq_none_str (JK I q (by simp))
  | _=>exact absurd (show false=true from hs) QA
 | bl i =>
  cases rx
  cases y with
  | non=>cases ry;exact PySem.EqNone.eq_bool_none (JK I q (by simp))
  | bl j=>cases ry;exact eq_bool (JK I q Jen)
  | str j=>obtain⟨t',rfl⟩:=ry;exact PySem.EqMixed.eq_bool_str (JK I q (by simp))
  | _=>exact absurd (show false=true from hs) QA
 | int i =>
  obtain⟨t,rfl⟩:=rx
  cases y with
  | non=>cases ry;exact PySem.EqNone.eq_int_none (JK I q (by simp))
  | int j=>obtain⟨t',rfl⟩:=ry;exact eq_int (JK I q Jcx)
  | str j=>obtain⟨t',rfl⟩:=ry;exact PySem.EqMixed.eq_int_str (JK I q (by simp))
  | _=>exact absurd (show false=true from hs) QA
 | str i =>
  obtain⟨t,rfl⟩:=rx
  cases y with
  | non=>cases ry;exact PySem.EqNone.eq_str_none (JK I q (by simp))
  | bl j=>cases ry;exact PySem.EqMixed.eq_str_bool (JK I q (by simp))
  | int j=>obtain⟨t',rfl⟩:=ry;exact PySem.EqMixed.eq_str_int (JK I q (by simp))
  | str j=>obtain⟨t',rfl⟩:=ry;exact eq_str (JK I q Jcy)
  | _=>exact absurd (show false=true from hs) QA
 | byt i =>
  obtain⟨t,rfl⟩:=rx
  cases y with
  | byt j=>obtain⟨t',rfl⟩:=ry;exact PySem.W.eq_bytes (JK I q Jcw)
  | _=>exact absurd (show false=true from hs) QA
 | _=>cases y <;> exact absurd (show false=true from hs) QA
theorem op_ne:OpR X (compareOp .NotEq) rNe:=by
 intro pins s σ H x y v u Q I rx ry h;obtain⟨hs,q⟩:=h
 cases x with
 | non =>
  cases rx
  cases y with
  | non=>cases ry;exact PySem.EqNone.ne_none_none (JK I q (by simp))
  | bl j=>cases ry;exact PySem.EqNone.ne_none_bool (JK I q (by simp))
  | int j=>obtain⟨t',rfl⟩:=ry;exact PySem.EqNone.ne_none_int (JK I q (by simp))
  | str j=>obtain⟨t',rfl⟩:=ry;exact PySem.EqNone.ne_none_str (JK I q (by simp))
  | _=>exact absurd (show false=true from hs) QA
 | bl i =>
  cases rx
  cases y with
  | non=>cases ry;exact PySem.EqNone.ne_bool_none (JK I q (by simp))
  | bl j=>cases ry;exact ne_bool (JK I q (congrArg not Jen))
  | str j=>obtain⟨t',rfl⟩:=ry;exact PySem.EqMixed.ne_bool_str (JK I q (by simp))
  | _=>exact absurd (show false=true from hs) QA
 | int i =>
  obtain⟨t,rfl⟩:=rx
  cases y with
  | non=>cases ry;exact PySem.EqNone.ne_int_none (JK I q (by simp))
  | int j=>obtain⟨t',rfl⟩:=ry;exact ne_int (JK I q (congrArg not Jcx))
  | str j=>obtain⟨t',rfl⟩:=ry;exact PySem.EqMixed.ne_int_str (JK I q (by simp))
  | _=>exact absurd (show false=true from hs) QA
 | str i =>
  obtain⟨t,rfl⟩:=rx
  cases y with
  | non=>cases ry;exact PySem.EqNone.ne_str_none (JK I q (by simp))
  | bl j=>cases ry;exact PySem.EqMixed.ne_str_bool (JK I q (by simp))
  | int j=>obtain⟨t',rfl⟩:=ry;exact PySem.EqMixed.ne_str_int (JK I q (by simp))
  | str j=>obtain⟨t',rfl⟩:=ry;exact ne_str (JK I q (congrArg not Jcy))
  | _=>exact absurd (show false=true from hs) QA
 | byt i =>
  obtain⟨t,rfl⟩:=rx
  cases y with
  | byt j=>obtain⟨t',rfl⟩:=ry;exact PySem.W.ne_bytes (JK I q (congrArg not Jcw))
  | _=>exact absurd (show false=true from hs) QA
 | _=>cases y <;> exact absurd (show false=true from hs) QA

theorem ZZ:OpR X (compareOp .Lt) (rI0 fun i j=>.bl (decide (i<j))):=JjY fun _ _ _ _ _ _ _ q=>lt_int q
theorem JlM:OpR X (compareOp .LtE) (rI0 fun i j=>.bl (decide (i<=j))):=JjY fun _ _ _ _ _ _ _ q=>le_int q
theorem ZY:OpR X (compareOp .Gt) (rI0 fun i j=>.bl (decide (j<i))):=JjY fun _ _ _ _ _ _ _ q=>gt_int q
theorem JdQ:OpR X (compareOp .In) (fun x y H Q=>∃i j,x=.str i/\y=.str j/\Q (.bl (!(Q8 j i 0 j.length 1).isEmpty)) H):=by intro pins s σ H x y v u Q I rx ry h;obtain⟨i,j,rfl,rfl,q⟩:=h;obtain⟨t,rfl⟩:=rx;obtain⟨t',rfl⟩:=ry;exact in_str (JK I q rfl)

theorem Jj4:OpR X (compareOp .Is) (fun x y H Q=>y=.non/\Q (.bl (decide (x=.non))) H):=by
 intro pins s σ H x y v u Q I rx ry h;obtain⟨rfl,q⟩:=h;cases ry;refine is_none_gen (JK I q ?_);cases x <;> first
  | (cases rx;rfl)
  | (obtain⟨t,rfl⟩:=rx;rfl)
theorem Jhm:OpR X (compareOp .IsNot) (fun x y H Q=>y=.non/\Q (.bl (!decide (x=.non))) H):=by
 intro pins s σ H x y v u Q I rx ry h;obtain⟨rfl,q⟩:=h;cases ry;refine isnot_none_gen (JK I q ?_);cases x <;> first
  | (cases rx;rfl)
  | (obtain⟨t,rfl⟩:=rx;rfl)

theorem OpR.or{f:Qa->Qa->Sem Qa}{r r':R2}(h:OpR X f r)(h':OpR X f r'):OpR X f (fun x y H Q=>r x y H Q\/r' x y H Q):=by
 intro pins s σ H x y v u Q I rx ry q;rcases q with q|q
 ·exact h pins s σ H x y v u Q I rx ry q
 ·exact h' pins s σ H x y v u Q I rx ry q

theorem JD(b:QQ){op:CmpOp}(h:op≠.In:=by decide)(h2:op≠.NotIn:=by decide):behindInMarks op b=false:=by
 have e1:(op == CmpOp.In)=false:=by cases op <;> first|rfl|exact absurd rfl h
 have e2:(op == CmpOp.NotIn)=false:=by cases op <;> first|rfl|exact absurd rfl h2
 cases b <;> simp[behindInMarks,e1,e2]
theorem JaH{op:CmpOp}{r:R2}(ho:OpR X (compareOp op) r)(ha:PE X a ta)(hb:PE X b tb)(hm:behindInMarks op b=false):PE X (.Compare a [op] [b] pos) (tOp r ta tb):=by intro pins s σ H Q I h;exact wpAny_Compare1 (JiO ha hb I h fun v u s2 x y H2 I2 rx ry q=>ho pins s2 σ H2 x y v u Q I2 rx ry q) hm
noncomputable def JfR(t:TE):TT:=fun σ H Q=>t σ H fun x H'=>∃k,x=.bl k/\Q k H'
theorem Jw{op:CmpOp}{r:R2}(ho:OpR X (compareOp op) r)(ha:PE X a ta)(hb:PE X b tb)(hm:behindInMarks op b=false):PT X (.Compare a [op] [b] pos) (JfR (tOp r ta tb)):=by
 intro pins s σ H Q I h;refine wpAny_isTrue_Compare1 (thn (ha pins s σ H _ I h) fun v s1 ⟨x,H1,I1,r1,q1⟩=>thn (hb pins s1 σ H1 _ I1 q1) fun u s2 ⟨y,H2,I2,r2,q2⟩=>thn (ho pins s2 σ H2 x y v u _ I2 r1 r2 q2) fun c s3 ⟨z,H3,I3,r3,k,e,q3⟩=>?_) hm
 subst e;cases r3;exact GP ⟨H3,I3,q3⟩
noncomputable def JkV(r r':R2)(ta tb tc:TE):TE:=fun σ H Q=>ta σ H fun x H1=>tb σ H1 fun y H2=>r x y H2 fun z H3=>∃k,z=.bl k ∧
 (if k=true then tc σ H3 fun w' H4=>r' y w' H4 Q else Q (.bl false) H3)
noncomputable def Jdh(K:Qq)(x:V)(H:Hp)(k:Bool):Prop :=
 match x with
 | .non=>k=false
 | .bl b=>k=b
 | .int i=>k=(i != 0)
 | .str y=>y.length<=Qu/\k=((y.length:Int) != 0)
 | .byt y=>y.size<=Qu/\k=((y.size:Int) != 0)
 | .ref p=>(∃xs,SqL K H p xs/\k=!xs.isEmpty)\/(∃xs,SqT K H p xs/\k=!xs.isEmpty)\/∃kvs,H p=some (.dK kvs)/\k=!kvs.isEmpty
 | _=>False
theorem JbR{κ:Type}{kvs:List (κ×V)}{vs:List (κ×Qa)}(r:KV kvs vs):(!vs.isEmpty)=!kvs.isEmpty:=by cases r <;> rfl
theorem WO{xs:List V}{its:List Qa}(r:Vals xs its):(!its.toArray.isEmpty)=!xs.isEmpty:=by cases r <;> simp
theorem V7:(Qu:Nat)<2 ^ 63:=by rw[sizeLine_eq];decide
theorem Jk8:Jmn X (fun x H Q=>∃k,Jdh X.K x H k/\Q k H):=by
 intro pins s σ H x v Q I rx h;obtain⟨k,e,q⟩:=h;have hl:=V7;have hs:Qu=16777216:=sizeLine_eq
 cases x with
 | non=>cases rx;have e':k=false:=e;subst e';exact truthy_none ⟨H,I,q⟩
 | bl b=>cases rx;have e':k=b:=e;subst e';exact GP ⟨H,I,q⟩
 | int i=>obtain⟨t,rfl⟩:=rx;have e':k=(i != 0):=e;subst e';exact PySem.P.truthy_int ⟨H,I,q⟩
 | str y=>obtain⟨t,rfl⟩:=rx;obtain⟨hy,e'⟩:y.length<=Qu/\k=((y.length:Int) != 0):=e;subst e';exact PySem.P.truthy_str (by omega) ⟨H,I.tok _,q⟩
 | byt y=>obtain⟨t,rfl⟩:=rx;obtain⟨hy,e'⟩:y.size<=Qu/\k=((y.size:Int) != 0):=e;subst e';exact PySem.W.truthy_bytes (by omega) ⟨H,I.tok _,q⟩
 | ref p =>
  cases rx;have e':(∃xs,SqL X.K H p xs/\k=!xs.isEmpty)\/(∃xs,SqT X.K H p xs/\k=!xs.isEmpty)\/∃kvs,H p=some (.dK kvs)/\k=!kvs.isEmpty:=e
  rcases e' with ⟨xs,hx,e'⟩|⟨xs,hx,e'⟩|⟨kvs,hx,e'⟩
  ·subst e';obtain⟨its,r,pl,hz⟩:=I.list hx;have hlen:=r.length;exact wpAny_truthy_list pl.isList (by simp only[Qn];omega) ⟨H,I.tok _,by rw[WO r];exact q⟩
  ·subst e';obtain⟨its,r,pl,hz⟩:=I.tuple hx;have hlen:=r.length;exact truthy_tuple pl (by simp only[Qn];omega) ⟨H,I.tok _,by rw[WO r];exact q⟩
  ·subst e';obtain⟨hz,hS,vs,r,m⟩:kvs.length<=Qu/\(p == sysModules)=false/\∃vs,KV kvs vs/\s.heap.DictOf (Jax X.prog X.w) p vs:=I.hok p _ hx
   have hlen:kvs.length=vs.length:=My r;exact wpAny_truthy_dict hS m (by omega) ⟨H,I.tok _,by rw[JbR r];exact q⟩
 | _=>exact(show False from e).elim
theorem Jfi(ha:PE X a ta)(he:∀whole,isTrue a X.env whole=(do let v <- whole;standAt a.pos;holding [v] (truthy v))) :
 PT X a (fun σ H Q=>ta σ H fun x H'=>∃k,Jdh X.K x H' k/\Q k H'):=by
 intro pins s σ H Q I h;exact isTrue_plain (thn (ha pins s σ H _ I h) fun v s1 ⟨x,H1,I1,r1,q1⟩=>Jk8 pins s1 σ H1 x v Q I1 r1 q1) (he _)

theorem op_add_str:OpR X (binaryOp .Add) (fun x y H Q=>∃i j,x=.str i/\y=.str j/\i.length+j.length<=Qu/\Q (.str (i++j)) H):=by intro pins s σ H x y v u Q I rx ry h;obtain⟨i,j,rfl,rfl,hz,q⟩:=h;obtain⟨t,rfl⟩:=rx;obtain⟨t',rfl⟩:=ry;exact add_str (fun t' tk=>⟨.str (i++j),H,I.tok _,⟨_,rfl⟩,q⟩) hz
theorem Vf{x:V}{us:List Qa}(r:Vals [x] us):∃u,us=[u]/\RelV x u:=by
 cases r with
 | cons r1 r2=>cases r2;exact⟨_,rfl,r1⟩
theorem Jf0{x y:V}{us:List Qa}(r:Vals [x,y] us):∃u w',us=[u,w']/\RelV x u/\RelV y w':=by
 cases r with
 | cons r1 r2 =>
  cases r2 with
  | cons r3 r4=>cases r4;exact⟨_,_,rfl,r1,r3⟩
theorem Jed:CallR X (.builtin "abs") (fun xs H Q=>∃i,xs=[.int i]/\Q (.int (if i<0 then -i else i)) H):=by intro pins s σ H xs us Q I r h;obtain⟨i,rfl,q⟩:=h;obtain⟨u,rfl,t,rfl⟩:=Vf r;exact call_abs_int fun u tk=>⟨.int (if i<0 then -i else i),H,I.tok _,⟨_,rfl⟩,q⟩
theorem Jdp(hc:X.calm=true):CallR X (.builtin "max") (fun xs H Q=>∃i j,xs=[.int i,.int j]/\Q (.int (if j>i then j else i)) H):=by
 intro pins s σ H xs us Q I r h;obtain⟨i,j,rfl,q⟩:=h;obtain⟨u,w',rfl,⟨t,rfl⟩,⟨t',rfl⟩⟩:=Jf0 r;refine max_two_ints (I.ok.hd hc) fun h' tk k=>⟨_,H,I.kept k,?_,q⟩
 by_cases hj:j>i
 ·rw[if_pos hj,if_pos hj];exact⟨_,rfl⟩
 ·rw[if_neg hj,if_neg hj];exact⟨_,rfl⟩
theorem ZN:CallR X (.type "int") (fun xs H Q=>(∃i,xs=[.int i]/\Q (.int i) H)\/∃k,xs=[.bl k]/\Q (.int (if k then 1 else 0)) H):=by
 intro pins s σ H xs us Q I r h;rcases h with ⟨i,rfl,q⟩|⟨k,rfl,q⟩
 ·obtain⟨u,rfl,t,rfl⟩:=Vf r;exact call_int_int ⟨.int i,H,I,⟨_,rfl⟩,q⟩
 ·obtain⟨u,rfl,r1⟩:=Vf r;cases r1;exact call_int_bool ⟨.int (if k then 1 else 0),H,I.tok _,⟨_,rfl⟩,q⟩
theorem Jag:CallR X (.type "str") (fun xs H Q=>∃i,xs=[.int i]/\i.natAbs.log2<1920/\Q (.str (toString i)) H):=by intro pins s σ H xs us Q I r h;obtain⟨i,rfl,hz,q⟩:=h;obtain⟨u,rfl,t,rfl⟩:=Vf r;exact PySem.P.str_of_int hz ⟨.str _,H,I.tok _,⟨_,rfl⟩,q⟩
noncomputable def Jlh(K:Qq)(x:V)(H:Hp)(n:Nat):Prop :=
 match x with
 | .str y=>y.length<=Qu/\n=y.length
 | .byt y=>y.size<=Qu/\n=y.size
 | .ref p=>(∃xs,SqL K H p xs/\n=xs.length)\/∃xs,SqT K H p xs/\n=xs.length
 | _=>False
theorem Jeg:CallR X (.builtin "len") (fun xs H Q=>∃x n,xs=[x]/\Jlh X.K x H n/\Q (.int n) H):=by
 intro pins s σ H xs us Q I r h;obtain⟨x,n,rfl,e,q⟩:=h;obtain⟨u,rfl,rx⟩:=Vf r;have hl:=V7;have hs:Qu=16777216:=sizeLine_eq
 cases x with
 | str y=>obtain⟨t,rfl⟩:=rx;obtain⟨hy,e'⟩:y.length<=Qu/\n=y.length:=e;subst e';exact len_str (by omega) ⟨.int _,H,I.tok _,⟨_,rfl⟩,q⟩
 | byt y=>obtain⟨t,rfl⟩:=rx;obtain⟨hy,e'⟩:y.size<=Qu/\n=y.size:=e;subst e';exact PySem.W.len_bytes (by omega) ⟨.int _,H,I.tok _,⟨_,rfl⟩,q⟩
 | ref p =>
  cases rx;have e':(∃xs,SqL X.K H p xs/\n=xs.length)\/∃xs,SqT X.K H p xs/\n=xs.length:=e
  rcases e' with ⟨xs,hx,e'⟩|⟨xs,hx,e'⟩
  ·subst e';obtain⟨its,r',pl,hz⟩:=I.list hx;have hlen:=r'.length;exact Calls.call_len_list pl.isList (by simp only[Qn];omega) ⟨.int xs.length,H,I.tok _,⟨_,by simp only[Qn];rw[hlen]⟩,q⟩
  ·subst e';obtain⟨its,r',pl,hz⟩:=I.tuple hx;have hlen:=r'.length;exact len_tuple pl (by simp only[Qn];omega) ⟨.int xs.length,H,I.tok _,⟨_,by simp only[Qn];rw[hlen]⟩,q⟩
 | _=>exact(show False from e).elim
end
end L2

namespace L2
open PySem PySem.Spec PyProof.Rows

structure ObjM (h:QJ) (x dx C:Qc) (mA:Str->Option Qa):Prop where
 obj:h.get? x=some (instObj C dx)
 ns:h.Ns1 dx mA
 ne:dx≠x

theorem ZU{h:QJ}{dx:Qc}{mA:Str->Option Qa}(n:h.Ns1 dx mA):∃od,h.get? dx=some od/\∀name,lookIn name od=some (mA name):=by
 obtain⟨o,es,ep,ho,hd,hk,_,hm⟩:=n;refine⟨o,ho,fun name=>?_⟩;have e:=hm name;unfold nsFind findBy at e;rw[<- Array.find?_toList] at e;unfold lookIn;rw[hd];dsimp only;split
 ·rename_i y q;rw[q] at e;exact congrArg some e
 ·rename_i q;rw[q] at e
  have a:es.toList.any (·.refKey)=false:=by rw[List.any_eq_false];intro y hy;obtain⟨z,t,hkey⟩:=hk y (Array.mem_toList_iff.mp hy);simp[DictEntry.refKey,hkey]
  have a':¬es.toList.any (·.refKey)=true:=by rw[a];exact QA
  rw[if_neg a'];exact congrArg some e

theorem ObjM.look{h:QJ}{x dx C:Qc}{mA:Str->Option Qa}(I:ObjM h x dx C mA):∃od,InstAt h x (instObj C dx) C (some od)/\∀name,lookIn name od=some (mA name) :=
 let ⟨od,ho,hl⟩:=ZU I.ns
 ⟨od,⟨I.obj,rfl,rfl,ho⟩,hl⟩

section
variable{prog:Qp}{w:QC}{A:Qx}{E:Qa->Qd->Prop}{s:Qd}{K:Qq}{x dx C f:Qc}{mA:Str->Option Qa}{name:Str}{v:Qa}

end

noncomputable def Jki(f:Str)(v:V):List (Str×V)->List (Str×V)
 | []=>[(f,v)]
 | (g,x)::r=>if g=f then(g,v)::r else(g,x)::Jki f v r
section
variable{P:Qp}{w:QC}{H H':Hp}{h h':QJ}{a C dx:Qc}{fs fs':List (Str×V)}
theorem JgZ(hok:HOk P w H h)(e:H a=some (.ins C dx fs)):∃mA,ObjM h a dx C mA/\(∀f,RelO (fs.lookup f) (mA f))/\PySem.Within mA (fs.map (·.1))/\fs.length<=1000/\H dx=some (.own a):=by
 obtain⟨d,z,ne,ob,mA,n,r,q⟩:=(show ObjOk P w H h a (.ins C dx fs) from hok a _ e)
 exact⟨mA,⟨ob,n,ne⟩,r,q,z,d⟩
end

structure Cls (K:Qq) (C:Qc):Prop where
 pg:PySem.W.plainGet K C GG=true
 hd:hasDictIn K C=true
 po:PySem.W.plainOver K C=true
 sa:findIn K (.ref C) "__setattr__"=some (some (.builtin "object.__setattr__"))
theorem Cls.get{K:Qq}{C:Qc}(c:Cls K C)(f:Str):PySem.W.plainGet K C f=true:=c.pg
noncomputable def WA(K:Qq)(C:Qc)(f:Str):Prop:=findIn K (.ref C) f=some none
structure Con (K:Qq) (C:Qc) (f:Str) (v:V) (u:Qa):Prop where
 at_:findIn K (.ref C) f=some (some u)
 rel:RelV v u
 get:specialIn K u "__get__"=some none
 cp:PySem.W.copiedNames.contains f=false
structure Meth (K:Qq) (C:Qc) (m:Str) (f:Qc):Prop where
 at_:findIn K (.ref C) m=some (some (.ref f))
 fn:isFn K (.ref f)=true
 kp:keepIn K (.ref f)=true

section
variable{X:Cx}{pins:List (Qc×Obj)}{σ:St}{H:Hp}{s:Qd}{a C dx:Qc}{fs:List (Str×V)}{f:Str}{v:V}{A:Qx}{E:Qa->Qd->Prop}

theorem Inv.made(I:Inv X pins σ H s):Inv X pins σ (upd (upd H s.heap.objs.size (.own (s.heap.objs.size+1))) (s.heap.objs.size+1) (.ins C s.heap.objs.size []))
 { s with heap:=(s.heap.push emptyDict).push (instObj C s.heap.objs.size) }:=by
 have e1:(s.heap.push emptyDict).get? s.heap.objs.size=some emptyDict:=Qz s.heap rfl
 have e2:((s.heap.push emptyDict).push (instObj C s.heap.objs.size)).get? (s.heap.objs.size+1)=some (instObj C s.heap.objs.size):=by
  have:=Qz (s.heap.push emptyDict) (o:=instObj C s.heap.objs.size) rfl
  rwa [G2] at this
 have e3:(s.heap.push emptyDict).Ns s.heap.objs.size (fun _=>none):=⟨emptyDict,#[],_,e1,rfl,(fun e he=>absurd he (by simp)),fun _=>rfl⟩
 have I1:=I.laid (a:=s.heap.objs.size) (o:=.own (s.heap.objs.size+1)) (h':=s.heap.push emptyDict) (t':=s.toks) (fun b u q=>Qg _ q) (Qr _) ⟨_,e1⟩;refine I1.laid (a:=s.heap.objs.size+1) (o:=.ins C s.heap.objs.size []) (t':=s.toks) (fun b u q=>Qg _ q) (MN (G2 _ _)) ?_
 have ne:s.heap.objs.size≠s.heap.objs.size+1:=QG (K2 _);refine⟨by rw[Jm ne,JF],Lz _,ne,e2,fun _=>none,(MO e3).at fun o q=>Qg _ q,fun _=>True.intro,fun y hy=>absurd rfl hy⟩

theorem Jgb{prog:Qp}{w:QC}{env:Env}{e:QQ}{f:Str}{pos:Pos}{s:Qd}{Q:Qa->Qd->Prop}(hb:attributeBase e f env (eval e env)=eval e env)
 (h:wpAny (model prog w) A (eval e env) (fun o s₁=>wpAny (model prog w) A (getAttr o f true) Q E s₁) E s):wpAny (model prog w) A (eval (.Attribute e f pos) env) Q E s :=
 Attribute_any_ h (by rw[arm_eval_Attribute,hb])
end

noncomputable def JmN(K:Qq)(ta:TE)(f:Str):TE:=fun σ H Q=>ta σ H fun x H1=>∃a C dx fs v,x=.ref a/\H1 a=some (.ins C dx fs)/\Cls K C/\WA K C f/\fs.lookup f=some v/\Q v H1
noncomputable def JmK(K:Qq)(ta tv:TE)(f:Str):TS:=fun D σ H=>tv σ H fun y H1=>ta σ H1 fun x H2=>∃a C dx fs,x=.ref a/\H2 a=some (.ins C dx fs)/\Cls K C/\WA K C f/\fs.length<1000 ∧
 D.nx σ (upd H2 a (.ins C dx (Jki f y fs)))
section
variable{X:Cx}{o e value:QQ}{f:Str}{pos pos' tpos:Pos}{ta tv:TE}
end

section
variable{X:Cx}{pins:List (Qc×Obj)}{σ:St}{H:Hp}{s:Qd}{A:Qx}{E:Qa->Qd->Prop}{Q:Qa->Qd->Prop}{c:Qa}{b:Bool}
inductive TyOf (K:Qq) (H:Hp):V->Qa->Prop where
 | non:TyOf K H .non (.type "NoneType")
 | bl (x:Bool):TyOf K H (.bl x) (.type "bool")
 | int (i:Int):TyOf K H (.int i) (.type "int")
 | str (x:Str):TyOf K H (.str x) (.type "str")
 | flt (x:UInt64):TyOf K H (.flt x) (.type "float")
 | lst {a:Qc} {xs:List V} (e:H a=some (.lst xs)):TyOf K H (.ref a) (.type "list")
 | frz {a:Qc} {o:Obj} {xs:List V} (e:H a=some (.frz o (.lst xs))):TyOf K H (.ref a) (.type "list")
 | tup {a:Qc} {xs:List V} (e:H a=some (.tup xs)):TyOf K H (.ref a) (.type "tuple")
 | dK {a:Qc} {kvs:List (Key×V)} (e:H a=some (.dK kvs)):TyOf K H (.ref a) (.type "dict")
 | dT {a:Qc} {kvs:List (List Key×V)} (e:H a=some (.dT kvs)):TyOf K H (.ref a) (.type "dict")
 | ins {a C dx:Qc} {fs:List (Str×V)} (e:H a=some (.ins C dx fs)) (cl:Cls K C) (ha:findIn K (.ref C) "__class__"=some (some (.builtin "object.__class__")))
  (hn:specialIn K (.builtin "object.__class__") "__get__"=some (some (.builtin "getset_descriptor.__get__"))) (htk:takesIn K (.builtin "object.__class__")=some true)
  (hm:mroIn K C (.type "object")=some true):TyOf K H (.ref a) (.ref C)
theorem JdI{x:V}{u t:Qa}(I:Inv X pins σ H s)(rx:RelV x u)(ty:TyOf X.K H x t)(e:kitOne X.K t c=some b)(h:∀tk,Q (.bool b) { s with toks:=tk }) :
 wpAny (model X.prog X.w) A (call (.builtin "isinstance") [u,c]) Q E s:=by
 cases ty with
 | non=>cases (show u=Value.none from rx);exact kia_one PySem.W.kitx_none I.kIn True.intro e (fun z=>nomatch z) h
 | bl y=>cases (show u=Value.bool y from rx);exact kia_one PySem.W.kitx_bool I.kIn True.intro e (fun z=>nomatch z) h
 | int i=>obtain⟨t,q⟩:=(show ∃t,u=Value.int i t from rx);cases q;exact kia_one PySem.W.kitx_int I.kIn True.intro e (fun z=>nomatch z) h
 | str y=>obtain⟨t,q⟩:=(show ∃t,u=Value.str y t from rx);cases q;exact kia_one PySem.W.kitx_str I.kIn True.intro e (fun z=>nomatch z) h
 | flt y=>obtain⟨t,q⟩:=(show ∃t,u=Value.float y t from rx);cases q;exact kia_one PySem.W.kitx_float I.kIn True.intro e (fun z=>nomatch z) h
 | @lst a xs ea =>
  cases (show u=Value.ref a from rx);obtain⟨_,_,n,_,h1⟩:=(show ObjOk X.prog X.w H s.heap a (.lst xs) from I.hok a _ ea)
  exact kia_one kitx_list I.kIn ⟨_,h1,rfl⟩ e (fun z=>nomatch z) h
 | @frz a ob xs ea =>
  cases (show u=Value.ref a from rx);obtain⟨_,_,_,n,_,h1⟩:=(show ObjOk X.prog X.w H s.heap a (.frz ob (.lst xs)) from I.hok a _ ea)
  exact kia_one kitx_list I.kIn ⟨_,h1,rfl⟩ e (fun z=>nomatch z) h
 | @tup a xs ea =>
  cases (show u=Value.ref a from rx);obtain⟨_,_,_,p⟩:=(show ObjOk X.prog X.w H s.heap a (.tup xs) from I.hok a _ ea)
  obtain⟨o,h1,h2,_⟩:=p;exact kia_one MF I.kIn ⟨o,h1,h2⟩ e (fun z=>nomatch z) h
 | @dK a kvs ea =>
  cases (show u=Value.ref a from rx);obtain⟨_,_,vs,_,p⟩:=(show ObjOk X.prog X.w H s.heap a (.dK kvs) from I.hok a _ ea)
  obtain⟨o,es,ep,h1,h2,_⟩:=p;exact kia_one MP I.kIn ⟨o,h1,h2.1⟩ e (fun z=>nomatch z) h
 | @dT a kvs ea =>
  cases (show u=Value.ref a from rx);obtain⟨_,_,xs,_,o,es,ep,h1,h2,_⟩:=(show ObjOk X.prog X.w H s.heap a (.dT kvs) from I.hok a _ ea)
  exact kia_one MP I.kIn ⟨o,h1,h2.1⟩ e (fun z=>nomatch z) h
 | @ins a C dx fs ea cl ha hn htk hm=>cases (show u=Value.ref a from rx);obtain⟨mA,O,_⟩:=JgZ I.hok ea;obtain⟨od,J,_⟩:=O.look;exact kia_one (PySem.W.kitx_own (cl.get _) cl.hd ha hn htk hm) I.kIn J e (fun z=>nomatch z) h
end
end L2

namespace L2
open PySem PySem.Spec PyProof.Rows

structure Room (k:Nat) (A:Qx):Prop where
 hd:A.handled=none
 dp:A.depth+3*k+5<recursionLimit
 un:A.units+16*k+200<cLine
theorem Room.mono{j k:Nat}{A:Qx}(r:Room k A)(h:j<=k):Room j A:=⟨r.hd,by have:=r.dp;omega,by have:=r.un;omega⟩
theorem Room.deeper{k:Nat}{A:Qx}(r:Room (k+1) A)(env:Env):Room k (A.deeper env) :=
 ⟨r.hd,by have:=r.dp;show A.depth+1+3*k+5<_;omega,by have:=r.un;show A.units+3+16*k+200<_;omega⟩
theorem Room.in1{k:Nat}{A:Qx}(r:Room (k+1) A):Room k A.in1 :=
 ⟨r.hd,by have:=r.dp;show A.depth+3*k+5<_;omega,by have:=r.un;show A.units+1+16*k+200<_;omega⟩
theorem JbX{A:Qx}{C:Qc}{us:List Qa}{kw:List (Str×Qa)}:(A.under (.builtin "type.__call__" ⟨.ref C::us,kw⟩)).depth=A.depth+1:=by first | rfl | simp[MQ,Code.weight,Code.isCreation,Code.isGuard,Code.isCaller,Code.frames,MR,guardIds]
theorem JbY{A:Qx}{C:Qc}{us:List Qa}{kw:List (Str×Qa)}:(A.under (.builtin "type.__call__" ⟨.ref C::us,kw⟩)).units=A.units+1:=by first | rfl | simp[MQ,Code.cUnits,Code.frames,MR]
theorem Room.make{k:Nat}{A:Qx}(r:Room (k+1) A)(C:Qc)(us:List Qa)(kw:List (Str×Qa)):Room k (A.under (.builtin "type.__call__" ⟨.ref C::us,kw⟩)) :=
 ⟨r.hd,by have:=r.dp;rw[JbX];omega,by have:=r.un;rw[JbY];omega⟩
theorem Room.depth{k:Nat}{A:Qx}(r:Room k A):A.depth<recursionLimit:=by have:=r.dp;omega
theorem Room.units{k:Nat}{A:Qx}(r:Room k A):A.units+64<cLine:=by have:=r.un;omega
noncomputable def ZF:TA:=fun _ H Q=>Q [] H
noncomputable def Uc(ta:TE)(tr:TA):TA:=fun σ H Q=>ta σ H fun x H1=>tr σ H1 fun xs H2=>Q (x::xs) H2
section
variable{X:Cx}{e:QQ}{es:List QQ}{te:TE}{t:TA}{pos:Pos}
theorem Je:PA X [] ZF:=fun _ _ _ _ H Q I h=>Calls.spliced_nil ⟨[],H,I,.nil,h⟩
theorem Ja(ha:PE X e te)(hr:PA X es t)(hs:starEach (e::es) X.env=(false,eval e X.env)::starEach es X.env:=by rfl):PA X (e::es) (Uc te t):=by intro pos pins s σ H Q I h;rw[hs];show wpAny _ _ (spliced ((false,eval e X.env)::backTo pos (starEach es X.env))) _ _ s;refine Calls.spliced_cons (thn (ha pins s σ H _ I h) fun u s1 ⟨x,H1,I1,r1,q1⟩=>?_);exact thn (hr pos pins s1 σ H1 _ I1 q1) fun us s2 ⟨xs,H2,I2,r2,q2⟩=>⟨x::xs,H2,I2,.cons r1 r2,q2⟩

noncomputable def JkZ(t:TA):TE:=fun σ H Q=>t σ H fun xs H1=>xs.length<=Qu/\∀p,H1 p=none->Q (.ref p) (upd H1 p (.tup xs))
noncomputable def Jh5(t:TA):TE:=fun σ H Q=>t σ H fun xs H1=>xs.length<=Qu/\∀p,H1 p=none->Q (.ref p) (upd H1 p (.lst xs))
theorem Vp{x1}(h:PA X es t):PE X (.Tuple es x1 pos) (JkZ t):=by intro pins s σ H Q I hq;refine wpAny_Tuple_spliced (thn (h pos pins s σ H _ I hq) fun us s1 ⟨xs,H1,I1,r,z,q⟩=>⟨by rw[<- r.length];exact z,?_⟩);have hf:H1 s1.heap.objs.size=none:=I1.hok.fresh (Qr _);refine⟨.ref s1.heap.objs.size,upd H1 s1.heap.objs.size (.tup xs),I1.laid (t':=s1.toks) (fun b u e=>Qg _ e) (Qr _) ?_,rfl,q _ hf⟩;exact⟨z,us,r,⟨_,Qz _ rfl,rfl,_,rfl⟩⟩
theorem JQ(h:PA X es t):PE X (.List es pos) (Jh5 t):=by intro pins s σ H Q I hq;refine wpAny_List_spliced (thn (h pos pins s σ H _ I hq) fun us s1 ⟨xs,H1,I1,r,z,q⟩=>⟨by rw[<- r.length];exact z,?_⟩);have hf:H1 s1.heap.objs.size=none:=I1.hok.fresh (Qr _);refine⟨.ref s1.heap.objs.size,upd H1 s1.heap.objs.size (.lst xs),I1.laid (t':=s1.toks) (fun b u e=>Qg _ e) (Qr _) ?_,rfl,q _ hf⟩;exact⟨z,us,0,r,Qz _ rfl⟩
end

noncomputable abbrev Sp:=List V->Hp->VK->XK->Prop
noncomputable abbrev CXT:=List Env->Hp->Qd->XK->Qa->Qd->Prop

structure Env0 (P:Qp) (w:QC) (K:Qq) (mg:Str->Option Qa) (base:QJ) (A:Qx) (outer:List Env) (s:Qd) (H:Hp):Prop where
 frames:A.frames=some outer
 mod:Mod K mg base
 bs:∀b o,base.get? b=some o->s.heap.get? b=some o/\H b=none
 bsz:base.objs.size<=s.heap.objs.size
 funs:s.heap.FunFrames base outer
 frf:∀b∈frs outer,H b=none
 hok:HOk P w H s.heap
 bare:AllBare s.gens
noncomputable def CE(outer:List Env)(P:Qp)(w:QC)(H:Hp)(s:Qd)(Q:VK)(u:Qa)(s':Qd):Prop :=
 ∃v H',s'.os=s.os/\AllBare s'.gens/\Un (frs outer) [] H H' s.heap s'.heap/\HOk P w H' s'.heap/\RelV v u/\Q v H'
noncomputable def CR(CX:CXT)(outer:List Env)(P:Qp)(w:QC)(H:Hp)(s:Qd)(Q:VK)(E:XK)(r:Result)(s':Qd):Prop :=
 match r with
 | .ok (.ret u)=>CE outer P w H s Q u s'
 | .ok _=>False
 | .error e=>CX outer H s E e s'
structure FnOk (P:Qp) (w:QC) (K:Qq) (mg:Str->Option Qa) (base:QJ) (CX:CXT) (k:Nat) (f:Qc) (fd:QH) (ps:List Str) (sp:Sp):Prop where
 len:∀vs H Q E,sp vs H Q E->vs.length=ps.length
 run:∀(A:Qx) (outer:List Env) (s:Qd) (H:Hp) (args:Args) (us:List Qa) (vs:List V) (Q:VK) (E:XK),Room k A->Env0 P w K mg base A outer s H->BindsTo s fd args (ps.zip us)->Vals vs us->sp vs H Q E ->
  codeAny (model P w) A (.call (.ref f) args) (CR CX outer P w H s Q E) s
theorem FnOk.mono{P:Qp}{w:QC}{K:Qq}{mg:Str->Option Qa}{base:QJ}{CX:CXT}{j k:Nat}{f:Qc}{fd:QH}{ps:List Str}{sp:Sp}(F:FnOk P w K mg base CX j f fd ps sp)(h:j<=k) :
 FnOk P w K mg base CX k f fd ps sp:=⟨F.len,fun A outer s H args us vs Q E hr=>F.run A outer s H args us vs Q E (hr.mono h)⟩
theorem FnOk.imp{P:Qp}{w:QC}{K:Qq}{mg:Str->Option Qa}{base:QJ}{CX:CXT}{k:Nat}{f:Qc}{fd:QH}{ps:List Str}{sp sp':Sp}(F:FnOk P w K mg base CX k f fd ps sp)
 (h:∀vs H Q E,sp' vs H Q E->sp vs H Q E):FnOk P w K mg base CX k f fd ps sp' :=
 ⟨fun vs H Q E q=>F.len vs H Q E (h _ _ _ _ q),fun A outer s H args us vs Q E hr he hb hv hs=>F.run A outer s H args us vs Q E hr he hb hv (h _ _ _ _ hs)⟩

theorem Env0.make{P:Qp}{w:QC}{K:Qq}{mg:Str->Option Qa}{base:QJ}{A:Qx}{outer:List Env}{s:Qd}{H:Hp}(e:Env0 P w K mg base A outer s H)(C:Qc)(us:List Qa)(kw:List (Str×Qa)) :
 Env0 P w K mg base (A.under (.builtin "type.__call__" ⟨.ref C::us,kw⟩)) outer s H:=⟨by first | exact e.frames | (simpa [MQ,Code.envs,MR,pushEnvs] using e.frames),e.mod,e.bs,e.bsz,e.funs,e.frf,e.hok,e.bare⟩
theorem Env0.in1{P:Qp}{w:QC}{K:Qq}{mg:Str->Option Qa}{base:QJ}{A:Qx}{outer:List Env}{s:Qd}{H:Hp}(e:Env0 P w K mg base A outer s H) :
 Env0 P w K mg base A.in1 outer s H:=⟨e.frames,e.mod,e.bs,e.bsz,e.funs,e.frf,e.hok,e.bare⟩

section
variable{X:Cx}{pins:List (Qc×Obj)}{σ:St}{H:Hp}{s s':Qd}
theorem Inv.env0(I:Inv X pins σ H s):Env0 X.prog X.w X.K X.mg X.base X.A X.stack s H :=
 ⟨I.ok.frames,I.ok.mod,I.bs,QK I.ok.bsz I.sz,I.stack,I.stkFree,I.hok,I.bare⟩
theorem Inv.after{Q:VK}{u:Qa}(I:Inv X pins σ H s)(h:CE X.stack X.prog X.w H s Q u s'):EP X pins σ Q u s':=by obtain⟨v,H',os,bare,un,hok,r,q⟩:=h;obtain⟨hh,g,d,t,os'⟩:=s';obtain rfl:os'=s.os:=os;exact⟨v,H',I.call (h':=hh) (g':=g) (d':=d) (t':=t) (ch:=[]) un hok bare (fun b z=>absurd z (by simp)),r,q⟩
end

noncomputable def Wl(sp:Sp)(dvs:List V)(E:XK)(t:TA):TE:=fun σ H Q=>t σ H fun vs H1=>sp (vs++dvs) H1 Q E
noncomputable def Jmi(C:Qc)(sp:Sp)(dvs:List V)(E:XK)(t:TA):TE:=fun σ H Q=>t σ H fun vs H1=>∀x dx,H1 x=none->H1 dx=none->dx≠x ->
 sp (.ref x::(vs++dvs)) (upd (upd H1 dx (.own x)) x (.ins C dx [])) (fun v H2=>v=.non/\Q (.ref x) H2) E

noncomputable def Binds(K:Qq)(fd:QH)(ps:List Str)(ds:List Qa):Prop :=
 ∀(s:Qd) (us:List Qa),K.In s.heap->(us++ds).length=ps.length->BindsTo s fd ⟨us,[]⟩ (ps.zip (us++ds))
theorem Binds.all{K:Qq}{fd:QH}{ps:List Str}(h:∀us:List Qa,us.length=ps.length->bindArgs fd ⟨us,[]⟩=pure (ps.zip us)):Binds K fd ps []:=fun s us _ hl=>by rw[QT] at hl ⊢;exact .of_eq (h us hl)

noncomputable def WB(CX:CXT)(X:Cx)(E:XK):Prop:=∀(pins:List (Qc×Obj)) (σ:St) (H:Hp) (s:Qd) (e:Qa) (s':Qd),Inv X pins σ H s->CX X.stack H s E e s'->X.xe e s'

section
variable{X:Cx}{CX:CXT}{k:Nat}{f C:Qc}{fd:QH}{ps:List Str}{sp:Sp}{dvs:List V}{ds:List Qa}{E:XK}{x m:Str}{p pos apos:Pos}{e o:QQ}{es:List QQ}{ta:TE}{t:TA}

theorem JkO{pins:List (Qc×Obj)}{σ:St}{H:Hp}{s:Qd}{Q:VK}{us:List Qa}{vs:List V}(F:FnOk X.prog X.w X.K X.mg X.base CX k f fd ps sp)(hr:Room k X.A)(hb:Binds X.K fd ps ds)(hd:Vals dvs ds)(hx:WB CX X E)
 (I:Inv X pins σ H s) (r:Vals vs us) (h:sp (vs++dvs) H Q E):wpAny (model X.prog X.w) X.A (call (.ref f) us) (EP X pins σ Q) X.xe s:=by
 have r2:Vals (vs++dvs) (us++ds):=r.append hd
 have hl:(us++ds).length=ps.length:=by rw[<- r2.length];exact F.len _ _ _ _ h
 refine Ln (Ks (F.run X.A X.stack s H ⟨us,[]⟩ (us++ds) (vs++dvs) Q E hr I.env0 (hb s us I.kIn hl) r2 h) fun r s' hq=>?_)
 cases r with
 | error e=>exact hx pins σ H s e s' I hq
 | ok fl =>
  cases fl with
  | ret u=>exact I.after hq
  | next=>exact Q3 hq
  | brk=>exact Q3 hq
  | cont=>exact Q3 hq

theorem JcR(F:FnOk X.prog X.w X.K X.mg X.base CX k f fd ps sp)(hr:Room k X.A)(hg:Gl X x)(hm:X.mg x=some (.ref f))(hk:keepIn X.K (.ref f)=true)(hb:Binds X.K fd ps ds)(hd:Vals dvs ds)(hx:WB CX X E)
 (ha:PA X (e::es) t) (hdb:(x == ("__debug__":Str))=false:=by decide) (he:starEach (e::es) X.env=(false,eval e X.env)::starEach es X.env:=by rfl) (hpl:(backTo pos (starEach es X.env)).any (·.1)=false:=by rfl) :
 PE X (.Call (.Name x p) (e::es) [] pos) (Wl sp dvs E t):=by
 intro pins s σ H Q I h;refine G8 (UC I hg hm ?_ hdb);refine MG (h₀:=X.base) I.ok.mod.kin hk (thn (ha pos pins s σ H _ I h) fun us s1 ⟨vs,H1,I1,r,q⟩=>⟨I1.kIn,?_⟩) he hpl;exact JkO F hr hb hd hx I1 r q
structure Mk (K:Qq) (C f:Qc):Prop where
 makes:PySem.W.makesIn K C=true
 init:findIn K (.ref C) "__init__"=some (some (.ref f))
 fn:isFn K (.ref f)=true
 kp:keepIn K (.ref C)=true

end

section
variable{X:Cx}{CX:CXT}{k:Nat}{f C:Qc}{fd:QH}{ps ks:List Str}{sp:Sp}{E:XK}{x m:Str}{p pos apos kpos:Pos}{e o:QQ}{es:List QQ}{kws:List Lh}{te ta:TE}{t tk:TA}{nm:Option Str}
structure KBinds (K:Qq) (fd:QH) (ps ks:List Str) (g:List Qa->List Qa->List Qa) (gV:List V->List V->List V):Prop where
 to:∀(s:Qd) (us ws:List Qa),K.In s.heap->(g us ws).length=ps.length->BindsTo s fd ⟨us,ks.zip ws⟩ (ps.zip (g us ws))
 rel:∀{vs:List V} {us:List Qa} {zs:List V} {ws:List Qa},Vals vs us->Vals zs ws->Vals (gV vs zs) (g us ws)
variable{g:List Qa->List Qa->List Qa}{gV:List V->List V->List V}
end

structure FnScope (N P:List Str) (sc:Lx):Prop where
 kind:sc.kind=.function
 co:sc.isCoroutine=false
 gen:sc.isGenerator=false
 nd:N.Nodup
 pre:N.take P.length=P
 par:∀x∈P,sc.names.lookup x=some .local\/sc.names.lookup x=some .cell
 nofree:∀y∈sc.names,y.2≠.free

theorem ZL{kindOf:Str->Option NameKind}{x:Str}:∀{binds:List (Str×Qa)} {m:Str->Option Qa},(∀v,(x,v)∉binds)->bindL kindOf binds m x=m x
 | [],_,_=>rfl
 | (n,v)::r,m,h=>by
  unfold bindL;rw[ZL fun w hw=>h w (Qj _ hw)];split
  ·have:x≠n:=by rintro rfl;exact h v QB
   simp[this]
  ·rfl
theorem ZJ{kindOf:Str->Option NameKind}{x:Str}:∀{binds:List (Str×Qa)} {m:Str->Option Qa},(∀v,(x,v)∉binds)->bindC kindOf binds m x=m x
 | [],_,_=>rfl
 | (n,v)::r,m,h=>by
  unfold bindC;rw[ZJ fun w hw=>h w (Qj _ hw)];split
  ·rfl
  ·have:x≠n:=by rintro rfl;exact h v QB
   simp[this]
theorem ZK{kindOf:Str->Option NameKind}{x:Str}{v:Qa}:∀{P:List Str} {vs:List Qa} {i:Nat} {m:Str->Option Qa},P.Nodup->P[i]?=some x->vs[i]?=some v->kindOf x=some .local ->
 bindL kindOf (P.zip vs) m x=some v
 | [],_,_,_,_,h,_,_=>by simp at h
 | _::_,[],_,_,_,_,h,_=>by simp at h
 | p::P,w::vs,0,m,nd,h1,h2,hk=>by simp at h1 h2;subst h1;subst h2;show bindL kindOf ((p,w)::P.zip vs) m p=_;unfold bindL;rw[ZL fun v hv=>(KH.mp nd).1 (Lc hv).1,if_pos hk];simp
 | p::P,w::vs,i+1,m,nd,h1,h2,hk=>by show bindL kindOf ((p,w)::P.zip vs) m x=_;unfold bindL;exact ZK (i:=i) (KH.mp nd).2 (by simpa using h1) (by simpa using h2) hk
theorem ZI{kindOf:Str->Option NameKind}{x:Str}{v:Qa}:∀{P:List Str} {vs:List Qa} {i:Nat} {m:Str->Option Qa},P.Nodup->P[i]?=some x->vs[i]?=some v->kindOf x≠some .local ->
 bindC kindOf (P.zip vs) m x=some v
 | [],_,_,_,_,h,_,_=>by simp at h
 | _::_,[],_,_,_,_,h,_=>by simp at h
 | p::P,w::vs,0,m,nd,h1,h2,hk=>by simp at h1 h2;subst h1;subst h2;show bindC kindOf ((p,w)::P.zip vs) m p=_;unfold bindC;rw[ZJ fun v hv=>(KH.mp nd).1 (Lc hv).1,if_neg hk];simp
 | p::P,w::vs,i+1,m,nd,h1,h2,hk=>by show bindC kindOf ((p,w)::P.zip vs) m x=_;unfold bindC;exact ZI (i:=i) (KH.mp nd).2 (by simpa using h1) (by simpa using h2) hk

noncomputable def YD(N:List Str)(vs:List V):St:=vs.map some++QO (N.length-vs.length) none

noncomputable def WG(CX:CXT)(P:Qp)(w:QC)(K:Qq)(mg:Str->Option Qa)(base:QJ)(N:List Str)(qual:Str)(scope:Lx)(f:Qc)(cd:Qa)(A:Qx)(outer:List Env)(s:Qd)(H:Hp)(E:XK):Cx where
 prog:=P
 w:=w
 K:=K
 mg:=mg
 base:=base
 A:=A.deeper (envOfC qual scope s.heap.objs.size f cd)
 N:=N
 s₀:=s
 H₀:=H
 env:=envOfC qual scope s.heap.objs.size f cd
 outer:=outer
 stack:=envOfC qual scope s.heap.objs.size f cd::outer
 ex:=[]
 calm:=true
 fn:=fun _=>true
 pn:=[]
 xe:=fun e s'=>wpAny (model P w) (A.deeper (envOfC qual scope s.heap.objs.size f cd)) (leaving (envOfC qual scope s.heap.objs.size f cd) e) (fun _ s''=>CX outer H s E e s'') (fun e' s''=>CX outer H s E e' s'') s'

theorem Ja0{sc:Lx}{n:Nat}{x:Str}(h:sc.names.lookup x=some .cell):∃c,(cellsFrom n sc.names []).lookup x=some c:=by have q:=L7 sc.names n [] (.inl h);exact KD.mp q

theorem JdB{CX:CXT}{P:Qp}{w:QC}{K:Qq}{mg:Str->Option Qa}{base:QJ}{N ps:List Str}{qual:Str}{scope:Lx}{f:Qc}{cd:Qa}{A:Qx}{outer:List Env}{s s1:Qd}{H:Hp}{E:XK}{us:List Qa}{vs:List V}
 (S:FnScope N ps scope) (hd:A.handled=none) (e0:Env0 P w K mg base A outer s H) (hl:vs.length=ps.length) (r:Vals vs us)
 (x:InCallC s s.heap.objs.size (bindL (envOfC qual scope s.heap.objs.size f cd).kindOf (ps.zip us) fun _=>none) (cellsFrom (s.heap.objs.size+1) scope.names []) (bindC (envOfC qual scope s.heap.objs.size f cd).kindOf (ps.zip us) fun _=>none) s1) :
 Inv (WG CX P w K mg base N qual scope f cd A outer s H E) [] (YD N vs) H s1:=by
 have hpl:ps.length<=N.length:=by have:=congrArg Mo S.pre;rw[GH] at this;omega
 obtain⟨h1,tk,rfl,hk⟩:=x.done;have noA:∀b:Qc,b∉(WG CX P w K mg base N qual scope f cd A outer s H E).ex:=fun b z=>absurd (show b∈([]:List Qc) from z) (by simp)
 refine⟨⟨e0.mod,S.kind,rfl,rfl,Qr _,fun y z c h1 h2=>?_,fun y hy=>?_,fun y c _ h=>?_,fun _=>hd,Around.frames_deeper e0.frames,.inr ⟨rfl,rfl⟩,fun b z=>absurd z (noA b),e0.bs,e0.bsz,fun b _ _=>noA b,fun b z=>absurd z (noA b),e0.funs,e0.frf⟩,
  rfl,e0.bare,Un.kept hk,⟨_,x.toInCall.ns,fun i y v h1 h2 h3=>?_⟩,fun y c h=>⟨_,x.cell y c h⟩,e0.hok.fresh (Qr _),fun y c h=>?_,fun p hp=>absurd (show p∈([]:List (Qc×Obj)) from hp) (by simp),e0.hok.kept hk,?_⟩
 ·exact name_of_addr x.apart (GA h1) (GA h2)
 ·have hy:scope.names.lookup y=some .cell\/scope.names.lookup y=some .free:=hy;rcases hy with hy|hy
  ·exact Ja0 hy
  ·exact absurd rfl (S.nofree _ (GA hy))
 ·exact KN (x.above y c (GA h))
 ·have hi:i<vs.length:=by
   unfold YD at h2
   by_cases hi:i<vs.length
   ·exact hi
   ·rw[QM (by simpa using hi)] at h2;rw[KL] at h2;split at h2 <;> cases h2
  have ha:vs[i]?=some v:=by
   unfold YD at h2;rw[QF (by simpa using hi),QR] at h2
   cases e:vs[i]? with
   | none=>rw[e] at h2;cases h2
   | some a=>rw[e] at h2;cases h2;rfl
  obtain⟨u,hu,rv⟩:=r.get ha
  have hp:ps[i]?=some y:=by rw[<- S.pre,List.getElem?_take_of_lt (by omega)];exact h1
  have ndP:ps.Nodup:=by rw[<- S.pre];exact S.nd.sublist (List.take_sublist _ _)
  refine⟨u,rv,?_⟩;rcases S.par y (QX hp) with k|k
  ·exact .inl ⟨k,ZK ndP hp hu k⟩
  ·obtain⟨c,e⟩:=Ja0 (n:=s.heap.objs.size+1) k;refine .inr ⟨.inl k,c,e,?_⟩;have q:=x.cell y c e;rw[ZI ndP hp hu (by show scope.names.lookup y≠_;rw[k];decide)] at q;exact q
 ·exact e0.hok.fresh (KN (x.above y c (GA h)))
 ·unfold YD;show _=N.length;rw[Qh,Qy,List.length_replicate];omega

theorem Jiq{CX:CXT}{P:Qp}{w:QC}{K:Qq}{mg:Str->Option Qa}{base:QJ}{k:Nat}{f:Qc}{name qual:Str}{params:Arguments}{body:List Gw}{scope:Lx}{dV kV doc pm cdv ct oc:Qa}{an od:Option Qc}
 {osl:Array (Option Qa)} {N ps:List Str} {sp:Sp} (lk:K.lookup f=some ⟨oc,od,.func (fnOf name qual params body scope dV kV doc pm an cdv ct),osl⟩) (hcd:codeIn K cdv qual=true) (S:FnScope N ps scope)
 (len:∀vs H Q E,sp vs H Q E->vs.length=ps.length)
 (hbody:∀(A:Qx) (outer:List Env) (s:Qd) (H:Hp) (vs:List V) (Q:VK) (E:XK),Room k (A.deeper (envOfC qual scope s.heap.objs.size f cdv))->sp vs H Q E ->
  ∃t,PSs (WG CX P w K mg base N qual scope f cdv A outer s H E) body t/\t { nx:=fun _ H'=>Q .non H',rt:=Q } (YD N vs) H) :
 FnOk P w K mg base CX (k+1) f (fnOf name qual params body scope dV kV doc pm an cdv ct) ps sp:=by
 refine⟨len,fun A outer s H args us vs Q E hr e0 hb r hsp=>?_⟩;have hl:=len _ _ _ _ hsp;have KX:K.In s.heap:=e0.mod.kin.keeps fun b o e=>(e0.bs b o e).1
 have lim:s.heap.NoLimit:=e0.mod.nolimit.keeps fun b o e=>(e0.bs b o e).1
 have hkind:∀y∈ps.zip us,scope.names.lookup y.1=some .local\/(scope.names.lookup y.1=some .cell/\((cellsFrom (s.heap.objs.size+1) scope.names []).lookup y.1).isSome=true):=fun⟨n,v⟩ hy=>by
  rcases S.par n (Lc hy).1 with q|q
  ·exact .inl q
  ·exact .inr ⟨q,L7 _ _ _ (.inl q)⟩
 refine codeAny_call_function hr.depth (KX _ _ lk) rfl S.co S.gen rfl (PySem.W.codeRec_of KX hcd) (hb _ _ _ _ ?_);refine wpAny_newFunctionEnv_cells S.kind hkind fun env he s1 x=>?_
 subst he;refine⟨lim.keeps x.toInCall.keep,codeAny_func ?_⟩;obtain⟨t,ht,hq⟩:=hbody A outer s H vs Q E (hr.deeper _) hsp;have I:Inv (WG CX P w K mg base N qual scope f cdv A outer s H E) [] (YD N vs) H s1:=JdB S hr.hd e0 hl r x;refine Q2 (ht [] s1 (YD N vs) H _ I hq) (fun fl s' hs=>?_) fun e s' hs=>hs
 have fin:∀{σ':St} {H':Hp} {v:V} {u:Qa},Inv (WG CX P w K mg base N qual scope f cdv A outer s H E) [] σ' H' s'->RelV v u->Q v H'->CE outer P w H s Q u s' :=
  fun {σ' H' v u} J rv q=>⟨v,H',J.os,J.bare,J.base,J.hok,rv,q⟩
 cases fl with
 | ret u=>obtain⟨v,σ',H',J,rv,q⟩:=hs;exact fin J rv q
 | next=>obtain⟨σ',H',J,q⟩:=hs;exact fin (v:=V.non) (u:=Value.none) J rfl q
 | brk=>obtain⟨_,_,_,q⟩:=hs;exact Q3 q
 | cont=>obtain⟨_,_,_,q⟩:=hs;exact Q3 q
end L2

namespace L2
open PySem PySem.Spec PyProof.Rows
section
variable{X:Cx}{x:Str}{p pos:Pos}{e:QQ}{es:List QQ}{t:TA}{id T:String}{r:List V->Hp->VK->Prop}

noncomputable def tCB(r:List V->Hp->VK->Prop)(t:TA):TE:=fun σ H Q=>t σ H fun vs H1=>r vs H1 Q
theorem Jv(hc:CallR X (.builtin id) r)(hg:Gl X x)(hm:X.mg x=none)(hv:bootBuiltins x=some (.builtin id))(ha:PA X (e::es) t)(hn:x≠"__name__":=by decide)(hdb:(x == ("__debug__":Str))=false:=by decide)
 (he:starEach (e::es) X.env=(false,eval e X.env)::starEach es X.env:=by rfl) (hpl:(backTo pos (starEach es X.env)).any (·.1)=false:=by rfl):PE X (.Call (.Name x p) (e::es) [] pos) (tCB r t):=by
 intro pins s σ H Q I h;refine G8 (WU I hg hm hv ?_ hn hdb);exact PyProof.Rows.callWith_builtin1 (thn (ha pos pins s σ H _ I h) fun us s1 ⟨vs,H1,I1,r1,q1⟩=>hc pins s1 σ H1 vs us Q I1 r1 q1) he hpl
theorem Yy(hc:CallR X (.type T) r)(hg:Gl X x)(hm:X.mg x=none)(hv:bootBuiltins x=some (.type T))(ha:PA X (e::es) t)(hn:x≠"__name__":=by decide)(hdb:(x == ("__debug__":Str))=false:=by decide)
 (he:starEach (e::es) X.env=(false,eval e X.env)::starEach es X.env:=by rfl) (hpl:(backTo pos (starEach es X.env)).any (·.1)=false:=by rfl):PE X (.Call (.Name x p) (e::es) [] pos) (tCB r t):=by
 intro pins s σ H Q I h;refine G8 (WU I hg hm hv ?_ hn hdb);exact Lg (thn (ha pos pins s σ H _ I h) fun us s1 ⟨vs,H1,I1,r1,q1⟩=>hc pins s1 σ H1 vs us Q I1 r1 q1) he hpl
end
end L2

namespace HT
open PySem PyProof.Rows

theorem Ja5(A:Qx)(s:Qd)(a:Int)(t:Tok)(c:Int)(u:Tok):∃e,SeqAt.EqAt A s (.int a t) (.int c u) e/\(e=true↔a=c) :=
 ⟨(a == c),MH a t c u,by simp⟩
section
open PySem.SeqAt
open PySem.AutoSeq1 (wpAny_loadPart')
open PySem.MeetsSeq PySem.MeetsSeq2 PySem.MeetsSeq3

end

section
variable{prog:Qp}{w:QC}{A:Qx}{E:Qa->Qd->Prop}{s:Qd}

theorem Jgh{t b:Qc}{vs ws:List Qa}{Q:Qa->Qd->Prop}(ht:IsTup s.heap t vs.toArray)(hb:IsTup s.heap b ws.toArray)(hv:vs≠[])
 (h1:ws=[]->Q (.ref t) s) (h2:ws≠[]->Q (.ref s.heap.objs.size) { s with heap:=s.heap.push { cls:=.type "tuple",data:=.seq (vs++ws).toArray } })
 (hsz:vs.length+ws.length<=Qu):wpAny (model prog w) A (binaryOp .Add (.ref t) (.ref b)) Q E s:=by
 obtain⟨⟨cls,dd,data,sl⟩,ho,hc,n,hd⟩:=id ht;obtain⟨⟨cls2,dd2,data2,sl2⟩,ho2,hc2,n2,hd2⟩:=id hb;simp only at hc hd hc2 hd2;subst hc hd hc2 hd2;have e:vs.toArray++ws.toArray=(vs++ws).toArray:=by simp
 by_cases hw:ws=[]
 ·exact concat_meets ⟨_,ho,rfl⟩ ⟨_,ho2,rfl⟩ noFill_tuple_add seq_tuple_add L8 LU (LI _ _)
   (tuple_addW1 t b vs.toArray ws.toArray n n2 dd dd2 sl sl2 (by simpa using hv) (by simp[hw])) ⟨ho,ho2,h1 hw⟩
 ·refine concat_meets ⟨_,ho,rfl⟩ ⟨_,ho2,rfl⟩ noFill_tuple_add seq_tuple_add L8 LU (LI _ _)
   (tuple_addW2 t b vs.toArray ws.toArray n n2 dd dd2 sl sl2 (by simpa using hv) (by simpa using hw) (by rw[Qn,Qn];exact hsz)) ⟨ho,ho2,?_⟩
  rw[e];exact h2 hw

noncomputable def sIx(n d:Nat):Option Int->Nat
 | none=>d
 | some v=>if v<0 then(v+(n:Int)).toNat else min v.toNat n
theorem Jbv(n d:Nat):sIx n d none=d:=rfl
theorem JkP(n d:Nat)(hd:d<=n)(o:Option Int):sIx n d o<=n:=by
 cases o with
 | none=>exact hd
 | some v =>
  show(if v<0 then(v+(n:Int)).toNat else min v.toNat n)<=n
  by_cases hv:v<0
  ·rw[if_pos hv];omega
  ·rw[if_neg hv];exact Nat.min_le_right _ _
theorem Jcu(v:Int)(n d:Nat):(if v<0 then max (v+(n:Int)) 0 else min v (n:Int))=((sIx n d (some v):Nat):Int):=by
 show(if v<0 then max (v+(n:Int)) 0 else min v (n:Int))=(((if v<0 then(v+(n:Int)).toNat else min v.toNat n):Nat):Int)
 by_cases hv:v<0
 ·simp only[if_pos hv];omega
 ·simp only[if_neg hv];omega
theorem JbI(lo hi:Option Int)(n:Nat):Kw lo hi 1 (n:Int)=(((sIx n 0 lo:Nat):Int),((sIx n n hi:Nat):Int)):=by
 have h1:¬((1:Int)<0):=by omega
 unfold Kw;simp only[h1,if_false];refine Prod.ext ?_ ?_
 ·cases lo with
  | none=>rfl
  | some v=>exact Jcu v n 0
 ·cases hi with
  | none=>rfl
  | some v=>exact Jcu v n n
theorem Jca(i j:Nat):GM (i:Int) (j:Int) 1=j-i:=by
 unfold GM;have h1:(1:Int)>0:=by omega
 simp only[h1,if_true,Int.ediv_one];split <;> omega
theorem Zd{v:Qa}{o:Option Int}{Q:Option Int->Qd->Prop}(p:IsPart v o)(h:Q o s):wpAny (model prog w) A (Builtin.Slice.slicePartIndex v) Q E s:=by
 cases p with
 | none=>exact slicePart_none h
 | int i t=>exact slicePart_int h
theorem Uw{sl:Qc}{vl vu:Qa}{lo hi:Option Int}{n:Nat}{Q:Int×Int×Nat->Qd->Prop}(hs:s.heap.IsSliceOf sl vl vu .none)(pl:IsPart vl lo)(pu:IsPart vu hi)
 (h:Q (((sIx n 0 lo:Nat):Int),1,sIx n n hi-sIx n 0 lo) s):wpAny (model prog w) A (Lo (.ref sl) (pure (n:Int))) Q E s:=by
 obtain⟨os,hos,hcs,hds⟩:=id hs;unfold Lo Builtin.Slice.sliceFields;refine Qe (Qe (Q5 hos hds (x:=vl) rfl (Qe (Q5 hos hds (x:=vu) rfl (Qe (Q5 hos hds (x:=.none) rfl (Qw ?_)))))));refine Qe (slicePart_none ?_);show wpAny _ _ (if ((1:Int) == 0)=true then _ else _) _ _ s;rw[if_neg (by decide)];refine Qe (Zd pl (Qe (Zd pu (Qe (Qw ?_)))))
 show wpAny _ _ (match Kw lo hi 1 (n:Int) with|(lo,hi)=>pure (lo,(1:Int),GM lo hi 1)) _ _ s;rw[JbI lo hi n]
 show wpAny _ _ (pure (((sIx n 0 lo:Nat):Int),(1:Int),GM ((sIx n 0 lo:Nat):Int) ((sIx n n hi:Nat):Int) 1)) _ _ s;rw[Jca];exact Qw h
theorem Jfb(xs:Array Qa)(i k:Nat):((G7 k).filterMap fun(m:Nat)=>xs[((i:Int)+(m:Int)*1).toNat]?).toArray=((xs.toList.drop i).take k).toArray:=by
 have e:(fun(m:Nat)=>xs[((i:Int)+(m:Int)*1).toNat]?)=fun m=>xs[i+m]?:=by
  funext m
  have:((i:Int)+(m:Int)*1).toNat=i+m:=by omega
  rw[this]
 rw[e];have:=pick_run xs i k;rw[List.filterMap_map] at this;have e2:((fun x=>xs[x]?) ∘ fun x=>i+x)=fun m=>xs[i+m]?:=rfl
 rw[e2] at this;rw[this]

theorem VC{t sl:Qc}{items:Array Qa}{vl vu:Qa}{lo hi:Option Int}{Q:Qa->Qd->Prop}(ht:IsTup s.heap t items)(hs:s.heap.IsSliceOf sl vl vu .none)(pl:IsPart vl lo)(pu:IsPart vu hi)
 (hw:¬(sIx items.size 0 lo=0/\sIx items.size items.size hi=items.size))
 (h:Q (.ref s.heap.objs.size) { s with heap:=s.heap.push { cls:=.type "tuple",data:=.seq ((items.toList.drop (sIx items.size 0 lo)).take (sIx items.size items.size hi-sIx items.size 0 lo)).toArray } })
 (hsz:items.size<=Qu):wpAny (model prog w) A (getItem (.ref t) (.ref sl)) Q E s:=by
 have htake:sizeOk (.seq ((items.toList.drop (sIx items.size 0 lo)).take (sIx items.size items.size hi-sIx items.size 0 lo)).toArray):=by show((items.toList.drop (sIx items.size 0 lo)).take (sIx items.size items.size hi-sIx items.size 0 lo)).toArray.size<=Qu;rw[Qn,GH,Kt,Kz];omega
 have hj:sIx items.size items.size hi<=items.size:=JkP _ _ (Qr _) hi;obtain⟨os,hos,hcs,hds⟩:=id hs
 have hTs:s.TypeIs (.ref sl) "slice":=⟨os,hos,hcs⟩
 unfold getItem
 try with_reducible refine Gg ?_
 first|refine Qe (Qw ?_)|skip
 refine Qe (wpAny_sequenceKey ht.typeIs (by decide) ?_);refine Qe (Gf (name:=Qf "__getitem__") ht.typeIs QZ
  (G3 QZ ht.typeIs entry_tuple_getitem ?_ (args_tuple_getitem _ _)))
 show wpAny _ _ (Lp (.ref t) >>= _) _ _ s;refine Qe (tupleItemsOf_ ht ?_);refine Qe (L9 hTs ?_);rw[if_pos (by decide)];refine Qe (Uw hs pl pu ?_)
 have hno:¬((((sIx items.size 0 lo:Nat):Int) == 0 && (1:Int) == 1 && (sIx items.size items.size hi-sIx items.size 0 lo) == items.size)=true):=by intro q;rw[QL,QL] at q;have q1:((sIx items.size 0 lo:Nat):Int)=0:=eq_of_beq q.1.1;have q2:sIx items.size items.size hi-sIx items.size 0 lo=items.size:=eq_of_beq q.2;exact hw ⟨by omega,by omega⟩
 show wpAny _ _ (if (((sIx items.size 0 lo:Nat):Int) == 0 && (1:Int) == 1 && (sIx items.size items.size hi-sIx items.size 0 lo) == items.size)=true then _ else _) _ _ s;rw[if_neg hno,Jfb]
 first
  | exact Qe (m:=GU _) (Gi (Qw ⟨_,rfl,Qw h⟩) htake)
  | exact Qe (m:=GU _) (Gi (Qe (Qw (Qw ⟨_,rfl,Qw h⟩))) htake)
  | exact Qe (Qe (m:=GU _) (Gi (Qw (Qw ⟨_,rfl,Qw h⟩)) htake))
  | exact Qe (Qe (m:=GU _) (Gi (Qw ⟨_,rfl,Qw h⟩) htake))
end
end HT

namespace L2
open PySem PySem.Spec PyProof.Rows

noncomputable abbrev TO:=St->Hp->(Option Int->Hp->Prop)->Prop
noncomputable def PO(X:Cx)(e:Option QQ)(t:TO):Prop :=
 ∀(pins:List (Qc×Obj)) (s:Qd) (σ:St) (H:Hp) (Q:Option Int->Hp->Prop),Inv X pins σ H s->t σ H Q ->
  wpAny (model X.prog X.w) X.A (evalPart e X.env) (fun u s'=>∃o H',Inv X pins σ H' s'/\IsPart u o/\Q o H') X.xe s
noncomputable def JaP:TO:=fun _ H Q=>Q none H
noncomputable def JfP(t:TE):TO:=fun σ H Q=>t σ H fun x H1=>∃i,x=.int i/\Q (some i) H1

theorem Y7{ns:List Int}:∀{us:List Qa},Vals (ns.map V.int) us->IntsAre us ns:=by
 induction ns with
 | nil=>intro us r;rw[Gj] at r;cases r;exact .nil
 | cons n ns ih =>
  intro us r;rw[Qt] at r
  cases r with
  | cons r1 r2=>obtain⟨t,e⟩:=r1;subst e;exact .cons n t (ih r2)

section
variable{X:Cx}{e:QQ}{te:TE}{lo hi:Option QQ}{tl th:TO}{pos p2:Pos}

theorem UI:PO X none JaP:=by intro pins s σ H Q I h;rw[evalPart_none];exact Qw ⟨none,H,I,.none,h⟩
theorem UJ(h:PE X e te):PO X (some e) (JfP te):=by
 intro pins s σ H Q I hw;rw[evalPart_some];refine thn (h pins s σ H _ I hw) fun u s1 ⟨x,H1,I1,r1,q1⟩=>?_
 obtain⟨i,rfl,q⟩:=q1;obtain⟨t,rfl⟩:=r1;exact⟨some i,H1,I1,.int i t,q⟩

noncomputable def SlR(X:Cx)(r:V->Option Int->Option Int->Hp->VK->Prop):Prop :=
 ∀(pins:List (Qc×Obj)) (s:Qd) (σ:St) (H:Hp) (x:V) (v vl vu:Qa) (lo hi:Option Int) (sl:Qc) (Q:VK),Inv X pins σ H s->RelV x v->s.heap.IsSliceOf sl vl vu .none->IsPart vl lo->IsPart vu hi->r x lo hi H Q ->
  ∃T id,typeLookup (.type T) "__getitem__"=pure (some (.builtin id))/\s.TypeIs v T/\wpAny (model X.prog X.w) X.A (getItem v (.ref sl)) (EP X pins σ Q) X.xe s
theorem SlR.or{r r':V->Option Int->Option Int->Hp->VK->Prop}(h:SlR X r)(h':SlR X r'):SlR X (fun x lo hi H Q=>r x lo hi H Q\/r' x lo hi H Q):=by
 intro pins s σ H x v vl vu lo hi sl Q I rx hs pl pu q;rcases q with q|q
 ·exact h pins s σ H x v vl vu lo hi sl Q I rx hs pl pu q
 ·exact h' pins s σ H x v vl vu lo hi sl Q I rx hs pl pu q
noncomputable def tSl(r:V->Option Int->Option Int->Hp->VK->Prop)(te:TE)(tl th:TO):TE:=fun σ H Q=>te σ H fun x H1=>tl σ H1 fun l H2=>th σ H2 fun u H3=>r x l u H3 Q
theorem Ut{r:V->Option Int->Option Int->Hp->VK->Prop}(hr:SlR X r)(he:PE X e te)(hl:PO X lo tl)(hu:PO X hi th):PE X (.Subscript e (.Slice lo hi none p2) pos) (tSl r te tl th):=by
 intro pins s σ H Q I h;refine Subscript_ (thn (he pins s σ H _ I h) fun v s1 ⟨x,H1,I1,r1,q1⟩=>?_);refine wpAny_Slice (thn (hl pins s1 σ H1 _ I1 q1) fun vl s2 ⟨l,H2,I2,pl,q2⟩=>thn (hu pins s2 σ H2 _ I2 q2) fun vu s3 ⟨u,H3,I3,pu,q3⟩=>?_);rw[evalPart_none];refine Qw ?_;have I4:Inv X pins σ H3 { s3 with heap:=s3.heap.push { cls:=.type "slice",data:=.fields #[vl,vu,.none] } }:=I3.kept (t':=s3.toks) fun b ob q=>Qg _ q
 obtain⟨T,id,hT,ht,hg⟩:=hr pins { s3 with heap:=s3.heap.push { cls:=.type "slice",data:=.fields #[vl,vu,.none] } } σ H3 x v vl vu l u s3.heap.objs.size Q I4 r1 (MI ..) pl pu q3;show wpAny (model X.prog X.w) X.A (subscriptTail e (.Slice lo hi none p2) v (.ref s3.heap.objs.size)) (EP X pins σ Q) X.xe { s3 with heap:=s3.heap.push { cls:=.type "slice",data:=.fields #[vl,vu,.none] } };exact tail_any (ops:=[.ref s3.heap.objs.size,v]) ht hT hg (by with_unfolding_all rfl)

noncomputable def Zx(xs:List V)(lo hi:Option Int):List V:=(xs.drop (HT.sIx xs.length 0 lo)).take (HT.sIx xs.length xs.length hi-HT.sIx xs.length 0 lo)
theorem Wg(xs:List V)(lo hi:Option Int):(Zx xs lo hi).length<=xs.length:=by unfold Zx;rw[GH,Kt];omega
noncomputable def Jl3(K:Qq):V->Option Int->Option Int->Hp->VK->Prop:=fun x lo hi H Q=>∃a xs,x=.ref a/\SqT K H a xs ∧
 ¬(HT.sIx xs.length 0 lo=0/\HT.sIx xs.length xs.length hi=xs.length)/\∀p,H p=none->Q (.ref p) (upd H p (.tup (Zx xs lo hi)))
theorem sl_tup:SlR X (Jl3 X.K):=by
 intro pins s σ H x v vl vu lo hi sl Q I rx hs pl pu h;obtain⟨a,xs,rfl,hx,hw,q⟩:=h;cases rx;obtain⟨its,r,ht,hz⟩:=I.tuple hx;have hlen:its.toArray.size=xs.length:=by rw[Qn];exact r.length.symm
 refine⟨"tuple",_,QZ.lookup,ht.typeIs,?_⟩;refine HT.VC ht hs pl pu (by rw[hlen];exact hw) ?_ (by rw[hlen];exact hz);rw[hlen];refine⟨.ref s.heap.objs.size,_,I.laid (t':=s.toks) (o:=.tup (Zx xs lo hi)) (fun b ob q=>Qg _ q) (Qr _) ?_,rfl,q _ (I.hok.fresh (Qr _))⟩;exact⟨QK (Wg xs lo hi) hz,_,(r.drop (HT.sIx xs.length 0 lo)).take (HT.sIx xs.length xs.length hi-HT.sIx xs.length 0 lo),IsTup.new _ _⟩

noncomputable def Jiy(K:Qq):R2:=fun x y H Q=>∃a b xs ys,x=.ref a/\y=.ref b/\SqT K H a xs/\SqT K H b ys/\xs≠[]/\xs.length+ys.length<=Qu ∧
 (ys=[]->Q (.ref a) H)/\(ys≠[]->∀p,H p=none->Q (.ref p) (upd H p (.tup (xs++ys))))
theorem Vals.nil_iff{xs:List V}{us:List Qa}(r:Vals xs us):us=[]↔xs=[]:=by
 cases r with
 | nil=>simp
 | cons _ _=>simp
theorem Jhl:OpR X (binaryOp .Add) (Jiy X.K):=by
 intro pins s σ H x y v u Q I rx ry h;obtain⟨a,b,xs,ys,rfl,rfl,ha,hb,hx,hz,q1,q2⟩:=h;cases rx;cases ry;obtain⟨its,r1,p1,_⟩:=I.tuple ha;obtain⟨its2,r2,p2,_⟩:=I.tuple hb;refine HT.Jgh p1 p2 (fun z=>hx (r1.nil_iff.mp z)) (fun z=>⟨.ref a,H,I,rfl,q1 (r2.nil_iff.mp z)⟩) (fun z=>?_) (by rw[<- r1.length,<- r2.length];exact hz);refine⟨.ref s.heap.objs.size,_,I.laid (t':=s.toks) (o:=.tup (xs++ys)) (fun b ob q=>Qg _ q) (Qr _) ?_,rfl,q2 (fun w=>z (r2.nil_iff.mpr w)) _ (I.hok.fresh (Qr _))⟩
 exact⟨by rw[Qh];exact hz,_,r1.append r2,IsTup.new _ _⟩
end
end L2

namespace L2
open PySem PySem.Spec PyProof.Rows

noncomputable def ixN(n:Nat)(i:Int):Option Nat:=if 0<=i then(if i<n then some i.toNat else none) else if -(n:Int)<=i then some (i+n).toNat else none
noncomputable def atI{α:Type}(xs:List α)(i:Int):Option α:=(ixN xs.length i).bind fun j=>xs[j]?
theorem JcJ{n:Nat}{i:Int}{j:Nat}(h:ixN n i=some j):seqIndex? i n=some j/\j<n/\-(n:Int)<=i/\i<n:=by
 unfold ixN at h
 by_cases h0:0<=i
 ·rw[if_pos h0] at h
  by_cases h1:i<n
  ·rw[if_pos h1] at h;have e:i.toNat=j:=QI h;exact⟨by rw[seqIndex_of h0 h1,e],by omega,by omega,h1⟩
  ·rw[if_neg h1] at h;cases h
 ·rw[if_neg h0] at h
  by_cases h1:-(n:Int)<=i
  ·rw[if_pos h1] at h;have e:(i+n).toNat=j:=QI h;exact⟨by rw[seqIndex_neg (by omega) h1,e],by omega,h1,by omega⟩
  ·rw[if_neg h1] at h;cases h
theorem Jab{α:Type}{xs:List α}{i:Int}{v:α}(h:atI xs i=some v):∃j,seqIndex? i xs.length=some j/\xs[j]?=some v/\j<xs.length/\-(xs.length:Int)<=i/\i<xs.length:=by
 unfold atI at h
 cases e:ixN xs.length i with
 | none=>rw[e] at h;cases h
 | some j=>rw[e] at h;obtain⟨h1,h2,h3,h4⟩:=JcJ e;exact⟨j,h1,h,h2,h3,h4⟩
noncomputable def Jco(b:QQ):Prop:=∀o i,subscripted b false o i=operate [o,i] (getItem o i)
noncomputable def IxR(X:Cx)(r:R2):Prop :=
 ∀(value slice:QQ) (pins:List (Qc×Obj)) (s:Qd) (σ:St) (H:Hp) (x y:V) (v u:Qa) (Q:VK),Inv X pins σ H s->RelV x v->RelV y u->r x y H Q ->
  subscripted slice false v u=operate [v,u] (getItem v u)->wpAny (model X.prog X.w) X.A (subscriptTail value slice v u) (EP X pins σ Q) X.xe s
noncomputable def MtR(X:Cx)(id:String)(r:V->List V->Hp->VK->Prop):Prop :=
 ∀(pins:List (Qc×Obj)) (s:Qd) (σ:St) (H:Hp) (x:V) (xs:List V) (v:Qa) (us:List Qa) (Q:VK),Inv X pins σ H s->RelV x v->Vals xs us->r x xs H Q ->
  wpAny (model X.prog X.w) X.A (call (.builtin id) (v::us)) (EP X pins σ Q) X.xe s
section
variable{X:Cx}{a b:QQ}{ta tb:TE}{pos:Pos}
theorem IxR.or{r r':R2}(h:IxR X r)(h':IxR X r'):IxR X (fun x y H Q=>r x y H Q\/r' x y H Q):=by
 intro value slice pins s σ H x y v u Q I rx ry q hs;rcases q with q|q
 ·exact h value slice pins s σ H x y v u Q I rx ry q hs
 ·exact h' value slice pins s σ H x y v u Q I rx ry q hs
theorem MtR.or{id:String}{r r':V->List V->Hp->VK->Prop}(h:MtR X id r)(h':MtR X id r'):MtR X id (fun x xs H Q=>r x xs H Q\/r' x xs H Q):=by
 intro pins s σ H x xs v us Q I rx rs q;rcases q with q|q
 ·exact h pins s σ H x xs v us Q I rx rs q
 ·exact h' pins s σ H x xs v us Q I rx rs q
theorem JlQ{r:R2}(hr:IxR X r)(ha:PE X a ta)(hb:PE X b tb)(hs:Jco b):PE X (.Subscript a b pos) (tOp r ta tb):=by intro pins s σ H Q I h;exact Subscript_ (JiO ha hb I h fun v u s2 x y H2 I2 rx ry q=>hr a b pins s2 σ H2 x y v u Q I2 rx ry q (hs _ _))

noncomputable def JlV(K:Qq):R2:=fun x y H Q=>∃p xs i v,x=.ref p/\y=.int i/\SqL K H p xs/\atI xs i=some v/\Q v H
noncomputable def JlX(K:Qq):R2:=fun x y H Q=>∃p xs i v,x=.ref p/\y=.int i/\SqT K H p xs/\atI xs i=some v/\Q v H
noncomputable def JlW:R2:=fun x y H Q=>∃z i c,x=.str z/\y=.int i/\z.length<=Qu/\atI z.cps.toList i=some c/\Q (.str ⟨#[c]⟩) H
theorem ix_list:IxR X (JlV X.K):=by
 intro value slice pins s σ H x y v u Q I rx ry h hs;obtain⟨p,xs,i,z,rfl,rfl,hq,he,q⟩:=h;cases rx;obtain⟨t,rfl⟩:=ry;obtain⟨its,r,pl,hz⟩:=I.list hq;obtain⟨j,h1,h2,h3,h4,h5⟩:=Jab he;obtain⟨w,ew,rw'⟩:=r.get h2;have hl:=r.length;have hn:=V7;have fin:EP X pins σ Q w s:=⟨z,H,I,rw',q⟩
 by_cases h0:0<=i
 ·have hj:i.toNat=j:=by rw[seqIndex_of h0 h5] at h1;exact QI h1
  exact item_listR pl.isList h0 (by omega) (by rw[hj];simpa using ew) fin hs
 ·have hj:(i+(its.toArray.size:Int)).toNat=j:=by rw[seqIndex_neg (by omega) h4] at h1;rw[Qn,<- hl];exact QI h1
  exact subscriptTail_builtinR (x:=w) pl.isList.typeIs LA.lookup
   (wpAny_getItem_list_neg (Q:=fun r s'=>r=w/\EP X pins σ Q r s') pl.isList (by omega) (by rw[Qn] <;> omega) (by omega) (by rw[hj];simpa using ew) ⟨rfl,fin⟩) hs
theorem ix_tup:IxR X (JlX X.K):=by
 intro value slice pins s σ H x y v u Q I rx ry h hs;obtain⟨p,xs,i,z,rfl,rfl,hq,he,q⟩:=h;cases rx;obtain⟨t,rfl⟩:=ry;obtain⟨its,r,pl,hz⟩:=I.tuple hq;obtain⟨j,h1,h2,h3,h4,h5⟩:=Jab he;obtain⟨w,ew,rw'⟩:=r.get h2;have hl:=r.length;have hn:=V7;have fin:EP X pins σ Q w s:=⟨z,H,I,rw',q⟩
 exact subscriptTail_builtinR (x:=w) pl.typeIs slot_tuple_getitem.lookup
  (getItem_tuple (j:=j) (Q:=fun r s'=>r=w/\EP X pins σ Q r s') pl (by omega) (by omega) (by rw[Qn,<- hl];exact h1) (by simpa using ew) ⟨rfl,fin⟩) hs
theorem Jjy:IxR X JlW:=by
 intro value slice pins s σ H x y v u Q I rx ry h hs;obtain⟨z,i,c,rfl,rfl,hz,he,q⟩:=h;obtain⟨t,rfl⟩:=rx;obtain⟨t',rfl⟩:=ry;obtain⟨j,h1,h2,h3,h4,h5⟩:=Jab he;have hl:z.cps.toList.length=z.length:=by simp[MJ]
 rw[hl] at h1 h4 h5;have hn:=V7;exact tail_any (typeIs_str s z t) slot_str_getitem.lookup (getItem_str (c:=c) (by
  have e1:decide (i < -(2 ^ 63:Int))=false:=decide_eq_false (by omega)
  have e2:decide (i ≥ 2 ^ 63)=false:=decide_eq_false (by omega);rw[e1,e2,Mz]) (by rw[h1];simpa using h2) ⟨.str ⟨#[c]⟩,H,I.tok _,⟨_,rfl⟩,q⟩) hs
noncomputable def rIx(K:Qq):R2:=fun x y H Q=>JlV K x y H Q\/JlX K x y H Q\/JlW x y H Q
theorem Jjx:IxR X (rIx X.K):=ix_list.or (ix_tup.or Jjy)

theorem JbZ(its:List Qa)(n j:Nat)(u:Qa):Ma (·.setIfInBounds j u) { cls:=.type "list",data:=.seq its.toArray n }={ cls:=.type "list",data:=.seq (its.set j u).toArray n }:=by simp[Ma]
theorem Inv.lst{pins:List (Qc×Obj)}{σ:St}{H:Hp}{s:Qd}{p:Qc}{xs:List V}(I:Inv X pins σ H s)(h:H p=some (.lst xs)) :
 ∃(its:List Qa) (n:Nat),Vals xs its/\s.heap.get? p=some { cls:=.type "list",data:=.seq its.toArray n }/\xs.length<=Qu:=by
 obtain⟨z,its,n,r,e⟩:=I.hok p _ h;exact⟨its,n,r,e,z⟩
theorem Inv.lstUpd{pins:List (Qc×Obj)}{σ:St}{H:Hp}{s:Qd}{p:Qc}{xs ys:List V}{its its':List Qa}{n n':Nat}{f:Obj->Obj}(I:Inv X pins σ H s)(h:H p=some (.lst xs))
 (ho:s.heap.get? p=some { cls:=.type "list",data:=.seq its.toArray n }) (hf:f { cls:=.type "list",data:=.seq its.toArray n }={ cls:=.type "list",data:=.seq its'.toArray n' }) (r:Vals ys its') (hz:ys.length<=Qu) (t:Nat) :
 Inv X pins σ (upd H p (.lst ys)) { s with heap:=s.heap.update p f,toks:=t }:=by
 have e:(s.heap.update p f).get? p=some { cls:=.type "list",data:=.seq its'.toArray n' }:=by rw[Go f ho (by rw[hf] <;> rfl),hf]
 refine I.write (x:=p) (e:=p) (by rw[h];trivial) (.inl rfl) (fun b u hb q=>(QY _ _ (Q0 hb)).trans q) ⟨_,e⟩ ?_;exact⟨hz,its',n',r,e⟩
noncomputable def JiB:V->V->V->Hp->(Hp->Prop)->Prop:=fun o i v H Q=>∃p xs k j,o=.ref p/\i=.int k/\H p=some (.lst xs)/\ixN xs.length k=some j/\Q (upd H p (.lst (xs.set j v)))
theorem Zc:Jlj X JiB:=by
 intro pins s σ H o i v ov iv u Q I ro ri rv h;obtain⟨p,xs,k,j,rfl,rfl,hp,hj,q⟩:=h;cases ro;obtain⟨t,rfl⟩:=ri;obtain⟨its,n,r,ho,hz⟩:=I.lst hp;obtain⟨h1,h2,h3,h4⟩:=JcJ hj;have hl:=r.length;have hn:=V7
 have I':Inv X pins σ (upd H p (.lst (xs.set j v))) { s with heap:=s.heap.update p (Ma (·.setIfInBounds j u)) } :=
  I.lstUpd hp ho (JbZ its n j u) (r.set rv j) (by rw[KI];exact hz) s.toks
 by_cases h0:0<=k
 ·have hk:k.toNat=j:=by rw[seqIndex_of h0 h4] at h1;exact QI h1
  exact PySem.W.ki_setAt ho h0 (by omega) (by rw[Qn,<- hl];exact h4) (by rw[hk];exact⟨_,I',q⟩)
 ·have hk:(k+(its.toArray.size:Int)).toNat=j:=by rw[seqIndex_neg (by omega) h3] at h1;rw[Qn,<- hl];exact QI h1
  exact PySem.W.ki_setBack ho (by omega) (by rw[Qn,<- hl];exact h3) (by omega) (by rw[hk];exact⟨_,I',q⟩)

theorem JaM(lo hi:Option Int)(n:Nat):(sliceBounds lo hi none n).1=((HT.sIx n 0 lo:Nat):Int)/\(sliceBounds lo hi none n).2.1=((HT.sIx n n hi:Nat):Int)/\(sliceBounds lo hi none n).2.2=1:=by
 refine⟨?_,?_,rfl⟩
 ·cases lo with
  | none=>simp[sliceBounds,HT.sIx]
  | some i =>
   simp only[sliceBounds,HT.sIx,Option.getD_none,show(1:Int)>0 by decide,if_true]
   by_cases h:i<0
   ·simp only[h,if_true] <;> omega
   ·simp only[h,if_false] <;> omega
 ·cases hi with
  | none=>simp[sliceBounds,HT.sIx]
  | some i =>
   simp only[sliceBounds,HT.sIx,Option.getD_none,show(1:Int)>0 by decide,if_true]
   by_cases h:i<0
   ·simp only[h,if_true] <;> omega
   ·simp only[h,if_false] <;> omega
theorem ZE(its:List Qa)(lo hi:Option Int):slicePick its.toArray lo hi none=((its.drop (HT.sIx its.length 0 lo)).take (HT.sIx its.length its.length hi-HT.sIx its.length 0 lo)).toArray:=by obtain⟨h1,h2,h3⟩:=JaM lo hi its.toArray.size;unfold slicePick;rw[h1,h2,h3];simp only[sliceRange_one,pick_run,Qn] <;> rfl
noncomputable def Jl1(K:Qq):V->Option Int->Option Int->Hp->VK->Prop:=fun x lo hi H Q=>∃a xs,x=.ref a/\SqL K H a xs/\∀p,H p=none->Q (.ref p) (upd H p (.lst (Zx xs lo hi)))
theorem sl_list:SlR X (Jl1 X.K):=by
 intro pins s σ H x v vl vu lo hi sl Q I rx hs pl pu h;obtain⟨a,xs,rfl,hx,q⟩:=h;cases rx;obtain⟨its,r,ht,hz⟩:=I.list hx;have hlen:=r.length;refine⟨"list",_,LA.lookup,ht.isList.typeIs,?_⟩;refine wpAny_getItem_list_slice ht.isList hs pl pu .none (by simp) ?_ (by rw[Qn] <;> omega);rw[ZE,<- hlen];refine⟨.ref s.heap.objs.size,_,I.laid (t':=s.toks) (o:=.lst (Zx xs lo hi)) (fun b ob q=>Qg _ q) (Qr _) ?_,rfl,q _ (I.hok.fresh (Qr _))⟩
 exact⟨QK (Wg xs lo hi) hz,_,0,(r.drop (HT.sIx xs.length 0 lo)).take (HT.sIx xs.length xs.length hi-HT.sIx xs.length 0 lo),Qz _ rfl⟩

noncomputable def Jip:V->Bool
 | .non=>true
 | .bl _=>true
 | .int _=>true
 | .str _=>true
 | _=>false
noncomputable def eqV:V->V->Bool
 | .non,.non=>true
 | .bl a,.bl b=>a == b
 | .bl a,.int b=>(if a then 1 else 0) == b
 | .int a,.bl b=>a == (if b then 1 else 0)
 | .int a,.int b=>a == b
 | .str a,.str b=>a == b
 | _,_=>false
theorem Ji6{A:Qx}{s:Qd}{y x:V}{u v:Qa}(ry:RelV y u)(rx:RelV x v)(fy:Jip y=true)(fx:Jip x=true):SeqAt.EqAt A s u v (eqV y x):=by
 cases y with
 | non =>
  cases ry
  cases x with
  | non=>cases rx;exact SeqAt.EqAt.same _
  | bl b=>cases rx;exact SeqAt.EqAt.none_bool b
  | int b=>obtain⟨t,rfl⟩:=rx;exact SeqAt.EqAt.none_int b t
  | str b=>obtain⟨t,rfl⟩:=rx;exact SeqAt.EqAt.none_str b t
  | _=>exact absurd (show false=true from fx) QA
 | bl a =>
  cases ry
  cases x with
  | non=>cases rx;exact SeqAt.EqAt.bool_none a
  | bl b=>cases rx;exact SeqAt.EqAt.bool_bool a b
  | int b=>obtain⟨t,rfl⟩:=rx;exact SeqAt.EqAt.bool_int a b t
  | str b=>obtain⟨t,rfl⟩:=rx;exact SeqAt.EqAt.bool_str a b t
  | _=>exact absurd (show false=true from fx) QA
 | int a =>
  obtain⟨t',rfl⟩:=ry
  cases x with
  | non=>cases rx;exact Mv a t'
  | bl b=>cases rx;exact SeqAt.EqAt.int_bool a t' b
  | int b=>obtain⟨t,rfl⟩:=rx;exact MH a t' b t
  | str b=>obtain⟨t,rfl⟩:=rx;exact MD a t' b t
  | _=>exact absurd (show false=true from fx) QA
 | str a =>
  obtain⟨t',rfl⟩:=ry
  cases x with
  | non=>cases rx;exact SeqAt.EqAt.str_none a t'
  | bl b=>cases rx;exact SeqAt.EqAt.str_bool a t' b
  | int b=>obtain⟨t,rfl⟩:=rx;exact ME a t' b t
  | str b=>obtain⟨t,rfl⟩:=rx;exact SeqAt.EqAt.str_str a t' b t
  | _=>exact absurd (show false=true from fx) QA
 | _=>exact absurd (show false=true from fy) QA
theorem CallR.or{f:Qa}{r r':List V->Hp->VK->Prop}(h:CallR X f r)(h':CallR X f r'):CallR X f (fun xs H Q=>r xs H Q\/r' xs H Q):=by
 intro pins s σ H xs us Q I rs q;rcases q with q|q
 ·exact h pins s σ H xs us Q I rs q
 ·exact h' pins s σ H xs us Q I rs q
theorem Jaf:CallR X (.type "list") (fun xs H Q=>∃p ys,xs=[.ref p]/\(SqL X.K H p ys\/SqT X.K H p ys)/\∀l,H l=none->Q (.ref l) (upd H l (.lst ys))):=by
 intro pins s σ H xs us Q I r h;obtain⟨p,ys,rfl,hq,q⟩:=h;obtain⟨u,rfl,rx⟩:=Vf r;cases rx
 have fin:∀(its:List Qa),Vals ys its->ys.length<=Qu->∀(h':QJ) (c':Nat),(∀b o',s.heap.get? b=some o'->h'.get? b=some o') ->
  h'.get? s.heap.objs.size=some { cls:=.type "list",dict:=none,data:=.seq its.toArray c',slots:=#[] }->EP X pins σ Q (.ref s.heap.objs.size) { s with heap:=h' }:=fun its r' hz h' c' kp e =>
  ⟨.ref s.heap.objs.size,_,I.laid (t':=s.toks) kp (Qr _) (show ObjOk X.prog X.w _ h' _ (.lst ys) from⟨hz,its,c',r',e⟩),rfl,q _ (I.hok.fresh (Qr _))⟩
 rcases hq with hq|hq
 ·obtain⟨its,r',pl,hz⟩:=I.list hq;have hlen:=r'.length;obtain⟨o,ho,hc,n,hd⟩:=pl.isList;exact call_list_seq p (.inl rfl) ho hc hd (fun h' c' kp e=>fin its r' hz h' c' kp e) (by simp only[Qn] <;> omega)
 ·obtain⟨its,r',pl,hz⟩:=I.tuple hq;have hlen:=r'.length;obtain⟨o,ho,hc,n,hd⟩:=pl;exact call_list_seq p (.inr rfl) ho hc hd (fun h' c' kp e=>fin its r' hz h' c' kp e) (by simp only[Qn] <;> omega)
theorem Zw:CallR X (.type "tuple") (fun xs H Q=>∃p ys,xs=[.ref p]/\((SqL X.K H p ys/\∀l,H l=none->Q (.ref l) (upd H l (.tup ys)))\/(SqT X.K H p ys/\Q (.ref p) H))):=by
 intro pins s σ H xs us Q I r h;obtain⟨p,ys,rfl,h⟩:=h;obtain⟨u,rfl,rx⟩:=Vf r;cases rx;rcases h with ⟨hq,q⟩|⟨hq,q⟩
 ·obtain⟨its,r',pl,hz⟩:=I.list hq;have hlen:=r'.length;refine call_tuple_list pl.isList (fun h' kp=>?_) (by simp only[Qn] <;> omega);have I1:Inv X pins σ H { s with heap:=h' }:=I.kept (t':=s.toks) kp
  have I2:Inv X pins σ (upd H h'.objs.size (.tup ys)) { s with heap:=h'.push { cls:=.type "tuple",data:=.seq its.toArray } } :=
   I1.laid (t':=s.toks) (fun b o e=>Qg _ e) (Qr _) (show ObjOk X.prog X.w _ _ _ (.tup ys) from⟨hz,its,r',IsTup.new _ _⟩)
  exact⟨.ref h'.objs.size,_,I2,rfl,q _ (I1.hok.fresh (Qr _))⟩
 ·obtain⟨its,r',pl,hz⟩:=I.tuple hq;exact call_tuple_same pl ⟨.ref p,H,I,rfl,q⟩

noncomputable def tyV(K:Qq)(T:String)(x:V)(H:Hp):Prop:=match x with
 | .str _=>T="str"
 | .int _=>T="int"
 | .ref p=>(T="list"/\∃xs,SqL K H p xs)\/(T="tuple"/\∃o,K.lookup p=some o/\o.cls=.type "tuple"/\o.dict=none) ∨
  (T="dict"/\((∃kvs,H p=some (.dK kvs))\/∃kvs,H p=some (.dT kvs)))\/(T="set"/\∃S n,H p=some (.set S n))
 | _=>False
theorem JfZ{pins:List (Qc×Obj)}{σ:St}{H:Hp}{s:Qd}{T:String}{x:V}{v:Qa}(I:Inv X pins σ H s)(r:RelV x v)(ty:tyV X.K T x H) :
 s.TypeIs v T/\∀a,v=.ref a->∃ob,s.heap.get? a=some ob/\ob.dict=none:=by
 cases x with
 | str z=>obtain⟨t,rfl⟩:=r;cases (show T="str" from ty);exact⟨typeIs_str s z t,fun _ e=>nomatch e⟩
 | int i=>obtain⟨t,rfl⟩:=r;cases (show T="int" from ty);exact⟨typeIs_int s i t,fun _ e=>nomatch e⟩
 | ref p =>
  cases r;rcases ty with ⟨rfl,xs,hq⟩|⟨rfl,o,hk,hc,hd⟩|⟨rfl,hk⟩|⟨rfl,S,n,hk⟩
  ·obtain⟨its,_,pl,_⟩:=I.list hq;refine⟨pl.isList.typeIs,fun a e=>?_⟩;cases e;obtain⟨o,n,e,c,hd,_⟩:=pl;exact⟨o,e,hd⟩
  ·refine⟨⟨o,I.kIn p o hk,hc⟩,fun a e=>?_⟩;cases e;exact⟨o,I.kIn _ o hk,hd⟩
  ·have z:∃o,s.heap.get? p=some o/\o.ExactDict:=by
    rcases hk with ⟨kvs,hk⟩|⟨kvs,hk⟩
    ·obtain⟨_,_,_,_,o,_,_,e,ex,_⟩:=I.hok p _ hk;exact⟨o,e,ex⟩
    ·obtain⟨_,_,_,_,o,_,_,e,ex,_⟩:=I.hok p _ hk;exact⟨o,e,ex⟩
   obtain⟨o,e,ex⟩:=z;refine⟨⟨o,e,ex.1⟩,fun a e2=>?_⟩;cases e2;exact⟨o,e,ex.2.1⟩
  ·obtain⟨o,_,_,_,e,ex,_⟩:=I.hok p _ hk;refine⟨⟨o,e,ex.1⟩,fun a e2=>?_⟩;cases e2;exact⟨o,e,ex.2.1⟩
 | _=>exact Q3 ty
noncomputable def Jh3(K:Qq)(T:String)(r:V->List V->Hp->VK->Prop)(to:TE):TE:=fun σ H Q=>to σ H fun x H1=>tyV K T x H1/\r x [] H1 Q
noncomputable def tBM(K:Qq)(T:String)(r:V->List V->Hp->VK->Prop)(to:TE)(t:TA):TE:=fun σ H Q=>to σ H fun x H1=>tyV K T x H1/\t σ H1 fun xs H2=>r x xs H2 Q
variable{o e:QQ}{es:List QQ}{to:TE}{t:TA}{name:Str}{apos cpos:Pos}{T id:String}{r:V->List V->Hp->VK->Prop}
theorem Jj9(pa:PlainAttrs T)(slot:Slot T name id)(hty:typeOf (.builtin id)=pure (.type "method_descriptor"))(hm:MtR X id r)(ho:PE X o to)
 (hbase:attributeBase o name X.env (eval o X.env)=eval o X.env:=by rfl) (hline:(apos.endLine == cpos.line)=true:=by rfl):PE X (.Call (.Attribute o name apos) [] [] cpos) (Jh3 X.K T r to):=by
 intro pins s σ H Q I h;refine wpAny_Call_method0_late hbase hline (thn (ho pins s σ H _ I h) fun v s1 ⟨x,H1,I1,r1,ty,q1⟩=>?_);obtain⟨h1,h2⟩:=JfZ I1 r1 ty;exact⟨T,id,pa,slot,hty,h1,h2,KP rfl (PySem.evalArgs_none (hm pins s1 σ H1 x [] v [] Q I1 r1 .nil q1))⟩
theorem JlP(pa:PlainAttrs T)(slot:Slot T name id)(hty:typeOf (.builtin id)=pure (.type "method_descriptor"))(hm:MtR X id r)(ho:PE X o to)(ha:PA X (e::es) t)
 (hbase:attributeBase o name X.env (eval o X.env)=eval o X.env:=by rfl)
 (hfew:((backTo cpos (starEach (e::es) X.env)).all (fun x=>!x.1) && (backToKw cpos (keywordEach [] X.env)).all (fun x=>x.1.isSome)
  && decide ((e::es).length+([]:List Lh).length+(if ([]:List Lh).isEmpty then 0 else 1)<30))=true:=by rfl)
 (hline:(apos.endLine == cpos.line)=true:=by rfl) (hs:starEach (e::es) X.env=(false,eval e X.env)::starEach es X.env:=by rfl) (hplain:(backTo cpos (starEach es X.env)).any (·.1)=false:=by rfl) :
 PE X (.Call (.Attribute o name apos) (e::es) [] cpos) (tBM X.K T r to t):=by
 intro pins s σ H Q I h;refine wpAny_Call_method_late hbase hfew hline rfl (thn (ho pins s σ H _ I h) fun v s1 ⟨x,H1,I1,r1,ty,q1⟩=>?_);obtain⟨h1,h2⟩:=JfZ I1 r1 ty;refine⟨T,id,pa,slot,hty,h1,h2,?_⟩;have hA:=ha cpos pins s1 σ H1 _ I1 q1;rw[hs] at hA ⊢;refine KP (by show(false || (backTo cpos (starEach es X.env)).any (·.1))=false;rw[hplain] <;> rfl) (Kl ?_);exact thn hA fun us s2 ⟨vs,H2,I2,r2,q2⟩=>hm pins s2 σ H2 x vs v us Q I2 r1 r2 q2
/- xs.append(e),list.index on a module's tuple .. are MtR facts of 06m -/
end
end L2

namespace L2
open PySem PySem.Spec PyProof.Rows

noncomputable def MtM(X:Cx)(id:String)(r:V->List V->Hp->VK->Prop):Prop :=
 ∀(pins:List (Qc×Obj)) (s:Qd) (σ:St) (H:Hp) (x:V) (xs:List V) (v:Qa) (us:List Qa) (Q:VK),Inv X pins σ H s->RelV x v->Vals xs us->r x xs H Q ->
  wpAny (model X.prog X.w) X.A (call (.builtin id) (v::us)) (EP X pins σ Q) X.xe s

theorem Vals.one:∀{x:V} {us:List Qa},Vals [x] us->∃u,us=[u]/\RelV x u
 | _,_,.cons r .nil=>⟨_,rfl,r⟩
theorem Vals.two:∀{x y:V} {us:List Qa},Vals [x,y] us->∃u v,us=[u,v]/\RelV x u/\RelV y v
 | _,_,_,.cons r (.cons q .nil)=>⟨_,_,rfl,r,q⟩
theorem Vals.zero:∀{us:List Qa},Vals [] us->us=[]
 | _,.nil=>rfl
theorem Vals.dropLast{xs:List V}{us:List Qa}(h:Vals xs us):Vals xs.dropLast us.dropLast:=by
 induction h with
 | nil=>exact .nil
 | cons r t ih =>
  cases t with
  | nil=>exact .nil
  | cons q t'=>exact .cons r ih
theorem Vals.eraseIdx:∀{xs:List V} {us:List Qa} (i:Nat),Vals xs us->Vals (xs.eraseIdx i) (us.eraseIdx i)
 | _,_,_,.nil=>.nil
 | _,_,0,.cons _ t=>t
 | _,_,i+1,.cons r t=>.cons r (Vals.eraseIdx i t)
theorem Vals.reverse{xs:List V}{us:List Qa}(h:Vals xs us):Vals xs.reverse us.reverse:=by
 induction h with
 | nil=>exact .nil
 | cons r t ih=>rw[GQ,GQ];exact Vals.append ih (.cons r .nil)
theorem Vals.rep{xs:List V}{us:List Qa}(h:Vals xs us):∀k:Nat,Vals (QO k xs).flatten (QO k us).flatten
 | 0=>.nil
 | k+1=>by rw[GB,GB,KQ,KQ];exact Vals.append h (Vals.rep h k)
theorem JbO{α:Type}(l:List α):l.eraseIdx (l.length-1)=l.dropLast:=by
 induction l with
 | nil=>rfl
 | cons a r ih =>
  cases r with
  | nil=>rfl
  | cons b r =>
   have e:(a::b::r).length-1=((b::r).length-1)+1:=by
    have h1:(a::b::r).length=r.length+2:=rfl
    have h2:(b::r).length=r.length+1:=rfl;omega
   rw[e,KM,ih]
   all_goals rfl
section
variable{X:Cx}{pins:List (Qc×Obj)}{σ:St}{H:Hp}{s:Qd}{l b:Qc}{xs ys zs:List V}

theorem Inv.lset{its its':List Qa}{n:Nat}{f:Array Qa->Array Qa}{t':Nat}(I:Inv X pins σ H s)(hH:H l=some (.lst xs))
 (e:s.heap.get? l=some { cls:=.type "list",data:=.seq its.toArray n }) (hf:f its.toArray=its'.toArray) (hv:Vals ys its') (hz:ys.length<=Qu) :
 Inv X pins σ (upd H l (.lst ys)) { s with heap:=s.heap.update l (Ma f),toks:=t' }:=by
 have q:=PySem.IsL.update e f;rw[hf] at q;refine I.write (x:=l) (e:=l) (by rw[hH];exact trivial) (.inl rfl) (fun b' u hb hu=>(QY s.heap (Ma f) (Q0 hb)).trans hu) ⟨_,q⟩ ?_;exact⟨hz,its',_,hv,q⟩
theorem Inv.lnew{its:List Qa}{t':Nat}(I:Inv X pins σ H s)(hv:Vals ys its)(hz:ys.length<=Qu) :
 Inv X pins σ (upd H s.heap.objs.size (.lst ys)) { s with heap:=s.heap.push { cls:=.type "list",data:=.seq its.toArray },toks:=t' } :=
 I.laid (fun _ _ q=>Qg _ q) (Qr _) ⟨hz,its,0,hv,Qz _ rfl⟩
theorem Inv.fresh(I:Inv X pins σ H s):H s.heap.objs.size=none:=I.hok.fresh (Qr _)
theorem Inv.lstM(I:Inv X pins σ H s)(hH:H l=some (.lst xs)):xs.length<=Qu/\∃(its:List Qa) (n:Nat),Vals xs its/\xs.length=its.length/\s.heap.get? l=some { cls:=.type "list",data:=.seq its.toArray n }:=by obtain⟨z,its,n,r,e⟩:=I.hok l _ hH;exact⟨z,its,n,r,r.length,e⟩

end

section
variable{X:Cx}

noncomputable def JcV:V->List V->Hp->VK->Prop:=fun x vs H Q=>∃l xs y,x=.ref l/\vs=[y]/\H l=some (.lst xs)/\xs.length<Qu/\Q .non (upd H l (.lst (xs++[y])))
theorem Va:MtM X "list.append" JcV:=by intro pins s σ H x vs v us Q I rx rv h;obtain⟨l,xs,y,rfl,rfl,hH,hz,q⟩:=h;cases rx;obtain⟨u,rfl,ru⟩:=rv.one;obtain⟨z,its,n,r,hl,e⟩:=I.lstM hH;refine call_meets F.slot_list_append ⟨_,e,rfl⟩ F.entry_list_append (F.args_list_append_2 _ _) (PySem.list_append l its.toArray n u (by rw[Qn];omega)) ⟨e,?_⟩;refine⟨.non,_,I.lset (its':=its++[u]) hH e (by simp) (r.append (.cons ru .nil)) ?_,rfl,q⟩;rw[Qh,QE];omega

noncomputable def Jl0:V->List V->Hp->VK->Prop:=fun x vs H Q=>∃l xs y,x=.ref l/\vs=[]/\H l=some (.lst xs)/\xs[xs.length-1]?=some y/\Q y (upd H l (.lst xs.dropLast))
theorem JjO:MtM X "list.pop" Jl0:=by
 intro pins s σ H x vs v us Q I rx rv h;obtain⟨l,xs,y,rfl,rfl,hH,hy,q⟩:=h;cases rx;have hus:=rv.zero;subst hus;obtain⟨z,its,n,r,hl,e⟩:=I.lstM hH;obtain⟨u,hu,ru⟩:=r.get hy
 have hy':its.toArray[its.toArray.size-1]?=some u:=by show its.toArray[its.length-1]?=some u;rw[<- K0,<- hl];exact hu
 refine call_meets F.slot_list_pop ⟨_,e,rfl⟩ F.entry_list_pop (F.args_list_pop_1 _) (MeetsSeq.list_pop_last l its.toArray n u hy' (by rw[Qn];omega)) ⟨e,?_⟩;refine⟨y,_,I.lset (its':=its.dropLast) hH e ?_ r.dropLast ?_,ru,q⟩
 ·show its.toArray.eraseIdxIfInBounds (its.toArray.size-1)=its.dropLast.toArray;rw[Qn,List.eraseIdxIfInBounds_toArray,JbO]
 ·rw[Mp];omega

noncomputable def Jbu:V->List V->Hp->VK->Prop:=fun x vs H Q=>∃l xs,x=.ref l/\vs=[]/\H l=some (.lst xs)/\Q .non (upd H l (.lst xs.reverse))
theorem Jb1:MtM X "list.reverse" Jbu:=by intro pins s σ H x vs v us Q I rx rv h;obtain⟨l,xs,rfl,rfl,hH,q⟩:=h;cases rx;have hus:=rv.zero;subst hus;obtain⟨z,its,n,r,hl,e⟩:=I.lstM hH;refine call_meets F.slot_list_reverse ⟨_,e,rfl⟩ F.entry_list_reverse (F.args_list_reverse_1 _) (AutoSeq1.list_reverse_list_0 l its.toArray n (by rw[Qn];omega)) ⟨e,?_⟩;refine⟨.non,_,I.lset (its':=its.reverse) hH e (by simp) r.reverse ?_,rfl,q⟩;rw[KA];omega

noncomputable def JlR:R2:=fun x y H Q=>∃l b xs zs,x=.ref l/\y=.ref b/\H l=some (.lst xs)/\H b=some (.lst zs)/\xs.length+zs.length<=Qu/\∀p,H p=none->Q (.ref p) (upd H p (.lst (xs++zs)))
theorem JjZ:OpR X (binaryOp .Add) JlR:=by
 intro pins s σ H x y v u Q I rx ry h;obtain⟨l,b,xs,zs,rfl,rfl,hH,hB,hz,q⟩:=h;cases rx;cases ry;obtain⟨z,its,n,r,hl,e⟩:=I.lstM hH;obtain⟨z2,its2,n2,r2,hl2,e2⟩:=I.lstM hB;refine PySem.P.add_list e e2 ?_ (by rw[Qn,Qn];omega);have ea:its.toArray++its2.toArray=(its++its2).toArray:=by simp
 rw[ea];exact⟨.ref _,_,I.lnew (t':=s.toks) (r.append r2) (by rw[Qh];omega),rfl,q _ I.fresh⟩
end

section
variable{prog:Qp}{w:QC}{A:Qx}{E:Qa->Qd->Prop}{s:Qd}
end

section
variable{X:Cx}
end
end L2

namespace Att
open PySem PySem.W PySem.Calls PyProof.Rows

theorem Wn{P:Params}{h:QJ}:∀(ns:List Int) (vs:List Qa),WellAll P h vs (ns.map WData.int)->IntsAre vs ns:=by
 intro ns
 induction ns with
 | nil=>intro vs w;rw[Gj] at w;cases w;exact .nil
 | cons n ns ih =>
  intro vs w;rw[Qt] at w
  cases w with
  | cons a b=>cases a;exact .cons _ _ (ih _ b)

theorem JdX{l:OpenLaw}{n:Nat}(hn:l.most=some n){P:Params}{h:QJ}{args:List WData}{vals:List Qa}
 (hpre:l.row.toRowW.claim.pre args=true) (hwl:WellAll P h vals args) :
 ∃a vs ns,vals=[Value.ref a]/\args=[WData.list (ns.map WData.int)]/\h.get? a=some { cls:=.type "list",data:=.seq vs.toArray }/\IntsAre vs ns/\ns.length<=n:=by
 have hsh:WShape.hasAll [] args [.list .int]=true:=(pre_splitW hpre).1
 have hc:l.pre.holds [] { args:=args }=true:=(pre_splitW hpre).2;obtain⟨d,r,rfl,h1,h2⟩:=hasAllW_cons hsh;obtain rfl:=hasAllW_nil h2;obtain⟨xs,rfl,h3⟩:=hasW_list h1;obtain⟨ns,rfl⟩:=items_int h3
 have hlen:ns.length<=n:=by
  unfold OpenLaw.pre at hc
  have h4:(WTm.not (.lt (.lit (.int (n:Int))) (.len (.arg 0)))).holds [] { args:=[.list (ns.map .int)] }=true:=by have h4:=(holds_andW hc).1;rw[hn] at h4;exact h4
  have h5:=condW_of h4 (w_not (w_lt w_lit (w_len_list (w_arg rfl))));rw[Qy] at h5;refine Nat.le_of_not_lt fun q=>?_
  have q':(n:Int)<((ns.length:Nat):Int):=by omega
  first
   | (rw[decide_eq_true q'] at h5;exact absurd h5 (by decide))
   | (simp at h5;omega)
 cases hwl with
 | cons w1 w2 =>
  cases w2
  cases w1 with
  | list ho hall=>exact⟨_,_,ns,rfl,rfl,ho,Wn ns _ hall,hlen⟩

theorem JdT(l:OpenLaw)(args:List WData):l.row.toRowW.claim.post args (.bool true) args=true :=
 postW_of (r:=l.row.toRowW) (X:=(true == true))
  (show WShape.has [] (.bool true) .bool=true by first|rfl|decide|simp[WShape.has,WShape.arms,WShape.armsAll])
  (show(WTm.eq .res (.lit (.bool true))).value [] { args:=args,res:=some (.bool true),after:=args }=some (.bool (true == true)) from w_eq_bool (w_res rfl) w_lit) rfl

theorem attach_call{l:OpenLaw}{n:Nat}{q:Qp}{loose:List Str}{XP:(Str->Option Qa)->QJ->Prop}{YP:QC->QJ->Prop}{d:DefRec}
 (hn:l.most=some n) (hdf:d.params.defaults=[])
 (call:∀(w:QC) (s₀ s₁:Qd) (mg mb:Str->Option Qa) (fa:Qc) (o:Obj) (pm cd doc:Qa) (a:Qc) (vs:List Qa) (ns:List Int),
  Ground q loose [] XP w s₀ mg mb s₁.heap->YP w s₁.heap ->
  s₁.heap.get? fa=some o->o.data=.func (docDef d.name d.params d.body d.scope pm cd doc)->s₁.heap.CodeRec cd d.name->mg d.name=some (.ref fa) ->
  s₁.heap.get? a=some { cls:=.type "list",data:=.seq vs.toArray }->IntsAre vs ns->ns.length<=n->s₁.gens=#[] ->
  codeAny (model l.prog w) callerA (.call (.ref fa) ⟨[.ref a],[]⟩) (fun r s'=>r=.ok (.ret (.bool true))/\OldK s₁.heap s'.heap/\s'.os=s₁.os/\AllBare s'.gens) s₁) :
 WalkO q loose XP YP l.row.toRowW d [] (fun f vs=>PySem.call f vs):=by
 intro w s₀ s₁ mg mb G Y fa o pm cd doc dV kV ho hd hcd hD hmg hg args vals as hpre hlay hrd hwl hlo;obtain rfl:dV=.none:=Dflts.none hD hdf;obtain rfl:kV=.none:=Dflts.noKw hD;obtain⟨a,vs,ns,rfl,rfl,hobj,hints,hlen⟩:=JdX hn hpre hwl;refine enter_call (Ks (call w s₀ s₁ mg mb fa o pm cd doc a vs ns G Y ho (fd_plain hd) hcd hmg hobj hints hlen hg) fun r s' hq=>?_);obtain⟨rfl,h2,h3,h4⟩:=hq;exact⟨.inl ⟨.bool true,.bool true,[],rfl,fun _=>rfl,.bool true,JdT l _,fun _=>⟨List.Pairwise.nil,fun _ hm=>(nomatch hm)⟩⟩,h2,h3,h4⟩

section
variable{prog:Qp}{w:QC}{A:Qx}{E:Qa->Qd->Prop}{s:Qd}{K:Qq}

end
end Att

namespace L2
open PySem PySem.Spec PyProof.Rows

theorem Z7:∀{vs:List Qa} {ns:List Int},IntsAre vs ns->Vals (ns.map V.int) vs
 | _,_,.nil=>.nil
 | _,_,.cons n t h=>.cons ⟨t,rfl⟩ (Z7 h)

noncomputable def JiL(H:Hp):Prop:=∀b,H b=none\/∃o xs,H b=some (.frz o (.lst xs))

theorem JeU{P:Qp}{w:QC}{K:Qq}{mg mb:Str->Option Qa}{CX:CXT}{k:Nat}{fa a:Qc}{fd:QH}{x:Str}{sp:Sp}{s₁:Qd}{vs:List Qa}{ns:List Int}
 (KX:K.In s₁.heap) (hns:s₁.heap.Ns mainGlobals mg) (hb:s₁.heap.Ns builtinsNs mb) (hbb:∀x:Str,x≠"__name__"->mb x=bootBuiltins x) (hlim:s₁.heap.NoLimit) (hg:s₁.gens=#[])
 (ha:s₁.heap.get? a=some { cls:=.type "list",data:=.seq vs.toArray }) (hi:IntsAre vs ns) (hl:ns.length<=Qu) (hr:Room k callerA)
 (F:∀base:QJ,K.In base->base.Ns mainGlobals mg->FnOk P w K mg base CX k fa fd [x] sp) (hbind:∀(s:Qd) (u:Qa),BindsTo s fd ⟨[u],[]⟩ [(x,u)])
 (hsp:∀H:Hp,JiL H->SqL K H a (ns.map V.int)->sp [.ref a] H (fun v _=>v=.bl true) fun _ _ _=>False)
 (hCX:∀H e s',CX [] H s₁ (fun _ _ _=>False) e s'->False) :
 codeAny (model P w) callerA (.call (.ref fa) ⟨[.ref a],[]⟩) (fun r s'=>r=.ok (.ret (.bool true))/\OldK s₁.heap s'.heap/\s'.os=s₁.os/\AllBare s'.gens) s₁:=by
 have rv:=Z7 hi
 have lenV:=hi.length
 -- from an abstract heap in which nothing but the script may be tracked
 have core:∀H:Hp,JiL H->SqL K H a (ns.map V.int)->HOk P w H s₁.heap->(∀b,H b≠none->b=a)->(H a≠none->K.lookup a=none) ->
  codeAny (model P w) callerA (.call (.ref fa) ⟨[.ref a],[]⟩) (fun r s'=>r=.ok (.ret (.bool true))/\OldK s₁.heap s'.heap/\s'.os=s₁.os/\AllBare s'.gens) s₁:=by
  intro H hO hS hok hA hK;have base_of:∀{b:Qc} {o:Obj},s₁.heap.get? b=some o->H b=none->(Jas s₁.heap H).get? b=some o:=fun e n=>JeJ e n
  have noA:∀{b:Qc} {o:Obj} {es:Array DictEntry} {ep:Nat},s₁.heap.get? b=some o->o.data=.dict es ep->H b=none:=fun {b o es ep} e d=>by
   cases q:H b with
   | none=>rfl
   | some u =>
    have e':b=a:=hA b (by rw[q];simp);subst e';rw[ha] at e;cases e
    have d':Data.seq vs.toArray _=Data.dict es ep:=d;cases d'
  have nsK:∀{b:Qc} {m:Str->Option Qa},s₁.heap.Ns b m->(Jas s₁.heap H).Ns b m:=fun {b m} ⟨o,es,ep,e,d,r⟩=>⟨o,es,ep,base_of e (noA e d),d,r⟩
  have hKb:K.In (Jas s₁.heap H):=fun b o e=>base_of (KX b o e) (by
   cases q:H b with
   | none=>rfl
   | some u=>have e':b=a:=hA b (by rw[q];simp);subst e';rw[hK (by rw[q];simp)] at e;cases e)
  have hM:Mod K mg (Jas s₁.heap H):=⟨hKb,nsK hns,⟨mb,nsK hb,hbb⟩,let ⟨mc,h1,h2⟩:=hlim;⟨mc,nsK h1,h2⟩⟩
  have e0:Env0 P w K mg (Jas s₁.heap H) callerA [] s₁ H:=⟨rfl,hM,fun b o e=>Jhg e,MN (JdA _ _),trivial,fun b hb=>absurd (show b∈([]:List Qc) from hb) (by simp),hok,.of_eq hg⟩
  refine Ks ((F _ hKb (nsK hns)).run callerA [] s₁ H ⟨[.ref a],[]⟩ [.ref a] [.ref a] _ _ hr e0 (hbind s₁ (.ref a)) (.cons rfl .nil) (hsp H hO hS)) fun r s' h=>?_
  cases r with
  | error e=>exact(hCX H e s' h).elim
  | ok fl =>
   cases fl with
   | next=>exact Q3 h
   | brk=>exact Q3 h
   | cont=>exact Q3 h
   | ret u =>
    obtain⟨v,H',os,bare,un,hok',r',q⟩:=h;have q':v=.bl true:=q;subst q';obtain rfl:u=Value.bool true:=r';refine⟨rfl,OldK.of_keep fun b o e=>?_,os,bare⟩
    cases q:H b with
    | none=>exact un.keep b o e q (by intro z;exact absurd (show b∈([]:List Qc) from z) (by simp)) (by simp)
    | some u =>
     rcases hO b with z|⟨ob,xs,z⟩
     ·rw[q] at z;cases z
     ·have z2:=un.frzs b ob _ z;obtain⟨e1,_⟩:=hok b _ z;obtain⟨e2,_⟩:=hok' b _ z2;rw[e] at e1;cases e1;exact e2
 cases hk:K.lookup a with
 | some o =>
  -- the script is one of the module's own objects
  have e:=KX a o hk;rw[ha] at e;cases e;refine core (fun _=>none) (fun _=>.inl rfl) (.inr ⟨_,vs.toArray,_,hk,rfl,rfl,rfl,by rw[Qn,lenV];exact hl,by simpa using rv⟩) (fun b u z=>by have z':(none:Option HO)=some u:=z;cases z') (fun b z=>absurd rfl z) fun z=>absurd rfl z
 | none =>
  refine core (fun b=>if b=a then some (.frz { cls:=.type "list",data:=.seq vs.toArray } (.lst (ns.map V.int))) else none) (fun b=>?_) (.inl (.inr ⟨{ cls:=.type "list",data:=.seq vs.toArray },if_pos rfl⟩)) (fun b u z=>?_) (fun b z=>?_) fun _=>hk
  ·by_cases hb:b=a
   ·exact .inr ⟨_,_,if_pos hb⟩
   ·exact .inl (if_neg hb)
  ·by_cases hb:b=a
   ·have z':=(if_pos hb).symm.trans z;cases z';subst hb;exact⟨ha,by rw[Qy];exact hl,vs,_,rv,ha⟩
   ·have z':=(if_neg hb).symm.trans z;cases z'
  ·by_cases hb:b=a
   ·exact hb
   ·exact absurd (if_neg hb) z
end L2

namespace L2
open PySem PySem.Spec PyProof.Rows

theorem Jig{l:PySem.W.OpenLaw}{n k:Nat}{q:Qp}{loose:List Str}{XP:(Str->Option Qa)->QJ->Prop}{YP:QC->QJ->Prop}{d:DefRec}{K:Params->Qq}{CX:QC->CXT}{sp:QC->Sp}{x:Str}
 (hn:l.most=some n) (hn2:n<=Qu) (hdf:d.params.defaults=[]) (hr:Room k callerA)
 (hY:∀(w:QC) (h:QJ),YP w h->(K w.params).In h)
 (F:∀(w:QC) (mg:Str->Option Qa) (fa:Qc) (h:QJ),(K w.params).In h->h.Ns mainGlobals mg->mg d.name=some (.ref fa) ->
  ∃fd:QH,(∀(s:Qd) (u:Qa),BindsTo s fd ⟨[u],[]⟩ [(x,u)]) ∧
   ∀base:QJ,(K w.params).In base->base.Ns mainGlobals mg->FnOk l.prog w (K w.params) mg base (CX w) k fa fd [x] (sp w))
 (hsp:∀(w:QC) (H:Hp) (a:Qc) (ns:List Int),ns.length<=n->JiL H->SqL (K w.params) H a (ns.map V.int)->sp w [.ref a] H (fun v _=>v=.bl true) fun _ _ _=>False)
 (hCX:∀(w:QC) (H:Hp) (s:Qd) (e:Qa) (s':Qd),CX w [] H s (fun _ _ _=>False) e s'->False) :
 PySem.W.WalkO q loose XP YP l.row.toRowW d [] (fun f vs=>PySem.call f vs):=by
 refine Att.attach_call hn hdf fun w s₀ s₁ mg mb fa o pm cd doc a vs ns G Y ho hd hcd hmg hobj hints hlen hg=>?_
 have KX:=hY w _ Y;obtain⟨fd,hb,hF⟩:=F w mg fa _ KX G.T.g hmg;exact JeU KX G.T.g G.T.b G.T.builtins G.T.nolimit hg hobj hints (QK hlen hn2) hr hF hb (fun H hO hS=>hsp w H a ns hlen hO hS) fun H e s'=>hCX w H s₁ e s'
end L2

namespace L2
open PySem PySem.Spec PyProof.Rows

noncomputable def JgY(s:Gw)(j:Nat):Gw:=match s with
 | .ClassDef _ _ _ body _ _ _ _ _ _ _=>body.getD j (.Pass ⟨0,0,0,0⟩)
 | _=>.Pass ⟨0,0,0,0⟩
noncomputable def Uf(s:Gw):Arguments:=match s with
 | .FunctionDef _ a _ _ _ _ _ _ _ _=>a
 | _=>{ posonlyargs:=[],args:=[],vararg:=none,kwonlyargs:=[],kw_defaults:=[],kwarg:=none,defaults:=[] }
noncomputable def Yw(s:Gw):List Gw:=match s with
 | .FunctionDef _ _ b _ _ _ _ _ _ _=>b
 | _=>[]
noncomputable def Jr(s:Gw):Lx:=match s with
 | .FunctionDef _ _ _ _ _ _ sc _ _ _=>sc
 | _=>{ kind:=.function,names:=[],isGenerator:=false,isCoroutine:=false }

noncomputable abbrev CX0:CXT:=fun _ _ _ _ _ _=>False
noncomputable abbrev E0:XK:=fun _ _ _=>False
theorem JlN{X:Cx}:WB CX0 X E0:=fun _ _ _ _ _ _ _ h=>h.elim

structure Fun (K:Qq) (x qual:Str) (st:Gw) (f:Qc) (fd:QH):Prop where
 ex:∃(oc:Qa) (od:Option Qc) (kV doc pm:Qa) (an:Option Qc) (cdv ct:Qa) (osl:Array (Option Qa)),
  fd=fnOf x qual (Uf st) (Yw st) (Jr st) .none kV doc pm an cdv ct/\K.lookup f=some ⟨oc,od,.func fd,osl⟩/\codeIn K cdv qual=true
 kp:keepIn K (.ref f)=true
section
variable{P:Qp}{w:QC}{K:Qq}{mg:Str->Option Qa}{base:QJ}
theorem Fun.ok{x qual:Str}{st:Gw}{f:Qc}{fd:QH}{N ps:List Str}{k:Nat}{sp:Sp}(F:Fun K x qual st f fd)(S:FnScope N ps (Jr st))(len:∀vs H Q E,sp vs H Q E->vs.length=ps.length)
 (hbody:∀(cdv:Qa) (A:Qx) (outer:List Env) (s:Qd) (H:Hp) (vs:List V) (Q:VK) (E:XK),Room k (A.deeper (envOfC qual (Jr st) s.heap.objs.size f cdv))->sp vs H Q E ->
  ∃t,PSs (WG CX0 P w K mg base N qual (Jr st) f cdv A outer s H E).nox (Yw st) t/\t { nx:=fun _ H'=>Q .non H',rt:=Q } (YD N vs) H):FnOk P w K mg base CX0 (k+1) f fd ps sp:=by
 obtain⟨oc,od,kV,doc,pm,an,cdv,ct,osl,rfl,lk,hcd⟩:=F.ex;refine Jiq lk hcd S len fun A outer s H vs Q E hr hsp=>?_
 obtain⟨t,h,q⟩:=hbody cdv A outer s H vs Q E hr hsp;exact⟨t,h.nox,q⟩
theorem Fun.binds{x qual:Str}{st:Gw}{f:Qc}{fd:QH}{ps:List Str}(F:Fun K x qual st f fd)
 (h:∀(kV doc pm:Qa) (an:Option Qc) (cdv ct:Qa) (us:List Qa),us.length=ps.length->bindArgs (fnOf x qual (Uf st) (Yw st) (Jr st) .none kV doc pm an cdv ct) ⟨us,[]⟩=pure (ps.zip us)):Binds K fd ps []:=by
 obtain⟨oc,od,kV,doc,pm,an,cdv,ct,osl,rfl,lk,hcd⟩:=F.ex;exact .all (h kV doc pm an cdv ct)
theorem JeH{x qual:Str}{st:Gw}{f:Qc}{oc:Qa}{od an:Option Qc}{osl:Array (Option Qa)}{kV doc pm cdv ct:Qa}(l:K.lookup f=some ⟨oc,od,.func (fnOf x qual (Uf st) (Yw st) (Jr st) .none kV doc pm an cdv ct),osl⟩)
 (c:codeIn K cdv qual=true) (k:keepIn K (.ref f)=true):Fun K x qual st f (fnOf x qual (Uf st) (Yw st) (Jr st) .none kV doc pm an cdv ct):=⟨⟨oc,od,kV,doc,pm,an,cdv,ct,osl,rfl,l,c⟩,k⟩
end
section
variable{X:Cx}
theorem pv(i:Nat){x:Str}{pos:Pos}(hN:X.N[i]?=some x:=by rfl)(hv:Vis X.env.scope x:=by first | exact Or.inl rfl | exact Or.inr (.inl rfl) | exact Or.inr (.inr rfl))(hd:(x == ("__debug__":Str))=false:=by decide)
 (hcd:(x == ("__classdict__":Str))=false:=by decide):PE X (.Name x pos) (Zk i):=W6 hN hv hd hcd
end

noncomputable def Same(H H':Hp):Prop:=∀b o,H b=some o->H' b=some o
theorem Same.refl(H:Hp):Same H H:=fun _ _ h=>h
theorem Same.trans{H H1 H2:Hp}(a:Same H H1)(b:Same H1 H2):Same H H2:=fun c o h=>b c o (a c o h)
theorem Same.free{H H':Hp}(e:Same H H'){l:Qc}(h:H' l=Option.none):H l=Option.none:=by
 cases q:H l with
 | none=>rfl
 | some o=>rw[e l o q] at h;cases h
theorem Same.seq{K:Qq}{H H':Hp}{a:Qc}{xs:List V}(e:Same H H')(h:SqL K H a xs):SqL K H' a xs:=by
 rcases h with (h|⟨o,h⟩)|h
 ·exact .inl (.inl (e _ _ h))
 ·exact .inl (.inr ⟨o,e _ _ h⟩)
 ·exact .inr h

end L2

namespace L2
open PySem PySem.Spec PyProof.Rows

section
variable{κ:Type}[DecidableEq κ]
noncomputable def Wp(kvs:List (κ×V))(k:κ):Option V:=(kvs.find? fun kv=>decide (kv.1=k)).map (·.2)
noncomputable def Jbs(kvs:List (κ×V))(k:κ)(v:V):List (κ×V) :=
 if (kvs.any fun kv=>decide (kv.1=k))=true then kvs.map (fun kv=>if kv.1=k then(kv.1,v) else kv) else kvs++[(k,v)]
noncomputable def Jim(kvs:List (κ×V))(k:κ):List (κ×V):=kvs.filter fun kv=>decide (kv.1≠k)

theorem Zo{p:κ×V}{r:List (κ×V)}{k:κ}(e:p.1=k):Wp (p::r) k=some p.2:=by simp[Wp,Kc,e]
theorem Zn{p:κ×V}{r:List (κ×V)}{k:κ}(e:¬p.1=k):Wp (p::r) k=Wp r k:=by simp[Wp,Kc,e]
theorem JbF(k:κ):∀kvs:List (κ×V),(kvs.any fun kv=>decide (kv.1=k))=(Wp kvs k).isSome
 | []=>rfl
 | p::r=>by
  rw[GW]
  by_cases e:p.1=k
  ·simp only[Zo e,decide_eq_true e,Bool.true_or,Option.isSome_some]
  ·rw[Zn e,decide_eq_false e,LJ];exact JbF k r
theorem RelO.isSome_eq{o:Option V}{u:Option Qa}(r:RelO o u):o.isSome=u.isSome:=by
 cases o with
 | none=>cases u with
  | none=>rfl
  | some _=>exact(show False from r).elim
 | some _=>cases u with
  | none=>exact(show False from r).elim
  | some _=>rfl
theorem RelO.getD{o:Option V}{u:Option Qa}{d:V}{d':Qa}(r:RelO o u)(rd:RelV d d'):RelV (o.getD d) (u.getD d'):=by
 cases o with
 | none=>cases u with
  | none=>exact rd
  | some _=>exact(show False from r).elim
 | some _=>cases u with
  | none=>exact(show False from r).elim
  | some _=>exact r

theorem KV.val{kvs:List (κ×V)}{vs:List (κ×Qa)}(r:KV kvs vs)(k:κ):RelO (Wp kvs k) (valueAt vs k):=by
 unfold KV at r
 induction r with
 | nil=>exact True.intro
 | @cons p q ps qs h t ih =>
  obtain⟨h1,h2⟩:=h
  by_cases e:p.1=k
  ·have e':q.1=k:=h1.symm.trans e
   have b:valueAt (q::qs) k=some q.2:=by simp[valueAt,Kc,e']
   rw[Zo e,b];exact h2
  ·have e':¬q.1=k:=fun z=>e (h1.trans z)
   have b:valueAt (q::qs) k=valueAt qs k:=by simp[valueAt,Kc,e']
   rw[Zn e,b];exact ih
theorem KV.any{kvs:List (κ×V)}{vs:List (κ×Qa)}(r:KV kvs vs)(k:κ):(kvs.any fun kv=>decide (kv.1=k))=vs.any fun kv=>decide (kv.1=k):=by
 unfold KV at r
 induction r with
 | nil=>rfl
 | cons h t ih=>rw[GW,GW,ih,h.1]
theorem KV.repl{kvs:List (κ×V)}{vs:List (κ×Qa)}(r:KV kvs vs)(k:κ){y:V}{u:Qa}(ry:RelV y u) :
 KV (kvs.map fun kv=>if kv.1=k then(kv.1,y) else kv) (vs.map fun kv=>if kv.1=k then(kv.1,u) else kv):=by
 unfold KV at r ⊢
 induction r with
 | nil=>exact .nil
 | @cons p q ps qs h t ih =>
  rw[Qt,Qt];refine .cons ?_ ih;obtain⟨h1,h2⟩:=h
  by_cases e:p.1=k
  ·rw[if_pos e,if_pos (h1.symm.trans e)];exact⟨h1,ry⟩
  ·rw[if_neg e,if_neg (fun z=>e (h1.trans z))];exact⟨h1,h2⟩
theorem KV.put{kvs:List (κ×V)}{vs:List (κ×Qa)}(r:KV kvs vs)(k:κ){y:V}{u:Qa}(ry:RelV y u):KV (Jbs kvs k y) (stored vs k u):=by
 unfold Jbs stored;rw[r.any k]
 by_cases e:(vs.any fun kv=>decide (kv.1=k))=true
 ·rw[if_pos e,if_pos e];exact r.repl k ry
 ·rw[if_neg e,if_neg e];exact Paired.snoc r ⟨rfl,ry⟩
theorem KV.drop{kvs:List (κ×V)}{vs:List (κ×Qa)}(r:KV kvs vs)(k:κ):KV (Jim kvs k) (without vs k):=by
 unfold KV at r ⊢;unfold Jim without
 induction r with
 | nil=>exact .nil
 | @cons p q ps qs h t ih =>
  obtain⟨h1,h2⟩:=h;rw[List.filter_cons,List.filter_cons]
  by_cases e:p.1=k
  ·have a:¬decide (p.1≠k)=true:=by simp[e]
   have b:¬decide (q.1≠k)=true:=by simp[h1.symm.trans e]
   rw[if_neg a,if_neg b];exact ih
  ·have e':¬q.1=k:=fun z=>e (h1.trans z)
   have a:decide (p.1≠k)=true:=by simp[e]
   have b:decide (q.1≠k)=true:=by simp[e']
   rw[if_pos a,if_pos b];exact .cons ⟨h1,h2⟩ ih
theorem KV.keys{kvs:List (κ×V)}{vs:List (κ×Qa)}(r:KV kvs vs):kvs.map (·.1)=vs.map (·.1):=by
 unfold KV at r
 induction r with
 | nil=>rfl
 | cons h t ih=>rw[Qt,Qt,ih,h.1]
theorem KV.length{kvs:List (κ×V)}{vs:List (κ×Qa)}(r:KV kvs vs):kvs.length=vs.length:=My r
end

noncomputable abbrev KT(H:Hp):List (List Key×V)->List (List Key×Qc×Qa)->Prop:=Paired fun p q=>p.1=q.1/\H q.2.1=some (.tup (p.1.map kV))/\RelV p.2 q.2.2
theorem KT.val{H:Hp}{kvs:List (List Key×V)}{xs:List (List Key×Qc×Qa)}(r:KT H kvs xs)(k:List Key):RelO (Wp kvs k) ((atKey xs k).map (·.2)):=by
 induction r with
 | nil=>exact True.intro
 | @cons p q ps qs h t ih =>
  obtain⟨h1,_,h2⟩:=h
  by_cases e:p.1=k
  ·have e':q.1=k:=h1.symm.trans e
   have b:atKey (q::qs) k=some q.2:=by simp[atKey,Kc,e']
   rw[Zo e,b];exact h2
  ·have e':¬q.1=k:=fun z=>e (h1.trans z)
   have b:atKey (q::qs) k=atKey qs k:=by simp[atKey,Kc,e']
   rw[Zn e,b];exact ih
theorem KT.repl{H:Hp}{kvs:List (List Key×V)}{xs:List (List Key×Qc×Qa)}(r:KT H kvs xs)(k:List Key){y:V}{u:Qa}(ry:RelV y u) :
 KT H (kvs.map fun kv=>if kv.1=k then(kv.1,y) else kv) (xs.map (putAt k u)):=by
 induction r with
 | nil=>exact .nil
 | @cons p q ps qs h t ih =>
  rw[Qt,Qt];refine .cons ?_ ih;obtain⟨h1,h2,h3⟩:=h;unfold putAt
  by_cases e:p.1=k
  ·rw[if_pos e,if_pos (h1.symm.trans e)];exact⟨h1,h2,ry⟩
  ·rw[if_neg e,if_neg (fun z=>e (h1.trans z))];exact⟨h1,h2,h3⟩
theorem KT.put{H:Hp}{kvs:List (List Key×V)}{xs:List (List Key×Qc×Qa)}(r:KT H kvs xs)(k:List Key){b:Qc}{y:V}{u:Qa}(hb:H b=some (.tup (k.map kV)))(ry:RelV y u) :
 KT H (Jbs kvs k y) (storedH xs k b u):=by
 have e:(kvs.any fun kv=>decide (kv.1=k))=(atKey xs k).isSome:=by rw[JbF,(r.val k).isSome_eq,Option.isSome_map]
 unfold Jbs storedH;rw[e]
 by_cases q:(atKey xs k).isSome=true
 ·rw[if_pos q,if_pos q];exact r.repl k ry
 ·rw[if_neg q,if_neg q];exact Paired.snoc r ⟨rfl,hb,ry⟩
theorem KT.keeps{H H':Hp}{kvs:List (List Key×V)}{xs:List (List Key×Qc×Qa)}(r:KT H kvs xs)(ht:∀b ys,H b=some (.tup ys)->H' b=some (.tup ys)):KT H' kvs xs :=
 Paired.mapP r fun _ _ z=>⟨z.1,ht _ _ z.2.1,z.2.2⟩

section
variable{P:Qp}{w:QC}{H:Hp}{h:QJ}{a:Qc}
end

noncomputable def DGet(H:Hp)(a:Qc)(y:V)(r:Option V):Prop :=
 (∃kvs k,Rd H a (.dK kvs)/\y=kV k/\r=Wp kvs k)\/∃kvs k b,Rd H a (.dT kvs)/\y=.ref b/\H b=some (.tup (k.map kV))/\r=Wp kvs k
noncomputable def DPut(H:Hp)(a:Qc)(y v:V)(H':Hp):Prop :=
 (∃kvs k,H a=some (.dK kvs)/\y=kV k/\kvs.length<Qu/\H'=upd H a (.dK (Jbs kvs k v))) ∨
 ∃kvs k b,H a=some (.dT kvs)/\y=.ref b/\H b=some (.tup (k.map kV))/\kvs.length<Qu/\H'=upd H a (.dT (Jbs kvs k v))
theorem DGet.k{H:Hp}{a:Qc}{kvs:List (Key×V)}{k:Key}(e:H a=some (.dK kvs)):DGet H a (kV k) (Wp kvs k):=.inl ⟨kvs,k,.inl e,rfl,rfl⟩
theorem DGet.t{H:Hp}{a b:Qc}{kvs:List (List Key×V)}{k:List Key}(e:H a=some (.dT kvs))(eb:H b=some (.tup (k.map kV))):DGet H a (.ref b) (Wp kvs k):=.inr ⟨kvs,k,b,.inl e,rfl,eb,rfl⟩
theorem DPut.k{H:Hp}{a:Qc}{kvs:List (Key×V)}{k:Key}{v:V}(e:H a=some (.dK kvs))(hl:kvs.length<Qu):DPut H a (kV k) v (upd H a (.dK (Jbs kvs k v))):=.inl ⟨kvs,k,e,rfl,hl,rfl⟩
theorem DPut.t{H:Hp}{a b:Qc}{kvs:List (List Key×V)}{k:List Key}{v:V}(e:H a=some (.dT kvs))(eb:H b=some (.tup (k.map kV)))(hl:kvs.length<Qu) :
 DPut H a (.ref b) v (upd H a (.dT (Jbs kvs k v))):=.inr ⟨kvs,k,b,e,rfl,eb,hl,rfl⟩

section
variable{X:Cx}{pins:List (Qc×Obj)}{σ:St}{H:Hp}{s:Qd}{a:Qc}{y v:V}{u r:Qa}{o:Option V}{A:Qx}{E:Qa->Qd->Prop}

theorem Inv.big(I:Inv X pins σ H s):sysModules<s.heap.objs.size:=by have h:mainGlobals<s.heap.objs.size:=(I.mod.glob.keeps I.bk).lt;exact G9 (by decide) h

end

section
variable{X:Cx}{pins:List (Qc×Obj)}{σ:St}{H:Hp}{s:Qd}{a:Qc}{kvs:List (Key×V)}{k:Key}{u:Qa}{A:Qx}{E:Qa->Qd->Prop}
end

section
variable{X:Cx}{o i e value:QQ}{pos pos' tpos:Pos}{td ty tv:TE}
end

section
variable{X:Cx}{pos:Pos}
end

structure M1 (X:Cx) (o:QQ) (m:Str) (apos:Pos) (e:QQ) (cpos:Pos):Prop where
 base:attributeBase o m X.env (eval o X.env)=eval o X.env
 few:((backTo cpos (starEach [e] X.env)).all (fun x=>!x.1) && (backToKw cpos (keywordEach [] X.env)).all (fun x=>x.1.isSome)
  && decide (([e]:List QQ).length+([]:List Lh).length+(if ([]:List Lh).isEmpty then 0 else 1)<30))=true
 line:(apos.endLine == cpos.line)=true
 trees:backTo cpos (starEach [e] X.env)=[(false,eval e X.env)]
structure M2 (X:Cx) (o:QQ) (m:Str) (apos:Pos) (e f:QQ) (cpos:Pos):Prop where
 base:attributeBase o m X.env (eval o X.env)=eval o X.env
 few:((backTo cpos (starEach [e,f] X.env)).all (fun x=>!x.1) && (backToKw cpos (keywordEach [] X.env)).all (fun x=>x.1.isSome)
  && decide (([e,f]:List QQ).length+([]:List Lh).length+(if ([]:List Lh).isEmpty then 0 else 1)<30))=true
 line:(apos.endLine == cpos.line)=true
 trees:backTo cpos (starEach [e,f] X.env)=[(false,eval e X.env),(false,eval f X.env)]

section
variable{X:Cx}{pins:List (Qc×Obj)}{σ:St}{H:Hp}{s:Qd}{a:Qc}{y d:V}{u r:Qa}{o:Option V}{A:Qx}{E:Qa->Qd->Prop}
end

section
variable{X:Cx}{o e f:QQ}{apos cpos:Pos}{td ty tx:TE}
end

section
variable{X:Cx}{pins:List (Qc×Obj)}{σ:St}{H:Hp}{s:Qd}{a:Qc}{kvs:List (Key×V)}{A:Qx}{E:Qa->Qd->Prop}
end

section
variable{X:Cx}{pins:List (Qc×Obj)}{σ:St}{H:Hp}{s:Qd}{a:Qc}{y:V}{u:Qa}{A:Qx}{E:Qa->Qd->Prop}
end
end L2
namespace L2
open PySem PySem.Spec PyProof.Rows

noncomputable def Jf5(X:Cx)(ifs:List QQ)(t:TT):Prop :=
 ∀(pins:List (Qc×Obj)) (s:Qd) (σ:St) (H:Hp) (Q:Bool->Hp->Prop),Inv X pins σ H s->t σ H Q ->
  wpAny (model X.prog X.w) X.A (forIn ifs true fun c r=>if r=true then do let ok <- isTrue c X.env (eval c X.env);pure (ForInStep.yield ok) else pure (ForInStep.yield r)) (TP X pins σ Q) X.xe s
noncomputable def Jk0:TT:=fun _ H Q=>Q true H
theorem Uu{X:Cx}:Jf5 X [] Jk0:=fun _ _ _ H _ I h=>wpAny_tests_nil ⟨H,I,h⟩
noncomputable def blk(X:Cx)(sc:Lx)(cl:List (Str×Qc))(N':List Str)(C:Qc)(s:Qd)(H:Hp)(fp:List Qc):Cx where
 prog:=X.prog
 w:=X.w
 K:=X.K
 mg:=X.mg
 base:=X.base
 A:=X.A
 N:=N'
 s₀:=s
 H₀:=H
 env:=compEnvC sc cl C X.env
 outer:=X.stack
 stack:=X.stack
 ex:=fp
 fn:=fun _=>false
 calm:=X.calm
 pn:=[]
 xe:=fun _ _=>False

noncomputable def Jba(imp:List (Option Nat))(σ:St):St:=imp.map fun o=>match o with
 | none=>none
 | some k=>(σ[k]?).join

structure Blk (X:Cx) (sc:Lx) (cl:List (Str×Qc)) (N':List Str) (imp:List (Option Nat)):Prop where
 clos:closureFor sc X.env=pure cl
 kind:sc.kind=.function
 nocell:∀y∈sc.names,y.2≠.cell
 names:∀y∈sc.names,y.2=.local->sc.names.lookup y.1=some .local
 sub:∀p∈cl,X.env.cells.lookup p.1=some p.2
 has:∀y∈(relabel sc X.env).names,(y.2=.cell\/y.2=.free)->(cl.lookup y.1).isSome=true
 len:imp.length=N'.length
 im:∀p∈imp.zip N',∀k,p.1=some k->X.N[k]?=some p.2/\(X.env.scope.names.lookup p.2=some .cell\/X.env.scope.names.lookup p.2=some .free)/\((relabel sc X.env).names.lookup p.2=some .cell\/(relabel sc X.env).names.lookup p.2=some .free)

noncomputable def JfM(wi:TI)(g:TG)(tt:TT)(te:TE)(imp:List (Option Nat)):TE:=fun σ H Q=>wi σ H fun J H1=>∃W:Nat->Nat->List V->St->Hp->Prop,(∃m,W 0 m [] (Jba imp σ) H1)/\∀i m ys σ' H',W i m ys σ' H' ->
 (J.stop i H'/\ys.length<=Qu/\∀D,H' D=none->Q (.ref D) (upd H' D (.lst ys))) ∨
 (J.go i H'/\ys.length<Qu/\∃N:List V->St->Hp->Prop,(∀ys' σ2 H2,N ys' σ2 H2->∃m',m'<m/\W (i+1) m' ys' σ2 H2) ∧
  ∀x H2,J.yld i H' x H2->g x σ' H2 fun σ2 H3=>tt σ2 H3 fun b H4=>if b=true then te σ2 H4 fun y H5=>N (ys++[y]) σ2 H5 else N ys σ2 H4)

section
variable{P:Qp}{w:QC}{H:Hp}{h h':QJ}
theorem HOk.sameBut{C:Qc}(x:HOk P w H h)(hC:H C=none)(k:∀b o,b≠C->h.get? b=some o->h'.get? b=some o):HOk P w H h':=fun a o e =>
 (x a o e).stay (fun b u hb q=>k b u (by
  rintro rfl;rcases hb with z|z
  ·rw[<- z,hC] at e;cases e
  ·rw[hC] at z;cases z) q) (fun _ q=>q) fun _ _ q=>q
theorem HOk.track{D:Qc}{o:HO}(x:HOk P w H h)(hD:H D=none)(new:ObjOk P w (upd H D o) h D o):HOk P w (upd H D o) h:=fun b u e=>by
 by_cases hb:b=D
 ·subst hb;rw[JF] at e;cases e;exact new
 ·rw[Jm hb] at e;exact(x b u e).stay (fun c v _ q=>q) (fun c q=>by rw[Jm (JB q hD)];exact q) fun c xs q=>by rw[Jm (JB q hD)];exact q
end

theorem UD{α:Type}{x:Str}{c:α}:∀{l:List (Str×α)},l.lookup x=some c->(x,c)∈l:=fun h=>GA h

section
variable{X:Cx}{tg iter elt:QQ}{ifs:List QQ}{sc:Lx}{cl:List (Str×Qc)}{N':List Str}{imp:List (Option Nat)}{pos:Pos}{wi:TI}{g:TG}{tt:TT}{te:TE}

theorem Blk.subL(B:Blk X sc cl N' imp):∀x c,cl.lookup x=some c->X.env.cells.lookup x=some c:=fun x c e=>B.sub (x,c) (UD e)

theorem Jgd{pins:List (Qc×Obj)}{σ:St}{H:Hp}{s:Qd}{fp:List Qc}{h₁:QJ}{C:Qc}(B:Blk X sc cl N' imp)(I:Inv X pins σ H s)(hf:∀b∈fp,FpOk X pins H b)(hfo:∀b∈fp,∃o,s.heap.get? b=some o)
 (hC:s.heap.objs.size<C) (old:∀b o,s.heap.get? b=some o->h₁.get? b=some o) (ns:h₁.Ns C fun _=>none) :
 Inv (blk X sc cl N' C s H fp) [] (Jba imp σ) H { s with heap:=h₁,toks:=s.toks }:=by
 have hlt:∀b∈fp,b<s.heap.objs.size:=fun b hb=>let ⟨_,e⟩:=hfo b hb;Qm e
 have clt:∀x c,X.env.cells.lookup x=some c->c<s.heap.objs.size:=fun x c e=>let ⟨_,q⟩:=I.cell x c e;q.lt
 have ok:(blk X sc cl N' C s H fp).Ok:={
  mod:=I.ok.mod
  kind:=B.kind
  glob:=I.ok.glob
  blt:=I.ok.blt
  above:=KN hC
  inj:=fun x y c h1 h2=>I.ok.inj x y c (B.subL x c h1) (B.subL y c h2)
  has:=fun x hx=>by
   have hx':(relabel sc X.env).names.lookup x=some .cell\/(relabel sc X.env).names.lookup x=some .free:=hx
   have:(cl.lookup x).isSome=true:=by
    rcases hx' with z|z
    ·exact B.has (x,.cell) (UD z) (.inl rfl)
    ·exact B.has (x,.free) (UD z) (.inr rfl)
   exact KD.mp this
  cab:=fun x c z=>nomatch z
  hd:=I.ok.hd
  frames:=I.ok.frames
  stk:=.inl rfl
  exf:=fun b hb=>⟨QG (G9 (hlt b hb) hC),fun x c e=>(hf b hb).2.2.2.2.1 x c (B.subL x c e)⟩
  bs:=I.bs
  bsz:=QK I.ok.bsz I.sz
  noex:=fun b o e hb=>by
   rcases(hf b hb).2.2.2.1 with z|z
   ·exact I.ok.noex b o e z
   ·exact absurd (QD (Qm e) (QK I.ok.bsz z)) (Gd _)
  exfs:=fun b hb z=>by
   rcases Qv.mp (I.stkSub b z) with q|q
   ·exact(hf b hb).2.1 q
   ·exact(hf b hb).2.2.1 q
  funs:=I.stack
  frf:=I.stkFree }
 refine⟨ok,rfl,I.bare,Un.kept old,⟨_,ns,fun i x v h1 h2 h3=>?_⟩,fun x c e=>?_,I.hok.fresh (KN hC),fun x c e=>I.freeC x c (B.subL x c e),fun p hp=>absurd (show p∈([]:List (Qc×Obj)) from hp) (by simp),I.hok.kept old,?_⟩
 ·have h1':N'[i]?=some x:=h1
  have h2':(imp.map fun o=>match o with|none=>none|some k=>(σ[k]?).join)[i]?=some (some v):=h2;rw[QR] at h2'
  cases e:imp[i]? with
  | none=>rw[e] at h2';cases h2'
  | some q =>
   rw[e] at h2'
   cases q with
   | none=>cases h2'
   | some k =>
    have h2'':(σ[k]?).join=some v:=QI h2'
    have hk:σ[k]?=some (some v):=by
     cases e':σ[k]? with
     | none=>rw[e'] at h2'';cases h2''
     | some z=>rw[e'] at h2'';cases z with
      | none=>cases h2''
      | some z=>cases h2'';rfl
    have hm:(some k,x)∈imp.zip N':=by refine QX (i:=i) ?_;rw[List.getElem?_zip_eq_some];exact⟨e,h1'⟩
    obtain⟨b1,b2,b3⟩:=B.im _ hm k rfl;obtain⟨m,hn,hl⟩:=I.loc;obtain⟨u,r,l⟩:=hl k x v b1 hk (b2.elim (fun z=>.inr (.inl z)) fun z=>.inr (.inr z));refine⟨u,r,.inr ⟨b3,?_⟩⟩
    have hc:∃c,X.env.cells.lookup x=some c/\s.heap.IsCell c (some u):=by
     rcases l with ⟨z,_⟩|⟨_,z⟩
     ·have z':X.env.scope.names.lookup x=some .local:=z;rcases b2 with y|y <;> rw[y] at z' <;> cases z'
     ·exact z
    obtain⟨c,hc,oc,ho,hd⟩:=hc;obtain⟨c',hc'⟩:=ok.has x b3;have e2:=B.subL x c' hc';rw[hc] at e2;cases e2;exact⟨c,hc',oc,old c oc ho,hd⟩
 ·obtain⟨v,o,ho,hd⟩:=I.cell x c (B.subL x c e);exact⟨v,o,old c o ho,hd⟩
 ·show(imp.map _).length=N'.length;rw[Qy];exact B.len

theorem Jgc{pins pn:List (Qc×Obj)}{σ σ':St}{H2 H':Hp}{s2 s4:Qd}{fp:List Qc}{C D:Qc}{Cs:Qc}{ys:List V}{its:List Qa}{k:Nat}{h':QJ}(I2:Inv X pins σ H2 s2)(f2:∀b∈fp,FpOk X pins H2 b)
 (I5:Inv (blk X sc cl N' C s2 H2 fp) pn σ' H' s4) (hC:s2.heap.objs.size<C) (hD:H' D=none) (hDs:s2.heap.objs.size<=D) (hDC:D≠C) (eD:s4.heap.get? D=some { cls:=.type "list",data:=.seq its.toArray k })
 (rv:Vals ys its) (hz:ys.length<=Qu) (hsb:Ge C s4.heap h'):Inv X pins σ (upd H' D (.lst ys)) { s4 with heap:=h' }:=by
 have U:Un (frs X.stack) fp H2 H' s2.heap s4.heap:=I5.base
 have kk:∀b o,b≠C->s4.heap.get? b=some o->h'.get? b=some o:=hsb.extBut
 have hC':H' C=none:=I5.free
 have ok1:HOk X.prog X.w H' h':=HOk.sameBut (C:=C) I5.hok hC' kk
 have ok2:HOk X.prog X.w (upd H' D (.lst ys)) h':=ok1.track hD ⟨hz,its,k,rv,kk _ _ hDC eD⟩
 have lt:∀b o,s2.heap.get? b=some o->b≠C/\b≠D:=fun b o e=>⟨QG (G9 (Qm e) hC),QG (QD (Qm e) hDs)⟩
 refine I2.call' (s':={ s4 with heap:=h' }) (ch:=fp) I5.os ⟨fun b o e n hb hx=>kk b o (lt b o e).1 (U.keep b o e n hb hx),fun b o e n hb hx=>?_,fun b o e n hx=>?_,fun b o e hx=>?_,fun b xs e=>?_,fun b o u e=>?_,fun b ps e=>?_⟩ ok2 I5.bare
  fun b hb=>⟨(f2 b hb).2.2.2.1,(f2 b hb).2.1,(f2 b hb).2.2.2.2.1,(f2 b hb).2.2.2.2.2⟩
 ·obtain⟨sl,q⟩:=U.slot b o e n hb hx;exact⟨sl,kk b _ (lt b o e).1 q⟩
 ·rw[Jm (lt b o e).2];exact U.free b o e n hx
 ·obtain⟨o',q⟩:=U.there b o e hx;exact⟨o',kk b o' (lt b o e).1 q⟩
 ·have q:=U.tups b xs e;rw[Jm (JB q hD)];exact q
 ·have q:=U.frzs b o u e;rw[Jm (JB q hD)];exact q
 ·obtain⟨more,q⟩:=U.tbls b ps e;exact⟨more,by rw[Jm (JB q hD)];exact q⟩

noncomputable def Jlg(g:TG)(tt:TT)(te:TE)(imp:List (Option Nat))(σ:St)(Q:VK)(J:It)(H1:Hp):Prop:=∃W:Nat->Nat->List V->St->Hp->Prop,(∃m,W 0 m [] (Jba imp σ) H1)/\∀i m ys σ' H',W i m ys σ' H' ->
 (J.stop i H'/\ys.length<=Qu/\∀D,H' D=none->Q (.ref D) (upd H' D (.lst ys))) ∨
 (J.go i H'/\ys.length<Qu/\∃N:List V->St->Hp->Prop,(∀ys' σ2 H2,N ys' σ2 H2->∃m',m'<m/\W (i+1) m' ys' σ2 H2) ∧
  ∀x H2,J.yld i H' x H2->g x σ' H2 fun σ2 H3=>tt σ2 H3 fun b H4=>if b=true then te σ2 H4 fun y H5=>N (ys++[y]) σ2 H5 else N ys σ2 H4)
theorem ZP{pins:List (Qc×Obj)}{σ:St}{Q:VK}{itv:Qa}{s2:Qd}{RR:Qa->Qc->Result->Qd->Prop}{E:Qa->Qd->Prop}(hc:X.calm=true)(B:Blk X sc cl N' imp)
 (hg:∀C s H fp,PG (blk X sc cl N' C s H fp) tg g) (ht:∀C s H fp,Jf5 (blk X sc cl N' C s H fp) ifs tt) (he:∀C s H fp,PE (blk X sc cl N' C s H fp) elt te)
 (h2:PIE X pins σ tg (Jlg g tt te imp σ Q) itv s2)
 (fin:∀(C D:Qc) (s4:Qd) (H':Hp) (ys:List V) (m:Str->Option Qa),s2.heap.objs.size<C->s4.heap.Ns C m->H' C=none->(∀h',Ge C s4.heap h'->Inv X pins σ H' { s4 with heap:=h' })->Q (.ref D) H'->RR (.ref D) C (.ok .next) s4) :
 wpAny (model X.prog X.w) X.A (newList []) (fun acc s₃=>wpAny (model X.prog X.w) X.A (newFunctionEnv sc X.env.globals cl [] X.env.qual none .none (some X.env)) (fun cenv s₄=>codeAny (model X.prog X.w) X.A (.compStart (.ListComp elt [⟨tg,iter,ifs,0⟩] sc pos) 0 itv acc { cenv with scope:=relabel sc X.env }) (RR acc cenv.locals) s₄) E s₃) E s2:=by
 obtain⟨it,fp,tn,J,H2,e,I2,T,st2,f2,W,⟨m0,w0⟩,turn⟩:=h2;subst e;refine Gi (wpAny_newFunctionEnv B.nocell (by intro y hy;simp at hy) (fun h₁ hns₁ hsb₁=>?_) B.kind);dsimp only at hns₁ hsb₁ ⊢
 generalize hG:s2.heap.push { cls:=.type "list",dict:=none,data:=.seq ([]:List Qa).toArray }=G at hns₁ hsb₁ ⊢
 have hCs:G.objs.size=s2.heap.objs.size+1:=by rw[<- hG,G2]
 have hC:s2.heap.objs.size<G.objs.size:=by rw[hCs];exact K2 _
 have below:∀b,b<s2.heap.objs.size->b≠G.objs.size:=fun b hb=>QG (G9 hb hC)
 have old:∀b o,s2.heap.get? b=some o->h₁.get? b=some o:=fun b o e=>hsb₁.extBut b o (below b (Qm e)) (Qg _ (hG▸Qg _ e))
 have hD1:h₁.get? s2.heap.objs.size=some { cls:=.type "list",data:=.seq ([]:List Qa).toArray }:=hsb₁.extBut _ _ (QG hC) (Qg _ (hG▸Qz _ rfl))
 have fpo:∀b∈fp,∃o,s2.heap.get? b=some o:=fun b hb=>let ⟨o,e,_⟩:=T.obj 0 _ st2 b hb;⟨o,e⟩
 have I4:=Jgd B I2 f2 fpo hC old (show h₁.Ns G.objs.size fun _=>none from hns₁)
 -- the records of the block: the list that grows,the iterator's
 have stD:∀{H':Hp} {pn:List (Qc×Obj)},(∀b∈s2.heap.objs.size::fp,H' b=none)->(∀p∈pn,p.1∉s2.heap.objs.size::fp)->∀b∈s2.heap.objs.size::fp,FpOk (blk X sc cl N' G.objs.size s2 H2 fp) pn H' b:=fun {H' pn} hn hp b hb=>by
  have hp':∀p∈([]++pn:List (Qc×Obj)),p.1≠b:=fun p z q=>hp p (by simpa using z) (q▸hb)
  rcases Qv.mp hb with z|z
  ·subst z;refine⟨hn _ hb,QG hC,fun q=>?_,.inr (Qr _),fun x c e q=>?_,hp'⟩
   ·rcases Qv.mp (I2.stkSub _ q) with q|q
    ·exact absurd I2.lt (by rw[<- q];exact Gd _)
    ·exact I2.nofs (Qr _) q
   ·obtain⟨v,qc⟩:=I2.cell x c (B.subL x c e);exact absurd qc.lt (by rw[q];exact Gd _)
  ·refine⟨hn _ hb,below b (let ⟨_,e⟩:=fpo b z;Qm e),fun q=>?_,.inl z,fun x c e=>(f2 b z).2.2.2.2.1 x c (B.subL x c e),hp'⟩;rcases Qv.mp (I2.stkSub b q) with q|q
   ·exact(f2 b z).2.1 q
   ·exact(f2 b z).2.2.1 q
 have nDf:s2.heap.objs.size∉fp:=fun z=>let ⟨_,e⟩:=fpo _ z;absurd (Qm e) (Gd _)
 have loop:codeAny (model X.prog X.w) X.A (.compLoop (.ListComp elt [⟨tg,iter,ifs,0⟩] sc pos) 0 (.ref it) (.ref s2.heap.objs.size) (compEnvC sc cl G.objs.size X.env))
  (RR (.ref s2.heap.objs.size) G.objs.size) { s2 with heap:=h₁,toks:=s2.toks }:=by
  refine codeAny_loop rfl (fun n s'=>∃i ys its k σ' H',Inv (blk X sc cl N' G.objs.size s2 H2 fp) [] σ' H' s'/\tn i s'.heap/\(∀b∈s2.heap.objs.size::fp,H' b=none)/\Vals ys its/\s'.heap.get? s2.heap.objs.size=some { cls:=.type "list",data:=.seq its.toArray k }/\W i n ys σ' H') ?_ m0
   ⟨0,[],[],0,_,H2,I4,T.keep _ _ _ st2 (fun b _ o e=>old b o e),fun b hb=>?_,.nil,hD1,w0⟩
  ·rintro n s3 ⟨i,ys,its,k,σ3,H3,I3,st3,fr3,rv3,hD3,w3⟩;have fr3':∀b∈fp,FpOk (blk X sc cl N' G.objs.size s2 H2 fp) [] H3 b:=fun b hb=>stD (pn:=[]) fr3 (fun p z=>nomatch z) b (Qj _ hb)
   show wpAny _ X.A ((compTurn (.ListComp elt [⟨tg,iter,ifs,0⟩] sc pos) 0 (.ref it) (.ref s2.heap.objs.size) (compEnvC sc cl G.objs.size X.env)).onRaise (fun x=>do noteFrame x (compEnvC sc cl G.objs.size X.env);theTreesLotGoes x)) _ _ s3;refine wpAny_noted (wpAny_noRaise ?_);rw[compTurn_list];refine Qe (Kf (Qe ?_))
   have fD:=stD (pn:=[]) fr3 (fun p z=>nomatch z) s2.heap.objs.size QB
   have hDH:H3 s2.heap.objs.size=none:=fr3 _ QB
   have I3p:Inv (blk X sc cl N' G.objs.size s2 H2 fp) [(s2.heap.objs.size,{ cls:=.type "list",data:=.seq its.toArray k })] σ3 H3 s3:=I3.pins_of fun p hp=>by
    have e:p=(s2.heap.objs.size,{ cls:=.type "list",data:=.seq its.toArray k }):=by simpa using hp
    subst e;exact⟨hD3,hDH,fD.2.1,fD.2.2.1,fun v z=>by cases z⟩
   have pfp:∀p∈[(s2.heap.objs.size,({ cls:=.type "list",data:=.seq its.toArray k }:Obj))],p.1∉fp:=fun p hp=>by
    have e:p=(s2.heap.objs.size,{ cls:=.type "list",data:=.seq its.toArray k }):=by simpa using hp
    subst e;exact nDf
   have fpP:∀{H':Hp},(∀b∈fp,H' b=none)->∀b∈fp,FpOk (blk X sc cl N' G.objs.size s2 H2 fp) [(s2.heap.objs.size,({ cls:=.type "list",data:=.seq its.toArray k }:Obj))] H' b:=fun {H'} hn b hb =>
    have f:=stD (pn:=[]) fr3 (fun p z=>nomatch z) b (Qj _ hb)
    ⟨hn b hb,f.2.1,f.2.2.1,f.2.2.2.1,f.2.2.2.2.1,fun p hp q=>pfp p ((Gm.mp hp).elim (fun z=>nomatch (show p∈([]:List (Qc×Obj)) from z)) id) (q▸hb)⟩
   rcases turn i n ys σ3 H3 w3 with ⟨stop,hz,q⟩|⟨go,hz,N,hN,step⟩
   ·refine thn (T.done (blk X sc cl N' G.objs.size s2 H2 fp) rfl rfl rfl hc i _ s3 σ3 H3 _ I3p (fpP fun b hb=>fr3 b (Qj _ hb)) st3 stop) fun r s4 ⟨hr,I5⟩=>?_
    subst hr;refine Qw ?_;obtain⟨m,hn,_⟩:=I5.loc;have eD:=(I5.pin (s2.heap.objs.size,{ cls:=.type "list",data:=.seq its.toArray k }) (by simp)).1;have hCf:H3 G.objs.size=none:=I5.free;exact fin G.objs.size s2.heap.objs.size s4 _ ys m hC hn (by rw[Jm (Kr hC)];exact hCf) (fun h' hsb=>Jgc (Cs:=0) I2 f2 I5 hC hDH (Qr _) (QG hC) eD rv3 hz hsb) (q _ hDH)
   ·refine thn (T.item (blk X sc cl N' G.objs.size s2 H2 fp) rfl rfl rfl hc i _ s3 σ3 H3 _ I3p (fpP fun b hb=>fr3 b (Qj _ hb)) st3 go) fun r s4 ⟨u,hr,h4⟩=>?_
    subst hr;refine Qe (thn h4 fun _ s5 ⟨x,H5,I5,r5,y5,st5,fr5⟩=>?_);have I5':=I5.pinned (fpP fr5) (T.obj _ _ st5);refine Qe (thn (hg G.objs.size s2 H2 fp _ s5 σ3 H5 x u _ I5' r5 (step x H5 y5)) fun _ s6 ⟨σ6,H6,I6,q6⟩=>?_);refine Qe (thn (ht G.objs.size s2 H2 fp _ s6 σ6 H6 _ I6 q6) fun ok s7 ⟨H7,I7,q7⟩=>?_)
    -- what stays of the records
    have recs:∀{σ':St} {H':Hp} {s':Qd},Inv (blk X sc cl N' G.objs.size s2 H2 fp) ([(s2.heap.objs.size,({ cls:=.type "list",data:=.seq its.toArray k }:Obj))]++W7 fp s5.heap) σ' H' s' ->
     tn (i+1) s'.heap/\(∀b∈s2.heap.objs.size::fp,H' b=none)/\s'.heap.get? s2.heap.objs.size=some { cls:=.type "list",data:=.seq its.toArray k }:=fun {σ' H' s'} I'=>by
     have pd:=I'.pin (s2.heap.objs.size,{ cls:=.type "list",data:=.seq its.toArray k }) (by simp)
     have pf:∀b∈fp,∀o,s5.heap.get? b=some o->s'.heap.get? b=some o/\H' b=none:=fun b hb o e=>by have z:=I'.pin (b,o) (Q6 _ (Q6 _ (Vl hb e)));exact⟨z.1,z.2.1⟩
     refine⟨T.keep _ _ _ st5 fun b hb o e=>(pf b hb o e).1,fun b hb=>?_,pd.1⟩;rcases Qv.mp hb with z|z
     ·subst z;exact pd.2.1
     ·obtain⟨o,e,d⟩:=T.obj _ _ st5 b z;exact(pf b z o e).2
    cases ok with
    | false=>obtain⟨m',hm,w7⟩:=hN _ _ _ (show N ys σ6 H7 from by simpa using q7);obtain⟨r1,r2,r3⟩:=recs I7;exact Qw ⟨rfl,m',hm,i+1,ys,its,k,σ6,H7,I7.pins_of (fun p hp=>nomatch hp),r1,r2,rv3,r3,w7⟩
    | true =>
     have q7':te σ6 H7 fun y H5=>N (ys++[y]) σ6 H5:=by simpa using q7
     refine Qe (Qe (thn (he G.objs.size s2 H2 fp _ s7 σ6 H7 _ I7 q7') fun y s8 ⟨y8,H8,I8,ry,q8⟩=>Qe ?_));obtain⟨r1,r2,r3⟩:=recs I8;have hl:=rv3.length;refine wpAny_list_append_plain (hsz:=by rw[Qn];omega) ⟨k,r3⟩ fun h9 ⟨k9,hl9⟩ hs9=>Qw (Qw ?_)
     have hD8:H8 s2.heap.objs.size=none:=r2 _ QB
     have f8:=stD (pn:=[]) r2 (fun p z=>nomatch z) s2.heap.objs.size QB
     have I8':Inv (blk X sc cl N' G.objs.size s2 H2 fp) [] σ6 H8 s8:=I8.pins_of (fun p hp=>nomatch hp)
     have I9:Inv (blk X sc cl N' G.objs.size s2 H2 fp) [] σ6 H8 { s8 with heap:=h9 }:=I8'.turned (t':=s8.toks) (it:=s2.heap.objs.size) (fun b o hb e=>hs9.extBut b o hb e) hD8 f8.2.1 f8.2.2.2.1 f8.2.2.2.2.1 f8.2.2.2.2.2;obtain⟨m',hm,w8⟩:=hN _ _ _ q8;refine⟨rfl,m',hm,i+1,ys++[y8],its++[y],k9,σ6,H8,I9,?_,r2,rv3.append (.cons ry .nil),?_,w8⟩
     ·exact T.keep _ _ _ r1 fun b hb o e=>hs9.extBut b o (fun z=>nDf (z▸hb)) e
     ·rw[hl9];simp
  ·rcases Qv.mp hb with z|z
   ·subst z;exact I2.hok.fresh (Qr _)
   ·exact(f2 b z).1
 exact codeAny_compStart_list loop (T.self _ 0 _ _ _ (T.keep _ _ _ st2 fun b _ o e=>old b o e) loop)

theorem VP(hc:X.calm=true)(hi:PI X tg iter wi)(B:Blk X sc cl N' imp)
 (hg:∀C s H fp,PG (blk X sc cl N' C s H fp) tg g) (ht:∀C s H fp,Jf5 (blk X sc cl N' C s H fp) ifs tt) (he:∀C s H fp,PE (blk X sc cl N' C s H fp) elt te)
 (hs:∀x,foldedSetIterable iter X.env x=pure x:=by intro _;rfl):PE X (.ListComp elt [⟨tg,iter,ifs,0⟩] sc pos) (JfM wi g tt te imp):=by
 intro pins s σ H Q I h;rw[eval_ListComp];refine wpAny_comprehension_free (use:=none) rfl hs B.clos B.kind B.names (thn (hi pins s σ H _ I h) fun v s1 h1=>thn h1 fun itv s2 h2=>?_);refine ZP (RR:=fun acc C=>compPost (model X.prog X.w) X.A X.xe none (EP X pins σ Q) acc C) hc B hg ht he h2 fun C D s4 H' ys m hC hn hCf hI q=>?_
 exact⟨m,hn,fun h' hsb=>⟨.ref D,H',hI h' hsb,rfl,q⟩⟩
theorem Jcc{i:Nat}{x:Str}{pos' spos:Pos}(hN:X.N.Nodup)(hx1:X.N[i]?=some x)(hx2:Loc X.env.scope x)(hc:X.calm=true)(hi:PI X tg iter wi)(B:Blk X sc cl N' imp)
 (hg:∀C s H fp,PG (blk X sc cl N' C s H fp) tg g) (ht:∀C s H fp,Jf5 (blk X sc cl N' C s H fp) ifs tt) (he:∀C s H fp,PE (blk X sc cl N' C s H fp) elt te)
 (hsw:swapsWith (.ListComp elt [⟨tg,iter,ifs,0⟩] sc pos) (some (.Name x pos')) spos.line X.env=pure true) (hf:X.fn x=true\/X.env.scope.names.lookup x=some .local)
 (hs:∀x,foldedSetIterable iter X.env x=pure x:=by intro _;rfl):PS X (.Assign [.Name x pos'] (.ListComp elt [⟨tg,iter,ifs,0⟩] sc pos) spos) (Zi (JfM wi g tt te imp) (Ug i)):=by
 intro pins s σ H D I h;rw[exec_Assign_Name_used _ _ _ _ hsw];refine Qe (Kf (Qe ?_));show wpAny _ X.A (do let _ <- comprehension (.ListComp elt [⟨tg,iter,ifs,0⟩] sc pos) sc X.env _ (newList []) false (eval iter X.env) (some (assign (.Name x pos') X.env))) _ _ s;refine Qe (Q2 (wpAny_comprehension_free (use:=some (assign (.Name x pos') X.env)) (Q:=fun _ s'=>SP X pins D .next s') rfl hs B.clos B.kind B.names
  (thn (hi pins s σ H _ I h) fun v s1 h1=>thn h1 fun itv s2 h2=>?_)) (fun _ s' hq=>Qw (Qw hq)) fun _ _ e=>e)
 refine ZP (Q:=fun y H1=>Ug i y σ H1 D.nx) (RR:=fun acc C=>compPost (model X.prog X.w) X.A X.xe (some (assign (.Name x pos') X.env)) (fun _ s'=>SP X pins D .next s') acc C) hc B hg ht he h2 fun C Dl s4 H' ys m hC hn hCf hI q=>?_
 obtain⟨it,fp,tn,J,H2,e,I2,_⟩:=h2;have I4:Inv X pins σ H' s4:=hI s4.heap (.refl ..);have neC:X.env.locals≠C:=QG (G9 I2.lt hC)
 have neCc:∀y c,X.env.cells.lookup y=some c->c≠C:=fun y c e=>by obtain⟨v,qc⟩:=I2.cell y c e;exact QG (G9 qc.lt hC)
 show wpAny _ X.A (assign (.Name x pos') X.env (.ref Dl)) _ _ s4;refine wpAny_assign_Name (Z4 I4 hN hx1 hx2 (v:=.ref Dl) rfl (fun s5 I5 ⟨c0,hs5,hc0⟩=>?_) hf)
 have ne0:C≠c0:=by
  rcases hc0 with z|z
  ·rw[z];exact Q0 neC
  ·exact Q0 (neCc _ _ z)
 refine⟨m,hn.sameBut hs5 ne0,fun h' hsb=>⟨_,H',?_,q⟩⟩;refine I5.turned (t':=s5.toks) (it:=C) (fun b o hb e=>hsb.extBut b o hb e) hCf (Q0 neC) (.inr (KN (KJ I2.sz hC))) neCc fun p hp z=>?_
 have:=Qm (I2.pin p hp).1;rw[z] at this;exact absurd (G9 this hC) (Gd _)
end
end L2

namespace L2
open PySem PySem.Spec PyProof.Rows

inductive Rep (K:Qq) (H:Hp):V->PyData->Prop
 | non:Rep K H .non .none
 | bl (b:Bool):Rep K H (.bl b) (.bool b)
 | int (i:Int):Rep K H (.int i) (.int i)
 | str (x:Str):Rep K H (.str x) (.str x)
 | tup {a:Qc} {xs:List V} {ds:List PyData}:SqT K H a xs->xs.length=ds.length->(∀(i:Nat) (x:V) (d:PyData),xs[i]?=some x->ds[i]?=some d->Rep K H x d)->Rep K H (.ref a) (.tuple ds)
 | lst {a:Qc} {xs:List V} {ds:List PyData}:SqL K H a xs->xs.length=ds.length->(∀(i:Nat) (x:V) (d:PyData),xs[i]?=some x->ds[i]?=some d->Rep K H x d)->Rep K H (.ref a) (.list ds)

noncomputable def RepL(K:Qq)(H:Hp)(xs:List V)(ds:List PyData):Prop :=
 xs.length=ds.length/\∀(i:Nat) (x:V) (d:PyData),xs[i]?=some x->ds[i]?=some d->Rep K H x d

section
variable{K:Qq}{H H':Hp}
theorem RepL.nil:RepL K H [] []:=⟨rfl,fun i x d e=>by simp at e⟩
theorem RepL.cons{x:V}{d:PyData}{xs:List V}{ds:List PyData}(h:Rep K H x d)(r:RepL K H xs ds):RepL K H (x::xs) (d::ds):=by
 refine⟨by simp[r.1],fun i y e h1 h2=>?_⟩
 cases i with
 | zero=>simp at h1 h2;subst h1 h2;exact h
 | succ i=>exact r.2 i y e (by simpa using h1) (by simpa using h2)
theorem RepL.append{xs ys:List V}{ds es:List PyData}(r:RepL K H xs ds)(q:RepL K H ys es):RepL K H (xs++ys) (ds++es):=by
 refine⟨by simp[r.1,q.1],fun i x d h1 h2=>?_⟩
 by_cases hi:i<xs.length
 ·rw[QF hi] at h1;rw[QF (by rw[<- r.1];exact hi)] at h2;exact r.2 i x d h1 h2
 ·rw[QM (by omega)] at h1;rw[QM (by rw[<- r.1];omega)] at h2;rw[<- r.1] at h2;exact q.2 _ x d h1 h2
theorem RepL.snoc{xs:List V}{ds:List PyData}{x:V}{d:PyData}(r:RepL K H xs ds)(h:Rep K H x d):RepL K H (xs++[x]) (ds++[d]):=r.append (.cons h .nil)
theorem RepL.get{xs:List V}{ds:List PyData}{i:Nat}{d:PyData}(r:RepL K H xs ds)(e:ds[i]?=some d):∃x,xs[i]?=some x/\Rep K H x d:=by
 have hi:=(Qo.mp e).1
 have hx:i<xs.length:=by rw[r.1];exact hi
 exact⟨xs[i],by simp[hx],r.2 i _ d (by simp[hx]) e⟩
theorem RepL.get'{xs:List V}{ds:List PyData}{i:Nat}{x:V}(r:RepL K H xs ds)(e:xs[i]?=some x):∃d,ds[i]?=some d/\Rep K H x d:=by
 have hi:=(Qo.mp e).1
 have hx:i<ds.length:=by rw[<- r.1];exact hi
 exact⟨ds[i],by simp[hx],r.2 i x _ e (by simp[hx])⟩
theorem Rep.tupL{a:Qc}{xs:List V}{ds:List PyData}(h:SqT K H a xs)(r:RepL K H xs ds):Rep K H (.ref a) (.tuple ds):=.tup h r.1 r.2
theorem Rep.lstL{a:Qc}{xs:List V}{ds:List PyData}(h:SqL K H a xs)(r:RepL K H xs ds):Rep K H (.ref a) (.list ds):=.lst h r.1 r.2
theorem Rep.tupI{v:V}{ds:List PyData}(r:Rep K H v (.tuple ds)):∃a xs,v=.ref a/\SqT K H a xs/\RepL K H xs ds:=by
 cases r with
 | tup h l q=>exact⟨_,_,rfl,h,l,q⟩
theorem Rep.lstI{v:V}{ds:List PyData}(r:Rep K H v (.list ds)):∃a xs,v=.ref a/\SqL K H a xs/\RepL K H xs ds:=by
 cases r with
 | lst h l q=>exact⟨_,_,rfl,h,l,q⟩
theorem Rep.intI{v:V}{i:Int}(r:Rep K H v (.int i)):v=.int i:=by cases r;rfl
theorem Rep.strI{v:V}{i:Str}(r:Rep K H v (.str i)):v=.str i:=by cases r;rfl
theorem Rep.blI{v:V}{i:Bool}(r:Rep K H v (.bool i)):v=.bl i:=by cases r;rfl
theorem Same.seqT{a:Qc}{xs:List V}(e:Same H H')(h:SqT K H a xs):SqT K H' a xs:=by
 rcases h with (h|⟨o,h⟩)|h
 ·exact .inl (.inl (e _ _ h))
 ·exact .inl (.inr ⟨o,e _ _ h⟩)
 ·exact .inr h
theorem Rep.mono{v:V}{d:PyData}(e:Same H H')(r:Rep K H v d):Rep K H' v d:=by
 induction r with
 | non=>exact .non
 | bl b=>exact .bl b
 | int i=>exact .int i
 | str x=>exact .str x
 | tup h l _ ih=>exact .tup (e.seqT h) l ih
 | lst h l _ ih=>exact .lst (e.seq h) l ih
theorem RepL.mono{xs:List V}{ds:List PyData}(e:Same H H')(r:RepL K H xs ds):RepL K H' xs ds:=⟨r.1,fun i x d h1 h2=>(r.2 i x d h1 h2).mono e⟩

noncomputable def SameEx(l:Qc)(H H':Hp):Prop:=∀b o,b≠l->H b=some o->H' b=some o
theorem SameEx.upd{l:Qc}{o:HO}:SameEx l H (upd H l o):=fun b o' hb e=>by rw[Jm hb];exact e
theorem Same.ex{H0:Hp}{l:Qc}(s:Same H0 H)(hn:H0 l=none)(e:SameEx l H H'):Same H0 H':=fun b o h=>e b o (JB h hn) (s b o h)
theorem Same.new{p:Qc}{o:HO}(hn:H p=none):Same H (upd H p o):=fun b o' e=>by rw[Jm (JB e hn)];exact e
theorem SameEx.sqT{l a:Qc}{ys xs:List V}(e:SameEx l H H')(hl:H l=some (.lst ys))(h:SqT K H a xs):SqT K H' a xs:=by
 rcases h with (h|⟨o,h⟩)|h
 ·exact .inl (.inl (e _ _ (Jiw h hl (by intro z;cases z)) h))
 ·exact .inl (.inr ⟨o,e _ _ (Jiw h hl (by intro z;cases z)) h⟩)
 ·exact .inr h
inductive NoLst:PyData->Prop
 | non:NoLst .none
 | bl (b:Bool):NoLst (.bool b)
 | int (i:Int):NoLst (.int i)
 | str (x:Str):NoLst (.str x)
 | tup {ds:List PyData}:(∀d∈ds,NoLst d)->NoLst (.tuple ds)
end

theorem Vals.get':∀{xs:List V} {us:List Qa} {i:Nat} {u:Qa},Vals xs us->us[i]?=some u->∃x,xs[i]?=some x/\RelV x u
 | _,_,_,_,.nil,e=>by simp at e
 | _,_,0,_,.cons r _,e=>by simp at e;subst e;exact⟨_,rfl,r⟩
 | _,_,i+1,u,.cons _ t,e=>by obtain⟨x,h1,h2⟩:=Vals.get' (i:=i) (u:=u) t (by simpa using e);exact⟨x,by simpa using h1,h2⟩
theorem U1{h:QJ}:∀(us:List Qa) (ds:List PyData),us.length=ds.length->(∀(i:Nat) (u:Qa) (d:PyData),us[i]?=some u->ds[i]?=some d->∃as,Reads h u d as)->∃as,ReadsAll h us ds as
 | [],[],_,_=>⟨_,.nil⟩
 | [],_::_,e,_=>by simp at e
 | _::_,[],e,_=>by simp at e
 | u::us,d::ds,e,f=>by
  obtain⟨as,h1⟩:=f 0 u d rfl rfl;obtain⟨bs,h2⟩:=U1 us ds (by simpa using e) fun i v c q1 q2=>f (i+1) v c (by simpa using q1) (by simpa using q2)
  exact⟨_,.cons h1 h2⟩
section
variable{X:Cx}{pins:List (Qc×Obj)}{σ:St}{H:Hp}{s:Qd}
theorem Rep.reads{v:V}{d:PyData}(I:Inv X pins σ H s)(r:Rep X.K H v d):∀u,RelV v u->∃as,Reads s.heap u d as:=by
 induction r with
 | non=>intro u r;cases r;exact⟨_,.none⟩
 | bl b=>intro u r;cases r;exact⟨_,.bool b⟩
 | int i=>intro u r;obtain⟨t,rfl⟩:=r;exact⟨_,.int i t⟩
 | str x=>intro u r;obtain⟨t,rfl⟩:=r;exact⟨_,.str x t⟩
 | tup h l _ ih =>
  intro u r;cases r;obtain⟨its,rv,p,hz⟩:=I.tuple h;obtain⟨o,ho,hc,n,hd⟩:=p
  obtain⟨as,q⟩:=U1 (h:=s.heap) its _ (rv.length.symm.trans l) fun i u d h1 h2=>by obtain⟨x,e1,e2⟩:=rv.get' h1;exact ih i x d e1 h2 u e2
  exact⟨_,.tuple ho hc hd q⟩
 | lst h l _ ih =>
  intro u r;cases r;obtain⟨its,rv,p,hz⟩:=I.list h;obtain⟨o,ho,hc,n,hd⟩:=p.isList
  obtain⟨as,q⟩:=U1 (h:=s.heap) its _ (rv.length.symm.trans l) fun i u d h1 h2=>by obtain⟨x,e1,e2⟩:=rv.get' h1;exact ih i x d e1 h2 u e2
  exact⟨_,.list ho hc hd q⟩
end

section
variable{X:Cx}
noncomputable def JcU(K:Qq):R2:=fun x y H Q=>rI0 (fun i j=>.int (i+j)) x y H Q\/(∃i j,x=.str i/\y=.str j/\i.length+j.length<=Qu/\Q (.str (i++j)) H)\/JlR x y H Q
theorem Jhj:OpR X (binaryOp .Add) (JcU X.K):=op_add.or (op_add_str.or JjZ)
noncomputable def JlS(K:Qq):R2:=fun x y H Q=>∃d e,Rep K H x d/\Rep K H y e/\d.canLay0=true/\e.canLay0=true/\min d.depth e.depth<=60/\Q (.bl (Gx d e)) H
noncomputable def JlZ(K:Qq):R2:=fun x y H Q=>∃d e,Rep K H x d/\Rep K H y e/\d.canLay0=true/\e.canLay0=true/\min d.depth e.depth<=60/\Q (.bl (!PyData.eqv d e)) H
theorem Jj1(hu:X.A.units+64<cLine):OpR X (compareOp .Eq) (JlS X.K):=by intro pins s σ H x y v u Q I rx ry h;obtain⟨d,e,h1,h2,c1,c2,hd,q⟩:=h;obtain⟨as,r1⟩:=h1.reads I v rx;obtain⟨bs,r2⟩:=h2.reads I u ry;exact SeqAt.compareEq_reads r1 r2 c1 c2 (by omega) ⟨.bl _,H,I,rfl,q⟩
theorem Jj7(hu:X.A.units+64<cLine):OpR X (compareOp .NotEq) (JlZ X.K):=by intro pins s σ H x y v u Q I rx ry h;obtain⟨d,e,h1,h2,c1,c2,hd,q⟩:=h;obtain⟨as,r1⟩:=h1.reads I v rx;obtain⟨bs,r2⟩:=h2.reads I u ry;exact SeqAt.compareNe_reads r1 r2 c1 c2 (by omega) ⟨.bl _,H,I,rfl,q⟩
noncomputable def Jfk(K:Qq):R2:=fun x y H Q=>rEq x y H Q\/JlS K x y H Q
noncomputable def Jfm(K:Qq):R2:=fun x y H Q=>rNe x y H Q\/JlZ K x y H Q
theorem Jj0(hu:X.A.units+64<cLine):OpR X (compareOp .Eq) (Jfk X.K):=op_eq.or (Jj1 hu)
theorem Jj6(hu:X.A.units+64<cLine):OpR X (compareOp .NotEq) (Jfm X.K):=op_ne.or (Jj7 hu)
noncomputable def Jcd(K:Qq):List V->Hp->VK->Prop:=fun xs H Q=>∃x n,xs=[x]/\Jlh K x H n/\Q (.int n) H
theorem Jdo:CallR X (.builtin "len") (Jcd X.K):=Jeg
noncomputable def VR(K:Qq):List V->Hp->VK->Prop:=fun xs H Q=>∃p ys,xs=[.ref p]/\((SqL K H p ys/\∀l,H l=none->Q (.ref l) (upd H l (.tup ys)))\/(SqT K H p ys/\Q (.ref p) H))
theorem JaZ:CallR X (.type "tuple") (VR X.K):=Zw
noncomputable def JaJ(K:Qq):List V->Hp->VK->Prop:=fun xs H Q=>∃p ys,xs=[.ref p]/\(SqL K H p ys\/SqT K H p ys)/\∀l,H l=none->Q (.ref l) (upd H l (.lst ys))
theorem JbL:CallR X (.type "list") (JaJ X.K):=Jaf
inductive TyS (K:Qq) (H:Hp):V->Qa->Prop where
 | of {x:V} {t:Qa} (h:TyOf K H x t):TyS K H x t
 | sqT {a:Qc} {xs:List V} (h:SqT K H a xs):TyS K H (.ref a) (.type "tuple")
 | sqL {a:Qc} {xs:List V} (h:SqL K H a xs):TyS K H (.ref a) (.type "list")
theorem WP{pins:List (Qc×Obj)}{σ:St}{H:Hp}{s:Qd}{A:Qx}{E:Qa->Qd->Prop}{Q:Qa->Qd->Prop}{c:Qa}{b:Bool}{x:V}{u t:Qa}(I:Inv X pins σ H s)(rx:RelV x u)(ty:TyS X.K H x t)(e:kitOne X.K t c=some b)(h:∀tk,Q (.bool b) { s with toks:=tk }) :
 wpAny (model X.prog X.w) A (call (.builtin "isinstance") [u,c]) Q E s:=by
 cases ty with
 | of z=>exact JdI I rx z e h
 | @sqT a xs z=>cases (show u=Value.ref a from rx);obtain⟨its,_,p,_⟩:=I.tuple z;obtain⟨o,h1,h2,_⟩:=p;exact kia_one MF I.kIn ⟨o,h1,h2⟩ e (fun z=>nomatch z) h
 | @sqL a xs z=>cases (show u=Value.ref a from rx);obtain⟨its,_,p,_⟩:=I.list z;obtain⟨o,h1,h2,_⟩:=p.isList;exact kia_one kitx_list I.kIn ⟨o,h1,h2⟩ e (fun z=>nomatch z) h
noncomputable def Jhy(K:Qq):List V->Hp->VK->Prop:=fun vs H Q=>∃x c t tc b,vs=[x,c]/\TyS K H x t/\(∀u,RelV c u->u=tc)/\kitOne K t tc=some b/\Q (.bl b) H
theorem Jef:CallR X (.builtin "isinstance") (Jhy X.K):=by intro pins s σ H xs us Q I r h;obtain⟨x,c,t,tc,b,rfl,ty,hc,e,q⟩:=h;obtain⟨u,w',rfl,r1,r2⟩:=Jf0 r;cases hc w' r2;exact WP I r1 ty e fun tk=>⟨.bl b,H,I.tok tk,rfl,q⟩
noncomputable def Jkk:R2:=fun x y H Q=>y=.non/\Q (.bl (decide (x=.non))) H
noncomputable def Jfn:R2:=fun x y H Q=>y=.non/\Q (.bl (!decide (x=.non))) H
theorem JaE:OpR X (compareOp .Is) Jkk:=Jj4
theorem Je3:OpR X (compareOp .IsNot) Jfn:=Jhm
noncomputable def Jkl:List V->Hp->VK->Prop:=fun xs H Q=>∃i j,xs=[.int i,.int j]/\Q (.int (if j>i then j else i)) H
noncomputable def JmF:List V->Hp->VK->Prop:=fun xs H Q=>∃i j,xs=[.int i,.int j]/\Q (.int (if j<i then j else i)) H
theorem Jdq(hc:X.calm=true):CallR X (.builtin "max") Jkl:=Jdp hc
noncomputable def Jh7(K:Qq)(ta:TE):TT:=fun σ H Q=>ta σ H fun x H1=>∃k,Jdh K x H1 k/\Q k H1
theorem Jkh{a:QQ}{ta:TE}(ha:PE X a ta)(he:∀whole,isTrue a X.env whole=(do let v <- whole;standAt a.pos;holding [v] (truthy v))):PT X a (Jh7 X.K ta):=Jfi ha he
noncomputable def GV(mg:Str->Option Qa)(x:Str)(v:V):Prop:=∃u,mg x=some u/\RelV v u
theorem W4{x:Str}{v:V}{pos:Pos}(hg:Gl X x)(hm:GV X.mg x v)(hd:(x == ("__debug__":Str))=false:=by decide):PE X (.Name x pos) (tC v):=by obtain⟨u,h1,h2⟩:=hm;exact Yq hg h1 h2 hd
end
theorem Ux:bootBuiltins "len"=some (.builtin "len"):=by decide +kernel
theorem Jy:bootBuiltins "isinstance"=some (.builtin "isinstance"):=by decide +kernel
theorem JiR:bootBuiltins "max"=some (.builtin "max"):=by decide +kernel
theorem WE:bootBuiltins "sum"=some (.builtin "sum"):=by decide +kernel
theorem JiQ:bootBuiltins "all"=some (.builtin "all"):=by decide +kernel
theorem JiP:bootBuiltins "abs"=some (.builtin "abs"):=by decide +kernel
theorem Jad:bootBuiltins "int"=some (.type "int"):=by decide +kernel
theorem Jge:bootBuiltins "bool"=some (.type "bool"):=by decide +kernel
theorem JbJ:bootBuiltins "str"=some (.type "str"):=by decide +kernel
theorem Jgf:bootBuiltins "list"=some (.type "list"):=by decide +kernel
theorem Jeb:bootBuiltins "tuple"=some (.type "tuple"):=by decide +kernel
theorem Jac:bootBuiltins "enumerate"=some (.type "enumerate"):=by decide +kernel
structure Cal (P:Qp) (w:QC) (K:Qq) (mg:Str->Option Qa) (base:QJ) (x:Str) (k:Nat) (ps:List Str) (sp:Sp):Prop where
 ex:∃(f:Qc) (fd:QH),FnOk P w K mg base CX0 k f fd ps sp/\mg x=some (.ref f)/\keepIn K (.ref f)=true/\Binds K fd ps []
structure CalM (P:Qp) (w:QC) (K:Qq) (mg:Str->Option Qa) (base:QJ) (x:Str) (C:Qc) (k:Nat) (ps:List Str) (sp:Sp):Prop where
 ex:∃(f:Qc) (fd:QH),Mk K C f/\FnOk P w K mg base CX0 k f fd ps sp/\mg x=some (.ref C)/\Binds K fd ps []
section
variable{X:Cx}{k:Nat}{C:Qc}{ps:List Str}{sp:Sp}{x:Str}{p pos:Pos}{e:QQ}{es:List QQ}{t:TA}
theorem JY(c:Cal X.prog X.w X.K X.mg X.base x k ps sp)(hr:Room k X.A)(hg:Gl X x)(ha:PA X (e::es) t)(hdb:(x == ("__debug__":Str))=false:=by decide)
 (he:starEach (e::es) X.env=(false,eval e X.env)::starEach es X.env:=by rfl) (hpl:(backTo pos (starEach es X.env)).any (·.1)=false:=by rfl):PE X (.Call (.Name x p) (e::es) [] pos) (Wl sp [] E0 t):=by
 obtain⟨f,fd,F,h1,h2,h3⟩:=c.ex;exact JcR F hr hg h1 h2 h3 .nil JlN ha hdb he hpl
end

noncomputable def JeK(K:Qq)(tl:TE):TI:=fun σ H R=>Jir K tl σ H R\/JlB K tl σ H R
theorem Jkc{X:Cx}{tg l:QQ}{tl:TE}(hl:PE X l tl):PI X tg l (JeK X.K tl):=by
 intro pins s σ H R I h;rcases h with h|h
 ·exact Jhs hl pins s σ H R I h
 ·exact Jkd hl pins s σ H R I h

theorem Jdi{X:Cx}{sc:Lx}{N':List Str}{imp:List (Option Nat)}(h1:sc.kind=.function)
 (h2:(sc.names.all (fun y=>y.2 != .free && y.2 != .cell && (y.2 != .local || sc.names.lookup y.1 == some .local)) && imp.all (·.isNone) && (imp.length == N'.length))=true):Blk X sc [] N' imp:=by
 simp only[QL,Q4] at h2;obtain⟨⟨h2,h3⟩,h4⟩:=h2
 have nofree:∀y∈sc.names,y.2≠.free:=fun y hy=>by
  have:=(h2 y hy).1.1
  simpa using this
 have nocell:∀y∈sc.names,y.2≠.cell:=fun y hy=>by
  have:=(h2 y hy).1.2
  simpa using this
 refine⟨closureFor_none nofree,h1,nocell,fun y hy hl=>?_,(fun p hp=>nomatch hp),fun y hy hk=>?_,by simpa using h4,fun p hp k e=>?_⟩
 ·have:=(h2 y hy).2;rw[hl] at this
  simpa using this
 ·have:(relabel sc X.env).names=sc.names:=by
   unfold relabel;refine map_eq_self fun x hx=>?_
   obtain⟨n,q⟩:=x;have:(q == NameKind.free)=false:=by simpa using nofree _ hx
   simp[this]
  rw[this] at hy;rcases hk with z|z
  ·exact absurd z (nocell y hy)
  ·exact absurd z (nofree y hy)
 ·have:=h3 p.1 (Lc hp).1;rw[e] at this;cases this

section
variable{K:Qq}{σ:St}{H H1:Hp}{Q:VK}{i:Nat}{v:V}{ta tb te:TE}{r:R2}{D:Ends}{t u:TS}{c:TT}
theorem JkM(h:σ[i]?=some (some v))(q:Q v H):Zk i σ H Q:=⟨v,h,q⟩
theorem JmG(q:Q v H):tC v σ H Q:=q
theorem Jl8(q:ta σ H fun x H1=>tb σ H1 fun y H2=>r x y H2 Q):tOp r ta tb σ H Q:=q
theorem Jmb{r:V->Hp->VK->Prop}(q:ta σ H fun x H1=>r x H1 Q):tUn r ta σ H Q:=q
theorem Jl6{g:Int->Int->V}{a b:Int}(q:Q (g a b) H):rI0 g (.int a) (.int b) H Q:=⟨a,b,rfl,rfl,q⟩
theorem JmH{C:Int->Int->Prop}{g:Int->Int->V}{a b:Int}(h:C a b)(q:Q (g a b) H):rI C g (.int a) (.int b) H Q:=⟨a,b,rfl,rfl,h,q⟩
theorem JmI{g:Int->V}{a:Int}(q:Q (g a) H):rU g (.int a) H Q:=⟨a,rfl,q⟩
theorem Jhz{a b:Int}(q:Q (.int (a+b)) H):JcU K (.int a) (.int b) H Q:=.inl ⟨a,b,rfl,rfl,q⟩
theorem Jkr{a b:Int}(q:Q (.bl (decide (a=b))) H):Jfk K (.int a) (.int b) H Q:=.inl ⟨rfl,by
 have:decide (V.int a=V.int b)=decide (a=b):=by simp
 rw[this];exact q⟩
theorem JkD{a b:Int}(q:Q (.bl (!decide (a=b))) H):Jfm K (.int a) (.int b) H Q:=.inl ⟨rfl,by
 have:decide (V.int a=V.int b)=decide (a=b):=by simp
 rw[this];exact q⟩
theorem Jks{a b:Str}(q:Q (.bl (decide (a=b))) H):Jfk K (.str a) (.str b) H Q:=.inl ⟨rfl,by
 have:decide (V.str a=V.str b)=decide (a=b):=by simp
 rw[this];exact q⟩
theorem JkE{a b:Str}(q:Q (.bl (!decide (a=b))) H):Jfm K (.str a) (.str b) H Q:=.inl ⟨rfl,by
 have:decide (V.str a=V.str b)=decide (a=b):=by simp
 rw[this];exact q⟩
theorem Jkw{x:V}(q:Q (.bl (decide (x=.non))) H):Jkk x .non H Q:=⟨rfl,q⟩
theorem JhL{x:V}(q:Q (.bl (!decide (x=.non))) H):Jfn x .non H Q:=⟨rfl,q⟩
theorem Jfw{a b:Int}(q:Q (.int (max a b)) H):Jkl [.int a,.int b] H Q:=⟨a,b,rfl,by
 have e:(if b>a then b else a)=max a b:=by rw[Int.max_def];split <;> split <;> omega
 rw[e];exact q⟩
theorem JkC{a b:Int}(q:Q (.int (min a b)) H):JmF [.int a,.int b] H Q:=⟨a,b,rfl,by
 have e:(if b<a then b else a)=min a b:=by rw[Int.min_def];split <;> split <;> omega
 rw[e];exact q⟩
theorem JhP{Qb:Bool->Hp->Prop}(q:ta σ H fun x H1=>∃k,Jdh K x H1 k/\Qb k H1):Jh7 K ta σ H Qb:=q
theorem Jkt{f:Str}(q:ta σ H fun x H1=>∃a C dx fs v,x=.ref a/\H1 a=some (.ins C dx fs)/\Cls K C/\WA K C f/\fs.lookup f=some v/\Q v H1):JmN K ta f σ H Q:=q
theorem JhO{Qb:Bool->Hp->Prop}(q:te σ H fun x H'=>∃k,x=.bl k/\Qb k H'):JfR te σ H Qb:=q
theorem Jma{Qb:Bool->Hp->Prop}(q:te σ H fun x H'=>∃k,x=.bl k/\Qb k H'):tB te σ H Qb:=q
theorem Jkp{c':TT}{Qb:Bool->Hp->Prop}(q:c σ H fun b H1=>if b=true then c' σ H1 Qb else Qb false H1):JkU c c' σ H Qb:=q
theorem Jl9{c':TT}{Qb:Bool->Hp->Prop}(q:c σ H fun b H1=>if b=true then Qb true H1 else c' σ H1 Qb):tOr c c' σ H Qb:=q
theorem JkG{Qb:Bool->Hp->Prop}(q:c σ H fun b H1=>Qb (!b) H1):JkX c σ H Qb:=q
theorem JhM(q:te σ H fun x H1=>∃b,x=.bl b/\Q (.bl (!b)) H1):JfO te σ H Q:=q
theorem JhA(q:ta σ H fun x H1=>∃b,x=.bl b/\if b=true then tb σ H1 Q else Q (.bl false) H1):JfL ta tb σ H Q:=q
theorem JkH(q:ta σ H fun x H1=>∃b,x=.bl b/\if b=true then Q (.bl true) H1 else tb σ H1 Q):JmP ta tb σ H Q:=q
theorem Jku(q:c σ H fun b H1=>if b=true then ta σ H1 Q else tb σ H1 Q):tIf c ta tb σ H Q:=q
theorem JkJ(q:t { D with nx:=u D } σ H):JfQ t u D σ H:=q
theorem Jkq{g:TG}(q:te σ H fun x H1=>g x σ H1 D.nx):Zi te g D σ H:=q
theorem Jfu{Qs:St->Hp->Prop}(q:Qs (σ.set i (some v)) H):Ug i v σ H Qs:=q
theorem Jkv(q:c σ H fun b H1=>if b=true then t D σ H1 else u D σ H1):Jh4 c t u D σ H:=q
theorem JkI(q:te σ H D.rt):Jh6 te D σ H:=q
theorem JhC(q:te σ H fun _ H1=>D.nx σ H1):Zj te D σ H:=q
theorem JhK(q:D.nx σ H):JfN D σ H:=q
theorem JhB{tr:TA}{Ql:List V->Hp->Prop}(q:ta σ H fun x H1=>tr σ H1 fun xs H2=>Ql (x::xs) H2):Uc ta tr σ H Ql:=q
theorem JkF{Ql:List V->Hp->Prop}(q:Ql [] H):ZF σ H Ql:=q
theorem Jl5{r:List V->Hp->VK->Prop}{ts:TA}(q:ts σ H fun vs H1=>r vs H1 Q):tCB r ts σ H Q:=q
theorem Wv{sp:Sp}{E:XK}{ts:TA}(q:ts σ H fun vs H1=>sp vs H1 Q E):Wl sp [] E ts σ H Q:=by
 have e:(fun vs H1=>sp (vs++[]) H1 Q E)=fun vs H1=>sp vs H1 Q E:=by funext vs H1;rw[QT]
 show ts σ H fun vs H1=>sp (vs++[]) H1 Q E
 rw[e];exact q
noncomputable def JiJ(xs:List V)(H:Hp)(Q:VK):Prop:=xs.length<=Qu/\∀p,H p=none->Q (.ref p) (upd H p (.tup xs))
noncomputable def JiI(xs:List V)(H:Hp)(Q:VK):Prop:=xs.length<=Qu/\∀p,H p=none->Q (.ref p) (upd H p (.lst xs))
theorem JkL{ts:TA}(q:ts σ H fun xs H1=>JiJ xs H1 Q):JkZ ts σ H Q:=q
theorem JkB{ts:TA}(q:ts σ H fun xs H1=>JiI xs H1 Q):Jh5 ts σ H Q:=q
theorem JhG{a:Qc}{xs:List V}(h:SqL K H a xs)(q:Q (.int xs.length) H):Jcd K [.ref a] H Q:=⟨_,_,rfl,.inl ⟨xs,h,rfl⟩,q⟩
theorem JhI{a:Qc}{xs:List V}(h:SqT K H a xs)(q:Q (.int xs.length) H):Jcd K [.ref a] H Q:=⟨_,_,rfl,.inr ⟨xs,h,rfl⟩,q⟩
theorem JhH{x:Str}(h:x.length<=Qu)(q:Q (.int x.length) H):Jcd K [.str x] H Q:=⟨_,_,rfl,⟨h,rfl⟩,q⟩
theorem Jky{a:Qc}{xs:List V}{j:Int}{v:V}(h:SqL K H a xs)(e:atI xs j=some v)(q:Q v H):rIx K (.ref a) (.int j) H Q:=.inl ⟨a,xs,j,v,rfl,rfl,h,e,q⟩
theorem JkA{a:Qc}{xs:List V}{j:Int}{v:V}(h:SqT K H a xs)(e:atI xs j=some v)(q:Q v H):rIx K (.ref a) (.int j) H Q:=.inr (.inl ⟨a,xs,j,v,rfl,rfl,h,e,q⟩)
theorem Jkz{z:Str}{j:Int}{c:Nat}(hz:z.length<=Qu)(e:atI z.cps.toList j=some c)(q:Q (.str ⟨#[c]⟩) H):rIx K (.str z) (.int j) H Q:=.inr (.inr ⟨z,j,c,rfl,rfl,hz,e,q⟩)
theorem Jkx{x:V}{n:String}{t:Qa}{b:Bool}(ty:TyS K H x t)(e:kitOne K t (.type n)=some b)(q:Q (.bl b) H):Jhy K [x,.ty n] H Q:=⟨x,_,t,_,b,rfl,ty,fun _ r=>r,e,q⟩
theorem Jl7{T:String}{rm:V->List V->Hp->VK->Prop}{to:TE}{ts:TA}(q:to σ H fun x H1=>tyV K T x H1/\ts σ H1 fun xs H2=>rm x xs H2 Q):tBM K T rm to ts σ H Q:=q
theorem JhE{to ti:TE}{ts:Jf7}{Qs:St->Hp->Prop}(q:to σ H fun o H1=>ti σ H1 fun i H2=>ts o i v H2 fun H3=>Qs σ H3):Jjk to ti ts v σ H Qs:=q
theorem Jft{t:TG}{u:TGs}{x:V}{xs:List V}{Qs:St->Hp->Prop}(q:t x σ H fun σ' H'=>u xs σ' H' Qs):JeI t u (x::xs) σ H Qs:=⟨x,xs,rfl,q⟩
theorem JhD{Qs:St->Hp->Prop}(q:Qs σ H):Jjj [] σ H Qs:=⟨rfl,q⟩
theorem JhN{f:Str}{tv:TE}(q:tv σ H fun y H1=>ta σ H1 fun x H2=>∃a C dx fs,x=.ref a/\H2 a=some (.ins C dx fs)/\Cls K C/\WA K C f/\fs.length<1000/\D.nx σ (upd H2 a (.ins C dx (Jki f y fs)))):JmK K ta tv f D σ H:=q
theorem Jfs{r':R2}{tc:TE}(q:ta σ H fun x H1=>tb σ H1 fun y H2=>r x y H2 fun z H3=>∃k,z=.bl k/\(if k=true then tc σ H3 fun w' H4=>r' y w' H4 Q else Q (.bl false) H3)):JkV r r' ta tb tc σ H Q:=q
theorem JkN{Qb:Bool->Hp->Prop}(q:Qb true H):Jk0 σ H Qb:=q
end
end L2
namespace L2
open PySem PySem.Spec PyProof.Rows
section
variable{X:Cx}{K:Qq}{pos:Pos}
theorem Jhk(hK:X.K=K):OpR X (binaryOp .Add) (JcU K):=hK▸Jhj
theorem Yz(hK:X.K=K)(hu:X.A.units+64<cLine):OpR X (compareOp .Eq) (Jfk K):=hK▸Jj0 hu
theorem JaF(hK:X.K=K)(hu:X.A.units+64<cLine):OpR X (compareOp .NotEq) (Jfm K):=hK▸Jj6 hu
theorem Yn(hK:X.K=K):CallR X (.builtin "len") (Jcd K):=hK▸Jdo
theorem JaY(hK:X.K=K):CallR X (.type "tuple") (VR K):=hK▸JaZ
theorem JbK(hK:X.K=K):CallR X (.type "list") (JaJ K):=hK▸JbL
theorem ZO(hK:X.K=K):CallR X (.builtin "isinstance") (Jhy K):=hK▸Jef
theorem Jg1(hK:X.K=K):IxR X (rIx K):=hK▸Jjx
theorem Jht{tg l:QQ}{tl:TE}(hK:X.K=K)(hl:PE X l tl):PI X tg l (JeK K tl):=hK▸Jkc hl
theorem UG{es:List QQ}{k:Nat}{t:TGs}{n:Nat}(hK:X.K=K)(hc:X.calm=true)(h:PGs X es t)(hn:(assignEach es X.env).length=n)(hst:(assignEach es X.env).findIdx? (·.1)=none):PG X (.Tuple es k pos) (JgW K n t):=hK▸Jkb hc h hn hst
theorem Vb{a:QQ}{ta:TE}(hK:X.K=K)(ha:PE X a ta)(he:∀whole,isTrue a X.env whole=(do let v <- whole;standAt a.pos;holding [v] (truthy v))):PT X a (Jh7 K ta):=hK▸Jkh ha he
theorem YA{o e:QQ}{es:List QQ}{to:TE}{t:TA}{name:Str}{apos cpos:Pos}{T id:String}{r:V->List V->Hp->VK->Prop}(hK:X.K=K)(pa:PlainAttrs T)(slot:Slot T name id)(hty:typeOf (.builtin id)=pure (.type "method_descriptor"))(hm:MtR X id r)(ho:PE X o to)(ha:PA X (e::es) t)
 (hbase:attributeBase o name X.env (eval o X.env)=eval o X.env:=by rfl)
 (hfew:((backTo cpos (starEach (e::es) X.env)).all (fun x=>!x.1) && (backToKw cpos (keywordEach [] X.env)).all (fun x=>x.1.isSome)
  && decide ((e::es).length+([]:List Lh).length+(if ([]:List Lh).isEmpty then 0 else 1)<30))=true:=by rfl)
 (hline:(apos.endLine == cpos.line)=true:=by rfl) (hs:starEach (e::es) X.env=(false,eval e X.env)::starEach es X.env:=by rfl) (hplain:(backTo cpos (starEach es X.env)).any (·.1)=false:=by rfl) :
 PE X (.Call (.Attribute o name apos) (e::es) [] cpos) (tBM K T r to t):=hK▸JlP pa slot hty hm ho ha hbase hfew hline hs hplain
theorem JcQ{o:QQ}{to:TE}{name:Str}{apos cpos:Pos}{T id:String}{r:V->List V->Hp->VK->Prop}(hK:X.K=K)(pa:PlainAttrs T)(slot:Slot T name id)(hty:typeOf (.builtin id)=pure (.type "method_descriptor"))(hm:MtR X id r)(ho:PE X o to)
 (hbase:attributeBase o name X.env (eval o X.env)=eval o X.env:=by rfl) (hline:(apos.endLine == cpos.line)=true:=by rfl):PE X (.Call (.Attribute o name apos) [] [] cpos) (Jh3 K T r to):=hK▸Jj9 pa slot hty hm ho hbase hline
end
end L2

namespace LR
open PySem L2

theorem Jk7(K:Qq)(H:Hp)(k:Bool):Jdh K (.bl k) H k:=rfl
noncomputable abbrev Pr:=Int×Int
noncomputable def prD(p:Pr):PyData:=.tuple [.int p.1,.int p.2]
section
variable{K:Qq}{H H':Hp}
theorem Jhu{v:V}{p:Pr}(r:Rep K H v (prD p)):∃a,v=.ref a/\SqT K H a [.int p.1,.int p.2]:=by
 obtain⟨a,xs,rfl,h,l,q⟩:=r.tupI
 match xs,l,q,h with
 | [x,y],_,q,h =>
  have e1:=(q 0 x (.int p.1) rfl rfl).intI
  have e2:=(q 1 y (.int p.2) rfl rfl).intI;subst e1 e2;exact⟨a,rfl,h⟩
noncomputable abbrev Prs(K:Qq)(H:Hp)(vs:List V)(ps:List Pr):Prop:=RepL K H vs (ps.map prD)
theorem Prs.len{vs:List V}{ps:List Pr}(r:Prs K H vs ps):vs.length=ps.length:=by have:=r.1;rwa [Qy] at this
theorem Prs.at{vs:List V}{ps:List Pr}{i:Nat}{v:V}(r:Prs K H vs ps)(e:vs[i]?=some v):∃p a,ps[i]?=some p/\v=.ref a/\SqT K H a [.int p.1,.int p.2]:=by
 obtain⟨d,h1,h2⟩:=r.get' e;rw[QR] at h1
 cases hp:ps[i]? with
 | none=>rw[hp] at h1;cases h1
 | some p=>rw[hp] at h1;cases h1;obtain⟨a,e1,e2⟩:=Jhu h2;exact⟨p,a,rfl,e1,e2⟩
theorem Prs.snoc{vs:List V}{ps:List Pr}{v:V}{p:Pr}(r:Prs K H vs ps)(h:Rep K H v (prD p)):Prs K H (vs++[v]) (ps++[p]):=by show RepL K H _ _;rw[QU];exact RepL.snoc r h
end

structure Good (ps:List Pr):Prop where
 one:∀(i:Nat) (p:Pr),ps[i]?=some p->1<=p.2
 gap:∀(i:Nat) (p q:Pr),ps[i]?=some p->ps[i+1]?=some q->p.1+p.2<q.1
theorem Good.nil:Good []:=⟨fun i p e=>by simp at e,fun i p q e=>by simp at e⟩
theorem Good.snoc{ps:List Pr}{p:Pr}(g:Good ps)(h1:1<=p.2)(h2:∀q,ps[ps.length-1]?=some q->q.1+q.2<p.1):Good (ps++[p]):=by
 refine⟨fun i q e=>?_,fun i q r e1 e2=>?_⟩
 ·by_cases hi:i<ps.length
  ·rw[QF hi] at e;exact g.one i q e
  ·rw[QM (by omega)] at e;obtain⟨h3,h4⟩:=Qo.mp e;have:i-ps.length=0:=by simp at h3;omega
   rw[this] at e;simp at e;subst e;exact h1
 ·by_cases hi:i+1<ps.length
  ·rw[QF (by omega)] at e1;rw[QF hi] at e2;exact g.gap i q r e1 e2
  ·rw[QM (by omega)] at e2;obtain⟨h3,h4⟩:=Qo.mp e2;have h5:i+1-ps.length=0:=by simp at h3;omega
   rw[h5] at e2;simp at e2;subst e2;have h6:i=ps.length-1:=by omega
   have h7:i<ps.length:=by omega
   rw[QF h7] at e1;rw[h6] at e1;exact h2 q e1

noncomputable def Jmc(t:Qc):List (Str×V):=[("stretches",.ref t)]
noncomputable def RowAt(C:Qc)(K:Qq)(H:Hp)(v:V)(ps:List Pr):Prop :=
 ∃x dx t ts,v=.ref x/\H x=some (.ins C dx (Jmc t))/\H t=some (.tup ts)/\Prs K H ts ps
theorem RowAt.mono{C:Qc}{K:Qq}{H H':Hp}{v:V}{ps:List Pr}(e:Same H H')(r:RowAt C K H v ps):RowAt C K H' v ps:=by obtain⟨x,dx,t,ts,h0,h1,h2,h3⟩:=r;exact⟨x,dx,t,ts,h0,e _ _ h1,e _ _ h2,RepL.mono e h3⟩
structure RowC (K:Qq) (C:Qc):Prop where
 cl:Cls K C
 ns:WA K C "stretches"
noncomputable def Jij(C:Qc)(sp:Sp)(E:XK)(vs:List V)(H1:Hp)(Q:VK):Prop:=∀x dx,H1 x=none->H1 dx=none->dx≠x ->
 sp (.ref x::vs) (upd (upd H1 dx (.own x)) x (.ins C dx [])) (fun v H2=>v=.non/\Q (.ref x) H2) E
theorem JhJ{C:Qc}{sp:Sp}{E:XK}{ts:TA}{σ:St}{H:Hp}{Q:VK}(q:ts σ H fun vs H1=>Jij C sp E vs H1 Q):Jmi C sp [] E ts σ H Q:=by
 have e:(fun vs H1=>Jij C sp E vs H1 Q)=fun vs H1=>∀x dx,H1 x=none->H1 dx=none->dx≠x->sp (.ref x::(vs++[])) (upd (upd H1 dx (.own x)) x (.ins C dx [])) (fun v H2=>v=.non/\Q (.ref x) H2) E:=by funext vs H1;rw[QT];rfl
 show ts σ H _;rw[<- e];exact q
noncomputable def cell(ns:List Int)(k:Int):Int:=ns.getD k.toNat 0
end LR

namespace LR
open PySem L2

theorem Jei{ns:List Int}{k:Int}(h:¬k<(ns.length:Int)):cell ns k=0:=by unfold cell;rw[Q9,List.getElem?_eq_none (by omega)];rfl
noncomputable def Je9(l:List Int)(k:Int):Int:=l.getD k.toNat 0
theorem Jfa{l:List Int}{k:Int}{P:Int->Prop}(h0:0<=k)(h1:k<(l.length:Int))(h:∀x∈l,P x):P (Je9 l k):=by
 unfold Je9;have:k.toNat<l.length:=by omega
 rw[Q9,GX this];exact h _ (G4 this)
theorem Jfv{K:Qq}{a:Qc}{xs:List V}{H:Hp}{Q:VK}(h:SqL K H a xs\/SqT K H a xs)(q:Q (.int xs.length) H):Jcd K [.ref a] H Q:=by
 rcases h with h|h
 ·exact JhG h q
 ·exact JhI h q
theorem lay_all:∀ps:List Pr,QS (ps.map prD)=true
 | []=>rfl
 | p::ps=>by show(GI (prD p) && QS (ps.map prD))=true;rw[lay_all ps];rfl
noncomputable def Jc2(K:Qq):Sp:=fun vs H Q _=>∃(a:Qc) (ns:List Int),vs=[.ref a]/\SqL K H a (ns.map V.int)/\ns.length<=63/\∀H',Q (.bl true) H'
end LR
namespace LR
open PySem L2
end LR

namespace L2
open PySem PySem.Spec PyProof.Rows

section
variable{X:Cx}{pins:List (Qc×Obj)}{σ:St}{H:Hp}{s:Qd}
theorem ZS{A':Qx}{E:Qa->Qd->Prop}{Q:Qa->Qd->Prop}{a:Qc}{vs:List V}(hh:A'.handled=none)(I:Inv X pins σ H s)(hq:SqL X.K H a vs\/SqT X.K H a vs)
 (h:∀(its:List Qa) (J:Qc) (fp wr:List Qc) (Sx:Nat->QJ->Prop) (s2:Qd),Vals vs its->Walks X.prog X.w A' J fp wr its.toArray.size (fun i v=>its.toArray[i]?=some v) Sx->Sx 0 s2.heap->(∀b∈fp,b<s2.heap.objs.size) ->
  (∀h' tk,(∀b o,b∉wr->s2.heap.get? b=some o->h'.get? b=some o)->Inv X pins σ H { s2 with heap:=h',toks:=tk })->Q (.ref J) s2):wpAny (model X.prog X.w) A' (pyIter (.ref a)) Q E s:=by
 have nin:∀b o,s.heap.get? b=some o->b∉[s.heap.objs.size]:=fun b o e z=>by
  have:b=s.heap.objs.size:=by simpa using z
  exact absurd (Qm e) (by rw[this];exact Gd _)
 rcases hq with hq|hq
 ·obtain⟨its,rv,p,hz⟩:=I.list hq;have hlt:a<s.heap.objs.size:=by obtain⟨_,e,_⟩:=p.isList;exact Qm e
  refine Ly p.isList ?_;refine h its _ _ _ _ _ rv (Walks.list hh _ a (QG hlt) its.toArray) ⟨⟨_,Qz _ rfl,rfl,rfl⟩,p.isList.push _⟩ (fun b hb=>?_) fun h' tk hk=>I.kept fun b o e=>hk b o (nin b o e) (Qg _ e)
  show b<(s.heap.push _).objs.size;rw[G2];rcases Qv.mp hb with z|z
  ·rw[z];exact K2 _
  ·have:b=a:=by simpa using z
   rw[this];exact Nat.lt_succ_of_lt hlt
 ·obtain⟨its,rv,p,hz⟩:=I.tuple hq;have ht:s.heap.IsTuple a its.toArray:=p;have hlt:a<s.heap.objs.size:=by obtain⟨_,e,_⟩:=ht;exact Qm e
  refine Lm ht ?_;refine h its _ _ _ _ _ rv (Walks.tuple hh _ a (QG hlt) its.toArray) ⟨⟨_,Qz _ rfl,rfl,rfl⟩,?_⟩ (fun b hb=>?_) fun h' tk hk=>I.kept fun b o e=>hk b o (nin b o e) (Qg _ e)
  ·obtain⟨o,e,c⟩:=ht;exact⟨o,Qg _ e,c⟩
  ·show b<(s.heap.push _).objs.size;rw[G2];rcases Qv.mp hb with z|z
   ·rw[z];exact K2 _
   ·have:b=a:=by simpa using z
    rw[this];exact Nat.lt_succ_of_lt hlt
end

theorem Wj(l:List Int):∀j,j<=l.length->preSum (fun i=>l.getD i 0) j=(l.take j).sum
 | 0,_=>by simp[preSum]
 | j+1,h=>by
  rw[preSum,Wj l j (by omega)];have hj:j<l.length:=by omega
  rw[List.take_add_one,List.sum_append];simp[hj]
section
variable{X:Cx}
noncomputable def Jko(K:Qq):List V->Hp->VK->Prop:=fun xs H Q=>∃(a:Qc) (ns:List Int),xs=[.ref a]/\(SqL K H a (ns.map V.int)\/SqT K H a (ns.map V.int))/\Q (.int ns.sum) H
theorem Jdr(hc:X.calm=true):CallR X (.builtin "sum") (Jko X.K):=by
 intro pins s σ H xs us Q I r h;obtain⟨a,ns,rfl,hq,q⟩:=h;obtain⟨u,rfl,rx⟩:=Vf r;cases rx;refine call_sum_walkG (ZS (A':=X.A.in1) (I.ok.hd hc) I hq fun its J fp wr Sx s2 rv W st hfp hI=>?_);have hi:=Y7 rv;have hl:=rv.length;rw[Qy] at hl;refine⟨J,fp,wr,_,_,Sx,fun i=>ns.getD i 0,rfl,W,st,hfp,fun i v e=>?_,fun h' tk t' hk=>?_⟩
 ·have e':its[i]?=some v:=by simpa using e
  obtain⟨x,e1,e2⟩:=rv.get' e';rw[QR] at e1
  cases hn:ns[i]? with
  | none=>rw[hn] at e1;cases e1
  | some n=>rw[hn] at e1;cases e1;obtain⟨t,rfl⟩:=e2;exact⟨t,by simp[Q9,hn]⟩
 ·refine⟨.int ns.sum,H,hI h' tk hk,⟨t',?_⟩,q⟩;rw[show its.toArray.size=ns.length by simp[hl],Wj ns _ (Qr _),List.take_length]
noncomputable def Jkj(K:Qq):List V->Hp->VK->Prop:=fun xs H Q=>∃(a:Qc) (bs:List Bool),xs=[.ref a]/\(SqL K H a (bs.map V.bl)\/SqT K H a (bs.map V.bl))/\Q (.bl (bs.all id)) H
theorem JdW(bs:List Bool):(G7 bs.length).all (fun i=>bs.getD i false)=bs.all id:=by
 rw[Ga];simp only[Q4,List.mem_range,id];constructor
 ·intro h b hb;obtain⟨i,hi,e⟩:=Mq.mp hb;have:=h i hi;simp[Q9,hi] at this;rw[<- e];exact this
 ·intro h i hi;simp[Q9,hi];exact h _ (G4 hi)
theorem JbC{A:Qx}{bs:List Bool}{its:List Qa}(rv:Vals (bs.map V.bl) its):TruthOf X.prog X.w A (fun i v=>its.toArray[i]?=some v) (fun i=>bs.getD i false):=by
 intro i v s Q E e q;have e':its[i]?=some v:=by simpa using e
 obtain⟨x,e1,e2⟩:=rv.get' e';rw[QR] at e1
 cases hn:bs[i]? with
 | none=>rw[hn] at e1;cases e1
 | some n =>
  rw[hn] at e1;cases e1;cases e2;have:bs.getD i false=n:=by simp[Q9,hn]
  have q':Q (bs.getD i false) s:=q;rw[this] at q';exact GP q'
theorem Jdl(hc:X.calm=true):CallR X (.builtin "all") (Jkj X.K):=by intro pins s σ H xs us Q I r h;obtain⟨a,bs,rfl,hq,q⟩:=h;obtain⟨u,rfl,rx⟩:=Vf r;cases rx;refine call_all_walk (ZS (A':=X.A.in1) (I.ok.hd hc) I hq fun its J fp wr Sx s2 rv W st hfp hI=>?_);have hl:=rv.length;rw[Qy] at hl;refine⟨J,fp,wr,_,_,Sx,_,rfl,W,st,JbC rv,fun h' tk hk=>⟨.bl _,H,hI h' tk hk,rfl,?_⟩⟩;rw[show its.toArray.size=bs.length by simp[hl],JdW];exact q
noncomputable def strI(i:Int):Str:=(toString i:String)
noncomputable def Jkn:List V->Hp->VK->Prop:=fun xs H Q=>∃i,xs=[.int i]/\i.natAbs.log2<1920/\Q (.str (strI i)) H
theorem VZ:CallR X (.type "str") Jkn:=Jag
theorem Zh:∀{ys:List Str} {us:List Qa},Vals (ys.map V.str) us->StrsAre us ys
 | [],_,r=>by cases r;exact .nil
 | y::ys,_,r=>by
  cases r with
  | cons r1 r2=>obtain⟨t,rfl⟩:=r1;exact .cons y t (Zh r2)
noncomputable def JcY(K:Qq):V->List V->Hp->VK->Prop:=fun x vs H Q=>∃(z:Str) (a:Qc) (ys:List Str),x=.str z/\vs=[.ref a]/\SqL K H a (ys.map V.str)/\(ys.map (·.length)).sum+ys.length*z.length<=16777216/\Q (.str (K7 z ys)) H
theorem Jg9:MtM X "str.join" (JcY X.K):=by intro pins s σ H x vs v us Q I rx rv h;obtain⟨z,a,ys,rfl,rfl,hq,hw,q⟩:=h;obtain⟨t,rfl⟩:=rx;obtain⟨u,rfl,ru⟩:=rv.one;cases ru;obtain⟨its,r,p,hz⟩:=I.list hq;have e:Txt.join z ys=K7 z ys:=eq_of_beq (join_closes rfl);exact join_list p.isList (Zh r) hw fun t' k=>⟨.str _,H,I.tok k,⟨t',by rw[e]⟩,q⟩
end
section
variable{X:Cx}{K:Qq}
theorem Uq(hK:X.K=K)(hc:X.calm=true):CallR X (.builtin "sum") (Jko K):=hK▸Jdr hc
theorem Jdk(hK:X.K=K)(hc:X.calm=true):CallR X (.builtin "all") (Jkj K):=hK▸Jdl hc
theorem Jbh(hK:X.K=K):MtM X "str.join" (JcY K):=hK▸Jg9
end
section
variable{K:Qq}{H:Hp}{Q:VK}
theorem JkK{i:Int}(h:i.natAbs.log2<1920)(q:Q (.str (strI i)) H):Jkn [.int i] H Q:=⟨i,rfl,h,q⟩
theorem JhF{z:Str}{a:Qc}{ys:List Str}(h:SqL K H a (ys.map V.str))(hw:(ys.map (·.length)).sum+ys.length*z.length<=16777216)(q:Q (.str (K7 z ys)) H):JcY K (.str z) [.ref a] H Q:=⟨z,a,ys,rfl,rfl,h,hw,q⟩
end
end L2
namespace L2
open PySem PySem.Spec PyProof.Rows
noncomputable def AllP{α:Type}(P:α->Prop):List α->Prop
 | []=>True
 | x::xs=>P x/\AllP P xs
theorem AllP.mem{α:Type}{P:α->Prop}:∀{l:List α},AllP P l->∀x∈l,P x
 | [],_,x,hx=>nomatch hx
 | y::l,h,x,hx=>by
  rcases Qv.mp hx with z|z
  ·rw[z];exact h.1
  ·exact AllP.mem h.2 x z
end L2

namespace LR
open PySem L2

noncomputable def Small(i:Int):Prop:=i.natAbs.log2<1920
theorem Small.of{i:Int}(h:i.natAbs<2 ^ 1920):Small i:=by
 unfold Small
 by_cases h0:i.natAbs=0
 ·rw[h0];decide
 ·exact(Nat.log2_lt h0).mpr h
theorem JkT{l:List Nat}{c:Nat}(h:∀x∈l,x<=c):l.sum<=l.length*c:=by
 induction l with
 | nil=>simp
 | cons x l ih =>
  have h1:=h x QB
  have h2:=ih fun y hy=>h y (Qj _ hy)
  rw[MA,Qk,Nat.succ_mul];omega
end LR

namespace LE
open PySem L2 LR

structure Xm where
 n:Str
 k:Option Int
instance:Coe Str Xm:=⟨fun s=>⟨s,none⟩⟩
noncomputable def WF:Qa->Qa
 | .int i _=>.ref i.toNat
 | v=>v
noncomputable def Ja1:Qa->Option Qc
 | .int _ t=>some t
 | _=>none
inductive D where
 | non|bl (b:Bool)|int (i:Int)|str (x:Str)|tup (l:List D)|lst (l:List D)|fz (l:List D)|row (l:List D)|dct (ks:List Int) (l:List D)|dfz (ks:List Int) (l:List D)|exc (n:Xm)
noncomputable def dkO(ks:List Int)(xs:List V):HO:=.dK ((ks.map Sum.inl).zip xs)
noncomputable def dtK(p:Int×Int):List Key:=[Sum.inl p.1,Sum.inl p.2]
noncomputable def dtO(ps:List (Int×Int))(xs:List V):HO:=.dT ((ps.map dtK).zip xs)
noncomputable def XO(a:Qc)(c:Qa):HO:=.ext fun h=>∃o,h.get? a=some o/\o.cls=WF c/\notCls o=true/\o.dict=Ja1 c
noncomputable def XC(K:Qq)(n:Xm)(c:Qa)(H:Hp):Prop:=∃a:Nat,nsIn K mainGlobals n.n=some (some (.ref a))/\match n.k with
 | none=>c=.ref a
 | some k=>∃t,c=.int a t/\H t=some (.xd [("at",.int k)])
theorem XC.mono{K:Qq}{n:Xm}{c:Qa}{H H':Hp}(e:Same H H')(x:XC K n c H):XC K n c H':=by
 obtain⟨a,h1,h2⟩:=x;refine⟨a,h1,?_⟩
 cases z:n.k with
 | none=>rw[z] at h2;exact h2
 | some k=>rw[z] at h2;obtain⟨t,h3,h4⟩:=h2;exact⟨t,h3,e _ _ h4⟩
theorem XC.cls{K:Qq}{n:Xm}{c:Qa}{H:Hp}(x:XC K n c H):∃a,nsIn K mainGlobals n.n=some (some (.ref a))/\WF c=.ref a:=by
 obtain⟨a,h1,h2⟩:=x;refine⟨a,h1,?_⟩
 cases z:n.k with
 | none=>rw[z] at h2;cases h2;rfl
 | some k=>rw[z] at h2;obtain⟨t,h3,h4⟩:=h2;cases h3;rfl
noncomputable def XdO(c:Qa)(H:Hp):Prop:=match Ja1 c with
 | none=>True
 | some t=>∃fs,H t=some (.xd fs)
theorem XC.xd{K:Qq}{n:Xm}{c:Qa}{H:Hp}(x:XC K n c H):XdO c H:=by
 obtain⟨a,h1,h2⟩:=x
 cases z:n.k with
 | none=>rw[z] at h2;cases h2;exact True.intro
 | some k=>rw[z] at h2;obtain⟨t,h3,h4⟩:=h2;cases h3;exact⟨_,h4⟩

section
variable(K:Qq)(C:Qc)
inductive RD (H:Hp):V->D->Prop
 | non:RD H .non .non
 | bl (b:Bool):RD H (.bl b) (.bl b)
 | int (i:Int):RD H (.int i) (.int i)
 | str (x:Str):RD H (.str x) (.str x)
 | tup {a:Qc} {xs:List V} {ds:List D}:SqT K H a xs->xs.length=ds.length->(∀(i:Nat) (x:V) (d:D),xs[i]?=some x->ds[i]?=some d->RD H x d)->RD H (.ref a) (.tup ds)
 | lst {a:Qc} {xs:List V} {ds:List D}:H a=some (.lst xs)->xs.length=ds.length->(∀(i:Nat) (x:V) (d:D),xs[i]?=some x->ds[i]?=some d->RD H x d)->RD H (.ref a) (.lst ds)
 | fz {a:Qc} {xs:List V} {ds:List D}:SqL K H a xs->xs.length=ds.length->(∀(i:Nat) (x:V) (d:D),xs[i]?=some x->ds[i]?=some d->RD H x d)->RD H (.ref a) (.fz ds)
 | row {x dx t:Qc} {ts:List V} {ds:List D}:H x=some (.ins C dx (Jmc t))->SqT K H t ts->ts.length=ds.length->(∀(i:Nat) (x:V) (d:D),ts[i]?=some x->ds[i]?=some d->RD H x d)->RD H (.ref x) (.row ds)
 | dct {a:Qc} {ks:List Int} {xs:List V} {ds:List D}:H a=some (dkO ks xs)->ks.length=ds.length->xs.length=ds.length->(∀(i:Nat) (x:V) (d:D),xs[i]?=some x->ds[i]?=some d->RD H x d)->RD H (.ref a) (.dct ks ds)
 | dfz {a:Qc} {ks:List Int} {xs:List V} {ds:List D} {o:Obj}:H a=some (.frz o (dkO ks xs))->ks.length=ds.length->xs.length=ds.length->(∀(i:Nat) (x:V) (d:D),xs[i]?=some x->ds[i]?=some d->RD H x d)->RD H (.ref a) (.dfz ks ds)
 | exc {a:Qc} {c:Qa} {n:Xm}:H a=some (XO a c)->XC K n c H->RD H (.ref a) (.exc n)
noncomputable def RDL(H:Hp)(xs:List V)(ds:List D):Prop:=xs.length=ds.length/\∀(i:Nat) (x:V) (d:D),xs[i]?=some x->ds[i]?=some d->RD K C H x d
end

section
variable{K:Qq}{C:Qc}{H H':Hp}
theorem RD.mono{v:V}{d:D}(e:Same H H')(r:RD K C H v d):RD K C H' v d:=by
 induction r with
 | non=>exact .non
 | bl b=>exact .bl b
 | int i=>exact .int i
 | str x=>exact .str x
 | tup h l _ ih=>exact .tup (e.seqT h) l ih
 | lst h l _ ih=>exact .lst (e _ _ h) l ih
 | fz h l _ ih=>exact .fz (e.seq h) l ih
 | row h1 h2 l _ ih=>exact .row (e _ _ h1) (e.seqT h2) l ih
 | dct h1 h2 l _ ih=>exact .dct (e _ _ h1) h2 l ih
 | dfz h1 h2 l _ ih=>exact .dfz (e _ _ h1) h2 l ih
 | exc h1 h2=>exact .exc (e _ _ h1) (h2.mono e)
theorem RDL.mono{xs:List V}{ds:List D}(e:Same H H')(r:RDL K C H xs ds):RDL K C H' xs ds:=⟨r.1,fun i x d h1 h2=>(r.2 i x d h1 h2).mono e⟩
theorem RDL.nil:RDL K C H [] []:=⟨rfl,fun i x d e=>by simp at e⟩
theorem RDL.cons{x:V}{d:D}{xs:List V}{ds:List D}(h:RD K C H x d)(r:RDL K C H xs ds):RDL K C H (x::xs) (d::ds):=by
 refine⟨by simp[r.1],fun i y e h1 h2=>?_⟩
 cases i with
 | zero=>simp at h1 h2;subst h1 h2;exact h
 | succ i=>exact r.2 i y e (by simpa using h1) (by simpa using h2)
theorem RDL.append{xs ys:List V}{ds es:List D}(r:RDL K C H xs ds)(q:RDL K C H ys es):RDL K C H (xs++ys) (ds++es):=by
 refine⟨by simp[r.1,q.1],fun i x d h1 h2=>?_⟩
 by_cases hi:i<xs.length
 ·rw[QF hi] at h1;rw[QF (by rw[<- r.1];exact hi)] at h2;exact r.2 i x d h1 h2
 ·rw[QM (by omega)] at h1;rw[QM (by rw[<- r.1];omega)] at h2;rw[<- r.1] at h2;exact q.2 _ x d h1 h2
theorem RDL.snoc{xs:List V}{ds:List D}{x:V}{d:D}(r:RDL K C H xs ds)(h:RD K C H x d):RDL K C H (xs++[x]) (ds++[d]):=r.append (.cons h .nil)
theorem RDL.get{xs:List V}{ds:List D}{i:Nat}{d:D}(r:RDL K C H xs ds)(e:ds[i]?=some d):∃x,xs[i]?=some x/\RD K C H x d:=by
 have hi:=(Qo.mp e).1
 have hx:i<xs.length:=by rw[r.1];exact hi
 exact⟨xs[i],by simp[hx],r.2 i _ d (by simp[hx]) e⟩
theorem RDL.get'{xs:List V}{ds:List D}{i:Nat}{x:V}(r:RDL K C H xs ds)(e:xs[i]?=some x):∃d,ds[i]?=some d/\RD K C H x d:=by
 have hi:=(Qo.mp e).1
 have hx:i<ds.length:=by rw[<- r.1];exact hi
 exact⟨ds[i],by simp[hx],r.2 i x _ e (by simp[hx])⟩
theorem RDL.head{x:V}{xs:List V}{d:D}{ds:List D}(r:RDL K C H (x::xs) (d::ds)):RD K C H x d:=r.2 0 x d rfl rfl
theorem RDL.tail{x:V}{xs:List V}{d:D}{ds:List D}(r:RDL K C H (x::xs) (d::ds)):RDL K C H xs ds:=⟨by have:=r.1;simpa using this,fun i y e h1 h2=>r.2 (i+1) y e (by simpa using h1) (by simpa using h2)⟩
theorem RDL.take{xs:List V}{ds:List D}(n:Nat)(r:RDL K C H xs ds):RDL K C H (xs.take n) (ds.take n):=by
 refine⟨by simp[r.1],fun i x d h1 h2=>?_⟩;rw[List.getElem?_take] at h1 h2;split at h1
 ·rw[if_pos (by assumption)] at h2;exact r.2 i x d h1 h2
 ·cases h1
theorem RDL.drop{xs:List V}{ds:List D}(n:Nat)(r:RDL K C H xs ds):RDL K C H (xs.drop n) (ds.drop n):=by refine⟨by simp[r.1],fun i x d h1 h2=>?_⟩;rw[List.getElem?_drop] at h1 h2;exact r.2 _ x d h1 h2
theorem RDL.set{xs:List V}{ds:List D}{v:V}{e:D}(n:Nat)(r:RDL K C H xs ds)(h:RD K C H v e):RDL K C H (xs.set n v) (ds.set n e):=by
 refine⟨by simp[r.1],fun i x d h1 h2=>?_⟩;rw[QN] at h1 h2;split at h1
 ·rw[if_pos (by assumption)] at h2;split at h1
  ·rw[if_pos (by rw[<- r.1];assumption)] at h2;cases h1;cases h2;exact h
  ·cases h1
 ·rw[if_neg (by assumption)] at h2;exact r.2 i x d h1 h2
theorem RDL.reverse{xs:List V}{ds:List D}(r:RDL K C H xs ds):RDL K C H xs.reverse ds.reverse:=by
 refine⟨by simp[r.1],fun i x d h1 h2=>?_⟩;have hi:i<xs.length:=by have:=(Qo.mp h1).1;simpa using this
 rw[Mh hi] at h1;rw[Mh (by rw[<- r.1];exact hi)] at h2;rw[<- r.1] at h2;exact r.2 _ x d h1 h2
theorem RDL.ints:∀{xs:List V} {ns:List Int},RDL K C H xs (ns.map D.int)->xs=ns.map V.int
 | [],[],_=>rfl
 | [],_::_,r=>by have:=r.1;simp at this
 | _::_,[],r=>by have:=r.1;simp at this
 | x::xs,n::ns,r=>by have h:=r.head;cases h;rw[RDL.ints r.tail];rfl
theorem RDL.ofInts:∀(ns:List Int),RDL K C H (ns.map V.int) (ns.map D.int)
 | []=>.nil
 | n::ns=>.cons (.int n) (RDL.ofInts ns)
theorem RDL.bls:∀{xs:List V} {ns:List Bool},RDL K C H xs (ns.map D.bl)->xs=ns.map V.bl
 | [],[],_=>rfl
 | [],_::_,r=>by have:=r.1;simp at this
 | _::_,[],r=>by have:=r.1;simp at this
 | x::xs,n::ns,r=>by have h:=r.head;cases h;rw[RDL.bls r.tail];rfl
theorem RDL.strs:∀{xs:List V} {ns:List Str},RDL K C H xs (ns.map D.str)->xs=ns.map V.str
 | [],[],_=>rfl
 | [],_::_,r=>by have:=r.1;simp at this
 | _::_,[],r=>by have:=r.1;simp at this
 | x::xs,n::ns,r=>by have h:=r.head;cases h;rw[RDL.strs r.tail];rfl
theorem RD.mkT{a:Qc}{xs:List V}{ds:List D}(h:SqT K H a xs)(r:RDL K C H xs ds):RD K C H (.ref a) (.tup ds):=.tup h r.1 r.2
theorem RD.mkL{a:Qc}{xs:List V}{ds:List D}(h:H a=some (.lst xs))(r:RDL K C H xs ds):RD K C H (.ref a) (.lst ds):=.lst h r.1 r.2
theorem RD.mkF{a:Qc}{xs:List V}{ds:List D}(h:SqL K H a xs)(r:RDL K C H xs ds):RD K C H (.ref a) (.fz ds):=.fz h r.1 r.2
theorem RD.tupI{v:V}{ds:List D}(r:RD K C H v (.tup ds)):∃a xs,v=.ref a/\SqT K H a xs/\RDL K C H xs ds:=by
 cases r with
 | tup h l q=>exact⟨_,_,rfl,h,l,q⟩
theorem RD.lstI{v:V}{ds:List D}(r:RD K C H v (.lst ds)):∃a xs,v=.ref a/\H a=some (.lst xs)/\RDL K C H xs ds:=by
 cases r with
 | lst h l q=>exact⟨_,_,rfl,h,l,q⟩
theorem RD.fzI{v:V}{ds:List D}(r:RD K C H v (.fz ds)):∃a xs,v=.ref a/\SqL K H a xs/\RDL K C H xs ds:=by
 cases r with
 | fz h l q=>exact⟨_,_,rfl,h,l,q⟩
theorem RD.mkD{a:Qc}{ks:List Int}{xs:List V}{ds:List D}(h:H a=some (dkO ks xs))(hk:ks.length=ds.length)(r:RDL K C H xs ds):RD K C H (.ref a) (.dct ks ds):=.dct h hk r.1 r.2
theorem RD.dctI{v:V}{ks:List Int}{ds:List D}(r:RD K C H v (.dct ks ds)):∃a xs,v=.ref a/\H a=some (dkO ks xs)/\ks.length=ds.length/\RDL K C H xs ds:=by
 cases r with
 | dct h hk l q=>exact⟨_,_,rfl,h,hk,l,q⟩
theorem RD.dfzI{v:V}{ks:List Int}{ds:List D}(r:RD K C H v (.dfz ks ds)):∃a xs o,v=.ref a/\H a=some (.frz o (dkO ks xs))/\ks.length=ds.length/\RDL K C H xs ds:=by
 cases r with
 | dfz h hk l q=>exact⟨_,_,_,rfl,h,hk,l,q⟩
theorem RD.excI{v:V}{n:Xm}(r:RD K C H v (.exc n)):∃a c,v=.ref a/\H a=some (XO a c)/\XC K n c H:=by
 cases r with
 | exc h1 h2=>exact⟨_,_,rfl,h1,h2⟩
theorem RD.intI{v:V}{i:Int}(r:RD K C H v (.int i)):v=.int i:=by cases r;rfl
theorem RD.strI{v:V}{i:Str}(r:RD K C H v (.str i)):v=.str i:=by cases r;rfl
theorem RD.blI{v:V}{i:Bool}(r:RD K C H v (.bl i)):v=.bl i:=by cases r;rfl
theorem RD.nonI{v:V}(r:RD K C H v .non):v=.non:=by cases r;rfl
end

mutual
noncomputable def D.py:D->PyData
 | .non=>.none
 | .bl b=>.bool b
 | .int i=>.int i
 | .str x=>.str x
 | .tup l=>.tuple (D.pyL l)
 | .lst l=>.list (D.pyL l)
 | .fz l=>.list (D.pyL l)
 | .row _=>.dict []
 | .dct _ _=>.dict []
 | .dfz _ _=>.dict []
 | .exc _=>.dict []
noncomputable def D.pyL:List D->List PyData
 | []=>[]
 | d::ds=>d.py::D.pyL ds
end
theorem JcT:∀ds:List D,D.pyL ds=ds.map D.py
 | []=>rfl
 | d::ds=>by rw[D.pyL,JcT ds];rfl
theorem WT:∀{ds:List PyData},QS ds=true->∀d∈ds,d.canLay0=true
 | [],_,d,hd=>nomatch hd
 | x::ds,h,d,hd=>by
  have h':(GI x && QS ds)=true:=h;rw[QL] at h';rcases Qv.mp hd with z|z
  ·rw[z];exact h'.1
  ·exact WT h'.2 d z
theorem RD.rep{K:Qq}{C:Qc}{H:Hp}{v:V}{d:D}(r:RD K C H v d):d.py.canLay0=true->Rep K H v d.py:=by
 have all:∀{xs:List V} {ds:List D},xs.length=ds.length->(∀(i:Nat) (x:V) (d:D),xs[i]?=some x->ds[i]?=some d->d.py.canLay0=true->Rep K H x d.py)->QS (D.pyL ds)=true->RepL K H xs (D.pyL ds):=by
  intro xs ds l ih hc;rw[JcT] at hc ⊢;refine⟨by simpa using l,fun i x d h1 h2=>?_⟩;rw[QR] at h2
  cases e:ds[i]? with
  | none=>rw[e] at h2;cases h2
  | some q=>rw[e] at h2;cases h2;exact ih i x q h1 e (WT hc _ (Ku.mpr ⟨q,QX e,rfl⟩))
 induction r with
 | non=>intro _;exact .non
 | bl b=>intro _;exact .bl b
 | int i=>intro _;exact .int i
 | str x=>intro _;exact .str x
 | tup h l _ ih=>intro hc;exact .tupL h (all l ih hc)
 | lst h l _ ih=>intro hc;exact .lstL (.of h) (all l ih hc)
 | fz h l _ ih=>intro hc;exact .lstL h (all l ih hc)
 | row h1 h2 l _ ih=>intro hc;cases hc
 | dct h1 h2 l _ ih=>intro hc;cases hc
 | dfz h1 h2 l _ ih=>intro hc;cases hc
 | exc h1 h2=>intro hc;cases hc

inductive Sl where
 | no|sh (d:D)|bo (ds:List D)|own (ds:List D)|bd (ks:List Int) (ds:List D)|od (ks:List Int) (ds:List D)|bt (ps:List (Int×Int)) (ds:List D)|ot (ps:List (Int×Int)) (ds:List D)
noncomputable def JR:Sl->Bool
 | .own _=>true
 | .od _ _=>true
 | .ot _ _=>true
 | _=>false
noncomputable def Jju:Sl->Bool
 | .bo _=>true
 | .bd _ _=>true
 | .bt _ _=>true
 | _=>false

section
variable(K:Qq)(C:Qc)
noncomputable def RR(Hs H0 H:Hp)(v:V):Sl->Prop
 | .no=>False
 | .sh d=>RD K C H0 v d
 | .bo ds=>∃l xs,v=.ref l/\H l=some (.lst xs)/\RDL K C H0 xs ds
 | .own ds=>∃l xs,v=.ref l/\H l=some (.lst xs)/\H0 l=none/\Hs l=none/\RDL K C H0 xs ds
 | .bd ks ds=>∃l xs,v=.ref l/\H l=some (dkO ks xs)/\ks.length=ds.length/\RDL K C H0 xs ds
 | .bt ks ds=>∃l xs,v=.ref l/\H l=some (dtO ks xs)/\ks.length=ds.length/\RDL K C H0 xs ds
 | .od ks ds=>∃l xs,v=.ref l/\H l=some (dkO ks xs)/\H0 l=none/\Hs l=none/\ks.length=ds.length/\RDL K C H0 xs ds
 | .ot ks ds=>∃l xs,v=.ref l/\H l=some (dtO ks xs)/\H0 l=none/\Hs l=none/\ks.length=ds.length/\RDL K C H0 xs ds
noncomputable def RSl(B H0 H:Hp)(v:V):Sl->Prop
 | .no=>True
 | .sh d=>RD K C H0 v d
 | .bo ds=>∃l xs,v=.ref l/\B l=some (.lst xs)/\RDL K C H0 xs ds
 | .own ds=>∃l xs,v=.ref l/\H l=some (.lst xs)/\H0 l=none/\B l=none/\RDL K C H0 xs ds
 | .bd ks ds=>∃l xs,v=.ref l/\B l=some (dkO ks xs)/\ks.length=ds.length/\RDL K C H0 xs ds
 | .bt ks ds=>∃l xs,v=.ref l/\B l=some (dtO ks xs)/\ks.length=ds.length/\RDL K C H0 xs ds
 | .od ks ds=>∃l xs,v=.ref l/\H l=some (dkO ks xs)/\H0 l=none/\B l=none/\ks.length=ds.length/\RDL K C H0 xs ds
 | .ot ks ds=>∃l xs,v=.ref l/\H l=some (dtO ks xs)/\H0 l=none/\B l=none/\ks.length=ds.length/\RDL K C H0 xs ds
structure EnvR (B H0 H:Hp) (σ:St) (E:List Sl):Prop where
 b:Same B H
 h:Same H0 H
 len:σ.length=E.length
 at':∀(i:Nat) (s:Sl),E[i]?=some s->s=.no\/∃v,σ[i]?=some (some v)/\RSl K C B H0 H v s
 sep:∀(i j:Nat) (s t:Sl) (v:V),i≠j->E[i]?=some s->E[j]?=some t->JR s=true->JR t=true->σ[i]?=some (some v)->σ[j]?≠some (some v)
end
noncomputable def isT:HO->Bool
 | .tup _=>true
 | .frz _ (.tup _)=>true
 | _=>false
structure Step (Hs H0 H H0' H':Hp):Prop where
 h:Same H H'
 z:Same H0 H0'
 n:∀a o,H0' a=some o->H0 a=some o\/Hs a=none\/isT o=true
 i:Same H0' H'
structure SStep (B H0 H0' H':Hp):Prop where
 b:Same B H'
 z:Same H0 H0'
 n:∀a o,H0' a=some o->H0 a=some o\/B a=none\/isT o=true
 i:Same H0' H'

section
variable{K:Qq}{C:Qc}{B Hs H0 H H0' H' H0'' H'':Hp}{σ:St}{E:List Sl}{v:V}{s:Sl}
theorem Step.refl(i:Same H0 H):Step Hs H0 H H0 H:=⟨Same.refl _,Same.refl _,fun _ _ e=>.inl e,i⟩
theorem Step.comp{Hs':Hp}(s1:Step Hs H0 H H0' H')(s2:Step Hs' H0' H' H0'' H'')(w:∀a,Hs' a=none->Hs a=none):Step Hs H0 H H0'' H'' :=
 ⟨s1.h.trans s2.h,s1.z.trans s2.z,fun a o e=>(s2.n a o e).elim (fun q=>s1.n a o q) fun q=>.inr (q.imp (w a) id),s2.i⟩
theorem Step.trans(s1:Step H H0 H H0' H')(s2:Step H' H0' H' H0'' H''):Step H H0 H H0'' H'':=s1.comp s2 fun _ q=>Same.free s1.h q
theorem Step.ss(b:Same B H)(s:Step H H0 H H0' H'):SStep B H0 H0' H':=⟨b.trans s.h,s.z,fun a o e=>(s.n a o e).imp id fun q=>q.imp (fun q=>Same.free b q) id,s.i⟩
theorem SStep.refl(b:Same B H)(i:Same H0 H):SStep B H0 H0 H:=⟨b,Same.refl _,fun _ _ e=>.inl e,i⟩
theorem SStep.trans(s1:SStep B H0 H0' H')(s2:SStep B H0' H0'' H''):SStep B H0 H0'' H'':=⟨s2.b,s1.z.trans s2.z,fun a o e=>(s2.n a o e).elim (fun q=>s1.n a o q) .inr,s2.i⟩
theorem RR.step(r:RR K C Hs H0 H v s)(st:Step H H0 H H0' H'):RR K C Hs H0' H' v s:=by
 cases s with
 | no=>exact r
 | sh d=>exact RD.mono st.z r
 | bo ds=>obtain⟨l,xs,e,h,q⟩:=r;exact⟨l,xs,e,st.h _ _ h,q.mono st.z⟩
 | bd ks ds=>obtain⟨l,xs,e,h,hk,q⟩:=r;exact⟨l,xs,e,st.h _ _ h,hk,q.mono st.z⟩
 | bt ks ds=>obtain⟨l,xs,e,h,hk,q⟩:=r;exact⟨l,xs,e,st.h _ _ h,hk,q.mono st.z⟩
 | own ds =>
  obtain⟨l,xs,e,h,n,m,q⟩:=r;refine⟨l,xs,e,st.h _ _ h,?_,m,q.mono st.z⟩
  cases z:H0' l with
  | none=>rfl
  | some o =>
   rcases st.n l o z with y|y|y
   ·rw[n] at y;cases y
   ·rw[h] at y;cases y
   ·have:=st.i l o z;rw[st.h _ _ h] at this;cases this;cases y
 | od ks ds =>
  obtain⟨l,xs,e,h,n,m,hk,q⟩:=r;refine⟨l,xs,e,st.h _ _ h,?_,m,hk,q.mono st.z⟩
  cases z:H0' l with
  | none=>rfl
  | some o =>
   rcases st.n l o z with y|y|y
   ·rw[n] at y;cases y
   ·rw[h] at y;cases y
   ·have:=st.i l o z;rw[st.h _ _ h] at this;cases this;cases y
 | ot ks ds =>
  obtain⟨l,xs,e,h,n,m,hk,q⟩:=r;refine⟨l,xs,e,st.h _ _ h,?_,m,hk,q.mono st.z⟩
  cases z:H0' l with
  | none=>rfl
  | some o =>
   rcases st.n l o z with y|y|y
   ·rw[n] at y;cases y
   ·rw[h] at y;cases y
   ·have:=st.i l o z;rw[st.h _ _ h] at this;cases this;cases y
theorem RR.weak{Hs':Hp}(r:RR K C Hs' H0 H v s)(w:∀a,Hs' a=none->Hs a=none):RR K C Hs H0 H v s:=by
 cases s with
 | own ds=>obtain⟨l,xs,e,h,n,m,q⟩:=r;exact⟨l,xs,e,h,n,w _ m,q⟩
 | od ks ds=>obtain⟨l,xs,e,h,n,m,q⟩:=r;exact⟨l,xs,e,h,n,w _ m,q⟩
 | ot ks ds=>obtain⟨l,xs,e,h,n,m,q⟩:=r;exact⟨l,xs,e,h,n,w _ m,q⟩
 | _=>exact r
theorem RSl.owned(r:RSl K C B H0 H v s)(o:JR s=true):∃l,v=.ref l/\H l≠none/\H0 l=none/\B l=none:=by
 cases s with
 | own ds=>obtain⟨l,xs,e,h,n,m,q⟩:=r;exact⟨l,e,(by rw[h];intro z;cases z),n,m⟩
 | od ks ds=>obtain⟨l,xs,e,h,n,m,q⟩:=r;exact⟨l,e,(by rw[h];intro z;cases z),n,m⟩
 | ot ks ds=>obtain⟨l,xs,e,h,n,m,q⟩:=r;exact⟨l,e,(by rw[h];intro z;cases z),n,m⟩
 | _=>cases o
theorem RR.owned(r:RR K C Hs H0 H v s)(o:JR s=true):∃l,v=.ref l/\H l≠none/\H0 l=none/\Hs l=none:=by
 cases s with
 | own ds=>obtain⟨l,xs,e,h,n,m,q⟩:=r;exact⟨l,e,(by rw[h];intro z;cases z),n,m⟩
 | od ks ds=>obtain⟨l,xs,e,h,n,m,q⟩:=r;exact⟨l,e,(by rw[h];intro z;cases z),n,m⟩
 | ot ks ds=>obtain⟨l,xs,e,h,n,m,q⟩:=r;exact⟨l,e,(by rw[h];intro z;cases z),n,m⟩
 | _=>cases o
theorem EnvR.step(I:EnvR K C B H0 H σ E)(st:Step H H0 H H0' H'):EnvR K C B H0' H' σ E:=by
 refine⟨I.b.trans st.h,st.i,I.len,fun i s e=>?_,I.sep⟩;rcases I.at' i s e with z|⟨v,h1,h2⟩
 ·exact .inl z
 ·refine .inr ⟨v,h1,?_⟩
  cases s with
  | no=>trivial
  | sh d=>exact RD.mono st.z h2
  | bo ds=>obtain⟨l,xs,e,h,q⟩:=h2;exact⟨l,xs,e,h,q.mono st.z⟩
  | own ds=>exact RR.step (Hs:=B) (s:=.own ds) h2 st
  | bd ks ds=>obtain⟨l,xs,e,h,hk,q⟩:=h2;exact⟨l,xs,e,h,hk,q.mono st.z⟩
  | bt ks ds=>obtain⟨l,xs,e,h,hk,q⟩:=h2;exact⟨l,xs,e,h,hk,q.mono st.z⟩
  | od ks ds=>exact RR.step (Hs:=B) (s:=.od ks ds) h2 st
  | ot ks ds=>exact RR.step (Hs:=B) (s:=.ot ks ds) h2 st
theorem EnvR.sub{E':List Sl}(I:EnvR K C B H0 H σ E)(hl:E'.length=E.length)(h:∀(i:Nat) (s:Sl),E'[i]?=some s->s=.no\/E[i]?=some s):EnvR K C B H0 H σ E':=by
 refine⟨I.b,I.h,I.len.trans hl.symm,fun i s e=>?_,fun i j s t v hij e1 e2 o1 o2=>?_⟩
 ·rcases h i s e with z|z
  ·exact .inl z
  ·exact I.at' i s z
 ·rcases h i _ e1 with z|z
  ·subst z;cases o1
  ·rcases h j _ e2 with y|y
   ·subst y;cases o2
   ·exact I.sep i j s t v hij z y o1 o2
theorem EnvR.put(I:EnvR K C B H0 H σ E){i:Nat}(hi:i<E.length){Hs:Hp}(hB:∀a,Hs a=none->B a=none)(hf:∀(j:Nat) (t:Sl) (l:Qc),E[j]?=some t->JR t=true->σ[j]?=some (some (.ref l))->Hs l≠none)(r:RR K C Hs H0 H v s)(hb:Jju s=false):EnvR K C B H0 H (σ.set i (some v)) (E.set i s):=by
 refine⟨I.b,I.h,by simp[I.len],fun j t e=>?_,fun j k s1 s2 u hjk e1 e2 o1 o2 e3 e4=>?_⟩
 ·rw[QN] at e
  by_cases hj:i=j
  ·subst hj;rw[if_pos rfl,if_pos hi] at e;cases e;refine .inr ⟨v,by rw[QN];simp[I.len,hi],?_⟩
   cases s with
   | no=>trivial
   | sh d=>exact r
   | bo ds=>cases hb
   | own ds=>obtain⟨l,xs,e,h,n,m,q⟩:=r;exact⟨l,xs,e,h,n,hB _ m,q⟩
   | bd ks ds=>cases hb
   | bt ks ds=>cases hb
   | od ks ds=>obtain⟨l,xs,e,h,n,m,q⟩:=r;exact⟨l,xs,e,h,n,hB _ m,q⟩
   | ot ks ds=>obtain⟨l,xs,e,h,n,m,q⟩:=r;exact⟨l,xs,e,h,n,hB _ m,q⟩
  ·rw[if_neg hj] at e;rcases I.at' j t e with z|⟨u,h1,h2⟩
   ·exact .inl z
   ·exact .inr ⟨u,by rw[QN,if_neg hj];exact h1,h2⟩
 ·rw[QN] at e1 e2 e3 e4
  by_cases hj:i=j
  ·subst hj;rw[if_neg hjk] at e2 e4;rw[if_pos rfl,if_pos hi] at e1;rw[if_pos rfl,if_pos (by rw[I.len];exact hi)] at e3;cases e3;cases e1;obtain⟨l,e,_,_,m⟩:=r.owned o1;subst e;exact hf k _ l e2 o2 e4 m
  ·rw[if_neg hj] at e1 e3
   by_cases hk:i=k
   ·subst hk;rw[if_pos rfl,if_pos hi] at e2;rw[if_pos rfl,if_pos (by rw[I.len];exact hi)] at e4;cases e2;have e4':v=u:=QI (QI e4);subst e4';obtain⟨l,e,_,_,m⟩:=r.owned o2;subst e;exact hf j _ l e1 o1 e3 m
   ·rw[if_neg hk] at e2 e4;exact I.sep j k _ _ u hjk e1 e2 o1 o2 e3 e4
theorem EnvR.ownG(I:EnvR K C B H0 H σ E){j:Nat}{t:Sl}{l:Qc}(e1:E[j]?=some t)(ho:JR t=true)(e2:σ[j]?=some (some (.ref l))):H l≠none/\H0 l=none/\B l=none:=by
 rcases I.at' j _ e1 with z|⟨v,h1,h2⟩
 ·subst z;cases ho
 ·rw[e2] at h1;cases h1;obtain⟨l',e,h⟩:=h2.owned ho;cases e;exact h
theorem EnvR.put'{H1 H01:Hp}(I:EnvR K C B H0 H σ E)(st:Step H H0 H H01 H1){i:Nat}(hi:i<E.length)(r:RR K C H H01 H1 v s)(hb:Jju s=false):EnvR K C B H01 H1 (σ.set i (some v)) (E.set i s) :=
 (I.step st).put hi (fun a q=>Same.free I.b q) (fun j t l e1 o1 e2=>(I.ownG e1 o1 e2).1) r hb
noncomputable def JeR:Option HO->Option HO
 | some o=>if isT o=true then some o else none
 | none=>none
noncomputable def YN(Hs H0 H:Hp):Hp:=fun a=>match H0 a with
 | some o=>some o
 | none=>match Hs a with
  | none=>H a
  | some _=>JeR (H a)
theorem WQ{o:Option HO}{u:HO}(e:JeR o=some u):o=some u/\isT u=true:=by
 cases o with
 | none=>cases e
 | some w =>
  unfold JeR at e;dsimp only at e;split at e
  ·cases e;exact⟨rfl,by assumption⟩
  ·cases e
theorem JX(i:Same H0 H):Step Hs H0 H (YN Hs H0 H) H:=by
 refine⟨Same.refl _,fun a o e=>by unfold YN;rw[e],fun a o e=>?_,fun a o e=>?_⟩
 ·unfold YN at e
  cases h:H0 a with
  | some u=>rw[h] at e;exact .inl e
  | none =>
   rw[h] at e
   cases h2:Hs a with
   | none=>exact .inr (.inl rfl)
   | some u=>rw[h2] at e;exact .inr (.inr (WQ e).2)
 ·unfold YN at e
  cases h:H0 a with
  | some u=>rw[h] at e;cases e;exact i a _ h
  | none =>
   rw[h] at e
   cases h2:Hs a with
   | none=>rw[h2] at e;exact e
   | some u=>rw[h2] at e;exact(WQ e).1
theorem JcG{a:Qc}{o:HO}(i:Same H0 H)(n:Hs a=none)(h:H a=some o):YN Hs H0 H a=some o:=by
 unfold YN
 cases z:H0 a with
 | some u=>rw[i a u z] at h;exact h
 | none=>dsimp only;rw[n];exact h
noncomputable def Sl.frz:Sl->Option D
 | .sh d=>some d
 | .own ds=>some (.lst ds)
 | .od ks ds=>some (.dct ks ds)
 | _=>none
theorem RR.frz{d:D}(i:Same H0 H)(r:RR K C Hs H0 H v s)(e:s.frz=some d):RD K C (YN Hs H0 H) v d:=by
 have st:Step Hs H0 H (YN Hs H0 H) H:=JX i
 cases s with
 | no=>cases e
 | sh d'=>cases e;exact RD.mono st.z r
 | bo ds=>cases e
 | own ds=>cases e;obtain⟨l,xs,e,h,n,m,q⟩:=r;subst e;exact .mkL (JcG i m h) (q.mono st.z)
 | bd ks ds=>cases e
 | bt ks ds=>cases e
 | od ks ds=>cases e;obtain⟨l,xs,e,h,n,m,hk,q⟩:=r;subst e;exact .mkD (JcG i m h) hk (q.mono st.z)
 | ot ks ds=>cases e
end
end LE

namespace LE
open PySem L2 LR

noncomputable abbrev En:=List Sl
noncomputable abbrev Ev:=En->Option Sl
section
variable(K:Qq)(C:Qc)
noncomputable def SE(te:TE)(ev:Ev):Prop:=∀(B H0 H:Hp) (σ:St) (E:En) (r:Sl) (Q:VK),EnvR K C B H0 H σ E->ev E=some r ->
 (∀v H0' H',Step H H0 H H0' H'->RR K C H H0' H' v r->Q v H')->te σ H Q
noncomputable def ST(t:TT)(ev:En->Option Bool):Prop:=∀(B H0 H:Hp) (σ:St) (E:En) (r:Bool) (Q:Bool->Hp->Prop),EnvR K C B H0 H σ E->ev E=some r ->
 (∀H0' H',Step H H0 H H0' H'->Q r H')->t σ H Q
inductive RRL (Hs H0 H:Hp):List V->List Sl->Prop
 | nil:RRL Hs H0 H [] []
 | cons {v:V} {s:Sl} {vs:List V} {ss:List Sl}:RR K C Hs H0 H v s->RRL Hs H0 H vs ss->RRL Hs H0 H (v::vs) (s::ss)
noncomputable def SA(t:TA)(ev:En->Option (List Sl)):Prop:=∀(B H0 H:Hp) (σ:St) (E:En) (r:List Sl) (Q:List V->Hp->Prop),EnvR K C B H0 H σ E->ev E=some r ->
 (∀vs H0' H',Step H H0 H H0' H'->RRL K C H H0' H' vs r->Q vs H')->t σ H Q
noncomputable def OpS(r:R2)(f:Sl->Sl->Option Sl):Prop:=∀(Hs H0 H:Hp) (x y:V) (a b c:Sl) (Q:VK),Same H0 H->Same Hs H->RR K C Hs H0 H x a->RR K C Hs H0 H y b->f a b=some c ->
 (∀v H0' H',Step Hs H0 H H0' H'->RR K C Hs H0' H' v c->Q v H')->r x y H Q
noncomputable def UnS(r:V->Hp->VK->Prop)(f:Sl->Option Sl):Prop:=∀(Hs H0 H:Hp) (x:V) (a c:Sl) (Q:VK),Same H0 H->Same Hs H->RR K C Hs H0 H x a->f a=some c ->
 (∀v H0' H',Step Hs H0 H H0' H'->RR K C Hs H0' H' v c->Q v H')->r x H Q
noncomputable def UV(r:List V->Hp->VK->Prop)(f:List Sl->Option Sl):Prop:=∀(Hs H0 H:Hp) (xs:List V) (as:List Sl) (c:Sl) (Q:VK),Same H0 H->Same Hs H->RRL K C Hs H0 H xs as->f as=some c ->
 (∀v H0' H',Step Hs H0 H H0' H'->RR K C Hs H0' H' v c->Q v H')->r xs H Q
end

noncomputable def Jb(i:Nat):Ev:=fun E=>match E[i]? with
 | some (.sh d)=>some (.sh d)
 | some (.bo ds)=>some (.bo ds)
 | some (.own ds)=>some (.bo ds)
 | some (.bd ks ds)=>some (.bd ks ds)
 | some (.od ks ds)=>some (.bd ks ds)
 | some (.bt ks ds)=>some (.bt ks ds)
 | some (.ot ks ds)=>some (.bt ks ds)
 | _=>none
noncomputable def eC(d:D):Ev:=fun _=>some (.sh d)
noncomputable def e2(f:Sl->Sl->Option Sl)(a b:Ev):Ev:=fun E=>(a E).bind fun x=>(b E).bind fun y=>f x y
noncomputable def e1(f:Sl->Option Sl)(a:Ev):Ev:=fun E=>(a E).bind f
noncomputable def a0:En->Option (List Sl):=fun _=>some []
noncomputable def aC(a:Ev)(as:En->Option (List Sl)):En->Option (List Sl):=fun E=>(a E).bind fun x=>(as E).bind fun xs=>some (x::xs)
noncomputable def eF(f:List Sl->Option Sl)(as:En->Option (List Sl)):Ev:=fun E=>(as E).bind f
noncomputable def bool?:Sl->Option Bool
 | .sh (.bl b)=>some b
 | _=>none
noncomputable def Jep(a b:Ev):Ev:=fun E=>((a E).bind bool?).bind fun k=>if k=true then b E else some (.sh (.bl false))
noncomputable def JiV(a:Ev):Ev:=fun E=>((a E).bind bool?).bind fun k=>some (.sh (.bl (!k)))
noncomputable def eIf(c:En->Option Bool)(a b:Ev):Ev:=fun E=>(c E).bind fun k=>if k=true then a E else b E
noncomputable def sh?:Sl->Option D
 | .sh d=>some d
 | _=>none
noncomputable def tB?(a:Ev):En->Option Bool:=fun E=>(a E).bind bool?
noncomputable def tAnd?(a b:En->Option Bool):En->Option Bool:=fun E=>(a E).bind fun k=>if k=true then b E else some false
noncomputable def tOr?(a b:En->Option Bool):En->Option Bool:=fun E=>(a E).bind fun k=>if k=true then some true else b E
noncomputable def tNot?(a:En->Option Bool):En->Option Bool:=fun E=>(a E).bind fun k=>some (!k)

section
variable{K:Qq}{C:Qc}
theorem bind_some{α β:Type}{x:Option α}{f:α->Option β}{b:β}(e:x.bind f=some b):∃a,x=some a/\f a=some b:=by
 cases x with
 | none=>cases e
 | some a=>exact⟨a,rfl,e⟩
theorem U8{s:Sl}{b:Bool}(e:bool? s=some b):s=.sh (.bl b):=by
 cases s with
 | sh d=>cases d with
  | bl x=>cases e;rfl
  | _=>cases e
 | _=>cases e
variable{ta tb tc te:TE}{ea eb ec:Ev}
theorem Jc(i:Nat):SE K C (Zk i) (Jb i):=by
 intro B H0 H σ E r Q I e q;unfold Jb at e
 cases h:E[i]? with
 | none=>rw[h] at e;cases e
 | some s =>
  rw[h] at e;rcases I.at' i s h with z|⟨v,h1,h2⟩
  ·subst z;cases e
  ·refine⟨v,h1,q v H0 H (.refl I.h) ?_⟩
   cases s with
   | no=>cases e
   | sh d=>cases e;exact h2
   | bo ds=>cases e;obtain⟨l,xs,e,hl,r⟩:=h2;exact⟨l,xs,e,I.b _ _ hl,r⟩
   | own ds=>cases e;obtain⟨l,xs,e,hl,_,_,r⟩:=h2;exact⟨l,xs,e,hl,r⟩
   | bd ks ds=>cases e;obtain⟨l,xs,e,hl,r⟩:=h2;exact⟨l,xs,e,I.b _ _ hl,r⟩
   | bt ks ds=>cases e;obtain⟨l,xs,e,hl,r⟩:=h2;exact⟨l,xs,e,I.b _ _ hl,r⟩
   | od ks ds=>cases e;obtain⟨l,xs,e,hl,_,_,r⟩:=h2;exact⟨l,xs,e,hl,r⟩
   | ot ks ds=>cases e;obtain⟨l,xs,e,hl,_,_,r⟩:=h2;exact⟨l,xs,e,hl,r⟩
theorem Yl:SE K C (tC .non) (eC .non):=fun _ _ _ _ _ _ _ I e q=>by cases e;exact q _ _ _ (.refl I.h) .non
theorem JmL{b:Bool}:SE K C (tC (.bl b)) (eC (.bl b)):=fun _ _ _ _ _ _ _ I e q=>by cases e;exact q _ _ _ (.refl I.h) (.bl b)
theorem Ji{i:Int}:SE K C (tC (.int i)) (eC (.int i)):=fun _ _ _ _ _ _ _ I e q=>by cases e;exact q _ _ _ (.refl I.h) (.int i)
theorem JT{x:Str}:SE K C (tC (.str x)) (eC (.str x)):=fun _ _ _ _ _ _ _ I e q=>by cases e;exact q _ _ _ (.refl I.h) (.str x)
theorem Jj{r:R2}{f:Sl->Sl->Option Sl}(ho:OpS K C r f)(ha:SE K C ta ea)(hb:SE K C tb eb):SE K C (tOp r ta tb) (e2 f ea eb):=by
 intro B H0 H σ E c Q I e q;obtain⟨a,e1,e⟩:=bind_some e;obtain⟨b,e2,e⟩:=bind_some e;exact ha B H0 H σ E a _ I e1 fun x H1 H1' s1 r1=>hb B H1 H1' σ E b _ (I.step s1) e2 fun y H2 H2' s2 r2=>ho H H2 H2' x y a b c Q s2.i (s1.h.trans s2.h) (r1.step s2) (r2.weak fun a q=>Same.free s1.h q) e fun v H3 H3' s3 r3=>q v H3 H3' ((s1.trans s2).comp s3 fun _ z=>z) r3
theorem Jcg{r:V->Hp->VK->Prop}{f:Sl->Option Sl}(ho:UnS K C r f)(ha:SE K C ta ea):SE K C (tUn r ta) (e1 f ea):=by intro B H0 H σ E c Q I e q;obtain⟨a,e1,e⟩:=bind_some e;exact ha B H0 H σ E a _ I e1 fun x H1 H1' s1 r1=>ho H H1 H1' x a c Q s1.i s1.h r1 e fun v H3 H3' s3 r3=>q v H3 H3' (s1.comp s3 fun _ z=>z) r3
theorem Jh:SA K C ZF a0:=fun _ _ _ _ _ _ _ I e q=>by cases e;exact q _ _ _ (.refl I.h) .nil
theorem RRL.step{Hs H0 H H0' H':Hp}{vs:List V}{ss:List Sl}(r:RRL K C Hs H0 H vs ss)(st:Step H H0 H H0' H'):RRL K C Hs H0' H' vs ss:=by
 induction r with
 | nil=>exact .nil
 | cons h _ ih=>exact .cons (h.step st) ih
theorem RRL.weak{Hs Hs' H0 H:Hp}{vs:List V}{ss:List Sl}(r:RRL K C Hs' H0 H vs ss)(w:∀a,Hs' a=none->Hs a=none):RRL K C Hs H0 H vs ss:=by
 induction r with
 | nil=>exact .nil
 | cons h _ ih=>exact .cons (h.weak w) ih
theorem Jd{tr:TA}{er:En->Option (List Sl)}(ha:SE K C ta ea)(hr:SA K C tr er):SA K C (Uc ta tr) (aC ea er):=by
 intro B H0 H σ E c Q I e q;obtain⟨a,e1,e⟩:=bind_some e;obtain⟨b,e2,e⟩:=bind_some e;cases e;exact ha B H0 H σ E a _ I e1 fun x H1 H1' s1 r1=>hr B H1 H1' σ E b _ (I.step s1) e2 fun y H2 H2' s2 r2=>q _ H2 H2' (s1.trans s2) (.cons (r1.step s2) (r2.weak fun a q=>Same.free s1.h q))
theorem YJ{r:List V->Hp->VK->Prop}{t:TA}{ev:En->Option (List Sl)}{f:List Sl->Option Sl}(hc:UV K C r f)(ha:SA K C t ev):SE K C (tCB r t) (eF f ev):=by intro B H0 H σ E c Q I e q;obtain⟨a,e1,e⟩:=bind_some e;exact ha B H0 H σ E a _ I e1 fun x H1 H1' s1 r1=>hc H H1 H1' x a c Q s1.i s1.h r1 e fun v H3 H3' s3 r3=>q v H3 H3' (s1.comp s3 fun _ z=>z) r3
theorem Jfz(ha:SE K C ta ea)(hb:SE K C tb eb):SE K C (JfL ta tb) (Jep ea eb):=by
 intro B H0 H σ E c Q I e q;obtain⟨k,e1,e⟩:=bind_some e;obtain⟨a,e0,e1⟩:=bind_some e1;refine ha B H0 H σ E a _ I e0 fun x H1 H1' s1 r1=>?_
 rw[U8 e1] at r1;refine⟨k,RD.blI r1,?_⟩
 cases k with
 | true=>exact hb B H1 H1' σ E c Q (I.step s1) e fun y H2 H2' s2 r2=>q y H2 H2' (s1.trans s2) (r2.weak fun a q=>Same.free s1.h q)
 | false=>cases e;exact q _ _ _ s1 (RD.bl false)
theorem Jmg(ha:SE K C ta ea):SE K C (JfO ta) (JiV ea):=by
 intro B H0 H σ E c Q I e q;obtain⟨k,e1,e⟩:=bind_some e;obtain⟨a,e0,e1⟩:=bind_some e1;refine ha B H0 H σ E a _ I e0 fun x H1 H1' s1 r1=>?_
 rw[U8 e1] at r1;cases e;exact⟨k,RD.blI r1,q _ _ _ s1 (RD.bl _)⟩
theorem Jc0{c:TT}{cv:En->Option Bool}(hc:ST K C c cv)(ha:SE K C ta ea)(hb:SE K C tb eb):SE K C (tIf c ta tb) (eIf cv ea eb):=by
 intro B H0 H σ E r Q I e q;obtain⟨k,e1,e⟩:=bind_some e;refine hc B H0 H σ E k _ I e1 fun H1 H1' s1=>?_
 cases k with
 | true=>exact ha B H1 H1' σ E r Q (I.step s1) e fun y H2 H2' s2 r2=>q y H2 H2' (s1.trans s2) (r2.weak fun a q=>Same.free s1.h q)
 | false=>exact hb B H1 H1' σ E r Q (I.step s1) e fun y H2 H2' s2 r2=>q y H2 H2' (s1.trans s2) (r2.weak fun a q=>Same.free s1.h q)
theorem Jp(ha:SE K C te ea):ST K C (JfR te) (tB? ea):=by
 intro B H0 H σ E k Q I e q;obtain⟨a,e1,e⟩:=bind_some e;refine ha B H0 H σ E a _ I e1 fun x H1 H1' s1 r1=>?_
 rw[U8 e] at r1;exact⟨k,RD.blI r1,q _ _ s1⟩
theorem Ub{c d:TT}{ev ew:En->Option Bool}(hc:ST K C c ev)(hd:ST K C d ew):ST K C (JkU c d) (tAnd? ev ew):=by
 intro B H0 H σ E k Q I e q;obtain⟨a,e1,e⟩:=bind_some e;refine hc B H0 H σ E a _ I e1 fun H1 H1' s1=>?_
 cases a with
 | true=>exact hd B H1 H1' σ E k Q (I.step s1) e fun H2 H2' s2=>q H2 H2' (s1.trans s2)
 | false=>cases e;exact q _ _ s1
theorem VU{c d:TT}{ev ew:En->Option Bool}(hc:ST K C c ev)(hd:ST K C d ew):ST K C (tOr c d) (tOr? ev ew):=by
 intro B H0 H σ E k Q I e q;obtain⟨a,e1,e⟩:=bind_some e;refine hc B H0 H σ E a _ I e1 fun H1 H1' s1=>?_
 cases a with
 | false=>exact hd B H1 H1' σ E k Q (I.step s1) e fun H2 H2' s2=>q H2 H2' (s1.trans s2)
 | true=>cases e;exact q _ _ s1
theorem JfB{c:TT}{ev:En->Option Bool}(hc:ST K C c ev):ST K C (JkX c) (tNot? ev):=by intro B H0 H σ E k Q I e q;obtain⟨a,e1,e⟩:=bind_some e;cases e;exact hc B H0 H σ E a _ I e1 fun H1 H1' s1=>q _ _ s1
end

noncomputable def Sl.m:Sl->Option (List D)
 | .sh (.lst ds)=>some ds
 | .bo ds=>some ds
 | .own ds=>some ds
 | _=>none
noncomputable def Sl.r:Sl->Option (List D)
 | .sh (.lst ds)=>some ds
 | .sh (.fz ds)=>some ds
 | .bo ds=>some ds
 | .own ds=>some ds
 | _=>none
noncomputable def Sl.q:Sl->Option (List D)
 | .sh (.lst ds)=>some ds
 | .sh (.fz ds)=>some ds
 | .sh (.tup ds)=>some ds
 | .bo ds=>some ds
 | .own ds=>some ds
 | _=>none
noncomputable def Sl.d:Sl->Option D
 | .sh d=>some d
 | .bo ds=>some (.lst ds)
 | .own ds=>some (.lst ds)
 | .bd ks ds=>some (.dct ks ds)
 | .od ks ds=>some (.dct ks ds)
 | .bt _ _=>none
 | .ot _ _=>none
 | .no=>none
section
variable{K:Qq}{C:Qc}{Hs H0 H:Hp}{v:V}{s:Sl}{ds:List D}{d:D}
theorem RR.m(r:RR K C Hs H0 H v s)(i:Same H0 H)(e:s.m=some ds):∃l xs,v=.ref l/\H l=some (.lst xs)/\RDL K C H0 xs ds:=by
 cases s with
 | no=>cases e
 | bo es=>cases e;exact r
 | own es=>cases e;obtain⟨l,xs,h1,h2,_,_,h3⟩:=r;exact⟨l,xs,h1,h2,h3⟩
 | bd _ _=>cases e
 | bt _ _=>cases e
 | od _ _=>cases e
 | ot _ _=>cases e
 | sh d=>cases d with
  | lst es=>cases e;obtain⟨l,xs,h1,h2,h3⟩:=RD.lstI r;exact⟨l,xs,h1,i _ _ h2,h3⟩
  | _=>cases e
theorem RR.r(r:RR K C Hs H0 H v s)(i:Same H0 H)(e:s.r=some ds):∃l xs,v=.ref l/\SqL K H l xs/\RDL K C H0 xs ds:=by
 cases s with
 | no=>cases e
 | bo es=>cases e;obtain⟨l,xs,h1,h2,h3⟩:=r;exact⟨l,xs,h1,.of h2,h3⟩
 | own es=>cases e;obtain⟨l,xs,h1,h2,_,_,h3⟩:=r;exact⟨l,xs,h1,.of h2,h3⟩
 | bd _ _=>cases e
 | bt _ _=>cases e
 | od _ _=>cases e
 | ot _ _=>cases e
 | sh d=>cases d with
  | lst es=>cases e;obtain⟨l,xs,h1,h2,h3⟩:=RD.lstI r;exact⟨l,xs,h1,.of (i _ _ h2),h3⟩
  | fz es=>cases e;obtain⟨l,xs,h1,h2,h3⟩:=RD.fzI r;exact⟨l,xs,h1,i.seq h2,h3⟩
  | _=>cases e
theorem RR.q(r:RR K C Hs H0 H v s)(i:Same H0 H)(e:s.q=some ds):∃l xs,v=.ref l/\(SqL K H l xs\/SqT K H l xs)/\RDL K C H0 xs ds:=by
 cases s with
 | no=>cases e
 | bo es=>cases e;obtain⟨l,xs,h1,h2,h3⟩:=r;exact⟨l,xs,h1,.inl (.of h2),h3⟩
 | own es=>cases e;obtain⟨l,xs,h1,h2,_,_,h3⟩:=r;exact⟨l,xs,h1,.inl (.of h2),h3⟩
 | bd _ _=>cases e
 | bt _ _=>cases e
 | od _ _=>cases e
 | ot _ _=>cases e
 | sh d=>cases d with
  | lst es=>cases e;obtain⟨l,xs,h1,h2,h3⟩:=RD.lstI r;exact⟨l,xs,h1,.inl (.of (i _ _ h2)),h3⟩
  | fz es=>cases e;obtain⟨l,xs,h1,h2,h3⟩:=RD.fzI r;exact⟨l,xs,h1,.inl (i.seq h2),h3⟩
  | tup es=>cases e;obtain⟨l,xs,h1,h2,h3⟩:=RD.tupI r;exact⟨l,xs,h1,.inr (i.seqT h2),h3⟩
  | _=>cases e
theorem RR.dat(r:RR K C Hs H0 H v s)(i:Same H0 H)(e:s.d=some d):RD K C H v d:=by
 cases s with
 | no=>cases e
 | bo es=>cases e;obtain⟨l,xs,h1,h2,h3⟩:=r;subst h1;exact .mkL h2 (h3.mono i)
 | own es=>cases e;obtain⟨l,xs,h1,h2,_,_,h3⟩:=r;subst h1;exact .mkL h2 (h3.mono i)
 | bd _ _=>cases e;obtain⟨l,xs,h1,h2,hk,h3⟩:=r;subst h1;exact .mkD h2 hk (h3.mono i)
 | bt _ _=>cases e
 | od _ _=>cases e;obtain⟨l,xs,h1,h2,_,_,hk,h3⟩:=r;subst h1;exact .mkD h2 hk (h3.mono i)
 | ot _ _=>cases e
 | sh d'=>cases e;exact RD.mono i r
theorem UE{p:Qc}{xs:List V}{Q:VK}(i:Same H0 H)(hs:Same Hs H)(hp:H p=none)(r:RDL K C H0 xs ds)(q:∀v H0' H',Step Hs H0 H H0' H'->RR K C Hs H0' H' v (.own ds)->Q v H'):Q (.ref p) (upd H p (.lst xs)) :=
 q _ H0 _ ⟨.new hp,Same.refl _,fun _ _ e=>.inl e,i.trans (.new hp)⟩ ⟨p,xs,rfl,JF,Same.free i hp,Same.free hs hp,r⟩
theorem Wz{p:Qc}{xs:List V}{Q:VK}(i:Same H0 H)(hs:Same Hs H)(hp:H p=none)(r:RDL K C H0 xs ds)(q:∀v H0' H',Step Hs H0 H H0' H'->RR K C Hs H0' H' v (.sh (.tup ds))->Q v H'):Q (.ref p) (upd H p (.tup xs)):=by
 have h0:H0 p=none:=Same.free i hp;refine q _ (upd H0 p (.tup xs)) _ ⟨.new hp,.new h0,fun a o e=>?_,fun a o e=>?_⟩ ?_
 ·by_cases h:a=p
  ·subst h;exact .inr (.inl (Same.free hs hp))
  ·rw[Jm h] at e;exact .inl e
 ·by_cases h:a=p
  ·subst h;rw[JF] at e ⊢;exact e
  ·rw[Jm h] at e ⊢;exact i a o e
 ·exact RD.mkT (.of JF) (r.mono (.new h0))
end

noncomputable def fI(g:Int->Int->D):Sl->Sl->Option Sl
 | .sh (.int a),.sh (.int b)=>some (.sh (g a b))
 | _,_=>none
noncomputable def fIc(c:Int->Int->Bool)(g:Int->Int->D):Sl->Sl->Option Sl
 | .sh (.int a),.sh (.int b)=>if c a b=true then some (.sh (g a b)) else none
 | _,_=>none
noncomputable def Jdx(x y:Sl):Option Sl:=x.m.bind fun a=>y.m.bind fun b=>if a.length+b.length<=Qu then some (.own (a++b)) else none
noncomputable def JJ:Sl->Sl->Option Sl
 | .sh (.int a),.sh (.int b)=>some (.sh (.int (a+b)))
 | .sh (.str a),.sh (.str b)=>if a.length+b.length<=Qu then some (.sh (.str (a++b))) else none
 | .sh (.tup a),.sh (.tup b)=>if a.isEmpty=false/\b.isEmpty=false/\a.length+b.length<=Qu then some (.sh (.tup (a++b))) else none
 | .sh (.lst a),y=>Jdx (.sh (.lst a)) y
 | .bo a,y=>Jdx (.bo a) y
 | .own a,y=>Jdx (.own a) y
 | _,_=>none
noncomputable abbrev Vi:=fI fun a b=>.int (a-b)
noncomputable abbrev fLt:=fI fun a b=>.bl (decide (a<b))
noncomputable abbrev fLe:=fI fun a b=>.bl (decide (a<=b))
noncomputable abbrev fGt:=fI fun a b=>.bl (decide (b<a))
noncomputable def VV(a:Int):Bool:=LC a.natAbs 18446744073709551615
theorem UM{a:Int}:VV a=true↔-18446744073709551616<a/\a<18446744073709551616:=by unfold VV;rw[Km];omega
noncomputable def JaN(a:Int):Bool:=LC a.natAbs 1073741823 && decide (0<a)
theorem smallP_ok{a:Int}:JaN a=true↔0<a/\a<1073741824:=by unfold JaN;rw[QL,Km,decide_eq_true_eq];omega
noncomputable abbrev V3:=fIc (fun a b=>VV a || VV b) fun a b=>.int (a*b)
noncomputable abbrev Yt:=fIc (fun _ b=>decide (0<b)) fun a b=>.int (a % b)
noncomputable abbrev YM:=fIc (fun _ b=>JaN b) fun a b=>.int (a / b)
noncomputable abbrev JbP:=fIc (fun a b=>decide (0<=b) && LC b.natAbs 1000000 && VV a) fun a b=>.int (a ^ b.toNat)
noncomputable def UY:Sl->Option Sl
 | .sh (.int a)=>some (.sh (.int (-a)))
 | _=>none
noncomputable def eqD(d e:D):Option Bool:=if (d.py.canLay0 && e.py.canLay0 && decide (min d.py.depth e.py.depth<=60))=true then some (Gx d.py e.py) else none
noncomputable def eqA:D->D->Option Bool
 | .int a,.int b=>some (decide (a=b))
 | .str a,.str b=>some (decide (a=b))
 | .bl a,.bl b=>some (decide (a=b))
 | .non,.non=>some true
 | .non,.int _=>some false
 | .int _,.non=>some false
 | .non,.str _=>some false
 | .str _,.non=>some false
 | .non,.bl _=>some false
 | .bl _,.non=>some false
 | .int _,.str _=>some false
 | .str _,.int _=>some false
 | d,e=>eqD d e
noncomputable def fEq(x y:Sl):Option Sl:=x.d.bind fun d=>y.d.bind fun e=>(eqA d e).map fun k=>.sh (.bl k)
noncomputable def fNe(x y:Sl):Option Sl:=x.d.bind fun d=>y.d.bind fun e=>(eqA d e).map fun k=>.sh (.bl (!k))
noncomputable def D.isNon:D->Bool
 | .non=>true
 | _=>false
noncomputable def fIs:Sl->Sl->Option Sl
 | x,.sh .non=>x.d.map fun d=>.sh (.bl d.isNon)
 | _,_=>none
noncomputable def Y5:Sl->Sl->Option Sl
 | x,.sh .non=>x.d.map fun d=>.sh (.bl (!d.isNon))
 | _,_=>none
noncomputable def fIx:Sl->Sl->Option Sl
 | .sh (.str z),.sh (.int i)=>if z.length<=Qu then(atI z.cps.toList i).map fun c=>.sh (.str ⟨#[c]⟩) else none
 | x,.sh (.int i)=>x.q.bind fun ds=>(atI ds i).map .sh
 | _,_=>none
section
variable{K:Qq}{C:Qc}
theorem o_I{g:Int->Int->V}{g':Int->Int->D}(h:∀i j H,RD K C H (g i j) (g' i j)):OpS K C (rI0 g) (fI g'):=by
 intro Hs H0 H x y a b c Q i hs ra rb e q;unfold fI at e;split at e
 ·cases e;exact⟨_,_,RD.intI ra,RD.intI rb,q _ _ _ (.refl i) (h _ _ _)⟩
 ·cases e
theorem Jhd{P:Int->Int->Prop}{c':Int->Int->Bool}{g:Int->Int->V}{g':Int->Int->D}(hp:∀i j,c' i j=true->P i j)(h:∀i j H,RD K C H (g i j) (g' i j)):OpS K C (rI P g) (fIc c' g'):=by
 intro Hs H0 H x y a b c Q i hs ra rb e q;unfold fIc at e;split at e
 ·split at e
  ·cases e;exact⟨_,_,RD.intI ra,RD.intI rb,hp _ _ (by assumption),q _ _ _ (.refl i) (h _ _ _)⟩
  ·cases e
 ·cases e
theorem WY:OpS K C (rI0 fun i j=>.int (i-j)) Vi:=o_I fun _ _ _=>.int _
theorem VJ:OpS K C (rI0 fun i j=>.bl (decide (i<j))) fLt:=o_I fun _ _ _=>.bl _
theorem JmD:OpS K C (rI0 fun i j=>.bl (decide (i<=j))) fLe:=o_I fun _ _ _=>.bl _
theorem Jb3:OpS K C (rI0 fun i j=>.bl (decide (j<i))) fGt:=o_I fun _ _ _=>.bl _
theorem ZX:OpS K C (rI CMul fun i j=>.int (i*j)) V3:=Jhd (fun i j h=>by simp only[Me,UM] at h;exact h) fun _ _ _=>.int _
theorem YI:OpS K C (rI (fun _ j=>0<j) fun i j=>.int (i % j)) Yt:=Jhd (fun i j h=>by simpa using h) fun _ _ _=>.int _
theorem Ve:OpS K C (rI Jle fun i j=>.int (i / j)) YM:=Jhd (fun i j h=>smallP_ok.mp h) fun _ _ _=>.int _
theorem Je2:OpS K C (rI Jlf fun i j=>.int (i ^ j.toNat)) JbP:=Jhd (fun i j h=>by simp only[QL,decide_eq_true_eq,Km,UM] at h;refine⟨h.1.1,by omega,?_⟩;show i.natAbs<18446744073709551616;omega) fun _ _ _=>.int _
theorem Zm:UnS K C (rU fun i=>.int (-i)) UY:=by
 intro Hs H0 H x a c Q i hs ra e q;unfold UY at e;split at e
 ·cases e;exact⟨_,RD.intI ra,q _ _ _ (.refl i) (RD.int _)⟩
 ·cases e
noncomputable def Jfj(K:Qq):R2:=fun x y H Q=>JcU K x y H Q\/Jiy K x y H Q
theorem JC{X:Cx}(hK:X.K=K):OpR X (binaryOp .Add) (Jfj K):=(Jhk hK).or (hK▸Jhl)
theorem J6:OpS K C (Jfj K) JJ:=by
 intro Hs H0 H x y a b c Q i hs ra rb e q
 have cat:∀{a b:Sl},RR K C Hs H0 H x a->RR K C Hs H0 H y b->Jdx a b=some c->Jfj K x y H Q:=by
  intro a b ra rb e;obtain⟨xs,e1,e⟩:=bind_some e;obtain⟨ys,e2,e⟩:=bind_some e;split at e
  ·next hz=>cases e;obtain⟨l,us,rfl,h1,r1⟩:=ra.m i e1;obtain⟨l',ws,rfl,h2,r2⟩:=rb.m i e2;exact .inl (.inr (.inr ⟨l,l',us,ws,rfl,rfl,h1,h2,by rw[r1.1,r2.1];exact hz,fun p hp=>UE i hs hp (r1.append r2) q⟩))
  ·cases e
 unfold JJ at e;split at e
 ·cases e;exact .inl (.inl ⟨_,_,RD.intI ra,RD.intI rb,q _ _ _ (.refl i) (RD.int _)⟩)
 ·split at e
  ·cases e;exact .inl (.inr (.inl ⟨_,_,RD.strI ra,RD.strI rb,by assumption,q _ _ _ (.refl i) (RD.str _)⟩))
  ·cases e
 ·split at e
  ·next hz =>
   cases e;obtain⟨l,us,rfl,h1,r1⟩:=RD.tupI ra;obtain⟨l',ws,rfl,h2,r2⟩:=RD.tupI rb;have n1:us≠[]:=by rintro rfl;have:=r1.1;have z:=hz.1;simp at this;rw[Gs this.symm] at z;cases z
   have n2:ws≠[]:=by rintro rfl;have:=r2.1;have z:=hz.2.1;simp at this;rw[Gs this.symm] at z;cases z
   exact .inr ⟨l,l',us,ws,rfl,rfl,i.seqT h1,i.seqT h2,n1,by rw[r1.1,r2.1];exact hz.2.2,fun z=>absurd z n2,fun _ p hp=>Wz i hs hp (r1.append r2) q⟩
  ·cases e
 ·exact cat ra rb e
 ·exact cat ra rb e
 ·exact cat ra rb e
 ·cases e
theorem Ja6{d e:D}{k:Bool}(h:eqD d e=some k):d.py.canLay0=true/\e.py.canLay0=true/\min d.py.depth e.py.depth<=60/\k=Gx d.py e.py:=by
 unfold eqD at h;split at h
 ·next z=>cases h;simp only[QL,decide_eq_true_eq] at z;exact⟨z.1.1,z.1.2,z.2,rfl⟩
 ·cases h
theorem map_some{α β:Type}{x:Option α}{f:α->β}{b:β}(e:x.map f=some b):∃a,x=some a/\f a=b:=by
 cases x with
 | none=>cases e
 | some a=>cases e;exact⟨a,rfl,rfl⟩
theorem Ja4{H:Hp}{x y:V}{d e:D}{k:Bool}(h:eqA d e=some k)(rx:RD K C H x d)(ry:RD K C H y e):(JkR x y=true/\decide (x=y)=k)\/eqD d e=some k:=by
 unfold eqA at h;split at h
 ·cases h;rw[RD.intI rx,RD.intI ry];exact .inl ⟨rfl,by simp⟩
 ·cases h;rw[RD.strI rx,RD.strI ry];exact .inl ⟨rfl,by simp⟩
 ·cases h;rw[RD.blI rx,RD.blI ry];exact .inl ⟨rfl,by simp⟩
 ·cases h;rw[RD.nonI rx,RD.nonI ry];exact .inl ⟨rfl,by simp⟩
 ·cases h;rw[RD.nonI rx,RD.intI ry];exact .inl ⟨rfl,by simp⟩
 ·cases h;rw[RD.intI rx,RD.nonI ry];exact .inl ⟨rfl,by simp⟩
 ·cases h;rw[RD.nonI rx,RD.strI ry];exact .inl ⟨rfl,by simp⟩
 ·cases h;rw[RD.strI rx,RD.nonI ry];exact .inl ⟨rfl,by simp⟩
 ·cases h;rw[RD.nonI rx,RD.blI ry];exact .inl ⟨rfl,by simp⟩
 ·cases h;rw[RD.blI rx,RD.nonI ry];exact .inl ⟨rfl,by simp⟩
 ·cases h;rw[RD.intI rx,RD.strI ry];exact .inl ⟨rfl,by simp⟩
 ·cases h;rw[RD.strI rx,RD.intI ry];exact .inl ⟨rfl,by simp⟩
 ·exact .inr h
theorem VH:OpS K C (Jfk K) fEq:=by
 intro Hs H0 H x y a b c Q i hs ra rb e q;obtain⟨d,e1,e⟩:=bind_some e;obtain⟨d',e2,e⟩:=bind_some e;obtain⟨k,e3,rfl⟩:=map_some e;have r1:=ra.dat i e1;have r2:=rb.dat i e2;rcases Ja4 e3 r1 r2 with ⟨h1,h2⟩|h
 ·exact .inl ⟨h1,by rw[h2];exact q _ _ _ (.refl i) (RD.bl _)⟩
 ·obtain⟨h1,h2,h3,rfl⟩:=Ja6 h;exact .inr ⟨_,_,r1.rep h1,r2.rep h2,h1,h2,h3,q _ _ _ (.refl i) (RD.bl _)⟩
theorem Jhe:OpS K C (Jfm K) fNe:=by
 intro Hs H0 H x y a b c Q i hs ra rb e q;obtain⟨d,e1,e⟩:=bind_some e;obtain⟨d',e2,e⟩:=bind_some e;obtain⟨k,e3,rfl⟩:=map_some e;have r1:=ra.dat i e1;have r2:=rb.dat i e2;rcases Ja4 e3 r1 r2 with ⟨h1,h2⟩|h
 ·exact .inl ⟨h1,by rw[h2];exact q _ _ _ (.refl i) (RD.bl _)⟩
 ·obtain⟨h1,h2,h3,rfl⟩:=Ja6 h;exact .inr ⟨_,_,r1.rep h1,r2.rep h2,h1,h2,h3,q _ _ _ (.refl i) (RD.bl _)⟩
theorem Jbd{H:Hp}{x:V}{d:D}(r:RD K C H x d):decide (x=.non)=d.isNon:=by cases r <;> simp[D.isNon]
theorem Jb4:OpS K C Jkk fIs:=by
 intro Hs H0 H x y a b c Q i hs ra rb e q;unfold fIs at e;split at e
 ·obtain⟨d,e1,rfl⟩:=map_some e;refine⟨RD.nonI rb,?_⟩;rw[Jbd (ra.dat i e1)];exact q _ _ _ (.refl i) (RD.bl _)
 ·cases e
theorem VI:OpS K C Jfn Y5:=by
 intro Hs H0 H x y a b c Q i hs ra rb e q;unfold Y5 at e;split at e
 ·obtain⟨d,e1,rfl⟩:=map_some e;refine⟨RD.nonI rb,?_⟩;rw[Jbd (ra.dat i e1)];exact q _ _ _ (.refl i) (RD.bl _)
 ·cases e
theorem RDL.atI{H:Hp}{xs:List V}{ds:List D}{i:Int}{d:D}(r:RDL K C H xs ds)(e:L2.atI ds i=some d):∃x,L2.atI xs i=some x/\RD K C H x d:=by unfold L2.atI at e ⊢;rw[r.1];obtain⟨j,e1,e⟩:=bind_some e;obtain⟨x,e2,r2⟩:=r.get e;exact⟨x,by rw[e1];exact e2,r2⟩
theorem Uk:OpS K C (rIx K) fIx:=by
 intro Hs H0 H x y a b c Q i hs ra rb e q;unfold fIx at e;split at e
 ·split at e
  ·obtain⟨z,e1,rfl⟩:=map_some e;rw[RD.strI ra,RD.intI rb];exact Jkz (by assumption) e1 (q _ _ _ (.refl i) (RD.str _))
  ·cases e
 ·obtain⟨ds,e1,e⟩:=bind_some e;obtain⟨d,e2,rfl⟩:=map_some e;obtain⟨l,xs,rfl,h,r⟩:=ra.q i e1;obtain⟨v,e3,r3⟩:=r.atI e2;rw[RD.intI rb];rcases h with h|h
  ·exact Jky h e3 (q _ _ _ (.refl i) r3)
  ·exact JkA h e3 (q _ _ _ (.refl i) r3)
 ·cases e
end
end LE

namespace LE
open PySem L2 LR

noncomputable def WK:List Sl->Option (List D)
 | []=>some []
 | s::ss=>s.frz.bind fun d=>(WK ss).bind fun ds=>some (d::ds)
noncomputable def YR(as:En->Option (List Sl)):Ev:=fun E=>(as E).bind fun ss=>(WK ss).bind fun ds=>if ds.length<=100 then some (.sh (.tup ds)) else none
noncomputable def JW(as:En->Option (List Sl)):Ev:=fun E=>(as E).bind fun ss=>(WK ss).bind fun ds=>if ds.length<=100 then some (.own ds) else none
section
variable{K:Qq}{C:Qc}{t:TA}{ev:En->Option (List Sl)}{Hs H0 H:Hp}{ta te:TE}{ea:Ev}
theorem RRL.frz{vs:List V}{ss:List Sl}(i:Same H0 H)(r:RRL K C Hs H0 H vs ss):∀{ds:List D},WK ss=some ds->RDL K C (YN Hs H0 H) vs ds:=by
 induction r with
 | nil=>intro ds e;cases e;exact .nil
 | cons h _ ih=>intro ds e;obtain⟨d,e1,e⟩:=bind_some e;obtain⟨ds',e2,e⟩:=bind_some e;cases e;exact .cons (h.frz i e1) (ih e2)
theorem Uv(ha:SA K C t ev):SE K C (JkZ t) (YR ev):=by
 intro B H0 H σ E c Q I e q;obtain⟨ss,e1,e⟩:=bind_some e;obtain⟨ds,e2,e⟩:=bind_some e;split at e
 ·next hl =>
  cases e;refine ha B H0 H σ E ss _ I e1 fun vs H1 H1' s1 r1=>?_
  have f:=JX (Hs:=H) s1.i
  have r2:=r1.frz s1.i e2;exact⟨by rw[r2.1];exact QK hl (by decide),fun p hp=>Wz f.i s1.h hp r2 fun v H2 H2' s2 r2=>q v H2 H2' ((s1.comp f fun _ z=>z).comp s2 fun _ z=>z) r2⟩
 ·cases e
theorem J7(ha:SA K C t ev):SE K C (Jh5 t) (JW ev):=by
 intro B H0 H σ E c Q I e q;obtain⟨ss,e1,e⟩:=bind_some e;obtain⟨ds,e2,e⟩:=bind_some e;split at e
 ·next hl =>
  cases e;refine ha B H0 H σ E ss _ I e1 fun vs H1 H1' s1 r1=>?_
  have f:=JX (Hs:=H) s1.i
  have r2:=r1.frz s1.i e2;exact⟨by rw[r2.1];exact QK hl (by decide),fun p hp=>UE f.i s1.h hp r2 fun v H2 H2' s2 r2=>q v H2 H2' ((s1.comp f fun _ z=>z).comp s2 fun _ z=>z) r2⟩
 ·cases e

noncomputable def Sl.pass:Sl->Option Sl
 | .sh d=>some (.sh d)
 | .own ds=>some (.sh (.lst ds))
 | .bo ds=>some (.bo ds)
 | .bd ks ds=>some (.bd ks ds)
 | .od ks ds=>some (.sh (.dct ks ds))
 | .bt _ _=>none
 | .ot _ _=>none
 | .no=>none
end
noncomputable def VO:List Sl->Option (List Sl)
 | []=>some []
 | s::ss=>s.pass.bind fun d=>(VO ss).bind fun ds=>some (d::ds)
noncomputable def spE(K:Qq)(C:Qc)(n:Nat)(f:List Sl->Option Sl):Sp:=fun vs H Q _=>∃H0 as r,Same H0 H/\RRL K C H H0 H vs as/\as.all (fun s=>!JR s)=true/\as.length=n/\f as=some r ∧
 ∀v H0' H',Step H H0 H H0' H'->RR K C H H0' H' v r->Q v H'
noncomputable def eU(n:Nat)(f:List Sl->Option Sl)(as:En->Option (List Sl)):Ev:=fun E=>(as E).bind fun ss=>(VO ss).bind fun bs=>if bs.length=n then f bs else none
section
variable{K:Qq}{C:Qc}{t:TA}{ev:En->Option (List Sl)}{Hs H0 H:Hp}{ta te:TE}{ea:Ev}
theorem RRL.len{vs:List V}{ss:List Sl}(r:RRL K C Hs H0 H vs ss):vs.length=ss.length:=by
 induction r with
 | nil=>rfl
 | cons _ _ ih=>simp[ih]
theorem Jc1{n:Nat}{f:List Sl->Option Sl}{vs:List V}{Q:VK}{E:XK}(h:spE K C n f vs H Q E):vs.length=n:=by obtain⟨H0,as,r,_,h1,_,h2,_⟩:=h;rw[h1.len];exact h2
theorem RR.pass{v:V}{s s':Sl}(i:Same H0 H)(r:RR K C Hs H0 H v s)(e:s.pass=some s'):RR K C H (YN Hs H0 H) H v s'/\JR s'=false:=by
 have st:Step Hs H0 H (YN Hs H0 H) H:=JX i
 cases s with
 | no=>cases e
 | sh d=>cases e;exact⟨RD.mono st.z r,rfl⟩
 | own ds=>cases e;exact⟨RR.frz (s:=.own ds) i r rfl,rfl⟩
 | bo ds=>cases e;obtain⟨l,xs,h1,h2,h3⟩:=r;exact⟨⟨l,xs,h1,h2,h3.mono st.z⟩,rfl⟩
 | od ks ds=>cases e;exact⟨RR.frz (s:=.od ks ds) i r rfl,rfl⟩
 | ot ks ds=>cases e
 | bd ks ds=>cases e;obtain⟨l,xs,h1,h2,hk,h3⟩:=r;exact⟨⟨l,xs,h1,h2,hk,h3.mono st.z⟩,rfl⟩
 | bt ks ds=>cases e
theorem RRL.pass{vs:List V}{ss:List Sl}(i:Same H0 H)(r:RRL K C Hs H0 H vs ss):∀{bs:List Sl},VO ss=some bs->RRL K C H (YN Hs H0 H) H vs bs/\bs.all (fun s=>!JR s)=true:=by
 induction r with
 | nil=>intro bs e;cases e;exact⟨.nil,rfl⟩
 | cons h _ ih=>intro bs e;obtain⟨d,e1,e⟩:=bind_some e;obtain⟨ds',e2,e⟩:=bind_some e;cases e;obtain⟨h1,h2⟩:=h.pass i e1;obtain⟨h3,h4⟩:=ih e2;exact⟨.cons h1 h3,by rw[LL,h2,h4];rfl⟩
theorem Yc{n:Nat}{f:List Sl->Option Sl}{X:XK}(ha:SA K C t ev):SE K C (Wl (spE K C n f) [] X t) (eU n f ev):=by
 intro B H0 H σ E c Q I e q;obtain⟨ss,e1,e⟩:=bind_some e;obtain⟨bs,e2,e⟩:=bind_some e;split at e
 ·next hl=>refine Wv (ha B H0 H σ E ss _ I e1 fun vs H1 H1' s1 r1=>?_);obtain⟨h1,h2⟩:=r1.pass s1.i e2;have f:=JX (Hs:=H) s1.i;exact⟨_,bs,c,f.i,h1,h2,hl,e,fun v H2 H2' s2 r2=>q v H2 H2' ((s1.comp f fun _ z=>z).comp s2 fun a z=>Same.free s1.h z) (r2.weak fun a z=>Same.free s1.h z)⟩
 ·cases e

noncomputable def prE(p:Pr):D:=.tup [.int p.1,.int p.2]
end
section
variable{K:Qq}{C:Qc}{t:TA}{ev:En->Option (List Sl)}{Hs H0 H:Hp}{ta te:TE}{ea:Ev}
noncomputable def ints?:List D->Option (List Int)
 | []=>some []
 | .int i::ds=>(ints? ds).map (i::·)
 | _::_=>none
noncomputable def bls?:List D->Option (List Bool)
 | []=>some []
 | .bl i::ds=>(bls? ds).map (i::·)
 | _::_=>none
noncomputable def strs?:List D->Option (List Str)
 | []=>some []
 | .str i::ds=>(strs? ds).map (i::·)
 | _::_=>none
end
theorem WN:∀ns:List Int,ints? (ns.map .int)=some ns
 | []=>rfl
 | n::ns=>by rw[Qt,ints?,WN ns];rfl
theorem Jcp:∀ns:List Bool,bls? (ns.map .bl)=some ns
 | []=>rfl
 | n::ns=>by rw[Qt,bls?,Jcp ns];rfl
theorem JbA:∀ns:List Str,strs? (ns.map .str)=some ns
 | []=>rfl
 | n::ns=>by rw[Qt,strs?,JbA ns];rfl
theorem YZ:∀{ds:List D} {ns:List Int},ints? ds=some ns->ds=ns.map .int
 | [],_,e=>by cases e;rfl
 | .int i::ds,_,e=>by obtain⟨ns,e1,e2⟩:=map_some (show(ints? ds).map (i::·)=_ from e);rw[<- e2,YZ e1];rfl
 | .non::_,_,e|.bl _::_,_,e|.str _::_,_,e|.tup _::_,_,e|.lst _::_,_,e|.fz _::_,_,e|.row _::_,_,e=>by cases e
theorem WD:∀{ds:List D} {ns:List Bool},bls? ds=some ns->ds=ns.map .bl
 | [],_,e=>by cases e;rfl
 | .bl i::ds,_,e=>by obtain⟨ns,e1,e2⟩:=map_some (show(bls? ds).map (i::·)=_ from e);rw[<- e2,WD e1];rfl
 | .non::_,_,e|.int _::_,_,e|.str _::_,_,e|.tup _::_,_,e|.lst _::_,_,e|.fz _::_,_,e|.row _::_,_,e=>by cases e
theorem Z5:∀{ds:List D} {ns:List Str},strs? ds=some ns->ds=ns.map .str
 | [],_,e=>by cases e;rfl
 | .str i::ds,_,e=>by obtain⟨ns,e1,e2⟩:=map_some (show(strs? ds).map (i::·)=_ from e);rw[<- e2,Z5 e1];rfl
 | .non::_,_,e|.int _::_,_,e|.bl _::_,_,e|.tup _::_,_,e|.lst _::_,_,e|.fz _::_,_,e|.row _::_,_,e=>by cases e
noncomputable def Ui:List Sl->Option Sl
 | [.sh (.str x)]=>if x.length<=Qu then some (.sh (.int x.length)) else none
 | [s]=>s.q.map fun ds=>.sh (.int ds.length)
 | _=>none
noncomputable def Jao:List Sl->Option Sl
 | [s]=>s.q.map fun ds=>.sh (.tup ds)
 | _=>none
noncomputable def Ja7:List Sl->Option Sl
 | [s]=>s.q.map fun ds=>.own ds
 | _=>none
noncomputable def V4:List Sl->Option Sl
 | [s]=>s.q.bind fun ds=>(ints? ds).map fun ns=>.sh (.int ns.sum)
 | _=>none
noncomputable def JeA:List Sl->Option Sl
 | [s]=>s.q.bind fun ds=>(bls? ds).map fun ns=>.sh (.bl (ns.all id))
 | _=>none
noncomputable def JeE:List Sl->Option Sl
 | [.sh (.int a),.sh (.int b)]=>some (.sh (.int (max a b)))
 | _=>none
noncomputable def Jez:List Sl->Option Sl
 | [.sh (.int a)]=>some (.sh (.int (if a<0 then -a else a)))
 | _=>none
section
variable{K:Qq}{C:Qc}{Hs H0 H:Hp}
theorem RRL.one{vs:List V}{s:Sl}(r:RRL K C Hs H0 H vs [s]):∃v,vs=[v]/\RR K C Hs H0 H v s:=by
 cases r with
 | cons h t=>cases t;exact⟨_,rfl,h⟩
theorem RRL.two{vs:List V}{s t:Sl}(r:RRL K C Hs H0 H vs [s,t]):∃v w,vs=[v,w]/\RR K C Hs H0 H v s/\RR K C Hs H0 H w t:=by
 cases r with
 | cons h r=>cases r with
  | cons h' r=>cases r;exact⟨_,_,rfl,h,h'⟩
theorem Vv:UV K C (Jcd K) Ui:=by
 intro Hs H0 H xs as c Q i hs r e q;unfold Ui at e;split at e
 ·split at e
  ·cases e;obtain⟨v,rfl,r0⟩:=r.one;rw[RD.strI r0];exact JhH (by assumption) (q _ _ _ (.refl i) (RD.int _))
  ·cases e
 ·obtain⟨v,rfl,r0⟩:=r.one;obtain⟨ds,e1,rfl⟩:=map_some e;obtain⟨l,xs,rfl,h,r1⟩:=r0.q i e1;have z:=q (.int ds.length) _ _ (.refl i) (RD.int _);rw[<- r1.1] at z;exact Jfv h z
 ·cases e
theorem Jgg:UV K C (VR K) Jao:=by
 intro Hs H0 H xs as c Q i hs r e q;unfold Jao at e;split at e
 ·obtain⟨v,rfl,r0⟩:=r.one;obtain⟨ds,e1,rfl⟩:=map_some e;rename_i s
  have lst:∀{l:Qc} {ys:List V},v=.ref l->SqL K H l ys->RDL K C H0 ys ds->VR K [v] H Q:=fun {l ys} ev h r2=>by subst ev;exact⟨l,ys,rfl,.inl ⟨h,fun p hp=>Wz i hs hp r2 q⟩⟩
  cases s with
  | no=>cases e1
  | bo es=>cases e1;obtain⟨l,ys,h1,h2,h3⟩:=r0;exact lst h1 (.of h2) h3
  | own es=>cases e1;obtain⟨l,ys,h1,h2,_,_,h3⟩:=r0;exact lst h1 (.of h2) h3
  | bd _ _=>cases e1
  | bt _ _=>cases e1
  | od _ _=>cases e1
  | ot _ _=>cases e1
  | sh d=>cases d with
   | lst es=>cases e1;obtain⟨l,ys,h1,h2,h3⟩:=RD.lstI r0;exact lst h1 (.of (i _ _ h2)) h3
   | fz es=>cases e1;obtain⟨l,ys,h1,h2,h3⟩:=RD.fzI r0;exact lst h1 (i.seq h2) h3
   | tup es=>cases e1;obtain⟨l,ys,rfl,h2,h3⟩:=RD.tupI r0;exact⟨l,ys,rfl,.inr ⟨i.seqT h2,q _ _ _ (.refl i) r0⟩⟩
   | _=>cases e1
 ·cases e
theorem JiT:UV K C (JaJ K) Ja7:=by
 intro Hs H0 H xs as c Q i hs r e q;unfold Ja7 at e;split at e
 ·obtain⟨v,rfl,r0⟩:=r.one;obtain⟨ds,e1,rfl⟩:=map_some e;obtain⟨l,ys,rfl,h,r1⟩:=r0.q i e1;exact⟨l,ys,rfl,h,fun p hp=>UE i hs hp r1 q⟩
 ·cases e
theorem ZM:UV K C (Jko K) V4:=by
 intro Hs H0 H xs as c Q i hs r e q;unfold V4 at e;split at e
 ·obtain⟨v,rfl,r0⟩:=r.one;obtain⟨ds,e1,e⟩:=bind_some e;obtain⟨ns,e2,rfl⟩:=map_some e;obtain⟨l,ys,rfl,h,r1⟩:=r0.q i e1;rw[YZ e2] at r1;have:=r1.ints;subst this;exact⟨l,ns,rfl,h,q _ _ _ (.refl i) (RD.int _)⟩
 ·cases e
theorem Jlo:UV K C (Jkj K) JeA:=by
 intro Hs H0 H xs as c Q i hs r e q;unfold JeA at e;split at e
 ·obtain⟨v,rfl,r0⟩:=r.one;obtain⟨ds,e1,e⟩:=bind_some e;obtain⟨ns,e2,rfl⟩:=map_some e;obtain⟨l,ys,rfl,h,r1⟩:=r0.q i e1;rw[WD e2] at r1;have:=r1.bls;subst this;exact⟨l,ns,rfl,h,q _ _ _ (.refl i) (RD.bl _)⟩
 ·cases e
theorem Jln:UV K C (fun xs H Q=>∃i,xs=[.int i]/\Q (.int (if i<0 then -i else i)) H) Jez:=by
 intro Hs H0 H xs as c Q i hs r e q;unfold Jez at e;split at e
 ·cases e;obtain⟨v,rfl,r1⟩:=r.one;rw[RD.intI r1];exact⟨_,rfl,q _ _ _ (.refl i) (RD.int _)⟩
 ·cases e
theorem Jlp:UV K C Jkl JeE:=by
 intro Hs H0 H xs as c Q i hs r e q;unfold JeE at e;split at e
 ·cases e;obtain⟨v,w,rfl,r1,r2⟩:=r.two;rw[RD.intI r1,RD.intI r2];exact Jfw (q _ _ _ (.refl i) (RD.int _))
 ·cases e
end

noncomputable def Jk6:Sl->Option Bool
 | .sh .non=>some false
 | .sh (.bl b)=>some b
 | .sh (.int i)=>some (i != 0)
 | .sh (.str y)=>if y.length<=Qu then some ((y.length:Int) != 0) else none
 | s=>s.q.map fun ds=>!ds.isEmpty
noncomputable def tTru?(a:Ev):En->Option Bool:=fun E=>(a E).bind Jk6
noncomputable def tyN:D->Option String
 | .non=>some "NoneType"
 | .bl _=>some "bool"
 | .int _=>some "int"
 | .str _=>some "str"
 | .tup _=>some "tuple"
 | .lst _=>some "list"
 | .fz _=>some "list"
 | .row _=>none
 | .dct _ _=>none
 | .dfz _ _=>none
 | .exc _=>none
noncomputable def Jbf(t n:String):Bool:=t == n || (t == "bool" && n == "int")
noncomputable def Jgm(n:String)(a:Ev):Ev:=fun E=>(a E).bind fun s=>s.d.bind fun d=>(tyN d).map fun t=>.sh (.bl (Jbf t n))
noncomputable def D.isRow:D->Bool
 | .row _=>true
 | _=>false
section
variable{K:Qq}{C:Qc}{Hs H0 H:Hp}{te:TE}{ea:Ev}
theorem RDL.empty{xs:List V}{ds:List D}(r:RDL K C H xs ds):xs.isEmpty=ds.isEmpty:=by cases xs <;> cases ds <;> first|rfl|(have:=r.1;simp at this)
theorem Z2(ha:SE K C te ea):ST K C (Jh7 K te) (tTru? ea):=by
 intro B H0 H σ E k Q I e q;obtain⟨a,e1,e⟩:=bind_some e;refine ha B H0 H σ E a _ I e1 fun x H1 H1' s1 r1=>?_
 have seq:∀{a:Sl},RR K C H H1 H1' x a->a.q.map (fun ds=>!ds.isEmpty)=some k->∃k',Jdh K x H1' k'/\Q k' H1':=fun {a} r1 e=>by
  obtain⟨ds,e2,rfl⟩:=map_some e;obtain⟨l,xs,rfl,h,r⟩:=r1.q s1.i e2;have z:=q _ _ s1;rw[<- r.empty] at z;rcases h with h|h
  ·exact⟨_,.inl ⟨xs,h,rfl⟩,z⟩
  ·exact⟨_,.inr (.inl ⟨xs,h,rfl⟩),z⟩
 unfold Jk6 at e;split at e
 ·cases e;rw[RD.nonI r1];exact⟨_,rfl,q _ _ s1⟩
 ·cases e;rw[RD.blI r1];exact⟨_,rfl,q _ _ s1⟩
 ·cases e;rw[RD.intI r1];exact⟨_,rfl,q _ _ s1⟩
 ·split at e
  ·cases e;rw[RD.strI r1];exact⟨_,⟨by assumption,rfl⟩,q _ _ s1⟩
  ·cases e
 ·exact seq r1 e
theorem RD.ty{x:V}{d:D}{t:String}(r:RD K C H x d)(e:tyN d=some t):TyS K H x (.type t):=by
 cases r with
 | non=>cases e;exact .of .non
 | bl b=>cases e;exact .of (.bl b)
 | int i=>cases e;exact .of (.int i)
 | str i=>cases e;exact .of (.str i)
 | tup h _ _=>cases e;exact .sqT h
 | lst h _ _=>cases e;exact .sqL (.of h)
 | fz h _ _=>cases e;exact .sqL h
 | row _ _ _ _=>cases e
 | dct _ _ _ _=>cases e
 | dfz _ _ _ _=>cases e
 | exc _ _=>cases e
noncomputable def Jd5(K:Qq)(n:String):Prop:=∀t∈["NoneType","bool","int","str","tuple","list"],kitOne K (.type t) (.type n)=some (Jbf t n)
theorem Jia{d:D}{t:String}(e:tyN d=some t):t∈["NoneType","bool","int","str","tuple","list"]:=by cases d <;> cases e <;> simp
theorem JiD{n:String}(hk:Jd5 K n)(ha:SE K C te ea):SE K C (tCB (Jhy K) (Uc te (Uc (tC (.ty n)) ZF))) (Jgm n ea):=by
 intro B H0 H σ E c Q I e q;obtain⟨a,e1,e⟩:=bind_some e;obtain⟨d,e2,e⟩:=bind_some e;obtain⟨t,e3,rfl⟩:=map_some e;refine ha B H0 H σ E a _ I e1 fun x H1 H1' s1 r1=>?_
 exact Jkx (RD.ty (r1.dat s1.i e2) e3) (hk t (Jia e3)) (q _ _ _ s1 (RD.bl _))
end
theorem Jg4{K:Qq}:Jd5 K "int":=fun t ht=>by simp only[Qv,Gp,or_false] at ht;rcases ht with rfl | rfl | rfl | rfl | rfl | rfl <;> kernel_rfl
theorem JeS{K:Qq}:Jd5 K "bool":=fun t ht=>by simp only[Qv,Gp,or_false] at ht;rcases ht with rfl | rfl | rfl | rfl | rfl | rfl <;> kernel_rfl
end LE

namespace LE
open PySem L2 LR

mutual
inductive Pt where
 | nm (i:Nat)
 | tp (l:Pts)
inductive Pts where
 | nil
 | cons (p:Pt) (l:Pts)
end
mutual
noncomputable def Pt.bind:Pt->D->En->Option En
 | .nm i,d,E=>if i<E.length then some (E.set i (.sh d)) else none
 | .tp l,.tup ds,E=>l.bind ds E
 | .tp _,_,_=>none
noncomputable def Pts.bind:Pts->List D->En->Option En
 | .nil,[],E=>some E
 | .cons p l,d::ds,E=>(p.bind d E).bind fun E'=>l.bind ds E'
 | _,_,_=>none
end
mutual
noncomputable def Pt.slots:Pt->List Nat
 | .nm i=>[i]
 | .tp l=>l.slots
noncomputable def Pts.slots:Pts->List Nat
 | .nil=>[]
 | .cons p l=>p.slots++l.slots
end
mutual
theorem Pt.keep:∀{p:Pt} {d:D} {E E':En},p.bind d E=some E'->E'.length=E.length/\∀i,i∉p.slots->E'[i]?=E[i]?
 | .nm i,d,E,E',e=>by
  unfold Pt.bind at e;split at e
  ·cases e;refine⟨by simp,fun j hj=>?_⟩;rw[QN,if_neg];intro z;exact hj (by simp[Pt.slots,z])
  ·cases e
 | .tp l,d,E,E',e=>by
  cases d with
  | tup ds=>exact Pts.keep (p:=l) (ds:=ds) (by simpa [Pt.bind] using e)
  | _=>simp[Pt.bind] at e
theorem Pts.keep:∀{p:Pts} {ds:List D} {E E':En},p.bind ds E=some E'->E'.length=E.length/\∀i,i∉p.slots->E'[i]?=E[i]?
 | .nil,[],E,E',e=>by simp[Pts.bind] at e;subst e;exact⟨rfl,fun _ _=>rfl⟩
 | .nil,_::_,_,_,e=>by simp[Pts.bind] at e
 | .cons _ _,[],_,_,e=>by simp[Pts.bind] at e
 | .cons p l,d::ds,E,E',e=>by rw[Pts.bind] at e;obtain⟨E1,e1,e2⟩:=bind_some e;obtain⟨h1,h2⟩:=Pt.keep e1;obtain⟨h3,h4⟩:=Pts.keep e2;refine⟨h3.trans h1,fun i hi=>?_⟩;simp[Pts.slots] at hi;rw[h4 i hi.2,h2 i hi.1]
end
section
variable(K:Qq)(C:Qc)
noncomputable def SG(g:TG)(p:Pt):Prop:=∀(B H0 H:Hp) (σ:St) (E E':En) (x:V) (d:D) (Q:St->Hp->Prop),EnvR K C B H0 H σ E->RD K C H0 x d->p.bind d E=some E'->(∀σ',EnvR K C B H0 H σ' E'->Q σ' H)->g x σ H Q
noncomputable def SGs(g:TGs)(p:Pts):Prop:=∀(B H0 H:Hp) (σ:St) (E E':En) (xs:List V) (ds:List D) (Q:St->Hp->Prop),EnvR K C B H0 H σ E->RDL K C H0 xs ds->p.bind ds E=some E'->(∀σ',EnvR K C B H0 H σ' E'->Q σ' H)->g xs σ H Q
end
section
variable{K:Qq}{C:Qc}
theorem EnvR.setSh{B H0 H:Hp}{σ:St}{E:En}{i:Nat}{v:V}{d:D}(I:EnvR K C B H0 H σ E)(hi:i<E.length)(r:RD K C H0 v d):EnvR K C B H0 H (σ.set i (some v)) (E.set i (.sh d)) :=
 I.put' (s:=.sh d) (.refl I.h) hi r rfl
theorem Yj(i:Nat):SG K C (Ug i) (.nm i):=by
 intro B H0 H σ E E' x d Q I r e q;rw[Pt.bind] at e;split at e
 ·cases e;exact q _ (I.setSh (by assumption) r)
 ·cases e
theorem UR:SGs K C Jjj .nil:=by
 intro B H0 H σ E E' xs ds Q I r e q
 cases ds with
 | nil =>
  cases xs with
  | nil=>rw[Pts.bind] at e;cases e;exact⟨rfl,q σ I⟩
  | cons _ _=>have:=r.1;simp at this
 | cons _ _=>simp[Pts.bind] at e
theorem JL{g:TG}{gs:TGs}{p:Pt}{ps:Pts}(h:SG K C g p)(hs:SGs K C gs ps):SGs K C (JeI g gs) (.cons p ps):=by
 intro B H0 H σ E E' xs ds Q I r e q
 cases ds with
 | nil=>simp[Pts.bind] at e
 | cons d ds =>
  cases xs with
  | nil=>have:=r.1;simp at this
  | cons x xs=>rw[Pts.bind] at e;obtain⟨E1,e1,e2⟩:=bind_some e;exact⟨x,xs,rfl,h B H0 H σ E E1 x d _ I r.head e1 fun σ1 I1=>hs B H0 H σ1 E1 E' xs ds Q I1 r.tail e2 q⟩
theorem Jmv{n:Nat}{gs:TGs}{ps:Pts}(hn:∀(ds:List D) (E E':En),ps.bind ds E=some E'->ds.length=n)(hs:SGs K C gs ps):SG K C (JgW K n gs) (.tp ps):=by
 intro B H0 H σ E E' x d Q I r e q
 cases d with
 | tup ds=>rw[Pt.bind] at e;obtain⟨a,xs,rfl,h,r⟩:=RD.tupI r;exact⟨a,xs,rfl,I.h.seqT h,by rw[r.1];exact hn ds E E' e,hs B H0 H σ E E' xs ds Q I r e q⟩
 | _=>simp[Pt.bind] at e
noncomputable def Pts.len:Pts->Nat
 | .nil=>0
 | .cons _ l=>l.len+1
theorem Pts.bind_len:∀{ps:Pts} {ds:List D} {E E':En},ps.bind ds E=some E'->ds.length=ps.len
 | .nil,[],_,_,_=>rfl
 | .nil,_::_,_,_,e=>by simp[Pts.bind] at e
 | .cons _ _,[],_,_,e=>by simp[Pts.bind] at e
 | .cons p l,d::ds,E,E',e=>by rw[Pts.bind] at e;obtain⟨E1,e1,e2⟩:=bind_some e;rw[Qk,Pts.bind_len e2];rfl
theorem US{n:Nat}{gs:TGs}{ps:Pts}(hs:SGs K C gs ps)(hn:ps.len=n):SG K C (JgW K n gs) (.tp ps):=Jmv (fun _ _ _ e=>(Pts.bind_len e).trans hn) hs
end

section
variable(K:Qq)(C:Qc)
noncomputable def Jf4(A:Hp)(J:It)(ds:List D)(H0:Hp):Prop:=∀H0' H',SStep A H0 H0' H'->(∀(i:Nat) (d:D),ds[i]?=some d->J.go i H'/\∀x H2,J.yld i H' x H2->∃H02,Step H' H0' H' H02 H2/\RD K C H02 x d)/\J.stop ds.length H'
noncomputable def SI(m:Bool)(wi:TI)(ev:En->Option (List D)):Prop:=∀(B H0 H:Hp) (σ:St) (E:En) (ds:List D) (R:It->Hp->Prop),EnvR K C B H0 H σ E->ev E=some ds ->
 (∀J H0' H',Step H H0 H H0' H'->Jf4 K C (if m=true then H' else B) J ds H0'->R J H')->wi σ H R
end
noncomputable def Sl.it(m:Bool):Sl->Option (List D)
 | .bo ds=>if m=true then some ds else none
 | s=>s.q
noncomputable def iE(m:Bool)(a:Ev):En->Option (List D):=fun E=>(a E).bind (Sl.it m)
noncomputable def iV(i:Nat):En->Option (List D):=fun E=>match E[i]? with
 | some (.bo ds)=>some ds
 | some (.sh d)=>(Sl.sh d).q
 | _=>none
noncomputable def rng(lo:Int)(n:Nat):List D:=(G7 n).map fun(i:Nat)=>.int (lo+(i:Int))
noncomputable def JeL(a:Int):Bool:=LC a.natAbs 4611686018427387903
noncomputable def iR1(as:En->Option (List Sl)):En->Option (List D):=fun E=>(as E).bind fun ss=>match ss with
 | [.sh (.int n)]=>if JeL n=true then some (rng 0 n.toNat) else none
 | _=>none
section
variable{K:Qq}{C:Qc}{te:TE}{ea:Ev}{m:Bool}
theorem VE{A H0:Hp}{a:Qc}{xs:List V}{ds:List D}(hd:∀H0' H',SStep A H0 H0' H'->SqL K H' a xs)(r:RDL K C H0 xs ds):Jf4 K C A (Itl K a) ds H0:=by intro H0' H' st;have hq:=hd H0' H' st;refine⟨fun i d e=>?_,⟨xs,hq,by rw[r.1];exact Qr _⟩⟩;obtain⟨x,e1,r1⟩:=r.get e;refine⟨⟨xs,x,hq,e1⟩,fun y H2 ⟨e2,e3⟩=>?_⟩;subst e2;have:=e3 xs hq;rw[e1] at this;cases this;exact⟨H0',.refl st.i,r1.mono st.z⟩
theorem Jjw{A H0:Hp}{a:Qc}{xs:List V}{ds:List D}(hd:∀H0' H',SStep A H0 H0' H'->SqT K H' a xs)(r:RDL K C H0 xs ds):Jf4 K C A (Itt K a) ds H0:=by intro H0' H' st;have hq:=hd H0' H' st;refine⟨fun i d e=>?_,⟨xs,hq,by rw[r.1];exact Qr _⟩⟩;obtain⟨x,e1,r1⟩:=r.get e;refine⟨⟨xs,x,hq,e1⟩,fun y H2 ⟨e2,e3⟩=>?_⟩;subst e2;have:=e3 xs hq;rw[e1] at this;cases this;exact⟨H0',.refl st.i,r1.mono st.z⟩
theorem Jcf(ha:SE K C te ea):SI K C m (JeK K te) (iE m ea):=by
 intro B H0 H σ E ds R I e q;obtain⟨s,e1,e⟩:=bind_some e
 cases s with
 | no=>cases e
 | bd _ _=>cases e
 | bt _ _=>cases e
 | od _ _=>cases e
 | ot _ _=>cases e
 | bo es =>
  unfold Sl.it at e;dsimp only at e;split at e
  ·next hm=>cases e;refine .inl (ha B H0 H σ E _ _ I e1 fun x H1 H1' s1 r1=>?_);obtain⟨l,xs,rfl,h,r⟩:=r1;refine⟨l,rfl,⟨xs,.of h⟩,q _ _ _ s1 ?_⟩;rw[if_pos hm];exact VE (fun H0' H' st=>.of (st.b _ _ h)) r
  ·cases e
 | own es=>cases (show some es=some ds from e);refine .inl (ha B H0 H σ E _ _ I e1 fun x H1 H1' s1 r1=>?_);have f:=JX (Hs:=H) s1.i;have r2:=RR.frz s1.i r1 rfl;obtain⟨l,xs,rfl,h,r⟩:=RD.lstI r2;exact⟨l,rfl,⟨xs,.of (f.i _ _ h)⟩,q _ _ _ (s1.comp f fun _ z=>z) (VE (fun H0' H' st=>.of (st.i _ _ (st.z _ _ h))) r)⟩
 | sh d =>
  cases d with
  | lst es=>cases (show some es=some ds from e);refine .inl (ha B H0 H σ E _ _ I e1 fun x H1 H1' s1 r1=>?_);obtain⟨l,xs,rfl,h,r⟩:=RD.lstI r1;exact⟨l,rfl,⟨xs,.of (s1.i _ _ h)⟩,q _ _ _ s1 (VE (fun H0' H' st=>.of (st.i _ _ (st.z _ _ h))) r)⟩
  | fz es=>cases (show some es=some ds from e);refine .inl (ha B H0 H σ E _ _ I e1 fun x H1 H1' s1 r1=>?_);obtain⟨l,xs,rfl,h,r⟩:=RD.fzI r1;exact⟨l,rfl,⟨xs,s1.i.seq h⟩,q _ _ _ s1 (VE (fun H0' H' st=>(st.z.trans st.i).seq h) r)⟩
  | tup es=>cases (show some es=some ds from e);refine .inr (ha B H0 H σ E _ _ I e1 fun x H1 H1' s1 r1=>?_);obtain⟨l,xs,rfl,h,r⟩:=RD.tupI r1;exact⟨l,rfl,⟨xs,s1.i.seqT h⟩,q _ _ _ s1 (Jjw (fun H0' H' st=>(st.z.trans st.i).seqT h) r)⟩
  | _=>cases (show none=some ds from e)
theorem JhS(i:Nat):SI K C false (JeK K (Zk i)) (iV i):=by
 intro B H0 H σ E ds R I e q;unfold iV at e;split at e
 ·next es h =>
  cases e;rcases I.at' i _ h with z|⟨v,h1,h2⟩
  ·cases z
  ·obtain⟨l,xs,rfl,hl,r⟩:=h2;refine .inl ⟨_,h1,l,rfl,⟨xs,.of (I.b _ _ hl)⟩,q _ _ _ (.refl I.h) (VE (fun H0' H' st=>.of (st.b _ _ hl)) r)⟩
 ·next d h=>refine Jcf (m:=false) (ea:=Jb i) (Jc i) B H0 H σ E ds R I ?_ q;show(Jb i E).bind _=_;unfold Jb;rw[h];exact e
 ·cases e
theorem JhQ{lo:Int}{n i:Nat}{d:D}(e:(rng lo n)[i]?=some d):i<n/\d=.int (lo+(i:Int)):=by
 unfold rng at e;rw[QR] at e
 cases h:(G7 n)[i]? with
 | none=>rw[h] at e;cases e
 | some j=>rw[h] at e;cases e;obtain⟨h1,h2⟩:=Qo.mp h;simp at h1 h2;subst h2;exact⟨h1,rfl⟩
theorem Jjv{A H0:Hp}{lo:Int}{n:Nat}:Jf4 K C A (Itr lo n) (rng lo n) H0:=by intro H0' H' st;refine⟨fun i d e=>?_,by show n<=_;simp[rng]⟩;obtain⟨h1,rfl⟩:=JhQ e;refine⟨h1,fun x H2 ⟨e1,e2⟩=>?_⟩;subst e1 e2;exact⟨H0',.refl st.i,.int _⟩
theorem JcI{a:Int}(h:JeL a=true):-(2 ^ 62)<=a/\a<2 ^ 62:=by unfold JeL at h;rw[Km] at h;omega
theorem JiC{t:TA}{ev:En->Option (List Sl)}(ha:SA K C t ev):SI K C m (Jis t) (iR1 ev):=by
 intro B H0 H σ E ds R I e q;obtain⟨ss,e1,e⟩:=bind_some e;split at e
 ·split at e
  ·next hn =>
   cases e;refine ha B H0 H σ E _ _ I e1 fun vs H1 H1' s1 r1=>?_
   obtain⟨v,rfl,r⟩:=r1.one;rw[RD.intI r];exact⟨_,rfl,(JcI hn).1,(JcI hn).2,q _ _ _ s1 Jjv⟩
  ·cases e
 ·cases e
end

noncomputable def yes?:En->Option Bool:=fun _=>some true
noncomputable def VD(imp:List (Option Nat))(E:En):En:=imp.map fun o=>match o with
 | none=>.no
 | some k=>match E[k]? with
  | some (.own ds)=>.bo ds
  | some (.od ks ds)=>.bd ks ds
  | some (.ot ks ds)=>.bt ks ds
  | some s=>s
  | none=>.no
noncomputable def Y2(p:Pt)(c:En->Option Bool)(a:Ev)(E1:En):List D->Option (List D)
 | []=>some []
 | d::ds=>(p.bind d E1).bind fun E2=>(c E2).bind fun k=>if k=true then(a E2).bind fun s=>s.frz.bind fun y=>(Y2 p c a E1 ds).bind fun ys=>some (y::ys) else Y2 p c a E1 ds
noncomputable def Ur(it:En->Option (List D))(p:Pt)(c:En->Option Bool)(a:Ev)(imp:List (Option Nat)):Ev:=fun E=>(it E).bind fun ds=>if ds.length<=Qu then(Y2 p c a (VD imp E) ds).map .own else none
section
variable{K:Qq}{C:Qc}
theorem Zb:ST K C Jk0 yes?:=fun _ _ _ _ _ _ _ I e q=>by cases e;exact q _ _ (.refl I.h)
theorem Jgr{B H0 H:Hp}{σ:St}{E:En}{imp:List (Option Nat)}(I:EnvR K C B H0 H σ E):EnvR K C H H0 H (Jba imp σ) (VD imp E):=by
 have get:∀(i:Nat) (s:Sl),(VD imp E)[i]?=some s->s=.no\/∃v,(Jba imp σ)[i]?=some (some v)/\RSl K C H H0 H v s/\JR s=false:=fun i s e=>by
  unfold VD at e;unfold Jba;rw[QR] at e ⊢
  cases h:imp[i]? with
  | none=>rw[h] at e;cases e
  | some o =>
   rw[h] at e
   cases o with
   | none=>cases e;exact .inl rfl
   | some k =>
    have e':(match E[k]? with|some (.own ds)=>Sl.bo ds|some (.od ks ds)=>Sl.bd ks ds|some (.ot ks ds)=>Sl.bt ks ds|some s=>s|none=>.no)=s:=QI e
    cases hE:E[k]? with
    | none=>rw[hE] at e';exact .inl e'.symm
    | some s' =>
     rw[hE] at e';rcases I.at' k s' hE with z|⟨v,h1,h2⟩
     ·subst z;exact .inl e'.symm
     ·have g:(σ[k]?).join=some v:=by rw[h1];rfl
      cases s' with
      | no=>exact .inl e'.symm
      | sh d=>dsimp only at e';subst e';exact .inr ⟨v,by show some ((σ[k]?).join)=_;rw[g],h2,rfl⟩
      | bo ds=>dsimp only at e';subst e';obtain⟨l,xs,q1,q2,q3⟩:=h2;exact .inr ⟨v,by show some ((σ[k]?).join)=_;rw[g],⟨l,xs,q1,I.b _ _ q2,q3⟩,rfl⟩
      | own ds=>dsimp only at e';subst e';obtain⟨l,xs,q1,q2,_,_,q3⟩:=h2;exact .inr ⟨v,by show some ((σ[k]?).join)=_;rw[g],⟨l,xs,q1,q2,q3⟩,rfl⟩
      | bd ks ds=>dsimp only at e';subst e';obtain⟨l,xs,q1,q2,q3⟩:=h2;exact .inr ⟨v,by show some ((σ[k]?).join)=_;rw[g],⟨l,xs,q1,I.b _ _ q2,q3⟩,rfl⟩
      | bt ks ds=>dsimp only at e';subst e';obtain⟨l,xs,q1,q2,q3⟩:=h2;exact .inr ⟨v,by show some ((σ[k]?).join)=_;rw[g],⟨l,xs,q1,I.b _ _ q2,q3⟩,rfl⟩
      | od ks ds=>dsimp only at e';subst e';obtain⟨l,xs,q1,q2,_,_,q3⟩:=h2;exact .inr ⟨v,by show some ((σ[k]?).join)=_;rw[g],⟨l,xs,q1,q2,q3⟩,rfl⟩
      | ot ks ds=>dsimp only at e';subst e';obtain⟨l,xs,q1,q2,_,_,q3⟩:=h2;exact .inr ⟨v,by show some ((σ[k]?).join)=_;rw[g],⟨l,xs,q1,q2,q3⟩,rfl⟩
 refine⟨Same.refl _,I.h,by simp[Jba,VD],fun i s e=>?_,fun i j s t v hij e1 e2 o1 o2=>?_⟩
 ·rcases get i s e with z|⟨v,h1,h2,_⟩
  ·exact .inl z
  ·exact .inr ⟨v,h1,h2⟩
 ·rcases get i _ e1 with z|⟨v,h1,h2,h3⟩
  ·subst z;cases o1
  ·rw[h3] at o1;cases o1
theorem Vr{wi:TI}{g:TG}{tt:TT}{te:TE}{imp:List (Option Nat)}{it:En->Option (List D)}{p:Pt}{c:En->Option Bool}{a:Ev}(hi:SI K C true wi it)(hg:SG K C g p)(hc:ST K C tt c)(ha:SE K C te a)
 (hp:(p.slots.all fun i=>match imp[i]? with|some none=>true|_=>false)=true):SE K C (JfM wi g tt te imp) (Ur it p c a imp):=by
 intro B H0 H σ E r Q I e q;obtain⟨ds,e1,e⟩:=bind_some e;split at e
 ·next hl =>
  obtain⟨es,e2,rfl⟩:=map_some e;refine hi B H0 H σ E ds _ I e1 fun J H1 H1' s1 ok=>?_
  rw[if_pos rfl] at ok;have I1:EnvR K C H1' H1 H1' (Jba imp σ) (VD imp E):=Jgr (I.step s1)
  -- the loop: what was gathered,what comes
  refine⟨fun i m ys σ' H'=>m=ds.length-i/\i<=ds.length/\∃H0' gs rs,EnvR K C H1' H0' H' σ' (VD imp E)/\Step H1' H1 H1' H0' H'/\RDL K C H0' ys gs/\Y2 p c a (VD imp E) (ds.drop i)=some rs/\es=gs++rs/\gs.length<=i,
   ⟨ds.length,by simp,Lz _,H1,[],es,I1,.refl s1.i,.nil,e2,rfl,Qr _⟩,?_⟩
  rintro i m ys σ' H' ⟨rfl,hi',H0',gs,rs,I',st,rys,er,ees,hgl⟩;have stop:=ok H0' H' ⟨st.h,st.z,st.n,st.i⟩
  by_cases hlt:i<ds.length
  ·have hd:ds[i]?=some ds[i]:=by simp[hlt]
   obtain⟨go,yl⟩:=stop.1 i _ hd;refine .inr ⟨go,by rw[rys.1];omega,fun ys' σ2 H2=>∃H02 gs rs,EnvR K C H1' H02 H2 σ2 (VD imp E)/\Step H1' H1 H1' H02 H2/\RDL K C H02 ys' gs/\Y2 p c a (VD imp E) (ds.drop (i+1))=some rs/\es=gs++rs/\gs.length<=i+1,
    fun ys' σ2 H2 h=>⟨ds.length-(i+1),by omega,rfl,hlt,h⟩,fun x H2 y=>?_⟩
   obtain⟨H02,st2,rx⟩:=yl x H2 y;rw[GN hlt,Y2] at er;obtain⟨E2,b1,er⟩:=bind_some er;obtain⟨k,b2,er⟩:=bind_some er;refine hg H1' H02 H2 σ' (VD imp E) E2 x _ _ (I'.step st2) rx b1 fun σ2 I2=>?_
   have back:∀{H03 H3:Hp},EnvR K C H1' H03 H3 σ2 E2->EnvR K C H1' H03 H3 σ2 (VD imp E):=fun {H03 H3} J=>by
    obtain⟨k1,k2⟩:=Pt.keep b1;refine J.sub k1.symm fun j s ej=>?_
    by_cases hj:j∈p.slots
    ·have:=Q4.mp hp j hj
     have ej':=ej;unfold VD at ej';rw[QR] at ej'
     cases hm:imp[j]? with
     | none=>rw[hm] at this;cases this
     | some o =>
      rw[hm] at this ej'
      cases o with
      | none=>cases ej';exact .inl rfl
      | some _=>cases this
    ·exact .inr (by rw[k2 j hj];exact ej)
   refine hc H1' H02 H2 σ2 E2 k _ I2 b2 fun H03 H3 st3=>?_
   have st13:Step H1' H1 H1' H03 H3:=(st.trans st2).trans st3
   cases k with
   | false=>rw[if_neg (by simp)];rw[if_neg (by simp)] at er;exact⟨H03,gs,rs,back (I2.step st3),st13,rys.mono (st2.z.trans st3.z),er,ees,by omega⟩
   | true =>
    rw[if_pos rfl];rw[if_pos rfl] at er;obtain⟨s,b3,er⟩:=bind_some er;obtain⟨y',b4,er⟩:=bind_some er;obtain⟨ws,b5,er⟩:=bind_some er;cases er;refine ha H1' H03 H3 σ2 E2 s _ (I2.step st3) b3 fun v H04 H4 st4 r4=>?_
    have f:=JX (Hs:=H3) st4.i
    have st5:Step H3 H03 H3 (YN H3 H04 H4) H4:=st4.comp f fun _ z=>z
    exact⟨_,gs++[y'],ws,back ((I2.step st3).step st5),st13.trans st5,(rys.mono ((st2.z.trans st3.z).trans st5.z)).snoc (RR.frz st4.i r4 b4),b5,by rw[ees,Gk];rfl,by rw[Qh];simp;exact hgl⟩
  ·have e3:i=ds.length:=by omega
   subst e3;refine .inl ⟨stop.2,by rw[rys.1];omega,fun p hp=>?_⟩;rw[LV,Y2] at er;cases er;rw[QT] at ees;subst ees;exact UE (Hs:=H) st.i (s1.h.trans st.h) hp rys fun v H2 H2' s2 r2=>q v H2 H2' ((s1.trans st).comp s2 fun _ z=>z) r2
 ·cases e
end
end LE

namespace LE
open PySem L2 LR

inductive Out where
 | nx (E:En)|rt (r:Sl)|bk (E:En)|ct (E:En)
noncomputable abbrev Es:=En->Option Out
section
variable(K:Qq)(C:Qc)
noncomputable def Fin(B H0:Hp)(D:Ends):Out->Prop
 | .nx E=>∀σ' H0' H',SStep B H0 H0' H'->EnvR K C B H0' H' σ' E->D.nx σ' H'
 | .bk E=>∀σ' H0' H',SStep B H0 H0' H'->EnvR K C B H0' H' σ' E->D.bk σ' H'
 | .ct E=>∀σ' H0' H',SStep B H0 H0' H'->EnvR K C B H0' H' σ' E->D.ct σ' H'
 | .rt r=>∀v H0' H',SStep B H0 H0' H'->RR K C B H0' H' v r->D.rt v H'
noncomputable def SS(ts:TS)(ev:Es):Prop:=∀(B H0 H:Hp) (σ:St) (E:En) (o:Out) (D:Ends),EnvR K C B H0 H σ E->ev E=some o->Fin K C B H0 D o->ts D σ H
end
noncomputable def Jx:Es:=fun E=>some (.nx E)
noncomputable def JfD(b:Es):Out->Option Out
 | .nx E=>b E
 | .rt r=>some (.rt r)
 | .bk E=>some (.bk E)
 | .ct E=>some (.ct E)
noncomputable def Jk(a b:Es):Es:=fun E=>(a E).bind (JfD b)
noncomputable def xIf(c:En->Option Bool)(a b:Es):Es:=fun E=>(c E).bind fun k=>if k=true then a E else b E
noncomputable def keep?:Sl->Option Sl
 | .sh d=>some (.sh d)
 | .own ds=>some (.own ds)
 | .od ks ds=>some (.od ks ds)
 | .ot ks ds=>some (.ot ks ds)
 | _=>none
noncomputable def U7(i:Nat)(a:Ev):Es:=fun E=>(a E).bind fun s=>(keep? s).bind fun s=>if i<E.length then some (.nx (E.set i s)) else none
noncomputable def Jl(i:Nat)(a:Ev):Es:=fun E=>(a E).bind fun s=>s.frz.bind fun d=>if i<E.length then some (.nx (E.set i (.sh d))) else none
noncomputable def Jd3(p:Pt)(a:Ev):Es:=fun E=>(a E).bind fun s=>s.frz.bind fun d=>(p.bind d E).map .nx
noncomputable def Z9(a:Ev):Es:=fun E=>(a E).map fun _=>.nx E
noncomputable def YO(a:Ev):Es:=fun E=>(a E).bind fun s=>(keep? s).map .rt
noncomputable def Vg(i:Nat):Es:=fun E=>match E[i]? with
 | some (.sh d)=>some (.rt (.sh d))
 | some (.own ds)=>some (.rt (.own ds))
 | some (.od ks ds)=>some (.rt (.od ks ds))
 | _=>none
noncomputable def Yg:Es:=fun _=>none
noncomputable def Wq(i:Nat)(a:Ev):Es:=fun E=>match E[i]? with
 | some (.own ds)=>(a E).bind fun s=>s.frz.bind fun d=>if ds.length<Qu then some (.nx (E.set i (.own (ds++[d])))) else none
 | _=>none
noncomputable def UP(i:Nat)(k a:Ev):Es:=fun E=>match E[i]? with
 | some (.own ds)=>(a E).bind fun s=>s.frz.bind fun d=>(k E).bind fun t=>match t with
  | .sh (.int z)=>(ixN ds.length z).map fun j=>.nx (E.set i (.own (ds.set j d)))
  | _=>none
 | _=>none
noncomputable def Jih(i j:Nat)(f:Sl->Option Sl):Es:=fun E=>match E[i]? with
 | some (.own ds)=>(ds[ds.length-1]?).bind fun d=>(f (.sh d)).bind fun s=>(sh? s).bind fun d'=>if j<E.length then some (.nx ((E.set i (.own ds.dropLast)).set j (.sh d'))) else none
 | _=>none
noncomputable def JgV(i:Nat)(E:En):En:=match E[i]? with
 | some (.own ds)=>E.set i (.sh (.lst ds))
 | some (.od ks ds)=>E.set i (.sh (.dct ks ds))
 | _=>E
noncomputable def Jlb(i:Nat)(a:Es):Es:=fun E=>a (JgV i E)
noncomputable def Yf(p:Pt)(b:Es):List D->Es
 | [],E=>some (.nx E)
 | d::ds,E=>(p.bind d E).bind fun E1=>(b E1).bind fun o=>match o with
  | .nx E2=>Yf p b ds E2
  | .ct E2=>Yf p b ds E2
  | .bk E2=>some (.nx E2)
  | .rt r=>some (.rt r)
noncomputable def UU(it:En->Option (List D))(p:Pt)(b:Es):Es:=fun E=>(it E).bind fun ds=>Yf p b ds E
section
variable{K:Qq}{C:Qc}{B H0 H H0' H':Hp}{σ:St}{E:En}{D:Ends}{o:Out}{te:TE}{ea:Ev}{t u:TS}{et eu:Es}
theorem Fin.step(st:SStep B H0 H0' H')(f:Fin K C B H0 D o):Fin K C B H0' D o:=by
 cases o with
 | nx E=>exact fun σ' H1 H1' s1 I=>f σ' H1 H1' (st.trans s1) I
 | bk E=>exact fun σ' H1 H1' s1 I=>f σ' H1 H1' (st.trans s1) I
 | ct E=>exact fun σ' H1 H1' s1 I=>f σ' H1 H1' (st.trans s1) I
 | rt r=>exact fun v H1 H1' s1 I=>f v H1 H1' (st.trans s1) I
theorem EnvR.ss(I:EnvR K C B H0 H σ E):SStep B H0 H0 H:=.refl I.b I.h
theorem JI:SS K C JfN Jx:=fun _ _ _ _ _ _ _ I e f=>by cases e;exact f _ _ _ I.ss I
theorem Jn(ht:SS K C t et)(hu:SS K C u eu):SS K C (JfQ t u) (Jk et eu):=by
 intro B H0 H σ E o D I e f;obtain⟨o1,e1,e⟩:=bind_some e;refine ht B H0 H σ E o1 _ I e1 ?_
 cases o1 with
 | nx E1=>exact fun σ1 H1 H1' s1 I1=>hu B H1 H1' σ1 E1 o D I1 e (f.step s1)
 | bk E1=>cases e;exact f
 | ct E1=>cases e;exact f
 | rt r=>cases e;exact f
theorem Ym{c:TT}{ec:En->Option Bool}(hc:ST K C c ec)(ht:SS K C t et)(hu:SS K C u eu):SS K C (Jh4 c t u) (xIf ec et eu):=by
 intro B H0 H σ E o D I e f;obtain⟨k,e1,e⟩:=bind_some e;refine hc B H0 H σ E k _ I e1 fun H1 H1' s1=>?_
 cases k with
 | true=>rw[if_pos rfl];exact ht B H1 H1' σ E o D (I.step s1) e (f.step (s1.ss I.b))
 | false=>rw[if_neg (by simp)];exact hu B H1 H1' σ E o D (I.step s1) e (f.step (s1.ss I.b))
theorem ZT{s r:Sl}(e:keep? s=some r):s=r/\Jju r=false:=by cases s <;> cases e <;> exact⟨rfl,rfl⟩
theorem Zs{i:Nat}(ha:SE K C te ea):SS K C (Zi te (Ug i)) (U7 i ea):=by
 intro B H0 H σ E o D I e f;obtain⟨s,e1,e⟩:=bind_some e;obtain⟨s',e2,e⟩:=bind_some e;obtain⟨rfl,hb⟩:=ZT e2;split at e
 ·cases e;exact ha B H0 H σ E _ _ I e1 fun v H1 H1' s1 r1=>f _ _ _ (s1.ss I.b) (I.put' s1 (by assumption) r1 hb)
 ·cases e
theorem Jt{i:Nat}(ha:SE K C te ea):SS K C (Zi te (Ug i)) (Jl i ea):=by
 intro B H0 H σ E o D I e f;obtain⟨s,e1,e⟩:=bind_some e;obtain⟨d,e2,e⟩:=bind_some e;split at e
 ·cases e;refine ha B H0 H σ E _ _ I e1 fun v H1 H1' s1 r1=>?_
  have s2:Step H H0 H (YN H H1 H1') H1':=s1.comp (JX s1.i) fun _ z=>z
  exact f _ _ _ (s2.ss I.b) ((I.step s2).setSh (by assumption) (RR.frz s1.i r1 e2))
 ·cases e
theorem JiG{g:TG}{p:Pt}(ha:SE K C te ea)(hg:SG K C g p):SS K C (Zi te g) (Jd3 p ea):=by
 intro B H0 H σ E o D I e f;obtain⟨s,e1,e⟩:=bind_some e;obtain⟨d,e2,e⟩:=bind_some e;obtain⟨E',e3,rfl⟩:=map_some e;refine ha B H0 H σ E _ _ I e1 fun v H1 H1' s1 r1=>?_
 have s2:Step H H0 H (YN H H1 H1') H1':=s1.comp (JX s1.i) fun _ z=>z
 exact hg B _ H1' σ E E' v d _ (I.step s2) (RR.frz s1.i r1 e2) e3 fun σ' I'=>f _ _ _ (s2.ss I.b) I'
theorem Jf2(ha:SE K C te ea):SS K C (Zj te) (Z9 ea):=by intro B H0 H σ E o D I e f;obtain⟨s,e1,rfl⟩:=map_some e;exact ha B H0 H σ E _ _ I e1 fun v H1 H1' s1 r1=>f _ _ _ (s1.ss I.b) (I.step s1)
theorem Yv(ha:SE K C te ea):SS K C (Jh6 te) (YO ea):=by intro B H0 H σ E o D I e f;obtain⟨s,e1,e⟩:=bind_some e;obtain⟨s',e2,rfl⟩:=map_some e;obtain⟨rfl,hb⟩:=ZT e2;exact ha B H0 H σ E _ _ I e1 fun v H1 H1' s1 r1=>f _ _ _ (s1.ss I.b) (r1.weak fun a z=>Same.free I.b z)
theorem JaS{i:Nat}:SS K C (Jh6 (Zk i)) (Vg i):=by
 intro B H0 H σ E o D I e f;unfold Vg at e;split at e
 ·next d h =>
  cases e;rcases I.at' i _ h with z|⟨v,h1,h2⟩
  ·cases z
  ·exact⟨v,h1,f _ _ _ I.ss h2⟩
 ·next d h =>
  cases e;rcases I.at' i _ h with z|⟨v,h1,h2⟩
  ·cases z
  ·exact⟨v,h1,f _ _ _ I.ss h2⟩
 ·next d h =>
  cases e;rcases I.at' i _ h with z|⟨v,h1,h2⟩
  ·cases z
  ·exact⟨v,h1,f _ _ _ I.ss h2⟩
 ·cases e
theorem EnvR.mutG{i:Nat}{l:Qc}{t t':Sl}{o':HO}(I:EnvR K C B H0 H σ E)(e1:E[i]?=some t)(ho:JR t=true)(ho':JR t'=true)(e2:σ[i]?=some (some (.ref l)))(r:RSl K C B H0 (upd H l o') (.ref l) t') :
 EnvR K C B H0 (upd H l o') σ (E.set i t'):=by
 obtain⟨h1,h2,h3⟩:=I.ownG e1 ho e2;have hi:i<E.length:=(Qo.mp e1).1;have nb:∀{A:Hp},A l=none->Same A H->Same A (upd H l o'):=fun {A} n s a o e=>by rw[Jm (JB e n)];exact s a o e
 refine⟨nb h3 I.b,nb h2 I.h,by simp[I.len],fun j s e=>?_,fun j k s1 s2 v hjk a1 a2 p1 p2 a3=>?_⟩
 ·rw[QN] at e
  by_cases hj:i=j
  ·subst hj;rw[if_pos rfl,if_pos hi] at e;cases e;exact .inr ⟨_,e2,r⟩
  ·rw[if_neg hj] at e;rcases I.at' j s e with z|⟨v,q1,q2⟩
   ·exact .inl z
   ·refine .inr ⟨v,q1,?_⟩
    cases s with
    | no=>trivial
    | sh d=>exact q2
    | bo es=>exact q2
    | bd ks es=>exact q2
    | bt ks es=>exact q2
    | own es =>
     obtain⟨l',ys,p1,p2,p3,p4,p5⟩:=q2;subst p1;have:l'≠l:=fun z=>by subst z;exact I.sep i j t _ (.ref l') hj e1 e ho rfl e2 q1
     exact⟨l',ys,rfl,by rw[Jm this];exact p2,p3,p4,p5⟩
    | od ks es =>
     obtain⟨l',ys,p1,p2,p3,p4,p5⟩:=q2;subst p1;have:l'≠l:=fun z=>by subst z;exact I.sep i j t _ (.ref l') hj e1 e ho rfl e2 q1
     exact⟨l',ys,rfl,by rw[Jm this];exact p2,p3,p4,p5⟩
    | ot ks es =>
     obtain⟨l',ys,p1,p2,p3,p4,p5⟩:=q2;subst p1;have:l'≠l:=fun z=>by subst z;exact I.sep i j t _ (.ref l') hj e1 e ho rfl e2 q1
     exact⟨l',ys,rfl,by rw[Jm this];exact p2,p3,p4,p5⟩
 ·have own:∀{j:Nat} {u:Sl},(E.set i t')[j]?=some u->JR u=true->∃g,E[j]?=some g/\JR g=true:=fun {j u} a w=>by
   rw[QN] at a
   by_cases hj:i=j
   ·subst hj;exact⟨t,e1,ho⟩
   ·rw[if_neg hj] at a;exact⟨_,a,w⟩
  obtain⟨g1,b1,c1⟩:=own a1 p1;obtain⟨g2,b2,c2⟩:=own a2 p2;exact I.sep j k g1 g2 v hjk b1 b2 c1 c2 a3
theorem EnvR.mut{i:Nat}{l:Qc}{ds ds':List LE.D}{xs xs':List V}(I:EnvR K C B H0 H σ E)(e1:E[i]?=some (.own ds))(e2:σ[i]?=some (some (.ref l)))(r:RDL K C H0 xs' ds') :
 EnvR K C B H0 (upd H l (.lst xs')) σ (E.set i (.own ds')):=by
 obtain⟨_,h2,h3⟩:=I.ownG e1 rfl e2;exact I.mutG (t':=.own ds') e1 rfl rfl e2 ⟨l,xs',rfl,JF,h2,h3,r⟩
theorem EnvR.slot{i:Nat}{ds:List LE.D}(I:EnvR K C B H0 H σ E)(e1:E[i]?=some (.own ds)):∃l xs,σ[i]?=some (some (.ref l))/\H l=some (.lst xs)/\H0 l=none/\B l=none/\RDL K C H0 xs ds:=by
 rcases I.at' i _ e1 with z|⟨v,h1,l,xs,rfl,h2,h3,h4,h5⟩
 ·cases z
 ·exact⟨l,xs,h1,h2,h3,h4,h5⟩
theorem Jaa{i:Nat}(ha:SE K C te ea):SS K C (Zj (tBM K "list" JcV (Zk i) (Uc te ZF))) (Wq i ea):=by
 intro B H0 H σ E o D I e f;unfold Wq at e;split at e
 ·next ds h =>
  obtain⟨s,e1,e⟩:=bind_some e;obtain⟨d,e2,e⟩:=bind_some e;split at e
  ·next hz =>
   cases e;obtain⟨l,xs,g1,g2,g3,g4,g5⟩:=I.slot h;refine⟨_,g1,.inl ⟨rfl,_,.of g2⟩,?_⟩;refine ha B H0 H σ E _ _ I e1 fun v H1 H1' s1 r1=>?_
   have s2:Step H H0 H (YN H H1 H1') H1':=s1.comp (JX s1.i) fun _ z=>z
   have I2:=I.step s2
   have m:=I2.mut (xs:=xs) h g1 ((g5.mono s2.z).snoc (RR.frz s1.i r1 e2));exact⟨l,xs,v,rfl,rfl,s2.h _ _ g2,by rw[g5.1];exact hz,f _ _ _ ⟨m.b,s2.z,(s2.ss I.b).n,m.h⟩ m⟩
  ·cases e
 ·cases e
theorem JaT{i:Nat}{ti:TE}{ei:Ev}(ha:SE K C te ea)(hi:SE K C ti ei):SS K C (Zi te (Jjk (Zk i) ti JiB)) (UP i ei ea):=by
 intro B H0 H σ E o D I e f;unfold UP at e;split at e
 ·next ds h =>
  obtain⟨s,e1,e⟩:=bind_some e;obtain⟨d,e2,e⟩:=bind_some e;obtain⟨k,e3,e⟩:=bind_some e;split at e
  ·next z =>
   obtain⟨j,e4,rfl⟩:=map_some e;obtain⟨l,xs,g1,g2,g3,g4,g5⟩:=I.slot h;refine ha B H0 H σ E _ _ I e1 fun v H1 H1' s1 r1=>?_
   have s2:Step H H0 H (YN H H1 H1') H1':=s1.comp (JX s1.i) fun _ z=>z
   have rv:=RR.frz s1.i r1 e2;refine⟨_,g1,?_⟩;refine hi B _ H1' σ E _ _ (I.step s2) e3 fun w H3 H3' s3 r3=>?_
   have s4:=s2.trans s3
   have m:=(I.step s4).mut (xs:=xs) h g1 ((g5.mono s4.z).set j (rv.mono s3.z));rw[RD.intI r3];exact⟨l,xs,z,j,rfl,rfl,s4.h _ _ g2,by rw[g5.1];exact e4,f _ _ _ ⟨m.b,s4.z,(s4.ss I.b).n,m.h⟩ m⟩
  ·cases e
 ·cases e
theorem Jml{i j:Nat}:SS K C (Zi (Jh3 K "list" Jl0 (Zk i)) (Ug j)) (Jih i j some):=by
 intro B H0 H σ E o D I e f;unfold Jih at e;split at e
 ·next ds h =>
  obtain⟨d,e1,e⟩:=bind_some e;obtain⟨s,e2,e⟩:=bind_some e;cases e2;obtain⟨d',e3,e⟩:=bind_some e;cases e3;split at e
  ·next hj =>
   cases e;obtain⟨l,xs,g1,g2,g3,g4,g5⟩:=I.slot h;rw[<- g5.1] at e1;obtain⟨y,e4,r4⟩:=g5.get e1;have hd:RDL K C H0 xs.dropLast ds.dropLast:=by rw[Mi,Mi,g5.1];exact g5.take _
   have m:=I.mut (xs:=xs) h g1 hd;refine⟨_,g1,.inl ⟨rfl,_,.of g2⟩,l,xs,y,rfl,rfl,g2,e4,?_⟩;exact f _ _ _ ⟨m.b,Same.refl _,fun _ _ e=>.inl e,m.h⟩ (m.setSh (by simpa using hj) r4)
  ·cases e
 ·cases e
theorem EnvR.slotD{i:Nat}{ks:List Int}{ds:List LE.D}(I:EnvR K C B H0 H σ E)(e1:E[i]?=some (.od ks ds)):∃l xs,σ[i]?=some (some (.ref l))/\H l=some (dkO ks xs)/\H0 l=none/\B l=none/\ks.length=ds.length/\RDL K C H0 xs ds:=by
 rcases I.at' i _ e1 with z|⟨v,h1,l,xs,rfl,h2,h3,h4,h5⟩
 ·cases z
 ·exact⟨l,xs,h1,h2,h3,h4,h5⟩
theorem EnvR.frzG(I:EnvR K C B H0 H σ E){i:Nat}{t:Sl}{l:Qc}{o:HO}{d:LE.D}(h:E[i]?=some t)(ho:JR t=true)(g1:σ[i]?=some (some (.ref l)))(g2:H l=some o)(g5:∀H1,Same H0 H1->H1 l=some o->RD K C H1 (.ref l) d):∃H0',SStep B H0 H0' H/\EnvR K C B H0' H σ (E.set i (.sh d)):=by
 obtain⟨_,g3,g4⟩:=I.ownG h ho g1;have hi:i<E.length:=(Qo.mp h).1;have s0:Same H0 (upd H0 l o):=.new g3
 have s1:Same (upd H0 l o) H:=fun a o e=>by
  by_cases ha:a=l
  ·subst ha;rw[JF] at e;cases e;exact g2
  ·rw[Jm ha] at e;exact I.h a o e
 refine⟨upd H0 l o,⟨I.b,s0,fun a o e=>?_,s1⟩,I.b,s1,by simp[I.len],fun j s e=>?_,fun j k u1 u2 v hjk a1 a2 w1 w2 a3=>?_⟩
 ·by_cases ha:a=l
  ·subst ha;exact .inr (.inl g4)
  ·rw[Jm ha] at e;exact .inl e
 ·rw[QN] at e
  by_cases hj:i=j
  ·subst hj;rw[if_pos rfl,if_pos hi] at e;cases e;exact .inr ⟨_,g1,g5 _ s0 JF⟩
  ·rw[if_neg hj] at e;rcases I.at' j s e with z|⟨v,q1,q2⟩
   ·exact .inl z
   ·refine .inr ⟨v,q1,?_⟩
    cases s with
    | no=>trivial
    | sh d=>exact RD.mono s0 q2
    | bo es=>obtain⟨l',ys,p1,p2,p3⟩:=q2;exact⟨l',ys,p1,p2,p3.mono s0⟩
    | bd ks es=>obtain⟨l',ys,p1,p2,hk,p3⟩:=q2;exact⟨l',ys,p1,p2,hk,p3.mono s0⟩
    | bt ks es=>obtain⟨l',ys,p1,p2,hk,p3⟩:=q2;exact⟨l',ys,p1,p2,hk,p3.mono s0⟩
    | own es =>
     obtain⟨l',ys,p1,p2,p3,p4,p5⟩:=q2;subst p1;have:l'≠l:=fun z=>by subst z;exact I.sep i j t _ (.ref l') hj h e ho rfl g1 q1
     exact⟨l',ys,rfl,p2,by rw[Jm this];exact p3,p4,p5.mono s0⟩
    | od ks es =>
     obtain⟨l',ys,p1,p2,p3,p4,hk,p5⟩:=q2;subst p1;have:l'≠l:=fun z=>by subst z;exact I.sep i j t _ (.ref l') hj h e ho rfl g1 q1
     exact⟨l',ys,rfl,p2,by rw[Jm this];exact p3,p4,hk,p5.mono s0⟩
    | ot ks es =>
     obtain⟨l',ys,p1,p2,p3,p4,hk,p5⟩:=q2;subst p1;have:l'≠l:=fun z=>by subst z;exact I.sep i j t _ (.ref l') hj h e ho rfl g1 q1
     exact⟨l',ys,rfl,p2,by rw[Jm this];exact p3,p4,hk,p5.mono s0⟩
 ·have own:∀{j:Nat} {u:Sl},(E.set i (.sh d))[j]?=some u->JR u=true->E[j]?=some u:=fun {j u} a w=>by
   rw[QN] at a
   by_cases hj:i=j
   ·subst hj;rw[if_pos rfl,if_pos hi] at a;cases a;cases w
   ·rw[if_neg hj] at a;exact a
  exact I.sep j k u1 u2 v hjk (own a1 w1) (own a2 w2) w1 w2 a3
theorem EnvR.frz(I:EnvR K C B H0 H σ E)(i:Nat):∃H0',SStep B H0 H0' H/\EnvR K C B H0' H σ (JgV i E):=by
 unfold JgV;split
 ·next ds h=>obtain⟨l,xs,g1,g2,g3,g4,g5⟩:=I.slot h;exact I.frzG h rfl g1 g2 fun H1 s0 hl=>.mkL hl (g5.mono s0)
 ·next ks ds h=>obtain⟨l,xs,g1,g2,g3,g4,hk,g5⟩:=I.slotD h;exact I.frzG h rfl g1 g2 fun H1 s0 hl=>.mkD hl hk (g5.mono s0)
 ·exact⟨H0,I.ss,I⟩
theorem Jmk(i:Nat)(ht:SS K C t et):SS K C t (Jlb i et):=by intro B H0 H σ E o D I e f;obtain⟨H0',s,I'⟩:=I.frz i;exact ht B H0' H σ _ o D I' e (f.step s)
theorem Zr{wi:TI}{g:TG}{it:En->Option (List LE.D)}{p:Pt}(hi:SI K C false wi it)(hg:SG K C g p)(ht:SS K C t et):SS K C (JkW wi g t) (UU it p et):=by
 intro B H0 H σ E o D I e f;obtain⟨ds,e1,e⟩:=bind_some e;refine hi B H0 H σ E ds _ I e1 fun J H1 H1' s1 ok=>?_
 rw[if_neg (by simp)] at ok;refine⟨fun i m σ' H'=>m=ds.length-i/\i<=ds.length/\∃H0' E',EnvR K C B H0' H' σ' E'/\SStep B H1 H0' H'/\Yf p et (ds.drop i) E'=some o,
  ⟨ds.length,by simp,Lz _,H1,E,I.step s1,.refl (I.b.trans s1.h) s1.i,e⟩,?_⟩
 rintro i m σ' H' ⟨rfl,hi',H0',E',I',st,er⟩;have stop:=ok H0' H' st;have f':Fin K C B H0' D o:=(f.step (s1.ss I.b)).step st
 by_cases hlt:i<ds.length
 ·have hd:ds[i]?=some ds[i]:=by simp[hlt]
  obtain⟨go,yl⟩:=stop.1 i _ hd;refine .inr ⟨go,fun σ2 H2=>∃H02 E2,EnvR K C B H02 H2 σ2 E2/\SStep B H1 H02 H2/\Yf p et (ds.drop (i+1)) E2=some o,fun σ2 H2 h=>⟨ds.length-(i+1),by omega,rfl,hlt,h⟩,fun x H2 y=>?_⟩;obtain⟨H02,st2,rx⟩:=yl x H2 y;rw[GN hlt,Yf] at er;obtain⟨E1,b1,er⟩:=bind_some er;obtain⟨o1,b2,er⟩:=bind_some er;have ss2:SStep B H0' H02 H2:=st2.ss I'.b;refine hg B H02 H2 σ' E' E1 x _ _ (I'.step st2) rx b1 fun σ2 I2=>?_
  refine ht B H02 H2 σ2 E1 o1 _ I2 b2 ?_
  cases o1 with
  | nx E2=>exact fun σ3 H3 H3' s3 I3=>⟨H3,E2,I3,(st.trans ss2).trans s3,er⟩
  | ct E2=>exact fun σ3 H3 H3' s3 I3=>⟨H3,E2,I3,(st.trans ss2).trans s3,er⟩
  | bk E2=>cases er;exact f'.step ss2
  | rt r=>cases er;exact f'.step ss2
 ·have e3:i=ds.length:=by omega
  subst e3;rw[LV,Yf] at er;cases er;exact .inl ⟨stop.2,f' _ _ _ I'.ss I'⟩
end

noncomputable def Vy:Out->Option Sl
 | .nx _=>some (.sh .non)
 | .rt r=>some r
 | .bk _=>none
 | .ct _=>none
noncomputable def Us(N:Nat)(b:Es):List Sl->Option Sl:=fun as=>(b (as++QO (N-as.length) .no)).bind Vy
section
variable{K:Qq}{C:Qc}
theorem RRL.get{Hs H0 H:Hp}:∀{vs:List V} {ss:List Sl} {i:Nat} {s:Sl},RRL K C Hs H0 H vs ss->ss[i]?=some s->∃v,vs[i]?=some v/\RR K C Hs H0 H v s
 | _,_,_,_,.nil,e=>by simp at e
 | _,_,0,_,.cons h _,e=>by simp at e;subst e;exact⟨_,rfl,h⟩
 | _,_,i+1,s,.cons _ t,e=>by obtain⟨v,h1,h2⟩:=RRL.get (i:=i) (s:=s) t (by simpa using e);exact⟨v,by simpa using h1,h2⟩
theorem Jar{N:List Str}{n:Nat}{b:Es}{ts:TS}{vs:List V}{H:Hp}{Q:VK}{E:XK}(hb:SS K C ts b)(h:spE K C n (Us N.length b) vs H Q E):ts { nx:=fun _ H'=>Q .non H',rt:=Q } (L2.YD N vs) H:=by
 obtain⟨H0,as,r,i,ra,ho,hl,e,q⟩:=h;have lens:=ra.len
 have noOwn:∀(j:Nat) (s:Sl),as[j]?=some s->JR s=false:=fun j s e=>by
  have:=Q4.mp ho s (QX e)
  simpa using this
 have get:∀(j:Nat) (s:Sl),(as++QO (N.length-as.length) Sl.no)[j]?=some s->s=.no\/as[j]?=some s:=fun j s e=>by
  by_cases hj:j<as.length
  ·rw[QF hj] at e;exact .inr e
  ·rw[QM (by omega),KL] at e;split at e
   ·cases e;exact .inl rfl
   ·cases e
 have I:EnvR K C H H0 H (L2.YD N vs) (as++QO (N.length-as.length) .no):=by
  refine⟨Same.refl _,i,by simp[L2.YD,lens],fun j s e=>?_,fun j k s1 s2 v hjk e1 e2 w1 w2=>?_⟩
  ·rcases get j s e with z|z
   ·exact .inl z
   ·obtain⟨v,h1,h2⟩:=ra.get z;refine .inr ⟨v,?_,?_⟩
    ·unfold L2.YD;rw[QF (by have:=(Qo.mp h1).1;simpa using this),QR,h1];rfl
    ·cases s with
     | no=>trivial
     | sh d=>exact h2
     | bo ds=>exact h2
     | own ds=>exact absurd (noOwn j _ z) (by simp[JR])
     | bd ks ds=>exact h2
     | bt ks ds=>exact h2
     | od ks ds=>exact absurd (noOwn j _ z) (by simp[JR])
     | ot ks ds=>exact absurd (noOwn j _ z) (by simp[JR])
  ·rcases get j _ e1 with z|z
   ·subst z;cases w1
   ·rw[noOwn j _ z] at w1;cases w1
 obtain⟨o,e1,e⟩:=bind_some e;refine hb H H0 H _ _ o _ I e1 ?_
 cases o with
 | nx E1=>cases e;exact fun σ' H1 H1' s1 I1=>q _ H1 H1' ⟨s1.b,s1.z,s1.n,s1.i⟩ RD.non
 | rt r'=>cases e;exact fun v H1 H1' s1 r1=>q v H1 H1' ⟨s1.b,s1.z,s1.n,s1.i⟩ r1
 | bk _=>cases e
 | ct _=>cases e
theorem Jg6{P:Qp}{w:QC}{mg:Str->Option Qa}{base:QJ}{k:Nat}{f:Qc}{fd:QH}{ps:List Str}{ev:List Sl->Option Sl}(F:FnOk P w K mg base CX0 k f fd ps (spE K C 1 ev))
 (h:∀ns:List Int,ns.length<=63->ev [.sh (.fz (ns.map .int))]=some (.sh (.bl true))):FnOk P w K mg base CX0 k f fd ps (Jc2 K) :=
 F.imp fun vs H Q E ⟨a,ns,e,hS,hl,q⟩=>by subst e;exact⟨H,[.sh (.fz (ns.map .int))],_,Same.refl _,.cons (show RD K C H _ _ from RD.mkF hS (RDL.ofInts ns)) .nil,rfl,rfl,h ns hl,fun v H0' H' _ r=>by rw[RD.blI r];exact q H'⟩
structure RowK (K:Qq) (C:Qc):Prop where
 t:RowC K C
 k1:findIn K (.ref C) "__class__"=some (some (.builtin "object.__class__"))
 k2:specialIn K (.builtin "object.__class__") "__get__"=some (some (.builtin "getset_descriptor.__get__"))
 k3:takesIn K (.builtin "object.__class__")=some true
 k4:mroIn K C (.type "object")=some true
end
end LE

namespace L2
open PySem PySem.Spec PyProof.Rows
end L2
namespace LE
open PySem L2 LR
noncomputable def Jjp(a:Int):Bool:=LC a.natAbs 1152921504606846975
theorem in60_ok{a:Int}:Jjp a=true↔-1152921504606846976<a/\a<1152921504606846976:=by unfold Jjp;rw[Km];omega
section
variable{K:Qq}{C:Qc}{m:Bool}
noncomputable def Jdy:List Sl->Option Sl
 | [.sh (.int i)]=>if i.natAbs.log2<1920 then some (.sh (.str (strI i))) else none
 | _=>none
theorem Jec:UV K C Jkn Jdy:=by
 intro Hs H0 H xs as c Q i hs r e q;unfold Jdy at e;split at e
 ·split at e
  ·next hl=>cases e;obtain⟨v,rfl,r0⟩:=r.one;rw[RD.intI r0];exact JkK hl (q _ _ _ (.refl i) (RD.str _))
  ·cases e
 ·cases e
noncomputable def MtS(K:Qq)(C:Qc)(rm:V->List V->Hp->VK->Prop)(f:Str->List Sl->Option Sl):Prop:=∀(Hs H0 H:Hp) (z:Str) (xs:List V) (as:List Sl) (c:Sl) (Q:VK),Same H0 H->Same Hs H->RRL K C Hs H0 H xs as->f z as=some c ->
 (∀v H0' H',Step Hs H0 H H0' H'->RR K C Hs H0' H' v c->Q v H')->rm (.str z) xs H Q
noncomputable def str?:Sl->Option Str
 | .sh (.str z)=>some z
 | _=>none
noncomputable def eM(f:Str->List Sl->Option Sl)(o:Ev)(as:En->Option (List Sl)):Ev:=fun E=>(o E).bind fun a=>(str? a).bind fun z=>(as E).bind fun xs=>f z xs
theorem Zg{s:Sl}{z:Str}(e:str? s=some z):s=.sh (.str z):=by
 cases s with
 | sh d=>cases d with
  | str x=>cases e;rfl
  | _=>cases e
 | _=>cases e
theorem Jce{rm:V->List V->Hp->VK->Prop}{f:Str->List Sl->Option Sl}{to:TE}{eo:Ev}{t:TA}{ev:En->Option (List Sl)}(hm:MtS K C rm f)(ho:SE K C to eo)(ha:SA K C t ev):SE K C (tBM K "str" rm to t) (eM f eo ev):=by
 intro B H0 H σ E c Q I e q;obtain⟨a,e1,e⟩:=bind_some e;obtain⟨z,e2,e0⟩:=bind_some e;obtain⟨as,e3,e4⟩:=bind_some e0;obtain rfl:=Zg e2;refine ho B H0 H σ E _ _ I e1 fun x H1 H1' s1 r1=>?_
 rw[RD.strI r1];refine⟨rfl,ha B H1 H1' σ E as _ (I.step s1) e3 fun xs H2 H2' s2 r2=>?_⟩;exact hm H H2 H2' z xs as c Q s2.i (s1.h.trans s2.h) (r2.weak fun a q=>Same.free s1.h q) e4 fun v H3 H3' s3 r3=>q v H3 H3' ((s1.trans s2).comp s3 fun _ z=>z) r3
noncomputable def UZ(z:Str):List Sl->Option Sl
 | [s]=>s.r.bind fun ds=>(strs? ds).bind fun ys=>if (ys.map (·.length)).sum+ys.length*z.length<=16777216 then some (.sh (.str (K7 z ys))) else none
 | _=>none
theorem JeY:MtS K C (JcY K) UZ:=by
 intro Hs H0 H z xs as c Q i hs r e q;unfold UZ at e;split at e
 ·obtain⟨ds,e1,e⟩:=bind_some e;obtain⟨ys,e2,e⟩:=bind_some e;split at e
  ·next hl=>cases e;obtain⟨v,rfl,r0⟩:=r.one;obtain⟨l,us,rfl,h,r1⟩:=r0.r i e1;rw[Z5 e2] at r1;have:=r1.strs;subst this;exact JhF h hl (q _ _ _ (.refl i) (RD.str _))
  ·cases e
 ·cases e
end
end LE

namespace LE
open PySem L2 LR
noncomputable def okS(P:En->Prop):Option Out->Prop
 | some (.nx E)=>P E
 | some (.ct E)=>P E
 | _=>False
theorem JjW{P:En->Prop}{E:En}:okS P (some (.nx E))=P E:=rfl
theorem JjV{P:En->Prop}{E:En}:okS P (some (.ct E))=P E:=rfl
theorem Jbn{P:En->Prop}{o:Option Out}(h:okS P o):∃E,(o=some (.nx E)\/o=some (.ct E))/\P E:=by
 unfold okS at h;split at h
 ·exact⟨_,.inl rfl,h⟩
 ·exact⟨_,.inr rfl,h⟩
 ·exact h.elim
theorem WV{γ α β:Type}{p:Pt}{b:Es}{f:α->D}{k:Out->Option γ}{r:Option γ}(R:List α->β->En->Prop)(g:β->α->β):∀{as:List α} {E:En} (s:β) (h0:R as s E)
 (h:∀a as s E,R (a::as) s E->okS (R as (g s a)) ((p.bind (f a) E).bind b)) (fin:∀E',R [] (as.foldl g s) E'->k (.nx E')=r),(Yf p b (as.map f) E).bind k=r
 | [],E,s,h0,_,fin=>fin E h0
 | a::as,E,s,h0,h,fin=>by
  obtain⟨E2,e2,r2⟩:=Jbn (h a as s E h0);have ih:=WV (k:=k) (r:=r) R g (as:=as) (E:=E2) (g s a) r2 h fin;rw[Qt,Yf]
  cases hp:p.bind (f a) E with
  | none=>rw[hp] at e2;rcases e2 with e2|e2 <;> cases e2
  | some E1=>rw[hp,Qi] at e2;rw[Qi];rcases e2 with e2|e2 <;> (rw[e2,Qi];exact ih)
theorem JeX{γ:Type}{p:Pt}{b:Es}{f:Nat->D}{n:Nat}{E:En}{k:Out->Option γ}{r:Option γ}(R:Nat->En->Prop)(h0:R 0 E)
 (h:∀i E,i<n->R i E->okS (R (i+1)) ((p.bind (f i) E).bind b)) (fin:∀E',R n E'->k (.nx E')=r):(Yf p b ((G7 n).map f) E).bind k=r:=by
 refine WV (fun(as:List Nat) (i:Nat) E=>i+as.length=n/\as=LD i as.length/\R i E) (fun i _=>i+1) 0 ⟨by simp,by simp[K8],h0⟩ (fun a as i E ⟨hk,e,q⟩=>?_) fun E' ⟨hk,_,q⟩=>?_
 ·rw[Qk,LW] at e;have e1:a=i:=(LM e).1;subst e1;obtain⟨E2,e2,r2⟩:=Jbn (h a E (by rw[Qk] at hk;omega) q);have fin2:(a+1)+as.length=n/\as=LD (a+1) as.length/\R (a+1) E2:=⟨by rw[Qk] at hk;omega,(LM e).2,r2⟩
  rcases e2 with e2|e2 <;> (rw[e2];exact fin2)
 ·have e3:(G7 n).foldl (fun i _=>i+1) 0=n:=by simpa using hk
  rw[e3] at q;exact fin E' q
theorem Y4{α:Type}{p:Pt}{a:Ev}{E1:En}{f g:α->D}:∀{xs:List α},(∀x∈xs,((p.bind (f x) E1).bind a).bind Sl.frz=some (g x))->Y2 p yes? a E1 (xs.map f)=some (xs.map g)
 | [],_=>rfl
 | x::xs,h=>by have h1:=h x QB;obtain⟨s,e1,e2⟩:=bind_some h1;obtain⟨E2,e3,e4⟩:=bind_some e1;rw[Qt,Y2,e3];simp only[Qi,yes?,if_true,e4,e2];rw[Y4 fun y hy=>h y (Qj _ hy)];rfl
theorem JmJ(n:Nat):rng 0 n=(G7 n).map fun i=>.int (i:Int):=by unfold rng;exact KB fun i _=>by rw[Int.zero_add]
theorem JhZ:Qu=16777216:=rfl
theorem YG{α β:Type}(f:α->β)(xs:List α)(i:Int):atI (xs.map f) i=(atI xs i).map f:=by
 unfold atI;rw[Qy]
 cases ixN xs.length i with
 | none=>rfl
 | some j=>simp
theorem UW{α:Type}{xs:List α}{k:Nat}(h:k<xs.length):atI xs (k:Int)=some xs[k]:=by unfold atI ixN;rw[if_pos (by omega),if_pos (by omega)];simp[h]
theorem JaV{ns:List Int}{k:Int}(h0:0<=k)(h:k<(ns.length:Int)):atI ns k=some (cell ns k):=by
 obtain⟨j,rfl⟩:=Int.eq_ofNat_of_zero_le h0;have hj:j<ns.length:=by omega
 rw[UW hj];simp[cell,hj]
theorem Jd8{l:List Int}{k:Int}(h0:0<=k)(h1:k<(l.length:Int)):atI (l.map D.int) k=some (.int (Je9 l k)):=by rw[YG,JaV h0 h1];rfl
structure Kd {α:Type} (f:α->D) (n:Nat):Prop where
 lay:∀a,(f a).py.canLay0=true
 dep:∀a,(f a).py.depth<=n
 eqv:∀a b,Gx (f a).py (f b).py=true↔a=b
theorem Kd.eq{α:Type}[DecidableEq α]{f:α->D}{n:Nat}(k:Kd f n)(h:n<=60)(a b:α):eqD (f a) (f b)=some (decide (a=b)):=by unfold eqD;have:=k.dep a;rw[k.lay a,k.lay b,if_pos (by simp;omega)];congr 1;rw[Ga,k.eqv];simp
theorem Jjz:Kd D.int 1:=⟨fun _=>rfl,fun _=>by simp[D.py,GR],fun a b=>by show(a == b)=true↔_;simp⟩
theorem V5{α:Type}{f:α->D}{n:Nat}(k:Kd f n):(∀xs:List α,QS (D.pyL (xs.map f))=true)/\(∀xs:List α,Gn (D.pyL (xs.map f))<=n)/\∀xs ys:List α,Gh (D.pyL (xs.map f)) (D.pyL (ys.map f))=true↔xs=ys:=by
 refine⟨fun xs=>?_,fun xs=>?_,fun xs=>?_⟩
 ·induction xs with
  | nil=>rfl
  | cons x xs ih=>show(GI _ && QS _)=true;rw[k.lay,ih];rfl
 ·induction xs with
  | nil=>simp[D.pyL,Gn]
  | cons x xs ih=>have:=k.dep x;simp only[Qt,D.pyL,Gn];omega
 ·induction xs with
  | nil=>intro ys;cases ys with
   | nil=>simp[D.pyL,Gh]
   | cons y ys=>simp[D.pyL,Gh]
  | cons x xs ih=>intro ys;cases ys with
   | nil=>simp[D.pyL,Gh]
   | cons y ys=>simp only[Qt,D.pyL,Gh,QL,k.eqv,ih,List.cons.injEq]
theorem V6{α:Type}{f:α->D}{n:Nat}(k:Kd f n):Kd (fun xs:List α=>D.lst (xs.map f)) (n+1) :=
 ⟨fun xs=>(V5 k).1 xs,fun xs=>by have:=(V5 k).2.1 xs;simp only[D.py,GR];omega,fun xs ys=>by simp only[D.py,Gx];exact(V5 k).2.2 xs ys⟩
theorem JjA{α:Type}{f:α->D}{n:Nat}(k:Kd f n):Kd (fun xs:List α=>D.tup (xs.map f)) (n+1) :=
 ⟨fun xs=>(V5 k).1 xs,fun xs=>by have:=(V5 k).2.1 xs;simp only[D.py,GR];omega,fun xs ys=>by simp only[D.py,Gx];exact(V5 k).2.2 xs ys⟩
theorem kd_pr:Kd prE 2:=⟨fun _=>rfl,fun _=>by simp[prE,D.py,D.pyL,GR,Gn],fun a b=>by obtain⟨a1,a2⟩:=a;obtain⟨b1,b2⟩:=b;simp[prE,D.py,D.pyL,Gx,Gh]⟩
theorem Ji7(a b:Pr):eqD (prE a) (prE b)=some (decide (a=b)):=kd_pr.eq (by decide) a b
theorem Jgs(a b:List Pr):eqD (.lst (a.map prE)) (.lst (b.map prE))=some (decide (a=b)):=(V6 kd_pr).eq (by decide) a b
theorem Jgt(a b:List Pr):eqD (.tup (a.map prE)) (.tup (b.map prE))=some (decide (a=b)):=(JjA kd_pr).eq (by decide) a b
theorem Jes(a b:List Int):eqD (.lst (a.map .int)) (.lst (b.map .int))=some (decide (a=b)):=(V6 Jjz).eq (by decide) a b
section
variable{a b:Int}{xs ys:List D}{d:D}{x y:Str}{E:En}{B:Es}{r:Sl}
theorem YX:JfD B (.nx E)=B E:=rfl
theorem JhX:JfD B (.rt r)=some (.rt r):=rfl
theorem JhV:JfD B (.bk E)=some (.bk E):=rfl
theorem JhW:JfD B (.ct E)=some (.ct E):=rfl
theorem Jgp:Vy (.nx E)=some (.sh .non):=rfl
theorem Jgq:Vy (.rt r)=some r:=rfl
theorem Jlu{g:Int->Int->D}:fI g (.sh (.int a)) (.sh (.int b))=some (.sh (g a b)):=rfl
theorem JgO(h:(-18446744073709551616<a/\a<18446744073709551616)\/(-18446744073709551616<b/\b<18446744073709551616)):V3 (.sh (.int a)) (.sh (.int b))=some (.sh (.int (a*b))):=by show(if _ then _ else _)=_;rw[if_pos];simp only[Me,UM];exact h
theorem JgN(h:0<b):Yt (.sh (.int a)) (.sh (.int b))=some (.sh (.int (a % b))):=by show(if _ then _ else _)=_;rw[if_pos (by simpa using h)]
theorem JgJ(h:0<b/\b<1073741824):YM (.sh (.int a)) (.sh (.int b))=some (.sh (.int (a / b))):=by show(if _ then _ else _)=_;rw[if_pos (smallP_ok.mpr h)]
theorem JgQ(h:0<=b/\b<=1000000/\-1000<a/\a<1000):JbP (.sh (.int a)) (.sh (.int b))=some (.sh (.int (a ^ b.toNat))):=by show(if _ then _ else _)=_;rw[if_pos];simp only[QL,decide_eq_true_eq,Km,UM];omega
theorem JgP:UY (.sh (.int a))=some (.sh (.int (-a))):=rfl
theorem JgB:JJ (.sh (.int a)) (.sh (.int b))=some (.sh (.int (a+b))):=rfl
theorem Wt(h:x.length+y.length<=16777216):JJ (.sh (.str x)) (.sh (.str y))=some (.sh (.str (x++y))):=if_pos h
theorem Uy{p q:Sl}(h1:p.m=some xs)(h2:q.m=some ys)(h:xs.length+ys.length<=16777216):Jdx p q=some (.own (xs++ys)):=by unfold Jdx;rw[h1,h2];exact if_pos h
theorem JgF(h:xs.length+ys.length<=16777216):JJ (.own xs) (.own ys)=some (.own (xs++ys)):=Uy rfl rfl h
theorem JgE(h:xs.length+ys.length<=16777216):JJ (.own xs) (.bo ys)=some (.own (xs++ys)):=Uy rfl rfl h
theorem Jgz(h:xs.length+ys.length<=16777216):JJ (.bo xs) (.own ys)=some (.own (xs++ys)):=Uy rfl rfl h
theorem Jgy(h:xs.length+ys.length<=16777216):JJ (.bo xs) (.bo ys)=some (.own (xs++ys)):=Uy rfl rfl h
theorem JgG(h:xs.length+ys.length<=16777216):JJ (.own xs) (.sh (.lst ys))=some (.own (xs++ys)):=Uy rfl rfl h
theorem JgH(h:xs.length+ys.length<=16777216):JJ (.sh (.lst xs)) (.own ys)=some (.own (xs++ys)):=Uy rfl rfl h
theorem JgC(h:xs.length+ys.length<=16777216):JJ (.sh (.lst xs)) (.bo ys)=some (.own (xs++ys)):=Uy rfl rfl h
theorem JgA(h:xs.length+ys.length<=16777216):JJ (.bo xs) (.sh (.lst ys))=some (.own (xs++ys)):=Uy rfl rfl h
theorem JgD(h:xs.length+ys.length<=16777216):JJ (.sh (.lst xs)) (.sh (.lst ys))=some (.own (xs++ys)):=Uy rfl rfl h
theorem Jjh(h:x.length<=16777216):Ui [.sh (.str x)]=some (.sh (.int x.length)):=if_pos h
theorem Jjf:Ui [.sh (.lst xs)]=some (.sh (.int xs.length)):=rfl
theorem Jje:Ui [.sh (.fz xs)]=some (.sh (.int xs.length)):=rfl
theorem Jji:Ui [.sh (.tup xs)]=some (.sh (.int xs.length)):=rfl
theorem Jjd:Ui [.bo xs]=some (.sh (.int xs.length)):=rfl
theorem Jjg:Ui [.own xs]=some (.sh (.int xs.length)):=rfl
theorem Jlx:fIx (.sh (.lst xs)) (.sh (.int a))=(atI xs a).map .sh:=rfl
theorem Jlw:fIx (.sh (.fz xs)) (.sh (.int a))=(atI xs a).map .sh:=rfl
theorem Jlz:fIx (.sh (.tup xs)) (.sh (.int a))=(atI xs a).map .sh:=rfl
theorem Jlv:fIx (.bo xs) (.sh (.int a))=(atI xs a).map .sh:=rfl
theorem Jly:fIx (.own xs) (.sh (.int a))=(atI xs a).map .sh:=rfl
theorem JgR(h:a.natAbs.log2<1920):Jdy [.sh (.int a)]=some (.sh (.str (strI a))):=if_pos h
theorem Ji3:eqA (.int a) (.int b)=some (decide (a=b)):=rfl
theorem Ji5:eqA (.str x) (.str y)=some (decide (x=y)):=rfl
theorem Ji2{p q:Bool}:eqA (.bl p) (.bl q)=some (decide (p=q)):=rfl
theorem Ji4(p q:Pr):eqA (prE p) (prE q)=some (decide (p=q)):=Ji7 p q
theorem JiY(p q:List Pr):eqA (.lst (p.map prE)) (.lst (q.map prE))=some (decide (p=q)):=Jgs p q
theorem Ji1(p q:List Pr):eqA (.tup (p.map prE)) (.tup (q.map prE))=some (decide (p=q)):=Jgt p q
theorem JiX(p q:List Int):eqA (.lst (p.map .int)) (.lst (q.map .int))=some (decide (p=q)):=Jes p q
theorem Jjr(h:-4611686018427387904<a/\a<4611686018427387904):JeL a=true:=by unfold JeL;rw[Km];omega
theorem Jjq(h:-1152921504606846976<a/\a<1152921504606846976):Jjp a=true:=in60_ok.mpr h
theorem JfH(h:0<a/\a<1073741824):JaN a=true:=smallP_ok.mpr h
theorem U9{s:Sl}{ns:List Int}(e:s.q=some (ns.map .int)):V4 [s]=some (.sh (.int ns.sum)):=by show(s.q.bind _)=_;rw[e,Qi,WN];rfl
theorem JgI{s:Sl}{ns:List Bool}(e:s.q=some (ns.map .bl)):JeA [s]=some (.sh (.bl (ns.all id))):=by show(s.q.bind _)=_;rw[e,Qi,Jcp];rfl
theorem Jlk{i:Nat}:(Pt.nm i).bind d E=if i<E.length then some (E.set i (.sh d)) else none:=by rw[Pt.bind]
theorem Jll{l:Pts}:(Pt.tp l).bind (.tup xs) E=l.bind xs E:=by rw[Pt.bind]
theorem Jf6:Pts.nil.bind [] E=some E:=by rw[Pts.bind]
theorem Jd6{q:Pt}{l:Pts}:(Pts.cons q l).bind (d::xs) E=(q.bind d E).bind fun E'=>l.bind xs E':=by rw[Pts.bind]
theorem Jmp:((0:Nat):Int)=0:=rfl
theorem Jmq:((1:Nat):Int)=1:=rfl
theorem Jmr:((2:Nat):Int)=2:=rfl
theorem Jms:((3:Nat):Int)=3:=rfl
theorem Jmt:((4:Nat):Int)=4:=rfl
theorem JdE:D.isNon .non=true:=rfl
theorem JdC:D.isNon (.int a)=false:=rfl
theorem JeN{k:Bool}:D.isNon (.bl k)=false:=rfl
theorem JdG:D.isNon (.str x)=false:=rfl
theorem JdH:D.isNon (.tup xs)=false:=rfl
theorem JdD:D.isNon (.lst xs)=false:=rfl
theorem JeO:D.isNon (.fz xs)=false:=rfl
theorem JdF:D.isNon (.row xs)=false:=rfl
theorem JjG:Jbf "int" "int"=true:=by decide
theorem Jg3:Jbf "int" "bool"=false:=by decide
theorem JjF:Jbf "bool" "bool"=true:=by decide
theorem JjJ:Jbf "tuple" "tuple"=true:=by decide
theorem JjH:Jbf "list" "list"=true:=by decide
theorem JjI:Jbf "str" "str"=true:=by decide
end
end LE

namespace HT
open PySem PySem.Spec PyProof.Rows
section
variable{prog:Qp}{w:QC}{A:Qx}{E:Qa->Qd->Prop}{s:Qd}
theorem VB{t sl:Qc}{items:Array Qa}{vl vu:Qa}{lo hi:Option Int}{Q:Qa->Qd->Prop}(ht:IsTup s.heap t items)(hs:s.heap.IsSliceOf sl vl vu .none)(pl:IsPart vl lo)(pu:IsPart vu hi)
 (hw:sIx items.size 0 lo=0/\sIx items.size items.size hi=items.size) (h:Q (.ref t) s):wpAny (model prog w) A (getItem (.ref t) (.ref sl)) Q E s:=by
 obtain⟨os,hos,hcs,hds⟩:=id hs;have hTs:s.TypeIs (.ref sl) "slice":=⟨os,hos,hcs⟩
 unfold getItem
 try with_reducible refine Gg ?_
 first|refine Qe (Qw ?_)|skip
 refine Qe (wpAny_sequenceKey ht.typeIs (by decide) ?_);refine Qe (Gf (name:=Qf "__getitem__") ht.typeIs QZ
  (G3 QZ ht.typeIs entry_tuple_getitem ?_ (args_tuple_getitem _ _)))
 show wpAny _ _ (Lp (.ref t) >>= _) _ _ s;refine Qe (tupleItemsOf_ ht ?_);refine Qe (L9 hTs ?_);rw[if_pos (by decide)];refine Qe (Uw hs pl pu ?_)
 have yes:(((sIx items.size 0 lo:Nat):Int) == 0 && (1:Int) == 1 && (sIx items.size items.size hi-sIx items.size 0 lo) == items.size)=true:=by rw[hw.1,hw.2];simp
 show wpAny _ _ (if (((sIx items.size 0 lo:Nat):Int) == 0 && (1:Int) == 1 && (sIx items.size items.size hi-sIx items.size 0 lo) == items.size)=true then _ else _) _ _ s;rw[if_pos yes];unfold Builtin.Tuple.tupleIsExact;refine Qe (Qe (L9 ht.typeIs (Qw ?_)));rw[if_pos (by decide)];refine Qe (wpAny_rule ?_);exact Qw ⟨_,rfl,Qw h⟩
end
end HT
namespace L2
open PySem PySem.Spec PyProof.Rows
section
variable{X:Cx}{K:Qq}
noncomputable def Jl4(K:Qq):V->Option Int->Option Int->Hp->VK->Prop:=fun x lo hi H Q=>∃a xs,x=.ref a/\SqT K H a xs/\(HT.sIx xs.length 0 lo=0/\HT.sIx xs.length xs.length hi=xs.length)/\Q (.ref a) H
theorem JfG:SlR X (Jl4 X.K):=by
 intro pins s σ H x v vl vu lo hi sl Q I rx hs pl pu h;obtain⟨a,xs,rfl,hx,hw,q⟩:=h;cases rx;obtain⟨its,r,ht,hz⟩:=I.tuple hx;have hlen:its.toArray.size=xs.length:=by rw[Qn];exact r.length.symm
 refine⟨"tuple",_,QZ.lookup,ht.typeIs,?_⟩;exact HT.VB ht hs pl pu (by rw[hlen];exact hw) ⟨.ref a,H,I,rfl,q⟩
noncomputable def Jkm(K:Qq):V->Option Int->Option Int->Hp->VK->Prop:=fun x lo hi H Q=>Jl1 K x lo hi H Q\/Jl3 K x lo hi H Q\/Jl4 K x lo hi H Q
theorem Ww(hK:X.K=K):SlR X (Jkm K):=by subst hK;exact sl_list.or (sl_tup.or JfG)
end
end L2
namespace LE
open PySem L2 LR
noncomputable def Jaj{α:Type}(xs:List α)(lo hi:Option Int):List α:=(xs.drop (HT.sIx xs.length 0 lo)).take (HT.sIx xs.length xs.length hi-HT.sIx xs.length 0 lo)
noncomputable def fSl(s:Sl)(lo hi:Option Int):Option Sl:=match s with
 | .sh (.tup ds)=>some (.sh (.tup (Jaj ds lo hi)))
 | s=>s.r.map fun ds=>.own (Jaj ds lo hi)
noncomputable def UX(o:Option Ev):En->Option (Option Int):=fun E=>match o with
 | none=>some none
 | some a=>(a E).bind fun s=>match s with
  | .sh (.int i)=>some (some i)
  | _=>none
noncomputable def eSl(a:Ev)(lo hi:Option Ev):Ev:=fun E=>(a E).bind fun s=>(UX lo E).bind fun l=>(UX hi E).bind fun h=>fSl s l h
section
variable{K:Qq}{C:Qc}{te:TE}{ea:Ev}{tl th:TO}{el eh:Option Ev}
noncomputable def SP'(K:Qq)(C:Qc)(t:TO)(ev:En->Option (Option Int)):Prop:=∀(B H0 H:Hp) (σ:St) (E:En) (r:Option Int) (Q:Option Int->Hp->Prop),EnvR K C B H0 H σ E->ev E=some r ->
 (∀H0' H',Step H H0 H H0' H'->Q r H')->t σ H Q
theorem V9:SP' K C JaP (UX none):=fun _ _ _ _ _ _ _ I e q=>by cases e;exact q _ _ (.refl I.h)
theorem Wa(ha:SE K C te ea):SP' K C (JfP te) (UX (some ea)):=by
 intro B H0 H σ E r Q I e q;obtain⟨s,e1,e⟩:=bind_some e;split at e
 ·cases e;exact ha B H0 H σ E _ _ I e1 fun x H1 H1' s1 r1=>⟨_,RD.intI r1,q _ _ s1⟩
 ·cases e
theorem RDL.cut{H:Hp}{xs:List V}{ds:List D}{lo hi:Option Int}(r:RDL K C H xs ds):RDL K C H (Zx xs lo hi) (Jaj ds lo hi):=by unfold Zx Jaj;rw[r.1];exact(r.drop _).take _
theorem JhU(ha:SE K C te ea)(hl:SP' K C tl (UX el))(hh:SP' K C th (UX eh)):SE K C (tSl (Jkm K) te tl th) (eSl ea el eh):=by
 intro B H0 H σ E c Q I e q;obtain⟨s,e1,e⟩:=bind_some e;obtain⟨l,e2,e⟩:=bind_some e;obtain⟨h,e3,e⟩:=bind_some e;refine ha B H0 H σ E _ _ I e1 fun x H1 H1' s1 r1=>hl B H1 H1' σ E l _ (I.step s1) e2 fun H2 H2' s2=>hh B H2 H2' σ E h _ (I.step (s1.trans s2)) e3 fun H3 H3' s3=>?_
 have s13:=(s1.trans s2).trans s3
 have r3:=(r1.step s2).step s3
 have lst:∀{ds:List D},s.r=some ds->c=.own (Jaj ds l h)->Jkm K x l h H3' Q:=fun {ds} er ec=>by subst ec;obtain⟨a,xs,rfl,hq,r⟩:=r3.r s13.i er;exact .inl ⟨a,xs,rfl,hq,fun p hp=>UE s13.i s13.h hp r.cut fun v H4 H4' s4 r4=>q v H4 H4' (s13.comp s4 fun _ z=>z) r4⟩
 unfold fSl at e;split at e
 ·cases e;obtain⟨a,xs,rfl,hq,r⟩:=RD.tupI r3
  by_cases hw:HT.sIx xs.length 0 l=0/\HT.sIx xs.length xs.length h=xs.length
  ·refine .inr (.inr ⟨a,xs,rfl,s13.i.seqT hq,hw,q _ _ _ s13 ?_⟩);have e5:Zx xs l h=xs:=by unfold Zx;rw[hw.1,hw.2];simp
   have r5:=r.cut (lo:=l) (hi:=h);rw[e5] at r5;exact RD.mkT hq r5
  ·exact .inr (.inl ⟨a,xs,rfl,s13.i.seqT hq,hw,fun p hp=>Wz s13.i s13.h hp r.cut fun v H4 H4' s4 r4=>q v H4 H4' (s13.comp s4 fun _ z=>z) r4⟩)
 ·obtain⟨ds,e4,e5⟩:=map_some e;exact lst e4 e5.symm
end
end LE

namespace PySem
section
variable{prog:Qp}{w:QC}{A:Qx}
theorem Draws.tup(hh:A.handled=none)(j a:Qc)(ne:a≠j)(xs:Array Qa):Draws prog w A j [j,a] xs.size (fun i v=>xs[i]?=some v) (fun i h=>h.IsTupleIter j a i/\h.IsTuple a xs) where
 live:=fun _ _ q=>let ⟨o,ho,_⟩:=q.1;⟨o,ho⟩
 frame:=fun _ _ _ q k=>⟨q.1.at fun o e=>k j (by simp) o e,q.2.at fun o e=>k a (by simp) o e⟩
 item:=fun i s Q E hi q hQ=>by
  obtain⟨o,ho,hc,hd⟩:=id q.1;obtain⟨ol,hol,_,nl,hdl⟩:=id q.2;have hx:xs[i]?=some xs[i]:=by simp[hi]
  unfold Lv;refine Qe (Gf (name:=Qf "__next__") q.1.typeIs GJ (G3 GJ q.1.typeIs Li ?_ (Ld _)));show wpAny _ _ (field (.ref j) 0 >>= _) _ _ s;refine Qe (Q5 ho hd (x:=.ref a) rfl ?_);show wpAny _ _ (if (Value.ref a == Value.none)=true then _ else _) _ _ s;rw[if_neg (show ¬((Value.ref a == Value.none)=true) from QA)]
  show wpAny _ _ (field (.ref j) 1 >>= _) _ _ s;refine Qe (Q5 ho hd (x:=.int i 0) rfl (show wpAny _ _ (seqItems? (.ref a) >>= _) _ _ s from Qe (wpAny_seqItems hol hdl ?_)));simp only[Gv,hx];refine Qe (GK ho hd (by simp) (Qw ⟨xs[i],rfl,Qw (hQ _ _ s.toks hx ⟨⟨_,Go _ ho (Kg (Gq hd _)),(LG ..).trans hc,?_⟩,q.2.extBut (Lf ..).extBut ne⟩ (Lf ..))⟩))
  rw[Gq hd];simp[rawInt]
 done:=fun s Q E q hE=>by
  obtain⟨o,ho,hc,hd⟩:=id q.1;obtain⟨ol,hol,_,nl,hdl⟩:=id q.2;have hx:xs[xs.size]?=none:=by simp
  unfold Lv;refine Qe (Gf (name:=Qf "__next__") q.1.typeIs GJ (G3 GJ q.1.typeIs Li ?_ (Ld _)));show wpAny _ _ (field (.ref j) 0 >>= _) _ _ s;refine Qe (Q5 ho hd (x:=.ref a) rfl ?_);show wpAny _ _ (if (Value.ref a == Value.none)=true then _ else _) _ _ s;rw[if_neg (show ¬((Value.ref a == Value.none)=true) from QA)]
  show wpAny _ _ (field (.ref j) 1 >>= _) _ _ s;refine Qe (Q5 ho hd (x:=.int xs.size 0) rfl (show wpAny _ _ (seqItems? (.ref a) >>= _) _ _ s from Qe (wpAny_seqItems hol hdl ?_)));simp only[Gv,hx];refine Qe (wpAny_rule (Qe (GK ho hd (by simp) (show wpAny _ _ (newExc (.type "StopIteration") [] >>= _) _ _ _ from Qe ?_))));simp only[newExc,newTuple];refine Qe (Gi (Qe (m:=firstArgMember _ _) (wpAny_of_eq (a:=Value.none) (by first | rfl | (simp only[firstArgMember];rfl)) (Gi ?_ (by size_fits)))) (by size_fits))
  simp only[raiseNew];refine Qe (wpAny_handled ?_)
  first|rw[show A.in1.handled=none from hh]|rw[hh]
  refine Qe (Qw (wpAny_throw ?_));exact hE _ _ (((Lf ..).extBut.push _).push _) ⟨_,Qz _ rfl,rfl⟩
end

structure ZA (z TI TO i1 i2:Qc) (p1 p2:List Qc):Prop where
 a1:TI≠z
 a2:TO≠z
 a3:TI≠TO
 m1:i1∈p1
 m2:i2∈p2
 z1:z∉p1
 z2:z∉p2
 t1:TI∉p1
 t2:TI∉p2
 o1:TO∉p1
 o2:TO∉p2
 x1:i1∉p2
 x2:i2∉p1
section
variable{prog:Qp}{w:QC}{A:Qx}{E:Qa->Qd->Prop}{s:Qd}{z TI TO i1 i2:Qc}{p1 p2:List Qc}{n1 n2 k:Nat}{P1 P2:Nat->Qa->Prop}{S1 S2:Nat->QJ->Prop}
end
end PySem

namespace PySem
def IsSq(b:Bool)(h:QJ)(a:Qc)(xs:Array Qa):Prop:=match b with
 | true=>h.IsTuple a xs
 | false=>h.IsList a xs
def IsItr(b:Bool)(h:QJ)(j a:Qc)(i:Nat):Prop:=match b with
 | true=>h.IsTupleIter j a i
 | false=>h.IsListIter j a i
def itO(b:Bool)(a:Qc):Obj:=match b with
 | true=>{ cls:=.type "tuple_iterator",data:=.fields #[.ref a,.int 0 0] }
 | false=>{ cls:=.type "list_iterator",data:=.fields #[.ref a,.int 0 0] }
section
variable{prog:Qp}{w:QC}{A:Qx}{E:Qa->Qd->Prop}{s:Qd}{b b1 b2:Bool}{a a1 a2:Qc}{xs ys:Array Qa}
theorem IsSq.push{h:QJ}(q:IsSq b h a xs)(o:Obj):IsSq b (h.push o) a xs:=by
 cases b with
 | true=>exact Heap.IsTuple.push q o
 | false=>exact Heap.IsList.push q o
theorem IsSq.lt{h:QJ}(q:IsSq b h a xs):a<h.objs.size:=by
 cases b with
 | true=>obtain⟨o,e,_⟩:=q;exact Qm e
 | false=>obtain⟨o,e,_⟩:=q;exact Qm e
theorem IsItr.new{h:QJ}(e:h.get? a1=some (itO b a)):IsItr b h a1 a 0:=by
 cases b with
 | true=>exact⟨_,e,rfl,rfl⟩
 | false=>exact⟨_,e,rfl,rfl⟩
theorem Wc{Q:Qa->Qd->Prop}(q:IsSq b s.heap a xs)(h:Q (.ref s.heap.objs.size) { s with heap:=s.heap.push (itO b a) }):wpAny (model prog w) A (pyIter (.ref a)) Q E s:=by
 cases b with
 | true=>exact Lm q h
 | false=>exact Ly q h
theorem Draws.sq(hh:A.handled=none)(j:Qc)(ne:a≠j):Draws prog w A j [j,a] xs.size (fun i v=>xs[i]?=some v) (fun i h=>IsItr b h j a i/\IsSq b h a xs):=by
 cases b with
 | true=>exact Draws.tup hh j a ne xs
 | false=>exact Draws.list hh j a ne xs
end
end PySem

namespace L2
open PySem PySem.Spec PyProof.Rows
section
variable{X:Cx}{pins:List (Qc×Obj)}{σ:St}{H:Hp}{s:Qd}{h':QJ}
theorem Inv.turnedL{t':Nat}{fp:List Qc}(I:Inv X pins σ H s)(k:∀b o,b∉fp->s.heap.get? b=some o->h'.get? b=some o)(hf:∀b∈fp,FpOk X pins H b):Inv X pins σ H { s with heap:=h',toks:=t' }:=by
 have nit:∀b u,H b=some u->b∉fp:=fun b u e z=>by rw[(hf b z).1] at e;cases e
 refine I.step (g':=s.gens) (d':=s.drawn) (ch:=fp) (fun b hb=>?_) (fun b o _ _ hc e _=>k b o hc e) (fun b o _ _ hc e _=>⟨o.slots,k b o hc e⟩) (fun _ _ _ _ n=>n)
  (fun b o hc e=>⟨o,k b o hc e⟩) (fun _ _ e=>e) (fun _ _ _ e=>e) (fun b ps e=>⟨#[],by rw[e];simp⟩) (fun m hm=>?_) (fun b u e=>?_) I.bare
 ·obtain⟨f0,f1,f2,f3,f4,f5⟩:=hf b hb;exact⟨f3,f1,f4,f5⟩
 ·obtain⟨o,es,ep,ho,r⟩:=hm;exact⟨o,es,ep,k _ o (fun z=>(hf _ z).2.1 rfl) ho,r⟩
 ·refine(I.hok b u e).stay (fun c v hc q=>k c v ?_ q) (fun _ q=>q) fun _ _ q=>q
  rcases hc with z|z
  ·rw[z];exact nit b u e
  ·exact nit c _ z
noncomputable def Sq(b:Bool)(K:Qq)(H:Hp)(a:Qc)(xs:List V):Prop:=match b with
 | true=>SqT K H a xs
 | false=>SqL K H a xs
theorem Sq.heap{b:Bool}{a:Qc}{xs:List V}(I:Inv X pins σ H s)(q:Sq b X.K H a xs):∃its:List Qa,Vals xs its/\IsSq b s.heap a its.toArray:=by
 cases b with
 | true=>obtain⟨its,r,p,_⟩:=I.tuple q;exact⟨its,r,p⟩
 | false=>obtain⟨its,r,p,_⟩:=I.list q;exact⟨its,r,p.isList⟩
theorem Sq.inj{b:Bool}{a:Qc}{xs ys:List V}(I:Inv X pins σ H s)(q:Sq b X.K H a xs)(q':Sq b X.K H a ys):xs=ys:=by
 cases b with
 | true=>exact I.tuple_inj q q'
 | false=>exact I.list_inj q q'
theorem FpOk.off{b:Bool}{a c:Qc}{xs:List V}(I:Inv X pins σ H s)(q:Sq b X.K H a xs)(f:FpOk X pins H c):a≠c:=by
 intro e;subst e;have own:∀{o:HO},H a=some o->False:=fun h=>by rw[f.1] at h;cases h
 have mod:∀{o:Obj},X.K.lookup a=some o->False:=fun {o} h=>by
  have hb:=I.ok.mod.kin a o h;rcases f.2.2.2.1 with z|z
  ·exact I.ok.noex a o hb z
  ·exact absurd (Qm hb) (Nat.not_lt.mpr (QK I.ok.bsz z))
 cases b with
 | true =>
  rcases q with (h|⟨o,h⟩)|⟨o,its,n,h,_⟩
  ·exact own h
  ·exact own h
  ·exact mod h
 | false =>
  rcases q with (h|⟨o,h⟩)|⟨o,its,n,h,_⟩
  ·exact own h
  ·exact own h
  ·exact mod h
theorem IsItr.keep{b:Bool}{h h':QJ}{j a:Qc}{i:Nat}(q:IsItr b h j a i)(k:∀o,h.get? j=some o->h'.get? j=some o):IsItr b h' j a i:=by
 cases b with
 | true=>obtain⟨o,e,r⟩:=q;exact⟨o,k o e,r⟩
 | false=>obtain⟨o,e,r⟩:=q;exact⟨o,k o e,r⟩
theorem IsItr.obj{b:Bool}{h:QJ}{j a:Qc}{i:Nat}(q:IsItr b h j a i):∃o,h.get? j=some o/\∀v,o.data≠.cell v:=by
 cases b with
 | true=>obtain⟨o,e,_,d⟩:=q;exact⟨o,e,fun v z=>by rw[d] at z;cases z⟩
 | false=>obtain⟨o,e,_,d⟩:=q;exact⟨o,e,fun v z=>by rw[d] at z;cases z⟩
end
end L2

namespace LE
open PySem L2 LR
section
variable{K:Qq}{C:Qc}{m:Bool}
theorem Jmw{H H1 H1':Hp}{v:V}{s:Sl}{ds:List D}(r:RR K C H H1 H1' v s)(i:Same H1 H1')(e:s.it m=some ds) :
 ∃(b:Bool) (a:Qc) (xs:List V),v=.ref a/\(∀A,(m=true->A=H1')->∀H0' H',SStep A (YN H H1 H1') H0' H'->Sq b K H' a xs)/\RDL K C (YN H H1 H1') xs ds:=by
 have f:=JX (Hs:=H) i
 have shared:∀{d:D},RD K C (YN H H1 H1') v d->(Sl.sh d).q=some ds->∃(b:Bool) (a:Qc) (xs:List V),v=.ref a/\(∀A,(m=true->A=H1')->∀H0' H',SStep A (YN H H1 H1') H0' H'->Sq b K H' a xs)/\RDL K C (YN H H1 H1') xs ds:=fun {d} r e=>by
  cases d with
  | lst es=>cases e;obtain⟨l,xs,h1,h2,h3⟩:=RD.lstI r;exact⟨false,l,xs,h1,fun A _ H0' H' st=>SqL.of (st.i _ _ (st.z _ _ h2)),h3⟩
  | fz es=>cases e;obtain⟨l,xs,h1,h2,h3⟩:=RD.fzI r;exact⟨false,l,xs,h1,fun A _ H0' H' st=>(st.z.trans st.i).seq h2,h3⟩
  | tup es=>cases e;obtain⟨l,xs,h1,h2,h3⟩:=RD.tupI r;exact⟨true,l,xs,h1,fun A _ H0' H' st=>(st.z.trans st.i).seqT h2,h3⟩
  | _=>cases e
 cases s with
 | no=>cases e
 | sh d=>exact shared (RD.mono f.z r) e
 | own es=>exact shared (RR.frz (s:=.own es) i r rfl) e
 | bd _ _=>cases e
 | bt _ _=>cases e
 | od _ _=>cases e
 | ot _ _=>cases e
 | bo es =>
  unfold Sl.it at e;dsimp only at e;split at e
  ·next hm=>cases e;obtain⟨l,xs,h1,h2,h3⟩:=r;refine⟨false,l,xs,h1,fun A hA H0' H' st=>?_,h3.mono f.z⟩;have:=hA hm;subst this;exact SqL.of (st.b _ _ h2)
  ·cases e
end
end LE

namespace PySem
namespace F
end F
section
variable{prog:Qp}{w:QC}{A:Qx}{E:Qa->Qd->Prop}{s:Qd}{a r:Qc}{xs:Array Qa}
end
end PySem
namespace L2
open PySem PySem.Spec PyProof.Rows
end L2
namespace LE
open PySem L2 LR
section
variable{K:Qq}{C:Qc}{m:Bool}
end
end LE

namespace PySem
open AutoSeq1 (wpAny_loadPart')
section
variable{prog:Qp}{w:QC}{A:Qx}{E:Qa->Qd->Prop}{s:Qd}{b:Bool}{a e it:Qc}{xs:Array Qa}
end
end PySem
namespace L2
open PySem PySem.Spec PyProof.Rows
end L2
namespace LE
open PySem L2 LR
section
variable{K:Qq}{C:Qc}{m:Bool}
end
end LE

namespace L2
open PySem PySem.Spec PyProof.Rows
section
variable{X:Cx}
end
end L2
namespace LE
open PySem L2 LR
section
variable{K:Qq}{C:Qc}
end
end LE

namespace PySem
namespace F
end F
section
variable{prog:Qp}{w:QC}{A:Qx}{E:Qa->Qd->Prop}{s:Qd}{l:Qc}{lo hi:Int}{t u v:Tok}
end
end PySem
namespace L2
open PySem PySem.Spec PyProof.Rows
end L2
namespace LE
open PySem L2 LR
section
variable{K:Qq}{C:Qc}{m:Bool}
end
end LE

namespace PySem
namespace F
end F
structure ZB (z TI TO i1 i2 i3:Qc) (p1 p2 p3:List Qc):Prop where
 a1:TI≠z
 a2:TO≠z
 a3:TI≠TO
 m1:i1∈p1
 m2:i2∈p2
 m3:i3∈p3
 z1:z∉p1
 z2:z∉p2
 z3:z∉p3
 t1:TI∉p1
 t2:TI∉p2
 t3:TI∉p3
 o1:TO∉p1
 o2:TO∉p2
 o3:TO∉p3
 x12:i1∉p2
 x13:i1∉p3
 x21:i2∉p1
 x23:i2∉p3
 x31:i3∉p1
 x32:i3∉p2
section
variable{prog:Qp}{w:QC}{A:Qx}{E:Qa->Qd->Prop}{s:Qd}{z TI TO i1 i2 i3:Qc}{p1 p2 p3:List Qc}{n1 n2 n3 k:Nat}{P1 P2 P3:Nat->Qa->Prop}{S1 S2 S3:Nat->QJ->Prop}
end
end PySem

namespace PySem
section
variable{prog:Qp}{w:QC}{A:Qx}{E:Qa->Qd->Prop}{s:Qd}{b1 b2 b3:Bool}{a1 a2 a3:Qc}{xs ys zs:Array Qa}
end
end PySem
namespace L2
open PySem PySem.Spec PyProof.Rows
end L2
namespace LE
open PySem L2 LR
section
variable{K:Qq}{C:Qc}{m:Bool}
end
end LE

namespace L2
open PySem PySem.Spec PyProof.Rows
section
variable{X:Cx}
end
end L2
namespace LE
open PySem L2 LR
section
variable{K:Qq}{C:Qc}
end
end LE

namespace PySem

section
variable{prog:Qp}{w:QC}{A:Qx}{R:Result->Qd->Prop}{I:Qc}{fp wr:List Qc}{n:Nat}{P:Nat->Qa->Prop}{St:Nat->QJ->Prop}
end
section
variable{prog:Qp}{w:QC}{A:Qx}{E:Qa->Qd->Prop}{s:Qd}{l:Qc}{xs:Array (Int×Tok)}
end

section
variable{prog:Qp}{w:QC}{A:Qx}{R:Result->Qd->Prop}{I:Qc}{fp wr:List Qc}{n:Nat}{P:Nat->Qa->Prop}{St:Nat->QJ->Prop}
end
section
variable{prog:Qp}{w:QC}{A:Qx}{E:Qa->Qd->Prop}{s:Qd}{l:Qc}{xs:Array (Int×Tok)}
end

end PySem

namespace L2
open PySem PySem.Spec PyProof.Rows

section
variable{X:Cx}
end
section
variable{X:Cx}
end
end L2
namespace LE
open PySem L2 LR

end LE

namespace LE
open PySem L2 LR

noncomputable def look{α:Type}:List Int->List α->Int->Option α
 | k::ks,d::ds,n=>if k=n then some d else look ks ds n
 | _,_,_=>none
section
variable{K:Qq}{C:Qc}{Hs H0 H:Hp}
theorem RDL.look:∀{ks:List Int} {xs:List V} {ds:List D} {n:Int},RDL K C H xs ds->(LE.look ks xs n=none/\LE.look ks ds n=none)\/∃x d,LE.look ks xs n=some x/\LE.look ks ds n=some d/\RD K C H x d
 | [],_,_,_,_=>.inl ⟨rfl,rfl⟩
 | _::_,[],[],_,_=>.inl ⟨rfl,rfl⟩
 | _::_,[],_::_,_,h=>by have:=h.1;simp at this
 | _::_,_::_,[],_,h=>by have:=h.1;simp at this
 | k::ks,x::xs,d::ds,n,h=>by
  simp only[LE.look]
  by_cases e:k=n
  ·rw[if_pos e,if_pos e];exact .inr ⟨x,d,rfl,rfl,h.head⟩
  ·rw[if_neg e,if_neg e];exact RDL.look h.tail
end
noncomputable def Sl.dk:Sl->Option (List Int×List D)
 | .sh (.dct ks ds)=>some (ks,ds)
 | .sh (.dfz ks ds)=>some (ks,ds)
 | .bd ks ds=>some (ks,ds)
 | .od ks ds=>some (ks,ds)
 | _=>none
noncomputable def int?:Sl->Option Int
 | .sh (.int i)=>some i
 | _=>none
section
variable{K:Qq}{C:Qc}{Hs H0 H:Hp}{td ty tx te:TE}{ed ek ex ea:Ev}
theorem JeM{s:Sl}{n:Int}(e:int? s=some n):s=.sh (.int n):=by
 cases s with
 | sh d=>cases d with
  | int i=>cases e;rfl
  | _=>cases e
 | _=>cases e
theorem RR.dk{v:V}{s:Sl}{p:List Int×List D}(r:RR K C Hs H0 H v s)(i:Same H0 H)(e:s.dk=some p):∃l xs,v=.ref l/\Rd H l (dkO p.1 xs)/\p.1.length=p.2.length/\RDL K C H0 xs p.2:=by
 cases s with
 | bd ks ds=>cases e;obtain⟨l,xs,h1,h2,h3⟩:=r;exact⟨l,xs,h1,.inl h2,h3⟩
 | od ks ds=>cases e;obtain⟨l,xs,h1,h2,_,_,h3⟩:=r;exact⟨l,xs,h1,.inl h2,h3⟩
 | bt _ _=>cases e
 | ot _ _=>cases e
 | sh d=>cases d with
  | dct ks ds=>cases e;obtain⟨l,xs,h1,h2,h3⟩:=RD.dctI r;exact⟨l,xs,h1,.inl (i _ _ h2),h3⟩
  | dfz ks ds=>cases e;obtain⟨l,xs,o,h1,h2,h3⟩:=RD.dfzI r;exact⟨l,xs,h1,.inr ⟨o,i _ _ h2⟩,h3⟩
  | _=>cases e
 | _=>cases e
end

section
variable{K:Qq}{C:Qc}{H:Hp}
theorem RDL.rep{xs:List V}{ds:List D}(r:RDL K C H xs ds):∀k:Nat,RDL K C H (QO k xs).flatten (QO k ds).flatten
 | 0=>.nil
 | k+1=>by rw[GB,GB,KQ,KQ];exact r.append (RDL.rep r k)
end
end LE

namespace L2
open PySem PySem.Spec PyProof.Rows
theorem KV.get{κ:Type}:∀{kvs:List (κ×V)} {vs:List (κ×Qa)} {i:Nat} {p:κ×V},KV kvs vs->kvs[i]?=some p->∃u,vs[i]?=some (p.1,u)/\RelV p.2 u
 | _,_,0,p,.cons h _,e=>by simp at e;subst e;obtain⟨h1,h2⟩:=h;rename_i q _ _;exact⟨_,by simp;exact Prod.ext h1.symm rfl,h2⟩
 | _,_,i+1,p,.cons _ t,e=>by obtain⟨u,h1,h2⟩:=KV.get (i:=i) t (by simpa using e);exact⟨u,by simpa using h1,h2⟩
 | _,_,_,_,.nil,e=>by simp at e
end L2
namespace LE
open PySem L2 LR
noncomputable def JlE:List Int->List D->List D:=List.zipWith fun k d=>.tup [.int k,d]
section
variable{K:Qq}{C:Qc}{m:Bool}{t:TS}{et:Es}{td:TE}{ed:Ev}
end
end LE

namespace L2
open PySem PySem.Spec PyProof.Rows
section
variable{prog:Qp}{w:QC}{A:Qx}{E:Qa->Qd->Prop}{s:Qd}{T:String}{r d:Qc}{n:Nat}{P:Nat->Qa->Prop}{OK:QJ->Prop}
end
end L2
namespace LE
open PySem L2 LR
noncomputable def JeD:List Sl->Option Sl
 | [.sh (.int i)]=>some (.sh (.int i))
 | [.sh (.bl b)]=>some (.sh (.int (if b then 1 else 0)))
 | _=>none
section
variable{K:Qq}{C:Qc}{td:TE}{ed:Ev}
theorem Rd.put{H:Hp}{l p:Qc}{o u:HO}(h:Rd H l o)(hp:H p=none):Rd (upd H p u) l o:=by
 rcases h with h|⟨ob,h⟩
 ·exact .inl (by rw[Jm (JB h hp)];exact h)
 ·exact .inr ⟨ob,by rw[Jm (JB h hp)];exact h⟩
theorem Jil:UV K C (fun xs H Q=>(∃i,xs=[V.int i]/\Q (.int i) H)\/∃k,xs=[V.bl k]/\Q (.int (if k then 1 else 0)) H) JeD:=by
 intro Hs H0 H xs as c Q i hs r e q;unfold JeD at e;split at e
 ·cases e;obtain⟨v,rfl,r0⟩:=r.one;exact .inl ⟨_,by rw[RD.intI r0],q _ _ _ (.refl i) (RD.int _)⟩
 ·cases e;obtain⟨v,rfl,r0⟩:=r.one;exact .inr ⟨_,by rw[RD.blI r0],q _ _ _ (.refl i) (RD.int _)⟩
 ·cases e
end
end LE

namespace L2
open PySem PySem.Spec PyProof.Rows
theorem Inv.more{X:Cx}{pins:List (Qc×Obj)}{σ:St}{H H':Hp}{s:Qd}{h':QJ}{t':Nat}(I:Inv X pins σ H s)(k:∀b u,s.heap.get? b=some u->h'.get? b=some u)(hx:∀b,b<s.heap.objs.size->H' b=H b)
 (new:∀b o,s.heap.objs.size<=b->H' b=some o->ObjOk X.prog X.w H' h' b o):Inv X pins σ H' { s with heap:=h',toks:=t' }:=by
 have old:∀b o,H b=some o->H' b=some o:=fun b o e=>by rw[hx b (I.hok.lt e)];exact e
 refine I.un ⟨fun b u q _ _ _=>k b u q,fun b u q _ _ _=>⟨u.slots,k b u q⟩,fun b u q n _=>by rw[hx b (Qm q)];exact n,fun b u q _=>⟨u,k b u q⟩,fun b xs q=>old b _ q,fun b u xs q=>old b _ q,fun b ps q=>⟨#[],by rw[old b _ q];simp⟩⟩ fun b o e=>?_
 rcases Nat.lt_or_ge b s.heap.objs.size with z|z
 ·rw[hx b z] at e;exact(I.hok b o e).stay (fun c u _ q=>k c u q) (fun c q=>old c _ q) fun c xs q=>old c _ q
 ·exact new b o z e
end L2
namespace LE
open PySem L2 LR
section
variable{K:Qq}{C:Qc}{td:TE}{ed:Ev}
theorem RDL.items:∀{ks:List Int} {xs:List V} {ds:List D} {as:List Qc} {H:Hp},ks.length=ds.length->as.length=ks.length->(∀(j:Nat) (a:Qc) (k:Int) (x:V),as[j]?=some a->ks[j]?=some k->xs[j]?=some x->H a=some (.tup [.int k,x]))->RDL K C H xs ds->RDL K C H (as.map V.ref) (JlE ks ds)
 | [],[],[],[],_,_,_,_,_=>.nil
 | [],_,_,a::as,_,_,h,_,_=>by simp at h
 | [],_,d::ds,_,_,h,_,_,_=>by simp at h
 | k::ks,_,[],_,_,h,_,_,_=>by simp at h
 | k::ks,_,_,[],_,_,h,_,_=>by simp at h
 | [],x::xs,[],[],_,_,_,_,h=>by have:=h.1;simp at this
 | k::ks,[],d::ds,a::as,_,_,_,_,h=>by have:=h.1;simp at this
 | k::ks,x::xs,d::ds,a::as,H,h1,h2,h3,h4=>by show RDL K C H (V.ref a::as.map V.ref) (.tup [.int k,d]::JlE ks ds);refine .cons (.mkT (.of (h3 0 a k x rfl rfl rfl)) (.cons (.int k) (.cons h4.head .nil))) (RDL.items (by simpa using h1) (by simpa using h2) (fun j a k x e1 e2 e3=>h3 (j+1) a k x (by simpa using e1) (by simpa using e2) (by simpa using e3)) h4.tail)
end
end LE

namespace L2
open PySem PySem.Spec PyProof.Rows
noncomputable def wo:List Qc->QJ->QJ
 | [],h=>h
 | a::l,h=>(wo l h).update a fun _=>{ cls:=.none,data:=.freed }
theorem Jd1(h:QJ)(a:Qc):(h.update a fun _=>{ cls:=.none,data:=.freed }).get? a=none:=by
 cases q:(h.update a fun _=>({ cls:=.none,data:=.freed }:Obj)).get? a with
 | none=>rfl
 | some o =>
  obtain⟨e,f⟩:=Heap.get?_some_iff.mp q;obtain⟨os,l⟩:=h;simp only[Heap.update,Array.getElem?_modify,if_true] at e
  cases z:os[a]? with
  | none=>rw[z] at e;cases e
  | some u=>rw[z] at e;cases e;cases f
theorem Zp{h:QJ}{b:Qc}:∀{l:List Qc},b∈l->(wo l h).get? b=none
 | [],hb=>nomatch hb
 | a::l,hb=>by
  unfold wo
  by_cases e:a=b
  ·subst e;exact Jd1 _ _
  ·rw[QY _ _ e];exact Zp ((Qv.mp hb).resolve_left (Q0 e))
theorem Wf{h:QJ}{b:Qc}:∀{l:List Qc},b∉l->(wo l h).get? b=h.get? b
 | [],_=>rfl
 | a::l,hb=>by unfold wo;rw[QY _ _ (fun e=>hb (by rw[e];exact QB))];exact Wf fun z=>hb (Qj _ z)
theorem Jap{h base base':QJ}:∀{l:List Env},h.FunFrames base l->(∀b∈frs l,base'.get? b=none)->h.FunFrames base' l
 | [],_,_=>trivial
 | env::l,⟨hk,⟨L,o,hf,hn,ho,hd⟩,hr⟩,n=>by
  have e:frs (env::l)=L::frs l:=by unfold frs;rw[G1,hf]
  rw[e] at n;exact⟨hk,⟨L,o,hf,n L QB,ho,hd⟩,Jap hr fun b hb=>n b (Qj _ hb)⟩
theorem Wu{h base:QJ}{l:List Env}(x:h.FunFrames base l){b:Qc}(hb:b∈frs l):base.get? b=none/\∃o,h.get? b=some o/\∀vs,o.data≠.fields vs:=x.mem hb
theorem ObjOk.there{P:Qp}{w:QC}{H:Hp}{h:QJ}{a:Qc}{o:HO}(x:ObjOk P w H h a o):∃u,h.get? a=some u:=by
 cases o with
 | lst xs=>obtain⟨_,_,_,_,e⟩:=x;exact⟨_,e⟩
 | tup xs=>obtain⟨_,_,_,p⟩:=x;obtain⟨o,e,_⟩:=p;exact⟨_,e⟩
 | dK kvs=>obtain⟨_,_,_,_,o,_,_,e,_⟩:=x;exact⟨_,e⟩
 | dT kvs=>obtain⟨_,_,_,_,o,_,_,e,_⟩:=x;exact⟨_,e⟩
 | set S n=>obtain⟨o,_,_,_,e,_⟩:=x;exact⟨_,e⟩
 | ins C dx fs=>obtain⟨_,_,_,e,_⟩:=x;exact⟨_,e⟩
 | own y=>obtain⟨_,e⟩:=x;exact⟨_,e⟩
 | xd fs=>obtain⟨_,⟨_,_,_,e,_⟩,_⟩:=x;exact⟨_,e⟩
 | rng lo hi=>obtain⟨_,_,_,e⟩:=x;exact⟨_,e⟩
 | frz ob u=>obtain⟨e,_⟩:=x;exact⟨_,e⟩
 | tbl ps=>exact⟨_,(show h.get? a=some _ from x)⟩
 | met f y=>exact⟨_,(show h.get? a=some _ from x)⟩
 | ext φ=>obtain⟨_,⟨_,e⟩,_⟩:=x;exact⟨_,e⟩

noncomputable def TrD(h base:QJ)(e:Qc)(cls:Qa)(dct:Option Qc)(fl:Qa):Prop :=
 ∃oe vs T oT ts,h.get? e=some oe/\(oe.cls=cls/\oe.dict=dct)/\oe.data=.fields vs/\vs[1]?=some (.ref T)/\base.get? T=none/\T≠e/\h.get? T=some oT/\oT.data=.fields ts/\ts[3]?=some fl
noncomputable def Fl(base:QJ)(l:List Env)(e:Qc)(cls:Qa)(h:QJ):Prop :=
 base.StaysIn h/\base.get? e=none/\h.FunFrames base l/\(TrD h base e (LE.WF cls) (LE.Ja1 cls) .none\/∃oe vs,h.get? e=some oe/\(oe.cls=LE.WF cls/\oe.dict=LE.Ja1 cls)/\oe.data=.fields vs/\vs[1]?=some .none)
noncomputable def Cov(fs:List Qc)(H':Hp)(h h' base:QJ):Prop:=∀b o,(H' b≠none\/∃u,h.get? b=some u)->b∉fs->h'.get? b=some o->base.get? b=some o
structure XF (P:Qp) (w:QC) (l:List Env) (H:Hp) (h:QJ) (a:Qc) (cls:Qa) (H':Hp) (base h':QJ):Prop where
 un:Un (frs l) [] H H' h h'
 hok:HOk P w H' h'
 fl:Fl base l a cls h'
 cov:Cov (frs l) H' h h' base
 free:H' a=none
 new:h.get? a=none
noncomputable def CX1(P:Qp)(w:QC):CXT:=fun l H s E e s'=>∃(a:Qc) (cls:Qa) (H':Hp) (base:QJ),e=.ref a/\s'.os=s.os/\AllBare s'.gens/\XF P w l H s.heap a cls H' base s'.heap/\E cls (some a) H'
section
variable{P:Qp}{w:QC}{l:List Env}{H H':Hp}{h h1 h2 base base0:QJ}{a:Qc}{cls:Qa}
theorem XF.on(x:XF P w l H h a cls H' base h1)(hf:h.FunFrames base0 l)(hn:∀b∈frs l,H b=none)(k:base.StaysIn h2)(us:h1.UpToSlots h2)(fl:Fl base l a cls h2):XF P w l H h a cls H' base h2:=by
 have ff:∀b∈frs l,∃o,h1.get? b=some o/\∀vs,o.data≠.fields vs:=fun b hb=>(Wu x.fl.2.2.1 hb).2
 have nfr:∀b u,H' b=some u->b∉frs l:=fun b u e hb=>by obtain⟨_,o,ho,_⟩:=Wu hf hb;rw[x.un.free b o ho (hn b hb) (by simp)] at e;cases e
 refine⟨⟨fun b o q n hb hx=>?_,fun b o q n hb hx=>?_,x.un.free,fun b o q hx=>?_,x.un.tups,x.un.frzs,x.un.tbls⟩,fun b u e=>?_,fl,fun b o hb hfr q=>?_,x.free,x.new⟩
 ·exact k b o (x.cov b o (.inr ⟨_,q⟩) hb (x.un.keep b o q n hb hx))
 ·obtain⟨sl,e1⟩:=x.un.slot b o q n hb hx;obtain⟨o',e2,nf⟩:=ff b hb;rw[e1] at e2;cases e2;obtain⟨sl',e3⟩:=us b _ e1 nf;exact⟨sl',e3⟩
 ·obtain⟨o',e1⟩:=x.un.there b o q hx
  by_cases hb:b∈frs l
  ·obtain⟨o2,e2,nf⟩:=ff b hb;obtain⟨sl',e3⟩:=us b _ e2 nf;exact⟨_,e3⟩
  ·exact⟨o',k b o' (x.cov b o' (.inr ⟨_,q⟩) hb e1)⟩
 ·refine(x.hok b u e).stay (fun c v hc q=>?_) (fun _ z=>z) fun _ _ z=>z
  have tr:∃u',H' c=some u':=by
   rcases hc with rfl|hc
   ·exact⟨_,e⟩
   ·exact⟨_,hc⟩
  obtain⟨u',e'⟩:=tr;exact k c v (x.cov c v (.inl (by rw[e'];intro z;cases z)) (nfr c u' e') q)
 ·have ex:∃o',h1.get? b=some o':=by
   rcases hb with hb|⟨u,hb⟩
   ·cases e:H' b with
    | none=>exact absurd e hb
    | some u=>exact(x.hok b u e).there
   ·exact x.un.there b u hb (by simp)
  obtain⟨o',e1⟩:=ex;have e2:=x.cov b o' hb hfr e1;have e3:=k b o' e2;rw[q] at e3;cases e3;exact e2
end
theorem JcO(o:Obj)(f:Array Qa->Array Qa):(o.mapFields f).dict=o.dict:=by obtain⟨c,d,dt,sl⟩:=o;cases dt <;> rfl
section
variable{M:Model}{A:Qx}{E:Qa->Qd->Prop}{s:Qd}{base:QJ}{env:Env}{outer l:List Env}{L e:Qc}{cls fl:Qa}{dct:Option Qc}{Q:Unit->Qd->Prop}
theorem Jer{oe:Obj}{vs:Array Qa}{head:Qa}{had:Bool}(hfr:A.frames=some (env::outer))(hl:s.heap.FunFrames base (env::outer))(hf:env.frame=some L)
 (he:s.heap.get? e=some oe) (hkb:base.StaysIn s.heap) (hen:base.get? e=none) (hd:oe.data=.fields vs) (hsz:1<vs.size)
 (h:∀h',base.StaysIn h'->h'.FunFrames base (env::outer)->TrD h' base e oe.cls oe.dict (rawInt L)->s.heap.UpToSlots h'->Q () { s with heap:=h' }) :
 wpAny M A (do let a <- frameOf env;let pl <- entryPlaceOf L had;let b <- Mw head a .none (rawInt L) .none pl;setField (.ref e) 1 b) Q E s:=by
 refine Qe (wpAny_frameOf_fun hfr hl hf fun h₁ hs₁=>Qe (wpAny_entryPlaceOf fun pl hpl=>?_));unfold Mw newFields;refine Qe (Gi ?_ (hpl.sizeOk5 _ _ _ _ _))
 have ne:e∉(env::outer).filterMap (·.frame):=fun hm=>by obtain⟨_,o,ho,nf⟩:=hl.mem hm;rw[he] at ho;cases ho;exact nf vs hd
 have e1:h₁.get? e=some oe:=(hs₁.2.1 e ne).trans he
 have b1:base.StaysIn h₁:=fun b o hb=>(hs₁.2.1 b fun hm=>by rw[(hl.mem hm).1] at hb;cases hb).trans (hkb b o hb)
 generalize hot:({ cls:=.type "traceback",dict:=none,data:=.fields ([head,.ref L,.none,rawInt L,.none]++(if pl.isEmpty then QO 6 Value.none else pl)).toArray }:Obj)=ot
 have hotd:ot.data=.fields ([head,.ref L,.none,rawInt L,.none]++(if pl.isEmpty then QO 6 Value.none else pl)).toArray:=by rw[<- hot]
 have hotf:ot.isFreed=false:=by rw[<- hot];rfl
 have e2:=Qg (h:=h₁) ot e1;refine GK e2 hd hsz ?_
 have d3:=Gq hd (·.setIfInBounds 1 (Value.ref h₁.objs.size))
 have e3:=Go (K5 (·.setIfInBounds 1 (Value.ref h₁.objs.size))) e2 (Kg d3)
 have tne:h₁.objs.size≠e:=Kr (Qm e1)
 have t3:=(QY (h₁.push ot) (K5 (·.setIfInBounds 1 (Value.ref h₁.objs.size))) (Q0 tne)).trans (Qz h₁ hotf)
 have keep:∀b o,b≠e->h₁.get? b=some o->((h₁.push ot).update e (K5 (·.setIfInBounds 1 (Value.ref h₁.objs.size)))).get? b=some o:=fun b o hb q=>by rw[QY _ _ (Q0 hb)];exact Qg _ q
 have nrec:∀b o,s.heap.get? b=some o->(∀ws,o.data≠.fields ws)->b≠e:=fun b o hb nf z=>by rw[z,he] at hb;cases hb;exact nf vs hd
 refine h _ (fun b o hb=>keep b o (fun z=>by rw[z,hen] at hb;cases hb) (b1 b o hb)) (hl.of_keeps fun b o hb nf=>?_) ⟨_,_,h₁.objs.size,_,_,e3,⟨LG _ _,JcO _ _⟩,d3,by simp[hsz],b1.fresh,tne,t3,hotd,by first|(simp;done)|(rcases hpl with rfl|⟨_,_,_,_,_,_,_,rfl⟩ <;> simp)⟩ fun b o hb nf=>?_
 ·obtain⟨sl,hs⟩:=hs₁.2.2 b o hb;exact⟨_,keep b _ (nrec b o hb nf) hs,rfl⟩
 ·obtain⟨sl,hs⟩:=hs₁.2.2 b o hb;exact⟨sl,keep b _ (nrec b o hb nf) hs⟩
theorem Jaq(hkb:base.StaysIn s.heap)(hl:s.heap.FunFrames base l)(ht:TrD s.heap base e cls dct fl)
 (h:∀h',base.StaysIn h'->h'.FunFrames base l->TrD h' base e cls dct .none->s.heap.UpToSlots h'->Q () { s with heap:=h' }):wpAny M A (setFlight (.ref e) none) Q E s:=by
 obtain⟨oe,vs,T,oT,ts,he,hc,hd,h1,nT,hTe,hT,dT,h3⟩:=ht;have sz:3<ts.size:=(QP.mp h3).1;unfold setFlight;refine Qe (Q5 he hd h1 ?_);rw[if_pos (show(Value.ref T != Value.none)=true from by simp)];have other:∀b,b≠T->(s.heap.update T (K5 (·.setIfInBounds 3 ((none:Option Qc).elim Value.none fun f=>rawInt f)))).get? b=s.heap.get? b:=fun b hb=>QY _ _ (Q0 hb)
 have nrec:∀b o,s.heap.get? b=some o->(∀ws,o.data≠.fields ws)->b≠T:=fun b o hb nf z=>by rw[z,hT] at hb;cases hb;exact nf ts dT
 refine GK hT dT sz (h _ (fun b o hb=>(other b fun z=>by rw[z,nT] at hb;cases hb).trans (hkb b o hb)) (hl.of_keeps fun b o hb nf=>⟨o,(other b (nrec b o hb nf)).trans hb,rfl⟩) ?_ fun b o hb nf=>⟨o.slots,(other b (nrec b o hb nf)).trans hb⟩);exact⟨oe,vs,T,_,_,(other e (Q0 hTe)).trans he,hc,hd,h1,nT,hTe,Go _ hT (Kg (Gq dT _)),Gq dT _,by simp[sz]⟩
theorem JcF(hfr:A.frames=some (env::outer))(hf:env.frame=some L)(x:Fl base (env::outer) e cls s.heap)
 (hQ:∀h',base.StaysIn h'->h'.FunFrames base (env::outer)->TrD h' base e (LE.WF cls) (LE.Ja1 cls) (rawInt L)->s.heap.UpToSlots h'->Q () { s with heap:=h' }):wpAny M A (noteFrame (.ref e) env) Q E s:=by
 obtain⟨k1,k2,k3,tr|⟨oe,vs,he,hc,hd,h1⟩⟩:=x
 ·obtain⟨oe,vs,T,oT,ts,he,hc,hd,h1,nT,hTe,hT,dT,h3⟩:=tr;unfold noteFrame;simp only[hf];refine Qe (Q5 he hd h1 ?_);rw[if_pos (show(Value.ref T != Value.none)=true from by simp)];refine Qe (Q5 hT dT h3 ?_);rw[if_neg (show ¬((Value.none == rawInt L)=true) from by simp[rawInt])];refine Qe (GK hT dT (QP.mp h3).1 ?_);have other:∀b,b≠T->(s.heap.update T (K5 (·.setIfInBounds 3 Value.none))).get? b=s.heap.get? b:=fun b hb=>QY _ _ (Q0 hb)
  have nrec:∀b o,s.heap.get? b=some o->(∀ws,o.data≠.fields ws)->b≠T:=fun b o hb nf z=>by rw[z,hT] at hb;cases hb;exact nf ts dT
  refine Jer hfr (k3.of_keeps fun b o hb nf=>⟨o,(other b (nrec b o hb nf)).trans hb,rfl⟩) hf ((other e (Q0 hTe)).trans he)
   (fun b o hb=>(other b fun z=>by rw[z,nT] at hb;cases hb).trans (k1 b o hb)) k2 hd (QP.mp h1).1 fun h' x1 x2 x3 x4=>?_
  rw[hc.1,hc.2] at x3;exact hQ h' x1 x2 x3 fun b o hb nf=>x4 b o ((other b (nrec b o hb nf)).trans hb) nf
 ·unfold noteFrame;simp only[hf];refine Qe (Q5 he hd h1 ?_);rw[if_neg (by decide)];refine Jer hfr k3 hf he k1 k2 hd (QP.mp h1).1 fun h' x1 x2 x3 x4=>?_
  rw[hc.1,hc.2] at x3;exact hQ h' x1 x2 x3 x4
theorem JeG(hfr:A.frames=some (env::outer))(hf:env.frame=some L)(x:Fl base (env::outer) e cls s.heap)
 (hQ:∀h',Fl base (env::outer) e cls h'->Fl base outer e cls h'->s.heap.UpToSlots h'->Q () { s with heap:=h' }):wpAny M A (leaving env (.ref e)) Q E s:=by
 have k2:=x.2.1;unfold leaving;refine Qe (JcF hfr hf x fun h1 x1 x2 x3 x4=>?_);refine Jaq (s:={ s with heap:=h1 }) x1 x2 x3 fun h2 y1 y2 y3 y4=>?_
 exact hQ h2 ⟨y1,k2,y2,.inl y3⟩ ⟨y1,k2,y2.2.2,.inl y3⟩ (x4.trans y4)
end

noncomputable def XP(X:Cx)(pins:List (Qc×Obj))(σ:St)(E:XK)(e:Qa)(s':Qd):Prop:=∃H s,Inv X pins σ H s/\CX1 X.prog X.w X.stack H s E e s'
section
variable{X:Cx}{pins:List (Qc×Obj)}{σ:St}{H H':Hp}{s s':Qd}{base:QJ}{a:Qc}{cls:Qa}{E:XK}{e:Qa}
theorem Inv.fly(I:Inv X pins σ H s)(ho:s'.os=s.os)(hg:AllBare s'.gens)(x:XF X.prog X.w X.stack H s.heap a cls H' base s'.heap):Inv X pins σ H' s':=I.call' ho x.un x.hok hg fun b hb=>nomatch hb
theorem XP.made{args:List Qa}{h':QJ}{ea:Qc}(I:Inv X pins σ H s)(m:Heap.MadeExcOf s.heap h' ea cls args)(q:E cls (some ea) H)(k1:LE.WF cls=cls)(k2:LE.Ja1 cls=none):XP X pins σ E (.ref ea) { s with heap:=h' }:=by
 have nf:∀b∈frs X.stack,∃o,s.heap.get? b=some o:=fun b hb=>by obtain⟨_,o,ho,_⟩:=Wu I.stack hb;exact⟨o,ho⟩
 obtain⟨t,ht,_,_⟩:=m.there;refine⟨H,s,I,ea,cls,H,wo (frs X.stack) s.heap,rfl,rfl,I.bare,⟨⟨fun b o q _ _ _=>m.keeps b o q,fun b o q _ _ _=>⟨o.slots,m.keeps b o q⟩,fun _ _ _ n _=>n,fun b o q _=>⟨o,m.keeps b o q⟩,fun _ _ z=>z,fun _ _ _ z=>z,fun b ps z=>⟨#[],by rw[z];simp⟩⟩,I.hok.kept m.keeps,⟨fun b o q=>?_,?_,?_,.inr ⟨_,_,ht,⟨k1.symm,k2.symm⟩,rfl,rfl⟩⟩,fun b o hb hfr q=>?_,?_,m.new⟩,q⟩
 ·by_cases hb:b∈frs X.stack
  ·rw[Zp hb] at q;cases q
  ·rw[Wf hb] at q;exact m.keeps b o q
 ·by_cases hb:ea∈frs X.stack
  ·exact Zp hb
  ·rw[Wf hb];exact m.new
 ·exact(Jap I.stack fun b hb=>Zp hb).of_keeps fun b o q _=>⟨o,m.keeps b o q,rfl⟩
 ·rw[Wf hfr]
  have ex:∃u,s.heap.get? b=some u:=by
   rcases hb with hb|hb
   ·cases e:H b with
    | none=>exact absurd e hb
    | some u=>exact(I.hok b u e).there
   ·exact hb
  obtain⟨u,hu⟩:=ex;have:=m.keeps b u hu;have q':h'.get? b=some o:=q;rw[q'] at this;cases this;exact hu
 ·cases e:H ea with
  | none=>rfl
  | some u=>obtain⟨o,ho⟩:=(I.hok ea u e).there;rw[m.new] at ho;cases ho
theorem XP.leave{M:Model}{E':Qa->Qd->Prop}{A:Qx}(hA:A.frames=some X.stack)(hs:X.stack=X.env::X.outer)(hf:X.env.frame=some X.env.locals)(hx:X.ex=[])(x:XP X pins σ E e s') :
 wpAny M A (leaving X.env e) (fun _ s''=>CX1 X.prog X.w X.outer X.H₀ X.s₀ E e s'') E' s':=by
 obtain⟨H,s,I,a,cls,H',base,rfl,ho,hg,xf,q⟩:=x;have fl:=xf.fl;rw[hs] at fl hA;refine JeG hA hf fl fun h' f1 f2 us=>?_
 have y:=xf.on I.stack I.stkFree f1.1 us (by rw[hs];exact f1)
 have J:Inv X pins σ H' { s' with heap:=h' }:=I.fly ho hg y
 have hfs:frs X.stack=X.env.locals::frs X.outer:=by rw[hs];unfold frs;rw[G1,hf]
 have nl:∀b o,X.s₀.heap.get? b=some o->b≠X.env.locals:=fun b o q z=>by have h1:=Qm q;rw[z] at h1;exact absurd h1 (Nat.not_lt.mpr I.ok.above)
 refine⟨a,cls,H',base,rfl,J.os,hg,⟨?_,J.hok,f2,fun b o hb hfr q=>?_,y.free,?_⟩,q⟩
 ·have:=J.base;rw[hx] at this;exact this
 ·refine y.cov b o ?_ ?_ q
  ·rcases hb with hb|⟨u,hb⟩
   ·exact .inl hb
   ·exact .inr (I.base.there b u hb (by rw[hx];simp))
  ·rw[hfs];intro z;rcases Qv.mp z with z|z
   ·rcases hb with hb|⟨u,hb⟩
    ·rw[z] at hb;exact hb J.free
    ·exact nl b u hb z
   ·exact hfr z
 ·cases z:X.s₀.heap.get? a with
  | none=>rfl
  | some u=>obtain⟨o,e⟩:=I.base.there a u z (by rw[hx];simp);rw[y.new] at e;cases e
end
end L2

namespace L2
open PySem PySem.Spec PyProof.Rows PySem.Calls
abbrev VEm:List Qa:=[.type "ValueError",.type "Exception",.type "BaseException",.type "object"]
section
variable{P:Qp}{w:QC}{K:Qq}{mg:Str->Option Qa}{base:QJ}{N:List Str}{qual:Str}{scope:Lx}{f:Qc}{cd:Qa}{A:Qx}{outer:List Env}{s:Qd}{H:Hp}{E:XK}
noncomputable def XOk(X:Cx)(E:XK):Prop:=∀(pins:List (Qc×Obj)) (σ:St) (e:Qa) (s':Qd),XP X pins σ E e s'->X.xe e s'
theorem xok_cx:XOk (WG (CX1 P w) P w K mg base N qual scope f cd A outer s H E) E:=fun pins σ e s' x=>by
 have hA:(A.deeper (envOfC qual scope s.heap.objs.size f cd)).frames=some (WG (CX1 P w) P w K mg base N qual scope f cd A outer s H E).stack:=by obtain⟨H1,s1,I,_⟩:=x;exact I.ok.frames
 exact XP.leave hA rfl rfl rfl x
theorem XOk.passes{X:Cx}{E:XK}(h:XOk X E):WB (CX1 X.prog X.w) X E:=fun pins σ H s e s' I cx=>h pins σ e s' ⟨H,s,I,cx⟩
theorem Fun.okX{x qual:Str}{st:Gw}{f:Qc}{fd:QH}{N ps:List Str}{k:Nat}{sp:Sp}(F:Fun K x qual st f fd)(S:FnScope N ps (Jr st))(len:∀vs H Q E,sp vs H Q E->vs.length=ps.length)
 (hbody:∀(cdv:Qa) (A:Qx) (outer:List Env) (s:Qd) (H:Hp) (vs:List V) (Q:VK) (E:XK),Room k (A.deeper (envOfC qual (Jr st) s.heap.objs.size f cdv))->sp vs H Q E ->
  ∃t,PSs (WG (CX1 P w) P w K mg base N qual (Jr st) f cdv A outer s H E) (Yw st) t/\t { nx:=fun _ H'=>Q .non H',rt:=Q } (YD N vs) H):FnOk P w K mg base (CX1 P w) (k+1) f fd ps sp:=by
 obtain⟨oc,od,kV,doc,pm,an,cdv,ct,osl,rfl,lk,hcd⟩:=F.ex;exact Jiq lk hcd S len fun A outer s H vs Q E hr hsp=>hbody cdv A outer s H vs Q E hr hsp
end
noncomputable def Jck(C:Qc)(E:XK)(t:TA):TS:=fun D σ H=>t σ H fun vs H1=>vs.length<=Qu/\∀a,E (.ref C) (some a) H1
section
variable{X:Cx}{x:Str}{np cpos pos:Pos}{C:Qc}{E:XK}{e:QQ}{es:List QQ}{t:TA}
theorem Jgw{K:Qq}{h:QJ}{bmB:List Qa}{newId:String}(X:K.In h)(q:excIn K C bmB newId=true):∃bm N nm q bs hdct sn sub ab col dd k0 k1 k2 k3 k5 mN,h.get? C=some (excClassObj nm q C N bs bm hdct sn sub ab col dd k0 k1 k2 k3 k5 newId)/\h.Ns N mN/\mN "__init__"=none/\OwnTail h bmB bm:=by
 unfold excIn at q;split at q
 ·rename_i dd cd sl ho;split at q
  ·rename_i C' bm k0 k1 k2 k3 n k5 hm hs;simp only[QL,beq_iff_eq,KR] at q;obtain⟨⟨⟨⟨⟨rfl,rfl⟩,hdel⟩,ht⟩,hok⟩,hni⟩:=q;obtain⟨nm,bs,mro,ns,qn,hd,sn,sub,ab,col,del⟩:=cd;dsimp only at hm hdel hok hni;subst hm hdel
   have hsl:sl=#[k0,k1,k2,k3,some (.builtin n),k5]:=by obtain⟨l⟩:=sl;simp only at hs;rw[hs]
   subst hsl;exact⟨bm,ns,nm,qn,bs,hd,sn,sub,ab,col,dd,k0,k1,k2,k3,k5,_,X _ _ ho,.of_isNs (MK X hok),PySem.W.nsMap_none_of_in X hok hni,ML X ht⟩
  ·cases q
 ·cases q
theorem Jfd(ok:excIn X.K C VEm "ValueError.__new__"=true)(hg:Gl X x)(hm:X.mg x=some (.ref C))(hc:X.calm=true)(hx:XOk X E)(ha:PA X (e::es) t)(hdb:(x == ("__debug__":Str))=false:=by decide)
 (he:starEach (e::es) X.env=(false,eval e X.env)::starEach es X.env:=by rfl) (hpl:(backTo cpos (starEach es X.env)).any (·.1)=false:=by rfl) :
 PS X (.Raise (some (.Call (.Name x np) (e::es) [] cpos)) none pos) (Jck C E t):=by
 intro pins s σ H D I h;obtain⟨tl,N,nm,q,bs,hdct,sn,sub,ab,col,dd,k0,k1,k2,k3,k5,mN,hC,hN,hni,T⟩:=Jgw (h:=X.base) I.ok.mod.kin ok;refine wpAny_Raise_call_subU (C:=C) (nm:=nm) (q:=q) (N:=N) (bs:=bs) (bm:=tl) (hdct:=hdct) (sn:=sn) (sub:=sub) (ab:=ab) (col:=col) (dd:=dd) (k0:=k0) (k1:=k1) (k2:=k2) (k3:=k3) (k5:=k5)
  Q1 (by decide) Q1 (mN:=mN) (T.hasType Q1.hasBase) (I.ok.hd hc) (by rw[he];show(false || (backTo cpos (starEach es X.env)).any (·.1))=false;rw[hpl];rfl) hni (UC I hg hm ⟨rfl,?_⟩ hdb)
 have h1:=ha cpos pins s σ H _ I h;rw[he] at h1 ⊢;refine Kl (Q2 h1 (fun us s₂ ⟨vs,H1,I1,r,hl,q⟩=>⟨rfl,by rw[<- r.length];exact hl,I1.bk _ _ hC,hN.keeps I1.bk,T.keeps I1.bk,fun h' a m=>hx pins σ _ _ (XP.made I1 m (q a) rfl rfl)⟩) fun _ _ y=>y)
end
end L2

namespace L2
open PySem PySem.Spec PyProof.Rows PySem.Calls
noncomputable def XS(X:Cx)(pins:List (Qc×Obj))(E:St->XK)(e:Qa)(s':Qd):Prop:=∃σ',XP X pins σ' (E σ') e s'
noncomputable def PX(X:Cx)(e:QQ)(T:XK->TE):Prop :=
 ∀(pins:List (Qc×Obj)) (s:Qd) (σ:St) (H:Hp) (Q:VK) (E:XK),Inv X pins σ H s->T E σ H Q->wpAny (model X.prog X.w) X.A (eval e X.env) (EP X pins σ Q) (XP X pins σ E) s
noncomputable def PCS(X:Cx)(st:Gw)(T:(St->XK)->TS):Prop :=
 ∀(pins:List (Qc×Obj)) (s:Qd) (σ:St) (H:Hp) (D:Ends) (E:St->XK),Inv X pins σ H s->T E D σ H->wpAny (model X.prog X.w) X.A (exec st X.env) (SP X pins D) (XS X pins E) s
noncomputable def JiM(X:Cx)(st:List Gw)(T:(St->XK)->TS):Prop :=
 ∀(pins:List (Qc×Obj)) (s:Qd) (σ:St) (H:Hp) (D:Ends) (E:St->XK),Inv X pins σ H s->T E D σ H->wpAny (model X.prog X.w) X.A (execs st X.env) (SP X pins D) (XS X pins E) s
structure CalX (P:Qp) (w:QC) (K:Qq) (mg:Str->Option Qa) (base:QJ) (x:Str) (k:Nat) (ps:List Str) (sp:Sp):Prop where
 ex:∃(f:Qc) (fd:QH),FnOk P w K mg base (CX1 P w) k f fd ps sp/\mg x=some (.ref f)/\keepIn K (.ref f)=true/\Binds K fd ps []
noncomputable def JfT(T:XK->TE)(g:TG):(St->XK)->TS:=fun E D σ H=>T (E σ) σ H fun x H1=>g x σ H1 D.nx
section
variable{X:Cx}{k:Nat}{C:Qc}{ps:List Str}{sp:Sp}{x:Str}{p pos:Pos}{e:QQ}{es:List QQ}{t:TA}{st:Gw}{rest:List Gw}{T:XK->TE}{TS1:(St->XK)->TS}{u:TS}
theorem Je5{E:XK}(c:CalX X.prog X.w X.K X.mg X.base x k ps sp)(hr:Room k X.A)(hg:Gl X x)(hx:WB (CX1 X.prog X.w) X E)(ha:PA X (e::es) t)(hdb:(x == ("__debug__":Str))=false:=by decide)
 (he:starEach (e::es) X.env=(false,eval e X.env)::starEach es X.env:=by rfl) (hpl:(backTo pos (starEach es X.env)).any (·.1)=false:=by rfl):PE X (.Call (.Name x p) (e::es) [] pos) (Wl sp [] E t):=by
 obtain⟨f,fd,F,h1,h2,h3⟩:=c.ex;exact JcR F hr hg h1 h2 h3 .nil hx ha hdb he hpl
theorem Jhw(c:CalX X.prog X.w X.K X.mg X.base x k ps sp)(hr:Room k X.A)(hg:Gl X x)(ha:PA X.nox (e::es) t)(hdb:(x == ("__debug__":Str))=false:=by decide)
 (he:starEach (e::es) X.env=(false,eval e X.env)::starEach es X.env:=by rfl) (hpl:(backTo pos (starEach es X.env)).any (·.1)=false:=by rfl):PX X (.Call (.Name x p) (e::es) [] pos) (fun E=>Wl sp [] E t):=by
 obtain⟨f,fd,F,h1,h2,h3⟩:=c.ex;intro pins s σ H Q E I h;refine G8 (UC I hg h1 ?_ hdb);refine MG (h₀:=X.base) I.ok.mod.kin h2 (Q2 (ha pos pins s σ H _ (I.wish _) h) (fun us s1 ⟨vs,H1,I1,r,q⟩=>⟨I1.unwish.kIn,?_⟩) fun _ _ z=>Q3 z) he hpl;have I1:=I1.unwish;have r2:Vals (vs++[]) (us++[]):=r.append .nil;have hl:(us++[]).length=ps.length:=by rw[<- r2.length];exact F.len _ _ _ _ q
 refine Ln (Ks (F.run X.A X.stack s1 H1 ⟨us,[]⟩ (us++[]) (vs++[]) Q E hr I1.env0 (h3 s1 us I1.kIn hl) r2 q) fun r s' hq=>?_)
 cases r with
 | error e=>exact⟨H1,s1,I1,hq⟩
 | ok fl =>
  cases fl with
  | ret u=>exact I1.after hq
  | next=>exact Q3 hq
  | brk=>exact Q3 hq
  | cont=>exact Q3 hq
theorem Je4(h:PCS X st TS1):JiM X [st] TS1:=by
 intro pins s σ H D E I q;refine LS (thn (h pins s σ H D E I q) fun f s1 q=>?_)
 cases f with
 | next=>exact KF q
 | ret v=>exact q
 | brk=>exact q
 | cont=>exact q
theorem Jhq{i:Nat}{x:Str}{pos':Pos}(hN:X.N.Nodup)(hi:X.N[i]?=some x)(hx:Loc X.env.scope x)(he:PX X e T)(hs:swapsWith e (some (.Name x pos')) pos.line X.env=pure false:=by rfl)(hf:X.fn x=true\/X.env.scope.names.lookup x=some .local:=by first|exact .inl rfl|exact .inr rfl|assumption) :
 PCS X (.Assign [.Name x pos'] e pos) (JfT T (Ug i)):=by
 intro pins s σ H D E I h;refine wpAny_Assign_Name (Q2 (he pins s σ H _ _ I h) (fun v s1 ⟨y,H1,I1,r1,q1⟩=>?_) fun _ _ z=>⟨σ,z⟩) hs;exact VW I1 hN hi hx r1 (fun s2 I2=>⟨_,H1,I2,q1⟩) hf
end
end L2
namespace L2
open PySem PySem.Spec PyProof.Rows PySem.Calls LE
noncomputable abbrev Cx.hand(X:Cx)(a:Qc):Cx:={ X with A:=X.A.mark (some (.ref a)),calm:=false,xe:=fun _ _=>False }
noncomputable def JkY(K:Qq)(CL:Qc)(i:Nat)(T:(St->XK)->TS)(th:TS):TS:=fun D σ H=>T (fun σ' c oa H'=>∃a,oa=some a/\exmOne K (WF c) (.ref CL)=some true ∧
 (H' a=none->th { nx:=fun σ2 H2=>D.nx (σ2.set i none) H2,rt:=D.rt,bk:=fun σ2 H2=>D.bk (σ2.set i none) H2,ct:=fun σ2 H2=>D.ct (σ2.set i none) H2 } (σ'.set i (some (.ref a))) (upd H' a (XO a c)))) D σ H
section
variable{X:Cx}{pins:List (Qc×Obj)}{σ:St}{H:Hp}{s:Qd}{a:Qc}
theorem Inv.hand(I:Inv X pins σ H s)(a:Qc):Inv (X.hand a) pins σ H s :=
 ⟨⟨I.ok.mod,I.ok.kind,I.ok.glob,I.ok.blt,I.ok.above,I.ok.inj,I.ok.has,I.ok.cab,(fun h=>nomatch h),I.ok.frames,I.ok.stk,I.ok.exf,I.ok.bs,I.ok.bsz,I.ok.noex,I.ok.exfs,I.ok.funs,I.ok.frf⟩,I.os,I.bare,I.base,I.loc,I.cell,I.free,I.freeC,I.pin,I.hok,I.len⟩
theorem Inv.unhand(hd:X.calm=true->X.A.handled=none)(I:Inv (X.hand a) pins σ H s):Inv X pins σ H s :=
 ⟨⟨I.ok.mod,I.ok.kind,I.ok.glob,I.ok.blt,I.ok.above,I.ok.inj,I.ok.has,I.ok.cab,hd,I.ok.frames,I.ok.stk,I.ok.exf,I.ok.bs,I.ok.bsz,I.ok.noex,I.ok.exfs,I.ok.funs,I.ok.frf⟩,I.os,I.bare,I.base,I.loc,I.cell,I.free,I.freeC,I.pin,I.hok,I.len⟩
theorem Inv.goes{i:Nat}{n:Str}{m:Str->Option Qa}{v:Option Qa}{h':QJ}{t':Nat}(I:Inv X pins σ H s)(hi:X.N[i]?=some n)(hn:s.heap.Ns X.env.locals m)
 (hl:∀(i:Nat) (x:Str) (v:V),X.N[i]?=some x->σ[i]?=some (some v)->Vis X.env.scope x->∃u,RelV v u/\Jli X.env s.heap m x u) (hN:X.N.Nodup) (hn':h'.Ns X.env.locals (fun x=>if x=n then v else m x)) (hs:Ge X.env.locals s.heap h'):Inv X pins (σ.set i none) H { s with heap:=h',toks:=t' }:=by
 obtain⟨oL,_,_,hoL,_⟩:=id hn;have cne:=I.cne;have hiσ:i<σ.length:=by rw[I.len];exact(Qo.mp hi).1
 refine⟨I.ok,I.os,I.bare,⟨fun b o e n hb hx=>?_,fun b o e n hb hx=>?_,I.base.free,fun b o e hx=>?_,I.base.tups,I.base.frzs,I.base.tbls⟩,⟨_,hn',fun j y v' e1 e2 e3=>?_⟩,fun y c e=>?_,I.free,I.freeC,fun p hp=>?_,fun b ob e=>?_,by simpa using I.len⟩
 ·exact(hs.2 b (QG (QD (Qm e) I.ok.above))).trans (I.base.keep b o e n hb hx)
 ·obtain⟨sl,e1⟩:=I.base.slot b o e n hb hx;exact⟨sl,(hs.2 b (QG (QD (Qm e) I.ok.above))).trans e1⟩
 ·obtain⟨o',e1⟩:=I.base.there b o e hx;exact⟨o',(hs.2 b (QG (QD (Qm e) I.ok.above))).trans e1⟩
 ·by_cases hj:j=i
  ·subst hj;rw[KO hiσ] at e2;cases e2
  ·rw[K6 (Q0 hj)] at e2;obtain⟨u',r',q⟩:=hl j y v' e1 e2 e3;refine⟨u',r',?_⟩
   have hyn:y≠n:=fun z=>hj (by
    rw[z] at e1;have h1:=(Qo.mp e1)
    have h2:=(Qo.mp hi)
    exact(List.getElem_inj hN).mp (h1.2.trans h2.2.symm))
   rcases q with ⟨k1,k2⟩|⟨k1,c,k2,k3⟩
   ·exact .inl ⟨k1,by show(if y=n then v else m y)=some u';rw[if_neg hyn];exact k2⟩
   ·refine .inr ⟨k1,c,k2,?_⟩;obtain⟨oc,e4,e5⟩:=k3;exact⟨oc,(hs.2 c (cne y c k2)).trans e4,e5⟩
 ·obtain⟨v,oc,e4,e5⟩:=I.cell y c e;exact⟨v,oc,(hs.2 c (cne y c e)).trans e4,e5⟩
 ·obtain⟨h1,h2,h3,h4⟩:=I.pin p hp;exact⟨(hs.2 p.1 h3).trans h1,h2,h3,h4⟩
 ·refine(I.hok b ob e).stay (fun c w' hc q=>(hs.2 c ?_).trans q) (fun _ q=>q) fun _ _ q=>q
  rintro rfl;rcases hc with rfl|hc
  ·rw[I.free] at e;cases e
  ·rw[I.free] at hc;cases hc
theorem Inv.track{o:HO}(I:Inv X pins σ H s)(hx:X.ex=[])(ha:H a=none)(h0:X.s₀.heap.get? a=none)(hL:a≠X.env.locals)(hC:∀x c,X.env.cells.lookup x=some c->c≠a)(hP:∀p∈X.pn++pins,p.1≠a)(new:ObjOk X.prog X.w (upd H a o) s.heap a o):Inv X pins σ (upd H a o) s:=by
 have nt:∀b u,H b=some u->b≠a:=fun b u e z=>by rw[z,ha] at e;cases e
 refine⟨I.ok,I.os,I.bare,⟨I.base.keep,I.base.slot,fun b u e n hb=>?_,I.base.there,fun b xs e=>?_,fun b u xs e=>?_,fun b ps e=>?_⟩,I.loc,I.cell,?_,fun x c e=>?_,fun p hp=>?_,fun b u e=>?_,I.len⟩
 ·rw[Jm (fun z=>by rw[z,h0] at e;cases e)];exact I.base.free b u e n hb
 ·have:=I.base.tups b xs e;rw[Jm (nt _ _ this)];exact this
 ·have:=I.base.frzs b u xs e;rw[Jm (nt _ _ this)];exact this
 ·obtain⟨m,this⟩:=I.base.tbls b ps e;exact⟨m,by rw[Jm (nt _ _ this)];exact this⟩
 ·rw[Jm (Q0 hL)];exact I.free
 ·rw[Jm (hC x c e)];exact I.freeC x c e
 ·obtain⟨h1,h2,h3⟩:=I.pin p hp;exact⟨h1,by rw[Jm (hP p hp)];exact h2,h3⟩
 ·by_cases hb:b=a
  ·subst hb;rw[JF] at e;cases e;exact new
  ·rw[Jm hb] at e;exact(I.hok b u e).stay (fun _ _ _ q=>q) (fun c q=>by rw[Jm (nt _ _ q)];exact q) fun c xs q=>by rw[Jm (nt _ _ q)];exact q
end
section
variable{X:Cx}{body suite:List Gw}{b₀:Gw}{i:Nat}{n cn:Str}{np hpos pos:Pos}{CL:Qc}{T:(St->XK)->TS}{th:TS}
theorem Jkg(hs:X.stack=X.env::X.outer)(hf:X.env.frame=some X.env.locals)(hx:X.ex=[])(hN:X.N.Nodup)(hi:X.N[i]?=some n)(hk:X.env.kindOf n=some .local)(hg:Gl X cn)(hm:X.mg cn=some (.ref CL))
 (hb:JiM X body T) (hh:∀a,PSs (X.hand a) (b₀::suite) th) (hdb:(cn == ("__debug__":Str))=false:=by decide) :
 PS X (.Try body [.ExceptHandler (some (.Name cn np)) (some n) (b₀::suite) hpos] [] [] pos) (JkY X.K CL i T th):=by
 intro pins s σ H D I h;refine wpAny_Try_except (Q2 (hb pins s σ H D _ I h) (fun f s1 q=>?_) fun e s1 ⟨σ',Hc,sc,Ic,a,cls,H',base,he,ho,hgn,xf,hE⟩=>?_)
 ·cases f with
  | next=>exact KF q
  | ret v=>exact q
  | brk=>exact q
  | cont=>exact q
 ·subst he;obtain⟨a',ea,hxm,hth⟩:=hE;cases ea;have fl:=xf.fl;rw[hs] at fl;have hfr:X.A.frames=some (X.env::X.outer):=by rw[<- hs];exact Ic.ok.frames
  refine JcF hfr hf fl fun h1 x1 x2 x3 x4=>?_
  refine Jaq (s:={ s1 with heap:=h1 }) x1 x2 x3 fun h2 y1 y2 y3 y4=>?_
  have J:Inv X pins σ' H' { s1 with heap:=h2 }:=Ic.fly ho hgn (xf.on Ic.stack Ic.stkFree y1 (x4.trans y4) (by rw[hs];exact⟨y1,fl.2.1,y2,.inl y3⟩))
  have LT:Looks (model X.prog X.w) h2 (typeOf (.ref a)) (WF cls):=by obtain⟨oe,_,_,_,_,he,⟨hc,_⟩,_⟩:=y3;exact hc▸(PySem.W.Looks.ld he).andThen .now
  refine wpAny_handleBy_cons (codeAny_handlers_test (UC (X:=X.hand a) (J.hand a) hg hm ?_ hdb)) (by intro q;cases q);refine PySem.W.exm_one J.kIn LT hxm _ _ _ _ (fun _ _ q=>q) ?_;rw[if_pos rfl];refine codeAny_handlers_suite_as ?_;refine Jaq (s:={ s1 with heap:=h2 }) y1 y2 y3 fun h3 z1 z2 z3 z4=>?_
  have Y3:=xf.on Ic.stack Ic.stkFree z1 ((x4.trans y4).trans z4) (by rw[hs];exact⟨z1,fl.2.1,z2,.inl z3⟩)
  have J3:Inv X pins σ' H' { s1 with heap:=h3 }:=Ic.fly ho hgn Y3;obtain⟨oe,vs,_,_,_,he,⟨hc,hdn⟩,hd,_⟩:=z3
  have ncl:notCls oe=true:=by unfold notCls;rw[hd]
  have was:∀b o,sc.heap.get? b=some o->b≠a:=fun b o q z=>by rw[z,xf.new] at q;cases q
  have J4:Inv X pins σ' (upd H' a (XO a cls)) { s1 with heap:=h3 }:=by
   refine J3.track hx xf.free ?_ ?_ (fun x c e=>?_) (fun p hp=>?_) ⟨⟨oe,he,hc,ncl,hdn⟩,⟨oe,he⟩,fun g1 g2 ⟨o,q,r⟩ k=>⟨o,k o q,r⟩⟩
   ·cases z:X.s₀.heap.get? a with
    | none=>rfl
    | some u=>obtain⟨o,e⟩:=Ic.base.there a u z (by rw[hx];simp);exact absurd rfl (was a o e)
   ·obtain⟨m,⟨o,_,_,e,_⟩,_⟩:=Ic.loc;exact Q0 (was _ o e)
   ·obtain⟨v,o,e,_⟩:=Ic.cell x c e;exact was c o e
   ·exact was _ _ (Ic.pin p hp).1
  refine VW (X:=X.hand a) (J4.hand a) hN hi (.inl hk) (show RelV (.ref a) (.ref a) from rfl) (fun s4 I4=>?_) (.inr hk);refine Q2 (hh a pins s4 _ _ _ I4 (hth xf.free)) (fun f s5 q=>?_) fun _ _ z=>Q3 z
  have hp:(X.env.scope.kind == .class || (X.env.scope.kind == .module && X.env.locals != X.env.globals))=false:=by rw[I.ok.kind];rfl
  cases f with
  | next=>obtain⟨σ5,H5,I5,q5⟩:=q;have I5':=I5.unhand I.ok.hd;obtain⟨m,hn,hl⟩:=id I5'.loc;exact Kn hk hn hp fun h6 v n6 s6=>⟨_,H5,I5'.goes hi hn hl hN n6 s6,q5⟩
  | brk=>obtain⟨σ5,H5,I5,q5⟩:=q;have I5':=I5.unhand I.ok.hd;obtain⟨m,hn,hl⟩:=id I5'.loc;exact Kn hk hn hp fun h6 v n6 s6=>⟨_,H5,I5'.goes hi hn hl hN n6 s6,q5⟩
  | cont=>obtain⟨σ5,H5,I5,q5⟩:=q;have I5':=I5.unhand I.ok.hd;obtain⟨m,hn,hl⟩:=id I5'.loc;exact Kn hk hn hp fun h6 v n6 s6=>⟨_,H5,I5'.goes hi hn hl hN n6 s6,q5⟩
  | ret u=>obtain⟨v5,σ5,H5,I5,r5,q5⟩:=q;have I5':=I5.unhand I.ok.hd;obtain⟨m,hn,hl⟩:=id I5'.loc;exact Kn hk hn hp fun h6 v n6 s6=>⟨v5,_,H5,I5'.goes hi hn hl hN n6 s6,r5,q5⟩
end
end L2

namespace L2
open PySem PySem.Spec PyProof.Rows PySem.Calls LE
structure ExcN (K:Qq) (n:Str):Prop where
 pl:∀c,nsIn K mainGlobals n=some (some (.ref c))->findIn K (.ref c) "__getattribute__"=some (some (.builtin "BaseException.__getattribute__"))/\findIn K (.ref c) "__getattr__"=some none/\mroIn K c (.type "BaseException")=some true/\hasDictIn K c=true/\findIn K (.ref c) "__class__"=some (some (.builtin "object.__class__"))/\mroIn K c (.type "object")=some true
structure ExcG (K:Qq):Prop where
 hn:specialIn K (.builtin "object.__class__") "__get__"=some (some (.builtin "getset_descriptor.__get__"))
 htk:takesIn K (.builtin "object.__class__")=some true
section
variable{prog:Qp}{w:QC}{A:Qx}{E:Qa->Qd->Prop}{s:Qd}{K:Qq}{x C D:Qc}{ox:Obj}
theorem Jdv{Q:Option Qa->Qd->Prop}(X:K.In s.heap){od:Option Obj}(I:InstAt s.heap x ox D od)(hga:findIn K (.ref D) "__getattribute__"=some (some (.builtin "BaseException.__getattribute__")))
 (hgn:findIn K (.ref D) "__getattr__"=some none) (hmB:mroIn K D (.type "BaseException")=some true)
 (hf:findObj K D od "__class__"=some (.bind (.builtin "getset_descriptor.__get__") (.builtin "object.__class__"))) (hm:mroIn K D (.type "object")=some true)
 (h:Q (some (.ref D)) { s with toks:=s.toks+1 }):wpAny (model prog w) A (getAttr? (.ref x) "__class__") Q E s:=by
 obtain⟨hh,g,d,t,os⟩:=s;have L0:=I.type (M:=model prog w);have L1:=looks_findIn (M:=model prog w) X hga;have L2:=looks_findIn (M:=model prog w) X hgn;have f3:=GD.ga.bind (.ref x);unfold getAttr? getAttrBy? getAttrBy;refine Qe (wpAny_mkText (Qe (wpAny_attempt (Gg (Qe (L0.at (Qe (L1.at ?_))))))));have hx2:(Value.builtin "BaseException.__getattribute__" == Value.builtin "object.__getattribute__")=false:=by decide +kernel
 have hx1:(onTheHeap (Value.ref D) && Value.builtin "BaseException.__getattribute__" == Value.builtin "object.__getattribute__")=false:=by rw[hx2];rfl
 repeat (any_goals (first|assumption|(with_reducible refine L0.at ?_)|(with_reducible refine L1.at ?_)|(with_reducible refine L2.at ?_)|wp_step))
 have LB:=looks_mroIn (M:=model prog w) X hmB
 have LF:=MM (M:=model prog w) X I hf
 have hk:builtinKind "BaseException.__getattribute__"=some .slot:=by decide +kernel
 have hsplit:splitId "BaseException.__getattribute__"=some ("BaseException","__getattribute__"):=by decide +kernel
 have hag:=Mr (.ref x) (Value.str "__class__" t);refine Gu GD.ga.plain Mj ?_;simp only[Gr,GO,checkBuiltinCall,hk,hsplit];refine Qe ?_;unfold isInstance
 repeat (first|(with_reducible refine L0.at ?_)|(with_reducible refine LB.at ?_)|(with_reducible refine LF.at ?_)|wp_step)
 refine PySem.W.class_get (s:=⟨hh,g,d,t+1,os⟩) (ox:=ox) (od:=od) X I hm ?_;show wpAny (model prog w) A.in1 (ret (Value.ref D)) _ _ _;refine Qw ?_;exact MS rfl (Qw h)
end
section
variable{K:Qq}{x D:Qc}{ox:Obj}{od:Option Obj}
theorem Zy{a g:Qa}{name:Str}(hc:(clsIn K D).isSome=true)(ha:findIn K (.ref D) name=some (some a))(hg:specialIn K a "__get__"=some (some g))(ht:takesIn K a=some true):findObj K D od name=some (.bind g a):=by obtain⟨cd,hc⟩:=KD.mp hc;unfold findObj;rw[hc,Qi,ha,Qi];simp[hg,ht]
theorem JeT(hga:findIn K (.ref D) "__getattribute__"=some (some (.builtin "BaseException.__getattribute__")))(hgn:findIn K (.ref D) "__getattr__"=some none)(hmB:mroIn K D (.type "BaseException")=some true)(hdct:hasDictIn K D=true)(ha:findIn K (.ref D) "__class__"=some (some (.builtin "object.__class__")))
 (hn:specialIn K (.builtin "object.__class__") "__get__"=some (some (.builtin "getset_descriptor.__get__"))) (htk:takesIn K (.builtin "object.__class__")=some true) (hm:mroIn K D (.type "object")=some true) :
 PySem.W.KitX K (.ref x) (.ref D) (fun h=>InstAt h x ox D od) where
 ty:=fun _ _ _ I=>I.type
 it:=fun _ _ X _=>by
  obtain⟨cdD,hcD,_⟩:=any_some hdct;unfold clsIn at hcD;split at hcD
  ·rename_i c' d' cd' sl' ho;intro A' Q' E' s' k q;unfold isType loadHead;exact Qe (wpAny_loadPart (k _ _ (X _ _ ho)) (Qw q))
  ·cases hcD
 ne:=fun h tp dd its n sl X htp=>by
  obtain⟨cdD,hcD,_⟩:=any_some hdct;refine Bool.eq_false_iff.mpr fun q=>?_
  have e:D=tp:=Value.ref.inj (beq_iff_eq.mp q);subst e;unfold clsIn at hcD;split at hcD
  ·rename_i c' d' cd' sl' ho;have z:=(X _ _ ho).symm.trans htp;cases z
  ·cases hcD
 ca:=fun {_ _ _ _ _ s} X I k=>by have hf:findObj K D od "__class__"=some (.bind (.builtin "getset_descriptor.__get__") (.builtin "object.__class__")):=Zy (by obtain⟨cd,hc,_⟩:=any_some hdct;rw[hc];rfl) ha hn htk;exact Jdv X I hga hgn hmB hf hm k
end
section
variable{X:Cx}
inductive TyX (K:Qq) (H:Hp):V->Qa->Prop where
 | of {x:V} {t:Qa} (h:TyS K H x t):TyX K H x t
 | exc {a c:Qc} {v:Qa} {n:Str} (h:H a=some (XO a v)) (hv:WF v=.ref c) (hd:XdO v H) (e:nsIn K mainGlobals n=some (some (.ref c))) (N:ExcN K n) (G:ExcG K):TyX K H (.ref a) (.ref c)
theorem Jja{pins:List (Qc×Obj)}{σ:St}{H:Hp}{s:Qd}{a c:Qc}{v:Qa}(I:Inv X pins σ H s)(z:H a=some (XO a v))(hv:WF v=.ref c)(hd:XdO v H):∃o od,InstAt s.heap a o c od:=by
 obtain⟨⟨o,h1,h2,h3,h4⟩,_⟩:=(show ObjOk X.prog X.w H s.heap a (XO a v) from I.hok a _ z)
 unfold XdO at hd
 cases q:Ja1 v with
 | none=>rw[q] at h4;exact⟨o,none,h1,h2.trans hv,h3,by rw[h4];trivial⟩
 | some t =>
  rw[q] at h4 hd;obtain⟨fs,hd⟩:=hd;obtain⟨_,⟨od,_,_,e,_⟩,_⟩:=(show ObjOk X.prog X.w H s.heap t (.xd fs) from I.hok t _ hd)
  exact⟨o,some od,h1,h2.trans hv,h3,by rw[h4];exact e⟩
theorem JbS{pins:List (Qc×Obj)}{σ:St}{H:Hp}{s:Qd}{A:Qx}{E:Qa->Qd->Prop}{Q:Qa->Qd->Prop}{c:Qa}{b:Bool}{x:V}{u t:Qa}(I:Inv X pins σ H s)(rx:RelV x u)(ty:TyX X.K H x t)(e:kitOne X.K t c=some b)(h:∀tk,Q (.bool b) { s with toks:=tk }) :
 wpAny (model X.prog X.w) A (call (.builtin "isinstance") [u,c]) Q E s:=by
 cases ty with
 | of z=>exact WP I rx z e h
 | @exc a c' v n z hv hd e' N G=>cases (show u=Value.ref a from rx);obtain⟨o,od,J⟩:=Jja I z hv hd;obtain⟨q1,q2,q3,p2,p3,p4⟩:=N.pl c' e';exact kia_one (JeT q1 q2 q3 p2 p3 G.hn G.htk p4) I.kIn J e (fun z=>nomatch z) h
noncomputable def Jhx(K:Qq):List V->Hp->VK->Prop:=fun vs H Q=>∃x c t tc b,vs=[x,c]/\TyX K H x t/\(∀u,RelV c u->u=tc)/\kitOne K t tc=some b/\Q (.bl b) H
theorem Jee:CallR X (.builtin "isinstance") (Jhx X.K):=by intro pins s σ H xs us Q I r h;obtain⟨x,c,t,tc,b,rfl,ty,hc,e,q⟩:=h;obtain⟨u,w',rfl,r1,r2⟩:=Jf0 r;cases hc w' r2;exact JbS I r1 ty e fun tk=>⟨.bl b,H,I.tok tk,rfl,q⟩
end
end L2

namespace LE
open PySem L2 LR
noncomputable abbrev Xv:=En->Option Xm
section
variable(K:Qq)(C:Qc)
noncomputable def spR(n:Nat)(ex:List Sl->Option Xm):Sp:=fun vs H Q W=>∃H0 as m,Same H0 H/\RRL K C H H0 H vs as/\as.all (fun s=>!JR s)=true/\as.length=n/\ex as=some m ∧
 ∀c a H0' H',XC K m c H0'->Step H H0 H H0' H'->W c (some a) H'
noncomputable def spX(n:Nat)(f:List Sl->Option Sl)(ex:List Sl->Option Xm):Sp:=fun vs H Q W=>spE K C n f vs H Q W\/spR K C n ex vs H Q W
noncomputable def SXE(W:XK)(te:TE)(ex:Xv):Prop:=∀(B H0 H:Hp) (σ:St) (E:En) (m:Xm) (Q:VK),EnvR K C B H0 H σ E->ex E=some m ->
 (∀c a H0' H',XC K m c H0'->Step H H0 H H0' H'->W c (some a) H')->te σ H Q
noncomputable def SXS(W:XK)(ts:TS)(ex:Xv):Prop:=∀(B H0 H:Hp) (σ:St) (E:En) (m:Xm) (D:Ends),EnvR K C B H0 H σ E->ex E=some m ->
 (∀c a H0' H',XC K m c H0'->SStep B H0 H0' H'->W c (some a) H')->ts D σ H
noncomputable def SXT(T:(St->XK)->TS)(ex:Xv):Prop:=∀(B H0 H:Hp) (σ:St) (E:En) (m:Xm) (D:Ends) (W:St->XK),EnvR K C B H0 H σ E->ex E=some m ->
 (∀c a H0' H',XC K m c H0'->Step H H0 H H0' H'->W σ c (some a) H')->T W D σ H
end
theorem Jc3{K:Qq}{C:Qc}{n:Nat}{f:List Sl->Option Sl}{ex:List Sl->Option Xm}{vs:List V}{H:Hp}{Q:VK}{W:XK}(h:spX K C n f ex vs H Q W):vs.length=n:=by
 rcases h with ⟨_,as,_,_,r,_,hl,_⟩|⟨_,as,_,_,r,_,hl,_⟩
 ·rw[r.len,hl]
 ·rw[r.len,hl]
noncomputable def YS:Xv:=fun _=>none
noncomputable def Yd(a:Es)(ea eb:Xv):Xv:=fun E=>match ea E with
 | some m=>some m
 | none=>match a E with
  | some (.nx E')=>eb E'
  | _=>none
noncomputable def V2(c:En->Option Bool)(a b:Xv):Xv:=fun E=>(c E).bind fun k=>if k=true then a E else b E
noncomputable def exU(n:Nat)(ex:List Sl->Option Xm)(as:En->Option (List Sl)):Xv:=fun E=>(as E).bind fun ss=>(VO ss).bind fun bs=>if bs.length=n then ex bs else none
noncomputable def YT(m:Str)(as:En->Option (List Sl)):Xv:=fun E=>(as E).bind fun ss=>if ss.length<=1000 then some (m:Xm) else none
noncomputable def Jeu(N:Nat)(b:Xv):List Sl->Option Xm:=fun as=>b (as++QO (N-as.length) .no)
section
variable{K:Qq}{C:Qc}{W:XK}{t:TA}{ev:En->Option (List Sl)}{te:TE}{ts us:TS}{et eu:Es}{xt xu:Xv}{ex:Xv}
theorem JaK{n:Nat}{f:List Sl->Option Sl}{x:List Sl->Option Xm}{W:XK}(ha:SA K C t ev):SE K C (Wl (spX K C n f x) [] W t) (eU n f ev):=by
 intro B H0 H σ E c Q I e q;obtain⟨ss,e1,e⟩:=bind_some e;obtain⟨bs,e2,e⟩:=bind_some e;split at e
 ·next hl=>refine Wv (ha B H0 H σ E ss _ I e1 fun vs H1 H1' s1 r1=>?_);obtain⟨h1,h2⟩:=r1.pass s1.i e2;have f:=JX (Hs:=H) s1.i;exact .inl ⟨_,bs,c,f.i,h1,h2,hl,e,fun v H2 H2' s2 r2=>q v H2 H2' ((s1.comp f fun _ z=>z).comp s2 fun a z=>Same.free s1.h z) (r2.weak fun a z=>Same.free s1.h z)⟩
 ·cases e
theorem Jdc{n:Nat}{f:List Sl->Option Sl}{x:List Sl->Option Xm}(ha:SA K C t ev):SXE K C W (Wl (spX K C n f x) [] W t) (exU n x ev):=by
 intro B H0 H σ E m Q I e q;obtain⟨ss,e1,e⟩:=bind_some e;obtain⟨bs,e2,e⟩:=bind_some e;split at e
 ·next hl=>refine Wv (ha B H0 H σ E ss _ I e1 fun vs H1 H1' s1 r1=>?_);obtain⟨h1,h2⟩:=r1.pass s1.i e2;have f:=JX (Hs:=H) s1.i;exact .inr ⟨_,bs,m,f.i,h1,h2,hl,e,fun c a H2 H2' hc s2=>q c a H2 H2' hc ((s1.comp f fun _ z=>z).comp s2 fun a z=>Same.free s1.h z)⟩
 ·cases e
theorem Vh:SXS K C W ts YS:=fun _ _ _ _ _ _ _ _ e _=>by cases e
theorem UQ(h1:SS K C ts et)(x1:SXS K C W ts xt)(x2:SXS K C W us xu):SXS K C W (JfQ ts us) (Yd et xt xu):=by
 intro B H0 H σ E m D I e q;unfold Yd at e;split at e
 ·next m' hm=>cases e;exact x1 B H0 H σ E m _ I hm q
 ·split at e
  ·next E' hE=>refine h1 B H0 H σ E _ _ I hE ?_;exact fun σ' H1 H1' s1 I1=>x2 B H1 H1' σ' E' m D I1 e fun c a H2 H2' hc s2=>q c a H2 H2' hc (s1.trans s2)
  ·cases e
theorem Jde{c:TT}{ec:En->Option Bool}(hc:ST K C c ec)(x1:SXS K C W ts xt)(x2:SXS K C W us xu):SXS K C W (Jh4 c ts us) (V2 ec xt xu):=by
 intro B H0 H σ E m D I e q;obtain⟨k,e1,e⟩:=bind_some e;refine hc B H0 H σ E k _ I e1 fun H1 H1' s1=>?_
 have s1':=s1.ss I.b
 cases k with
 | true=>rw[if_pos rfl] at e ⊢;exact x1 B H1 H1' σ E m D (I.step s1) e fun c a H2 H2' hc s2=>q c a H2 H2' hc (s1'.trans s2)
 | false=>rw[if_neg (by decide)] at e ⊢;exact x2 B H1 H1' σ E m D (I.step s1) e fun c a H2 H2' hc s2=>q c a H2 H2' hc (s1'.trans s2)
theorem Jii(h:SXE K C W te ex):SXS K C W (Zj te) ex:=fun B H0 H σ E m D I e q=>h B H0 H σ E m _ I e fun c a H1 H1' hc s1=>q c a H1 H1' hc (s1.ss I.b)
theorem Zt{m:Str}{c:Qc}(hc:nsIn K mainGlobals m=some (some (.ref c)))(ha:SA K C t ev):SXS K C W (Jck c W t) (YT m ev):=by
 intro B H0 H σ E m' D I e q;obtain⟨ss,e1,e⟩:=bind_some e;split at e
 ·next hl =>
  cases e;refine ha B H0 H σ E ss _ I e1 fun vs H1 H1' s1 r1=>⟨?_,fun a=>q (.ref c) a H1 H1' ⟨c,hc,rfl⟩ (s1.ss I.b)⟩
  rw[r1.len];exact QK hl (by decide)
 ·cases e
theorem Jld{T:XK->TE}{g:TG}{ex:Xv}(h:∀W,SXE K C W (T W) ex):SXT K C (JfT T g) ex:=fun B H0 H σ E m D W I e q=>h (W σ) B H0 H σ E m _ I e q
end
section
variable{K:Qq}{C:Qc}{B H0 H:Hp}{σ:St}{E:En}
theorem Jdu{N:List Str}{vs:List V}{as:List Sl}(i:Same H0 H)(ra:RRL K C H H0 H vs as)(ho:as.all (fun s=>!JR s)=true):EnvR K C H H0 H (L2.YD N vs) (as++QO (N.length-as.length) .no):=by
 have lens:=ra.len
 have noOwn:∀(j:Nat) (s:Sl),as[j]?=some s->JR s=false:=fun j s e=>by
  have:=Q4.mp ho s (QX e)
  simpa using this
 have get:∀(j:Nat) (s:Sl),(as++QO (N.length-as.length) Sl.no)[j]?=some s->s=.no\/as[j]?=some s:=fun j s e=>by
  by_cases hj:j<as.length
  ·rw[QF hj] at e;exact .inr e
  ·rw[QM (by omega),KL] at e;split at e
   ·cases e;exact .inl rfl
   ·cases e
 refine⟨Same.refl _,i,by simp[L2.YD,lens],fun j s e=>?_,fun j k s1 s2 v hjk e1 e2 w1 w2=>?_⟩
 ·rcases get j s e with z|z
  ·exact .inl z
  ·obtain⟨v,h1,h2⟩:=ra.get z;refine .inr ⟨v,?_,?_⟩
   ·unfold L2.YD;rw[QF (by have:=(Qo.mp h1).1;simpa using this),QR,h1];rfl
   ·cases s with
    | no=>trivial
    | sh d=>exact h2
    | bo ds=>exact h2
    | own ds=>exact absurd (noOwn j _ z) (by simp[JR])
    | bd ks ds=>exact h2
    | bt ks ds=>exact h2
    | od ks ds=>exact absurd (noOwn j _ z) (by simp[JR])
    | ot ks ds=>exact absurd (noOwn j _ z) (by simp[JR])
 ·rcases get j _ e1 with z|z
  ·subst z;cases w1
  ·rw[noOwn j _ z] at w1;cases w1
theorem Ja8{N:List Str}{n:Nat}{b:Es}{x:Xv}{ts:TS}{vs:List V}{Q:VK}{W:XK}(hb:SS K C ts b)(hx:SXS K C W ts x)(h:spX K C n (Us N.length b) (Jeu N.length x) vs H Q W):ts { nx:=fun _ H'=>Q .non H',rt:=Q } (L2.YD N vs) H:=by
 rcases h with h|⟨H0,as,m,i,ra,ho,hl,e,q⟩
 ·exact Jar hb h
 ·exact hx H H0 H _ _ m _ (Jdu i ra ho) e fun c a H1 H1' hc s1=>q c a H1 H1' hc ⟨s1.b,s1.z,s1.n,s1.i⟩
theorem EnvR.del(I:EnvR K C B H0 H σ E)(i:Nat):EnvR K C B H0 H (σ.set i none) (E.set i .no):=by
 refine⟨I.b,I.h,by simp[I.len],fun j s e=>?_,fun j k s1 s2 v hjk e1 e2 o1 o2 e3 e4=>?_⟩
 ·rw[QN] at e
  by_cases hj:i=j
  ·rw[if_pos hj] at e;split at e
   ·cases e;exact .inl rfl
   ·cases e
  ·rw[if_neg hj] at e;rcases I.at' j s e with z|⟨v,h1,h2⟩
   ·exact .inl z
   ·exact .inr ⟨v,by rw[QN,if_neg hj];exact h1,h2⟩
 ·have ne:∀(j:Nat) (s:Sl),(E.set i Sl.no)[j]?=some s->JR s=true->i≠j/\E[j]?=some s:=fun j s e o=>by
   rw[QN] at e
   by_cases hj:i=j
   ·rw[if_pos hj] at e;split at e
    ·cases e;cases o
    ·cases e
   ·rw[if_neg hj] at e;exact⟨hj,e⟩
  obtain⟨n1,f1⟩:=ne j s1 e1 o1;obtain⟨n2,f2⟩:=ne k s2 e2 o2;rw[QN,if_neg n1] at e3;rw[QN,if_neg n2] at e4;exact I.sep j k s1 s2 v hjk f1 f2 o1 o2 e3 e4
end
noncomputable def Jj8(i:Nat):Out->Out
 | .nx E=>.nx (E.set i .no)
 | .rt r=>.rt r
 | .bk E=>.bk (E.set i .no)
 | .ct E=>.ct (E.set i .no)
noncomputable def JbH(R:List Str)(i:Nat)(b:Es)(x:Xv)(h:Es):Es:=fun E=>match b E with
 | some o=>some o
 | none=>(x E).bind fun m=>if m.n∈R/\i<E.length then(h (E.set i (.sh (.exc m)))).map (Jj8 i) else none
section
variable{K:Qq}{C:Qc}
theorem Jmm{R:List Str}{CL:Qc}{i:Nat}{T:(St->XK)->TS}{th:TS}{b h:Es}{x:Xv}(hm:∀m∈R,∀c,nsIn K mainGlobals m=some (some (.ref c))->exmOne K (.ref c) (.ref CL)=some true)
 (hb:∀W,SS K C (T W) b) (hx:SXT K C T x) (hh:SS K C th h):SS K C (JkY K CL i T th) (JbH R i b x h):=by
 intro B H0 H σ E o D I e fin;unfold JbH at e;split at e
 ·next o' hE=>cases e;exact hb _ B H0 H σ E o D I hE fin
 ·obtain⟨m,e1,e⟩:=bind_some e;split at e
  ·next hR =>
   obtain⟨o',e2,rfl⟩:=map_some e;refine hx B H0 H σ E m D _ I e1 fun c a H1 H1' hc s1=>⟨a,rfl,(by obtain⟨c',k1,k2⟩:=hc.cls;rw[k2];exact hm m.n hR.1 c' k1),fun ha=>?_⟩
   have ha0:H1 a=none:=by
    cases z:H1 a with
    | none=>rfl
    | some u=>rw[s1.i a u z] at ha;cases ha
   have I1:=I.step s1
   have st:Step H1' H1 H1' (upd H1 a (XO a c)) (upd H1' a (XO a c)):=by
    refine⟨fun b u z=>?_,fun b u z=>?_,fun b u z=>?_,fun b u z=>?_⟩
    ·rw[Jm (JB z ha)];exact z
    ·rw[Jm (JB z ha0)];exact z
    ·by_cases hb:b=a
     ·subst hb;exact .inr (.inl ha)
     ·rw[Jm hb] at z;exact .inl z
    ·by_cases hb:b=a
     ·subst hb;rw[JF] at z ⊢;exact z
     ·rw[Jm hb] at z ⊢;exact s1.i b u z
   have I2:EnvR K C B (upd H1 a (XO a c)) (upd H1' a (XO a c)) (σ.set i (some (.ref a))) (E.set i (.sh (.exc m))) :=
    I1.put' st hR.2 (show RR K C H1' _ _ (.ref a) (.sh (.exc m)) from RD.exc JF (hc.mono fun b u z=>by rw[Jm (JB z ha0)];exact z)) rfl
   have ss:SStep B H0 (upd H1 a (XO a c)) (upd H1' a (XO a c)):=(s1.ss I.b).trans (st.ss I1.b);refine hh B _ _ _ _ o' _ I2 e2 ?_
   cases o' with
   | nx E2=>exact fun σ' H2 H2' s2 I3=>fin _ H2 H2' (ss.trans s2) (I3.del i)
   | bk E2=>exact fun σ' H2 H2' s2 I3=>fin _ H2 H2' (ss.trans s2) (I3.del i)
   | ct E2=>exact fun σ' H2 H2' s2 I3=>fin _ H2 H2' (ss.trans s2) (I3.del i)
   | rt r=>exact fun v H2 H2' s2 r2=>fin v H2 H2' (ss.trans s2) r2
  ·cases e
end
noncomputable def exB(n m:Str):Bool:=n == m || m == "LumpError"
noncomputable def Jmu(R:List Str)(m:Str):D->Option Bool
 | .exc n=>if n.n∈R then some (exB n.n m) else none
 | .non=>some false
 | _=>none
noncomputable def V0(R:List Str)(m:Str)(a:Ev):Ev:=fun E=>(a E).bind fun s=>s.d.bind fun d=>(Jmu R m d).map fun b=>.sh (.bl b)
noncomputable def Jlr(R:List Str)(a:Ev):Ev:=fun E=>(a E).bind fun s=>s.d.bind fun d=>(match d with|.exc n=>if n.n∈R then some true else none|.non=>some false|_=>none).map fun b=>.sh (.bl b)
section
variable{K:Qq}{C:Qc}{te:TE}{ea:Ev}
structure IsiN (K:Qq) (R:List Str) (m:Str) (c:Qc):Prop where
 own:∀n∈R,ExcN K n
 g:ExcG K
 k:∀n∈R,∀c',nsIn K mainGlobals n=some (some (.ref c'))->kitOne K (.ref c') (.ref c)=some (exB n m)
 o:kitOne K (.type "NoneType") (.ref c)=some false
theorem UT{R:List Str}{m:Str}{c:Qc}(N:IsiN K R m c)(ha:SE K C te ea):SE K C (tCB (Jhx K) (Uc te (Uc (tC (.ref c)) ZF))) (V0 R m ea):=by
 intro B H0 H σ E r Q I e q;obtain⟨a,e1,e⟩:=bind_some e;obtain⟨d,e2,e⟩:=bind_some e;obtain⟨b,e3,rfl⟩:=map_some e;refine ha B H0 H σ E a _ I e1 fun x H1 H1' s1 r1=>?_
 have rd:=r1.dat s1.i e2
 cases d with
 | exc n =>
  have e3:(if n.n∈R then some (exB n.n m) else none)=some b:=e3;split at e3
  ·next hn=>cases e3;obtain⟨a',c',rfl,hx,hc⟩:=RD.excI rd;obtain⟨c1,k1,k2⟩:=hc.cls;exact⟨_,_,_,_,_,rfl,.exc hx k2 hc.xd k1 (N.own n.n hn) N.g,fun u z=>z,N.k n.n hn c1 k1,q _ _ _ s1 (RD.bl _)⟩
  ·cases e3
 | non=>cases e3;cases RD.nonI rd;exact⟨_,_,_,_,_,rfl,.of (.of .non),fun u z=>z,N.o,q _ _ _ s1 (RD.bl _)⟩
 | _=>cases e3
end
end LE
namespace L2
open PySem PySem.Spec PyProof.Rows PySem.Calls LE
section
variable{X:Cx}
end
end L2
namespace LE
open PySem L2 LR
noncomputable def IsiL(K:Qq)(R:List Str):List Str->List Qc->Prop
 | [],[]=>True
 | m::ms,c::cs=>IsiN K R m c/\IsiL K R ms cs
 | _,_=>False
theorem IsiL.exc{K:Qq}{R:List Str}{n:Str}{c':Qc}(hn:n∈R)(hc:nsIn K mainGlobals n=some (some (.ref c'))):∀{ms:List Str} {cs:List Qc},IsiL K R ms cs->kitAny K (.ref c') (cs.map Value.ref)=some (ms.any (exB n))
 | [],[],_=>rfl
 | m::ms,c::cs,⟨h,t⟩=>by show(match kitOne K (.ref c') (.ref c) with|some true=>some true|some false=>kitAny K (.ref c') (cs.map Value.ref)|none=>none)=_;rw[h.k n hn c' hc,t.exc hn hc,GW];cases exB n m <;> rfl
theorem IsiL.non{K:Qq}{R:List Str}:∀{ms:List Str} {cs:List Qc},IsiL K R ms cs->kitAny K (.type "NoneType") (cs.map Value.ref)=some false
 | [],[],_=>rfl
 | m::ms,c::cs,⟨h,t⟩=>by show(match kitOne K (.type "NoneType") (.ref c) with | some true=>some true | some false=>kitAny K (.type "NoneType") (cs.map Value.ref) | none=>none)=_;rw[h.o,t.non]
section
variable{K:Qq}{C:Qc}{te:TE}{ea:Ev}
structure IsiV (K:Qq) (R:List Str):Prop where
 own:∀n∈R,ExcN K n
 g:ExcG K
 k:∀n∈R,∀c',nsIn K mainGlobals n=some (some (.ref c'))->kitOne K (.ref c') (.type "ValueError")=some true
theorem JlF{K:Qq}:kitOne K (.type "NoneType") (.type "ValueError")=some false:=by kernel_rfl
theorem Jmf{R:List Str}(N:IsiV K R)(ha:SE K C te ea):SE K C (tCB (Jhx K) (Uc te (Uc (tC (.ty "ValueError")) ZF))) (Jlr R ea):=by
 intro B H0 H σ E r Q I e q;obtain⟨a,e1,e⟩:=bind_some e;obtain⟨d,e2,e⟩:=bind_some e;obtain⟨b,e3,rfl⟩:=map_some e;refine ha B H0 H σ E a _ I e1 fun x H1 H1' s1 r1=>?_
 have rd:=r1.dat s1.i e2
 cases d with
 | exc n =>
  have e3:(if n.n∈R then some true else none)=some b:=e3;split at e3
  ·next hn=>cases e3;obtain⟨a',c',rfl,hx,hc⟩:=RD.excI rd;obtain⟨c1,k1,k2⟩:=hc.cls;exact⟨_,_,_,_,_,rfl,.exc hx k2 hc.xd k1 (N.own n.n hn) N.g,fun u z=>z,N.k n.n hn c1 k1,q _ _ _ s1 (RD.bl _)⟩
  ·cases e3
 | non=>cases e3;cases RD.nonI rd;exact⟨_,_,_,_,_,rfl,.of (.of .non),fun u z=>z,JlF,q _ _ _ s1 (RD.bl _)⟩
 | _=>cases e3
end
end LE

namespace L2
open PySem PySem.Spec PyProof.Rows PySem.Calls LE
theorem Zu:bootBuiltins "ValueError"=some (.type "ValueError"):=by decide +kernel
section
variable{X:Cx}{K:Qq}
theorem J0(h:X.K=K):CallR X (.builtin "isinstance") (Jhx K):=by subst h;exact Jee
theorem Jhv{body suite:List Gw}{b₀:Gw}{i:Nat}{n cn:Str}{np hpos pos:Pos}{CL:Qc}{T:(St->XK)->TS}{th:TS}(h:X.K=K)(hs:X.stack=X.env::X.outer)(hf:X.env.frame=some X.env.locals)(hx:X.ex=[])(hN:X.N.Nodup)(hi:X.N[i]?=some n)(hk:X.env.kindOf n=some .local)(hg:Gl X cn)(hm:X.mg cn=some (.ref CL))
 (hb:JiM X body T) (hh:∀a,PSs (X.hand a) (b₀::suite) th) (hdb:(cn == ("__debug__":Str))=false:=by decide) :
 PS X (.Try body [.ExceptHandler (some (.Name cn np)) (some n) (b₀::suite) hpos] [] [] pos) (JkY K CL i T th):=by subst h;exact Jkg hs hf hx hN hi hk hg hm hb hh hdb
theorem Wb{x:Str}{np cpos pos:Pos}{C:Qc}{E:XK}{e:QQ}{es:List QQ}{t:TA}(h:X.K=K)(ok:excIn K C VEm "ValueError.__new__"=true)(hg:Gl X x)(hm:X.mg x=some (.ref C))(hc:X.calm=true)(hx:XOk X E)(ha:PA X (e::es) t)(hdb:(x == ("__debug__":Str))=false:=by decide)
 (he:starEach (e::es) X.env=(false,eval e X.env)::starEach es X.env:=by rfl) (hpl:(backTo cpos (starEach es X.env)).any (·.1)=false:=by rfl) :
 PS X (.Raise (some (.Call (.Name x np) (e::es) [] cpos)) none pos) (Jck C E t):=by subst h;exact Jfd ok hg hm hc hx ha hdb he hpl
end
end L2
namespace LE
open PySem L2 LR
section
variable{K:Qq}{C:Qc}{ts:TS}
theorem Yr:SS K C ts Yg:=fun _ _ _ _ _ _ _ _ e _=>by cases e
theorem Jf3{T:XK->TE}{ea:Ev}{i:Nat}(h:∀W,SE K C (T W) ea)(W:St->XK):SS K C (JfT T (Ug i) W) (Jl i ea):=Jt (te:=fun σ H Q=>T (W σ) σ H Q) fun B H0 H σ E r Q I e q=>h (W σ) B H0 H σ E r Q I e q
structure AtY (K:Qq) (n:Str) (c:Qc):Prop where
 ns:nsIn K mainGlobals n=some (some (.ref c))
 ga:findIn K (.ref c) "__getattribute__"=some (some (.builtin "BaseException.__getattribute__"))
 gn:findIn K (.ref c) "__getattr__"=some none
 mb:mroIn K c (.type "BaseException")=some true
 hd:hasDictIn K c=true
 fi:findIn K (.ref c) "__class__"=some (some (.builtin "object.__class__"))
 mr:mroIn K c (.type "object")=some true
structure AtX (K:Qq) (n:Str) (c:Qc):Prop extends AtY K n c where
 ok:excIn K c VEm "ValueError.__new__"=true
theorem AtY.n{n:Str}{c:Qc}(h:AtY K n c):ExcN K n:=⟨fun c' e=>by have:=h.ns.symm.trans e;cases this;exact⟨h.ga,h.gn,h.mb,h.hd,h.fi,h.mr⟩⟩
noncomputable def OwnL(K:Qq):List Str->List Qc->Prop
 | [],[]=>True
 | n::ns,c::cs=>AtY K n c/\OwnL K ns cs
 | _,_=>False
theorem Jhp:OwnL K [] []:=trivial
theorem W3{ns:List Str}{cs:List Qc}{n:Str}{c:Qc}(h:AtY K n c)(t:OwnL K ns cs):OwnL K (n::ns) (c::cs):=⟨h,t⟩
theorem OwnL.all:∀{ns:List Str} {cs:List Qc},OwnL K ns cs->∀n∈ns,ExcN K n
 | [],[],_,n,h=>nomatch h
 | m::ns,c::cs,⟨h,t⟩,n,hn=>by
  rcases Qv.mp hn with e|e
  ·rw[e];exact h.n
  ·exact t.all n e
noncomputable def ExmL(K:Qq)(CL:Qc):List Qc->Prop
 | []=>True
 | c::cs=>exmOne K (.ref c) (.ref CL)=some true/\ExmL K CL cs
theorem Jgx{CL:Qc}:ExmL K CL []:=trivial
theorem WI{CL c:Qc}{cs:List Qc}(h:exmOne K (.ref c) (.ref CL)=some true)(t:ExmL K CL cs):ExmL K CL (c::cs):=⟨h,t⟩
theorem ExmL.all{CL:Qc}:∀{ns:List Str} {cs:List Qc},OwnL K ns cs->ExmL K CL cs->∀m∈ns,∀c,nsIn K mainGlobals m=some (some (.ref c))->exmOne K (.ref c) (.ref CL)=some true
 | [],[],_,_,n,h=>nomatch h
 | m::ns,c::cs,⟨h,t⟩,⟨h',t'⟩,n,hn=>fun c' e=>by
  rcases Qv.mp hn with z|z
  ·rw[z,h.ns] at e;cases e;exact h'
  ·exact t'.all t n z c' e
noncomputable def KitL(K:Qq)(m:Str)(c:Qc):List Str->List Qc->Prop
 | [],[]=>True
 | n::ns,d::ds=>kitOne K (.ref d) (.ref c)=some (exB n m)/\KitL K m c ns ds
 | _,_=>False
theorem YV{m:Str}{c:Qc}:KitL K m c [] []:=trivial
theorem JA{m n:Str}{c d:Qc}{ns:List Str}{ds:List Qc}{b:Bool}(h:kitOne K (.ref d) (.ref c)=some b)(e:exB n m=b)(t:KitL K m c ns ds):KitL K m c (n::ns) (d::ds):=⟨by rw[e];exact h,t⟩
theorem KitL.all{m:Str}{c:Qc}:∀{ns:List Str} {cs:List Qc},OwnL K ns cs->KitL K m c ns cs->∀n∈ns,∀c',nsIn K mainGlobals n=some (some (.ref c'))->kitOne K (.ref c') (.ref c)=some (exB n m)
 | [],[],_,_,n,h=>nomatch h
 | m::ns,c::cs,⟨h,t⟩,⟨h',t'⟩,n,hn=>fun c' e=>by
  rcases Qv.mp hn with z|z
  ·rw[z] at e ⊢;rw[h.ns] at e;cases e;exact h'
  ·exact t'.all t n z c' e
theorem YU{m:Str}{c:Qc}{ns:List Str}{cs:List Qc}(o:OwnL K ns cs)(g:ExcG K)(k:KitL K m c ns cs)(z:kitOne K (.type "NoneType") (.ref c)=some false):IsiN K ns m c:=⟨o.all,g,k.all o,z⟩
noncomputable def KivL(K:Qq):List Qc->Prop
 | []=>True
 | c::cs=>kitOne K (.ref c) (.type "ValueError")=some true/\KivL K cs
theorem Jg5:KivL K []:=trivial
theorem WR{c:Qc}{cs:List Qc}(h:kitOne K (.ref c) (.type "ValueError")=some true)(t:KivL K cs):KivL K (c::cs):=⟨h,t⟩
theorem KivL.all:∀{ns:List Str} {cs:List Qc},OwnL K ns cs->KivL K cs->∀n∈ns,∀c',nsIn K mainGlobals n=some (some (.ref c'))->kitOne K (.ref c') (.type "ValueError")=some true
 | [],[],_,_,n,h=>nomatch h
 | m::ns,c::cs,⟨h,t⟩,⟨h',t'⟩,n,hn=>fun c' e=>by
  rcases Qv.mp hn with z|z
  ·rw[z,h.ns] at e;cases e;exact h'
  ·exact t'.all t n z c' e
theorem Jg0{ns:List Str}{cs:List Qc}(o:OwnL K ns cs)(g:ExcG K)(k:KivL K cs):IsiV K ns:=⟨o.all,g,k.all o⟩
end
section
variable(K:Qq)(C:Qc)
end
section
variable{K:Qq}{C:Qc}{W:XK}{ta te:TE}{t tr:TA}{ea:Ev}{xa xr ex:Xv}{wi:TI}
end
end LE

namespace LE
open PySem L2 LR
noncomputable def Ys(p:Pt)(b:Es)(x:Xv):List D->Xv
 | []=>fun _=>none
 | d::ds=>fun E=>(p.bind d E).bind fun E1=>match x E1 with
  | some m=>some m
  | none=>match b E1 with
   | some (.nx E2)=>Ys p b x ds E2
   | some (.ct E2)=>Ys p b x ds E2
   | _=>none
noncomputable def Wh(it:En->Option (List D))(p:Pt)(b:Es)(x:Xv):Xv:=fun E=>(it E).bind fun ds=>Ys p b x ds E
section
variable{K:Qq}{C:Qc}{W:XK}{t:TS}{et:Es}{xt:Xv}
theorem Jdd{wi:TI}{g:TG}{it:En->Option (List LE.D)}{p:Pt}(hi:SI K C false wi it)(hg:SG K C g p)(ht:SS K C t et)(hx:SXS K C W t xt):SXS K C W (JkW wi g t) (Wh it p et xt):=by
 intro B H0 H σ E m D I e f;obtain⟨ds,e1,e⟩:=bind_some e;refine hi B H0 H σ E ds _ I e1 fun J H1 H1' s1 ok=>?_
 rw[if_neg (by simp)] at ok;refine⟨fun i k σ' H'=>k=ds.length-i/\i<=ds.length/\∃H0' E',EnvR K C B H0' H' σ' E'/\SStep B H1 H0' H'/\Ys p et xt (ds.drop i) E'=some m,
  ⟨ds.length,by simp,Lz _,H1,E,I.step s1,.refl (I.b.trans s1.h) s1.i,e⟩,?_⟩
 rintro i k σ' H' ⟨rfl,hi',H0',E',I',st,er⟩;have stop:=ok H0' H' st
 by_cases hlt:i<ds.length
 ·have hd:ds[i]?=some ds[i]:=by simp[hlt]
  obtain⟨go,yl⟩:=stop.1 i _ hd;refine .inr ⟨go,fun σ2 H2=>∃H02 E2,EnvR K C B H02 H2 σ2 E2/\SStep B H1 H02 H2/\Ys p et xt (ds.drop (i+1)) E2=some m,fun σ2 H2 h=>⟨ds.length-(i+1),by omega,rfl,hlt,h⟩,fun x H2 y=>?_⟩;obtain⟨H02,st2,rx⟩:=yl x H2 y;rw[GN hlt,Ys] at er;obtain⟨E1,b1,er⟩:=bind_some er;have ss2:SStep B H0' H02 H2:=st2.ss I'.b;have all:SStep B H0 H02 H2:=((s1.ss I.b).trans st).trans ss2;refine hg B H02 H2 σ' E' E1 x _ _ (I'.step st2) rx b1 fun σ2 I2=>?_
  split at er
  ·next m' hm=>cases er;exact hx B H02 H2 σ2 E1 m _ I2 hm fun c a H3 H3' hc s3=>f c a H3 H3' hc (all.trans s3)
  ·split at er
   ·next E2 hb=>exact ht B H02 H2 σ2 E1 _ _ I2 hb fun σ3 H3 H3' s3 I3=>⟨H3,E2,I3,(st.trans ss2).trans s3,er⟩
   ·next E2 hb=>exact ht B H02 H2 σ2 E1 _ _ I2 hb fun σ3 H3 H3' s3 I3=>⟨H3,E2,I3,(st.trans ss2).trans s3,er⟩
   ·cases er
 ·have e3:i=ds.length:=by omega
  subst e3;rw[LV,Ys] at er;cases er
end
end LE
namespace L2
open PySem PySem.Spec PyProof.Rows PySem.Calls LE
structure RoomH (k:Nat) (A:Qx):Prop where
 dp:A.depth+3*k+5<recursionLimit
 un:A.units+16*k+200<cLine
theorem Room.h{k:Nat}{A:Qx}(r:Room k A):RoomH k A:=⟨r.dp,r.un⟩
theorem RoomH.mono{j k:Nat}{A:Qx}(r:RoomH k A)(h:j<=k):RoomH j A:=⟨by have:=r.dp;omega,by have:=r.un;omega⟩
theorem RoomH.mark{k:Nat}{A:Qx}(r:RoomH k A)(v:Option Qa):RoomH k (A.mark v):=⟨r.dp,r.un⟩
theorem RoomH.deeper{k:Nat}{A:Qx}(r:RoomH (k+1) A)(env:Env):RoomH k (A.deeper env) :=
 ⟨by have:=r.dp;show A.depth+1+3*k+5<_;omega,by have:=r.un;show A.units+3+16*k+200<_;omega⟩
theorem RoomH.units{k:Nat}{A:Qx}(r:RoomH k A):A.units+64<cLine:=by have:=r.un;omega
structure FnH (P:Qp) (w:QC) (K:Qq) (mg:Str->Option Qa) (base:QJ) (k:Nat) (f:Qc) (fd:QH) (ps:List Str) (sp:Sp):Prop where
 len:∀vs H Q E,sp vs H Q E->vs.length=ps.length
 run:∀(A:Qx) (outer:List Env) (s:Qd) (H:Hp) (args:Args) (us:List Qa) (vs:List V) (Q:VK) (E:XK),RoomH k A->Env0 P w K mg base A outer s H->BindsTo s fd args (ps.zip us)->Vals vs us->sp vs H Q E ->
  codeAny (model P w) A (.call (.ref f) args) (CR CX0 outer P w H s Q E) s
theorem FnH.ok{P:Qp}{w:QC}{K:Qq}{mg:Str->Option Qa}{base:QJ}{k:Nat}{f:Qc}{fd:QH}{ps:List Str}{sp:Sp}(F:FnH P w K mg base k f fd ps sp):FnOk P w K mg base CX0 k f fd ps sp :=
 ⟨F.len,fun A outer s H args us vs Q E hr=>F.run A outer s H args us vs Q E hr.h⟩
structure CalH (P:Qp) (w:QC) (K:Qq) (mg:Str->Option Qa) (base:QJ) (x:Str) (k:Nat) (ps:List Str) (sp:Sp):Prop where
 ex:∃(f:Qc) (fd:QH),FnH P w K mg base k f fd ps sp/\mg x=some (.ref f)/\keepIn K (.ref f)=true/\Binds K fd ps []
section
variable{X:Cx}{k:Nat}{ps:List Str}{sp:Sp}{x:Str}{p pos:Pos}{e:QQ}{es:List QQ}{t:TA}
end
end L2

namespace L2
open PySem PySem.Spec PyProof.Rows PySem.Calls LE
structure CalMX (P:Qp) (w:QC) (K:Qq) (mg:Str->Option Qa) (base:QJ) (x:Str) (C:Qc) (k:Nat) (ps:List Str) (sp:Sp):Prop where
 ex:∃(f:Qc) (fd:QH),Mk K C f/\FnOk P w K mg base (CX1 P w) k f fd ps sp/\mg x=some (.ref C)/\Binds K fd ps []
section
variable{X:Cx}{k:Nat}{C:Qc}{ps:List Str}{sp:Sp}{x:Str}{p pos:Pos}{e:QQ}{es:List QQ}{t:TA}
end
end L2
namespace LE
open PySem L2 LR
section
variable(K:Qq)(C:Qc)
end
section
variable{K:Qq}{C:Qc}{W:XK}{t:TA}{ev:En->Option (List Sl)}{H0 H H2:Hp}
noncomputable def Jd7(ss:List Sl):Bool:=ss.all fun s=>!JR s
theorem RRL.more{vs:List V}{ss:List Sl}(st:Same H H2):Jd7 ss=true->RRL K C H H0 H vs ss->RRL K C H2 H0 H2 vs ss:=fun ho r=>by
 revert ho
 induction r with
 | nil=>exact fun _=>.nil
 | @cons v s vs ss h _ ih =>
  intro ho
  have hs:JR s=false/\Jd7 ss=true:=by unfold Jd7 at ho ⊢;rw[LL,QL] at ho;exact⟨by simpa using ho.1,ho.2⟩
  refine .cons ?_ (ih hs.2)
  cases s with
  | no=>exact h
  | sh d=>exact h
  | bo ds=>obtain⟨l,xs,e,g,q⟩:=h;exact⟨l,xs,e,st _ _ g,q⟩
  | bd ks ds=>obtain⟨l,xs,e,g,q⟩:=h;exact⟨l,xs,e,st _ _ g,q⟩
  | bt ks ds=>obtain⟨l,xs,e,g,q⟩:=h;exact⟨l,xs,e,st _ _ g,q⟩
  | own ds=>exact absurd hs.1 (by simp[JR])
  | od ks ds=>exact absurd hs.1 (by simp[JR])
  | ot ks ds=>exact absurd hs.1 (by simp[JR])
end
end LE

namespace L2
open PySem PySem.Spec PyProof.Rows PySem.Calls
theorem Jam(a b:Bool):MeetsSeq.EqGives (.bool a) (.bool b) (a == b):=fun prog w A E s Q h=>by
 unfold eqBool;show wpAny _ _ (if (Value.bool a == Value.bool b)=true then _ else _) Q E s
 by_cases hab:(Value.bool a == Value.bool b)=true
 ·rw[if_pos hab];have e:a=b:=by have:=eq_of_beq hab;injection this
  subst e;exact Qe (wpAny_rule (Qw (by simpa using h)))
 ·rw[if_neg hab];exact Qe (PyProof.Rows.eq_bool (GP h))
theorem JaX:∀{bs:List Bool} {its:List Qa},Vals (bs.map V.bl) its->its=bs.map Value.bool
 | [],_,r=>by cases r;rfl
 | b::bs,_,r=>by
  cases r with
  | cons h t=>cases (show _=Value.bool b from h);rw[JaX t];rfl
noncomputable def JcW:V->List V->Hp->VK->Prop:=fun x vs H Q=>∃(l:Qc) (bs:List Bool) (b:Bool),x=.ref l/\vs=[.bl b]/\H l=some (.lst (bs.map V.bl))/\Q (.int (bs.count b:Nat)) H
noncomputable def efB(b:Bool):Qa->Bool:=fun v=>match v with
 | .bool a=>a == b
 | _=>false
theorem ZQ(b:Bool):∀bs:List Bool,(bs.map Value.bool).countP (efB b)=bs.count b
 | []=>rfl
 | a::bs=>by rw[Qt,List.countP_cons,ZQ b bs,List.count_cons];rfl
section
variable{X:Cx}
theorem JdO:MtR X "list.count" JcW:=by
 intro pins s σ H x vs v us Q I rx rv h;obtain⟨l,bs,b,rfl,rfl,hH,q⟩:=h;cases rx;obtain⟨u,rfl,hu⟩:=rv.one;cases (show u=Value.bool b from hu);obtain⟨z,its,n,r,hl,e⟩:=I.lstM hH;cases JaX r;refine call_meets F.slot_list_count ⟨_,e,rfl⟩ F.entry_list_count (F.args_list_count_2 _ _) (MeetsSeq.list_count l (bs.map Value.bool).toArray n (.bool b) (efB b) (fun y hy=>?_)) ⟨e,?_⟩
 ·have hy':y∈bs.map Value.bool:=by simpa using hy
  obtain⟨a,_,rfl⟩:=Ku.mp hy';exact Jam a b
 ·refine⟨.int (bs.count b:Nat),H,I.tok _,⟨s.toks,?_⟩,q⟩;show Value.int (((bs.map Value.bool).countP (efB b):Nat):Int) s.toks=_;rw[ZQ]
end
end L2
namespace LE
open PySem L2 LR
noncomputable def lst?:Sl->Option (List D)
 | .bo ds=>some ds
 | .own ds=>some ds
 | .sh (.lst ds)=>some ds
 | _=>none
noncomputable def eMB(f:List Bool->Bool->Option Int)(o a:Ev):Ev:=fun E=>(o E).bind fun s=>(lst? s).bind fun ds=>(bls? ds).bind fun bs=>(a E).bind fun y=>(bool? y).bind fun b=>(f bs b).map fun i=>.sh (.int i)
noncomputable def Jlt(bs:List Bool)(b:Bool):Option Int:=some (bs.count b:Nat)
section
variable{K:Qq}{C:Qc}{to te:TE}{eo ea:Ev}{Hs H0 H:Hp}{v:V}
theorem RR.lst{s:Sl}{ds:List D}(i:Same H0 H)(r:RR K C Hs H0 H v s)(e:lst? s=some ds):∃l xs,v=.ref l/\H l=some (.lst xs)/\RDL K C H0 xs ds:=by
 cases s with
 | bo es=>cases e;exact r
 | own es=>cases e;obtain⟨l,xs,e,h,_,_,q⟩:=r;exact⟨l,xs,e,h,q⟩
 | sh d =>
  cases d with
  | lst es=>cases e;obtain⟨l,xs,e,h,q⟩:=RD.lstI r;exact⟨l,xs,e,i _ _ h,q⟩
  | _=>cases e
 | _=>cases e
theorem JmM{rm:V->List V->Hp->VK->Prop}{f:List Bool->Bool->Option Int}(hm:∀(l:Qc) (bs:List Bool) (b:Bool) (i:Int) (H:Hp) (Q:VK),H l=some (.lst (bs.map V.bl))->f bs b=some i->Q (.int i) H->rm (.ref l) [.bl b] H Q)
 (ho:SE K C to eo) (ha:SE K C te ea):SE K C (tBM K "list" rm to (Uc te ZF)) (eMB f eo ea):=by
 intro B H0 H σ E r Q I e q;obtain⟨s,e1,e⟩:=bind_some e;obtain⟨ds,e2,e⟩:=bind_some e;obtain⟨bs,e3,e⟩:=bind_some e;obtain⟨y,e4,e⟩:=bind_some e;obtain⟨b,e5,e⟩:=bind_some e;obtain⟨i,e6,rfl⟩:=map_some e;refine ho B H0 H σ E s _ I e1 fun x H1 H1' s1 r1=>?_
 obtain⟨l,xs,rfl,hl,rl⟩:=r1.lst s1.i e2;refine⟨.inl ⟨rfl,_,.of hl⟩,?_⟩;refine ha B H1 H1' σ E y _ (I.step s1) e4 fun u H2 H2' s2 r2=>?_
 rw[U8 e5] at r2;cases RD.blI r2;rw[WD e3] at rl;have hx:=RDL.bls rl;subst hx;exact hm l bs b i H2' Q (s2.h _ _ hl) e6 (q _ _ _ (s1.trans s2) (RD.int i))
theorem JhR(ho:SE K C to eo)(ha:SE K C te ea):SE K C (tBM K "list" JcW to (Uc te ZF)) (eMB Jlt eo ea) :=
 JmM (fun l bs b i H Q h e q=>by cases e;exact⟨l,bs,b,rfl,rfl,h,q⟩) ho ha
end
end LE

namespace LE
open PySem L2 LR
noncomputable def JbG(i:Nat):Es:=fun E=>match E[i]? with
 | some (.own ds)=>some (.nx (E.set i (.own ds.reverse)))
 | _=>none
section
variable{K:Qq}{C:Qc}
theorem RDL.rev{H:Hp}{xs:List V}{ds:List D}(r:RDL K C H xs ds):RDL K C H xs.reverse ds.reverse:=by
 have key:∀{xs:List V} {ds:List D},RDL K C H xs ds->RDL K C H xs.reverse ds.reverse:=by
  intro xs
  induction xs with
  | nil =>
   intro ds r
   cases ds with
   | nil=>exact .nil
   | cons d ds=>have:=r.1;simp at this
  | cons x xs ih =>
   intro ds r
   cases ds with
   | nil=>have:=r.1;simp at this
   | cons d ds=>rw[GQ,GQ];exact(ih r.tail).snoc r.head
 exact key r
theorem Jlc{i:Nat}:SS K C (Zj (Jh3 K "list" Jbu (Zk i))) (JbG i):=by
 intro B H0 H σ E o D I e f;unfold JbG at e;split at e
 ·next ds h=>cases e;obtain⟨l,xs,g1,g2,g3,g4,g5⟩:=I.slot h;have m:=I.mut (xs:=xs) h g1 (RDL.rev g5);exact⟨_,g1,.inl ⟨rfl,_,.of g2⟩,l,xs,rfl,rfl,g2,f _ _ _ ⟨m.b,Same.refl _,fun _ _ e=>.inl e,m.h⟩ m⟩
 ·cases e
end
end LE

namespace PySem
abbrev JiN(h:QJ)(z TI TO a:Qc)(f:Bool):Prop :=
 h.get? z=some { cls:=.type "zip",dict:=none,data:=.fields #[rawInt a,.bool f,.bool false,.ref TI,.ref TO],slots:=#[] }
section
variable{prog:Qp}{w:QC}{A:Qx}{E:Qa->Qd->Prop}{s:Qd}{z TI TO i1 i2 a:Qc}{f:Bool}{oa:Obj}{p1 p2:List Qc}{n1 n2 k:Nat}{P1 P2:Nat->Qa->Prop}{S1 S2:Nat->QJ->Prop}
end
end PySem

namespace PySem
section
variable{prog:Qp}{w:QC}{A:Qx}{E:Qa->Qd->Prop}{s:Qd}{b1 b2:Bool}{a1 a2 z TI TO i1 i2 S:Qc}{xs ys:Array Qa}{i:Nat}
def LzSt(b1 b2:Bool)(a1 a2 z TI TO i1 i2 S:Qc)(xs ys:Array Qa)(i:Nat)(h:QJ):Prop :=
 IsPair h TI (.ref i1) (.ref i2)/\(IsItr b1 h i1 a1 i/\IsSq b1 h a1 xs)/\(IsItr b2 h i2 a2 i/\IsSq b2 h a2 ys) ∧
 ((IsZip h z TI TO .none/\∃u v,IsPair h TO u v)\/∃a f oa,JiN h z TI TO a f/\h.get? a=some oa/\a≠S/\a≠z/\a≠i1/\a≠i2)
theorem IsSq.keep{b:Bool}{h h':QJ}{a:Qc}{xs:Array Qa}(q:IsSq b h a xs)(k:∀o,h.get? a=some o->h'.get? a=some o):IsSq b h' a xs:=by
 cases b with
 | true=>obtain⟨o,e,r⟩:=q;exact⟨o,k o e,r⟩
 | false=>obtain⟨o,e,r⟩:=q;exact⟨o,k o e,r⟩
theorem IsItr.keep'{b:Bool}{h h':QJ}{j a:Qc}{i:Nat}(q:IsItr b h j a i)(k:∀o,h.get? j=some o->h'.get? j=some o):IsItr b h' j a i:=by
 cases b with
 | true=>obtain⟨o,e,r⟩:=q;exact⟨o,k o e,r⟩
 | false=>obtain⟨o,e,r⟩:=q;exact⟨o,k o e,r⟩
theorem LzSt.keep{h h':QJ}(x:LzSt b1 b2 a1 a2 z TI TO i1 i2 S xs ys i h)(k:∀b o,b≠S->h.get? b=some o->h'.get? b=some o)(n:S∉[z,TI,TO,i1,i2,a1,a2]):LzSt b1 b2 a1 a2 z TI TO i1 i2 S xs ys i h':=by
 simp only[Qv,Gp,or_false,not_or] at n;obtain⟨n1,n2,n3,n4,n5,n6,n7⟩:=n;obtain⟨x1,x2,x3,x4⟩:=x;refine⟨k _ _ (Q0 n2) x1,⟨IsItr.keep' x2.1 fun o e=>k _ o (Q0 n4) e,IsSq.keep x2.2 fun o e=>k _ o (Q0 n6) e⟩,⟨IsItr.keep' x3.1 fun o e=>k _ o (Q0 n5) e,IsSq.keep x3.2 fun o e=>k _ o (Q0 n7) e⟩,?_⟩;rcases x4 with ⟨y1,u,v,y2⟩|⟨a,f,oa,y1,y2,y3⟩
 ·exact .inl ⟨k _ _ (Q0 n1) y1,u,v,k _ _ (Q0 n3) y2⟩
 ·exact .inr ⟨a,f,oa,k _ _ (Q0 n1) y1,k _ _ y3.1 y2,y3⟩
end
structure LzG (xs ys:Array Qa) (lo:Qc) (h:QJ) (as:List Qc):Prop where
 rise:as.Pairwise (·<·)
 above:∀a∈as,lo<a
 pairs:∀(j:Nat) (a:Qc),as[j]?=some a->∃u v,xs[j]?=some u/\ys[j]?=some v/\IsPair h a u v
theorem LzG.there{xs ys:Array Qa}{lo:Qc}{h:QJ}{as:List Qc}(g:LzG xs ys lo h as){a:Qc}(ha:a∈as):a<h.objs.size:=by obtain⟨j,hj⟩:=K1.mp ha;obtain⟨_,_,_,_,e⟩:=g.pairs j a hj;exact Qm e
section
variable{prog:Qp}{w:QC}{A:Qx}{s:Qd}{R:Result->Qd->Prop}{b1 b2:Bool}{a1 a2 z TI TO i1 i2 S:Qc}{xs ys:Array Qa}
end
end PySem

namespace PySem
open PySem.Calls PyProof.Rows PyProof.V PySem.Spec
section
variable{prog:Qp}{w:QC}{A:Qx}{E:Qa->Qd->Prop}{s:Qd}{b1 b2:Bool}{a1 a2 z TI TO i1 i2:Qc}{xs ys:Array Qa}
end
end PySem

namespace L2
open PySem PySem.Spec PyProof.Rows
end L2

namespace LE
open PySem L2 LR
section
variable{K:Qq}{C:Qc}
end
end LE

namespace L2
open PySem PySem.Spec PyProof.Rows
section
variable{X:Cx}{pins:List (Qc×Obj)}{σ:St}{H:Hp}{s:Qd}{a:Qc}{kvs:List (Key×V)}{k:Key}{z:V}{u r:Qa}{A:Qx}{E:Qa->Qd->Prop}
end
section
variable{X:Cx}{o e f:QQ}{apos cpos:Pos}{td ty tx:TE}
end
end L2
namespace LE
open PySem L2 LR
section
variable(K:Qq)(C:Qc)(j:Nat)
noncomputable def Left(σ:St)(E:En)(σ':St)(E':En):Prop:=σ'[j]?=σ[j]?/\∀(i:Nat) (s:Sl),E'[i]?=some s->JR s=true->E[i]?=some s/\σ'[i]?=σ[i]?
end
section
variable{K:Qq}{C:Qc}{j:Nat}
theorem Left.refl(σ:St)(E:En):Left j σ E σ E:=⟨rfl,fun _ _ e _=>⟨e,rfl⟩⟩
theorem Left.trans{σ σ1 σ2:St}{E E1 E2:En}(a:Left j σ E σ1 E1)(b:Left j σ1 E1 σ2 E2):Left j σ E σ2 E2 :=
 ⟨b.1.trans a.1,fun i s e o=>by obtain⟨h1,h2⟩:=b.2 i s e o;obtain⟨h3,h4⟩:=a.2 i s h1 o;exact⟨h3,h2.trans h4⟩⟩
end
end LE

namespace LE
open PySem L2 LR
section
variable(K:Qq)(C:Qc)
structure Grp (B H0 H:Hp) (σ:St) (E:En) (j c:Nat) (ks:List Int) (dss:List (List D)) (l:Qc) (ls:List Qc):Prop where
 at':σ[j]?=some (some (.ref l))
 dict:H l=some (dkO ks (ls.map V.ref))
 l0:H0 l=none
 lb:B l=none
 len:ks.length=ls.length
 len2:dss.length=ls.length
 cnt:ks.length<=c
 lists:∀(m:Nat) (a:Qc) (ds:List D),ls[m]?=some a->dss[m]?=some ds->ds.length<=c/\∃xs,H a=some (.lst xs)/\H0 a=none/\B a=none/\RDL K C H0 xs ds
 nd:(l::ls).Nodup
 own:∀(i:Nat) (s:Sl) (a:Qc),E[i]?=some s->JR s=true->σ[i]?=some (some (.ref a))->a∉l::ls
end
section
variable{K:Qq}{C:Qc}{B H0 H H0' H':Hp}{σ σ':St}{E E':En}{j c:Nat}{ks:List Int}{dss:List (List D)}{l:Qc}{ls:List Qc}
theorem Grp.there(g:Grp K C B H0 H σ E j c ks dss l ls){a:Qc}(ha:a∈l::ls):∃o,H a=some o/\isT o=false/\H0 a=none/\B a=none:=by
 rcases Qv.mp ha with z|z
 ·subst z;exact⟨_,g.dict,rfl,g.l0,g.lb⟩
 ·obtain⟨m,hm⟩:=K1.mp z;have hl:m<dss.length:=by rw[g.len2];exact(Qo.mp hm).1
  obtain⟨_,xs,h1,h2,h3,_⟩:=g.lists m a dss[m] hm (GX hl);exact⟨_,h1,rfl,h2,h3⟩
theorem Grp.off(g:Grp K C B H0 H σ E j c ks dss l ls)(st:Step H H0 H H0' H'){a:Qc}(ha:a∈l::ls):H0' a=none:=by
 obtain⟨o,h1,h2,h3,_⟩:=g.there ha
 cases z:H0' a with
 | none=>rfl
 | some u =>
  rcases st.n a u z with y|y|y
  ·rw[h3] at y;cases y
  ·rw[h1] at y;cases y
  ·have:=st.i a u z;rw[st.h a o h1] at this;cases this;rw[h2] at y;cases y
theorem Grp.step(g:Grp K C B H0 H σ E j c ks dss l ls)(st:Step H H0 H H0' H'):Grp K C B H0' H' σ E j c ks dss l ls :=
 ⟨g.at',st.h _ _ g.dict,g.off st QB,g.lb,g.len,g.len2,g.cnt,fun m a ds e1 e2=>by obtain⟨h0,xs,h1,h2,h3,h4⟩:=g.lists m a ds e1 e2;exact⟨h0,xs,st.h _ _ h1,g.off st (Qj _ (QX e1)),h3,h4.mono st.z⟩,g.nd,g.own⟩
theorem Grp.free(g:Grp K C B H0 H σ E j c ks dss l ls){a:Qc}(ha:a∈l::ls):∀(i:Nat) (s:Sl),E[i]?=some s->JR s=true->σ[i]?≠some (some (.ref a)):=fun i s e o q=>g.own i s a e o q ha
theorem EnvR.fresh(I:EnvR K C B H0 H σ E){p:Qc}(hp:H p=none):∀(i:Nat) (s:Sl),E[i]?=some s->JR s=true->σ[i]?≠some (some (.ref p)):=fun i s e o q=>by
 rcases I.at' i s e with z|⟨v,q1,q2⟩
 ·subst z;cases o
 ·rw[q1] at q;cases q
  cases s with
  | own es=>obtain⟨l',ys,p1,p2,_⟩:=q2;cases p1;rw[hp] at p2;cases p2
  | od ks es=>obtain⟨l',ys,p1,p2,_⟩:=q2;cases p1;rw[hp] at p2;cases p2
  | ot ks es=>obtain⟨l',ys,p1,p2,_⟩:=q2;cases p1;rw[hp] at p2;cases p2
  | _=>cases o
end
end LE

namespace LE
open PySem L2 LR
section
variable{K:Qq}{C:Qc}{B H0 H H0' H':Hp}{σ σ':St}{E E':En}{j c:Nat}{ks:List Int}{dss:List (List D)}{l:Qc}{ls:List Qc}
noncomputable def Jdz(H0 H:Hp)(ls:List Qc):Hp:=fun a=>if a∈ls then H a else H0 a
theorem Z1{Hz:Hp}:∀{ls:List Qc} {dss:List (List D)},dss.length=ls.length->(∀(m:Nat) (a:Qc) (ds:List D),ls[m]?=some a->dss[m]?=some ds->∃xs,Hz a=some (.lst xs)/\RDL K C Hz xs ds)->RDL K C Hz (ls.map V.ref) (dss.map .lst)
 | [],[],_,_=>.nil
 | [],_::_,h,_=>by simp at h
 | _::_,[],h,_=>by simp at h
 | a::ls,ds::dss,h,f=>by obtain⟨xs,h1,h2⟩:=f 0 a ds rfl rfl;exact .cons (.mkL h1 h2) (Z1 (by simpa using h) fun m a ds e1 e2=>f (m+1) a ds (by simpa using e1) (by simpa using e2))
theorem Grp.done(I:EnvR K C B H0 H σ E)(g:Grp K C B H0 H σ E j c ks dss l ls)(hj:j<E.length):SStep B H0 (Jdz H0 H ls) H/\EnvR K C B (Jdz H0 H ls) H σ (E.set j (.od ks (dss.map .lst))):=by
 have out:∀{a:Qc},a∉ls->Jdz H0 H ls a=H0 a:=fun {a} h=>if_neg h
 have inn:∀{a:Qc},a∈ls->Jdz H0 H ls a=H a:=fun {a} h=>if_pos h
 have z:Same H0 (Jdz H0 H ls):=fun a o e=>by
  by_cases c:a∈ls
  ·rw[inn c];exact I.h a o e
  ·rw[out c];exact e
 have i:Same (Jdz H0 H ls) H:=fun a o e=>by
  by_cases c:a∈ls
  ·rw[inn c] at e;exact e
  ·rw[out c] at e;exact I.h a o e
 have ln:l∉ls:=(KH.mp g.nd).1;refine⟨⟨I.b,z,fun a o e=>?_,i⟩,I.b,i,by simp[I.len],fun k s e=>?_,fun k m s t v hkm e1 e2 o1 o2 e3 e4=>?_⟩
 ·by_cases c:a∈ls
  ·exact .inr (.inl (g.there (Qj _ c)).choose_spec.2.2.2)
  ·rw[out c] at e;exact .inl e
 ·rw[QN] at e
  by_cases c:j=k
  ·subst c;rw[if_pos rfl,if_pos hj] at e;have e':=QI e;subst e';refine .inr ⟨_,g.at',l,ls.map V.ref,rfl,g.dict,by rw[out ln];exact g.l0,g.lb,by rw[Qy,g.len2];exact g.len,Z1 g.len2 fun m a ds q1 q2=>?_⟩;obtain⟨_,xs,h1,_,_,h4⟩:=g.lists m a ds q1 q2;exact⟨xs,by rw[inn (QX q1)];exact h1,h4.mono z⟩
  ·rw[if_neg c] at e;rcases I.at' k s e with y|⟨v,q1,q2⟩
   ·exact .inl y
   ·refine .inr ⟨v,q1,?_⟩
    cases s with
    | no=>trivial
    | sh d=>exact RD.mono z q2
    | bo es=>obtain⟨l',ys,p1,p2,p3⟩:=q2;exact⟨l',ys,p1,p2,p3.mono z⟩
    | bd ks es=>obtain⟨l',ys,p1,p2,p3,p4⟩:=q2;exact⟨l',ys,p1,p2,p3,p4.mono z⟩
    | bt ks es=>obtain⟨l',ys,p1,p2,p3,p4⟩:=q2;exact⟨l',ys,p1,p2,p3,p4.mono z⟩
    | own es=>obtain⟨l',ys,p1,p2,p3,p4,p5⟩:=q2;subst p1;have:=g.own k _ l' e rfl q1;exact⟨l',ys,rfl,p2,by rw[out fun m=>this (Qj _ m)];exact p3,p4,p5.mono z⟩
    | od ks es=>obtain⟨l',ys,p1,p2,p3,p4,p5,p6⟩:=q2;subst p1;have:=g.own k _ l' e rfl q1;exact⟨l',ys,rfl,p2,by rw[out fun m=>this (Qj _ m)];exact p3,p4,p5,p6.mono z⟩
    | ot ks es=>obtain⟨l',ys,p1,p2,p3,p4,p5,p6⟩:=q2;subst p1;have:=g.own k _ l' e rfl q1;exact⟨l',ys,rfl,p2,by rw[out fun m=>this (Qj _ m)];exact p3,p4,p5,p6.mono z⟩
 ·have get:∀(i:Nat) (s:Sl),(E.set j (Sl.od ks (dss.map .lst)))[i]?=some s->i=j\/(i≠j/\E[i]?=some s):=fun i s e=>by
   rw[QN] at e
   by_cases c:j=i
   ·exact .inl c.symm
   ·rw[if_neg c] at e;exact .inr ⟨fun z=>c z.symm,e⟩
  rcases get k s e1 with y1|⟨n1,y1⟩
  ·subst y1;rcases get m t e2 with y2|⟨n2,y2⟩
   ·exact hkm y2.symm
   ·rw[g.at'] at e3;have e3':=QI (QI e3);subst e3';exact g.own m t l y2 o2 e4 QB
  ·rcases get m t e2 with y2|⟨n2,y2⟩
   ·subst y2;rw[g.at'] at e4;have e4':=QI (QI e4);subst e4';exact g.own k s l y1 o1 e3 QB
   ·exact I.sep k m s t v hkm y1 y2 o1 o2 e3 e4
end
end LE

namespace L2
open PySem PySem.Spec PyProof.Rows
noncomputable def YQ:List Int->List Int->Bool
 | [],_=>true
 | _::_,[]=>false
 | x::xs,y::ys=>if x=y then YQ xs ys else decide (x<=y)
theorem Vk(x y:Int)(xs ys:List Int):YQ (x::xs) (y::ys)=if x=y then YQ xs ys else decide (x<=y):=rfl
theorem Jfr(A:Qx)(s:Qd)(a:Int)(t:Tok)(c:Int)(u:Tok)(prog:Qp)(w:QC)(E:Qa->Qd->Prop)(Q:Qa->Qd->Prop)(h:Q (.bool (decide (a<=c))) s) :
 wpAny (model prog w) A (richCompare .LtE (.int a t) (.int c u)) Q E s :=
 (PyProof.Rows.le_int h:wpAny (model prog w) A (compareOp .LtE (.int a t) (.int c u)) Q E s)
section
open PySem.SeqAt
open PySem.AutoSeq1 (wpAny_loadPart')
open PySem.MeetsSeq PySem.MeetsSeq2 PySem.MeetsSeq3
theorem ZH(l b:Qc)(items items2:Array Qa)(n n2:Nat)(dd dd2:Option Qc)(sl sl2:Array (Option Qa))(ns ms:List Int)(hi:IntsAre items.toList ns)(hj:IntsAre items2.toList ms) :
 Meets (Builtin.«tuple.__le__» ⟨[.ref l,.ref b],[]⟩)
  (fun _ R s=>s.heap.get? l=some { cls:=.type "tuple",dict:=dd,data:=.seq items n,slots:=sl }/\s.heap.get? b=some { cls:=.type "tuple",dict:=dd2,data:=.seq items2 n2,slots:=sl2 } ∧
   R (.ok (.ret (.bool (YQ ns ms)))) s) :=
 .of_wp fun prog w A R s h=>by
  obtain⟨hp,g,d,tk,os⟩:=s;obtain⟨hl,hb,h⟩:=h;have f2:=LN;have z1:items.size=ns.length:=by rw[<- hi.length];simp
  have z2:items2.size=ms.length:=by rw[<- hj.length];simp
  wp_walk using Gy hl,Gy hb,wpAny_forIn_list _ (fun rest b s'=>b.1=none/\s'=⟨hp,g,d,tk,os⟩/\∃(vs ws:List Qa) (ns' ms':List Int),rest=vs.zip ws ∧
   IntsAre vs ns'/\IntsAre ws ms'/\ns'.length+items2.size=ms'.length+items.size/\R (.ok (.ret (.bool (YQ ns' ms')))) ⟨hp,g,d,tk,os⟩) _
  case turn =>
   rintro⟨y,x⟩ rest b s' ⟨hb',rfl,vs,ws,ns',ms',hz,hvi,hwi,hlen,hR⟩
   cases hvi with
   | nil=>rw[List.zip_nil_left] at hz;cases hz
   | cons a t hvi' =>
    cases hwi with
    | nil=>rw[List.zip_nil_right] at hz;cases hz
    | cons c u hwi' =>
     rw[Ka] at hz
     injection hz with hyx hrest
     injection hyx with hy hx
     subst hy hx;rw[Vk] at hR;simp only[Qk] at hlen;obtain⟨e,he,hiff⟩:=HT.Ja5 A.in1 ⟨hp,g,d,tk,os⟩ a t c u;refine Qe (he prog w _ _ ?_)
     cases e with
     | true=>rw[if_pos (hiff.mp rfl)] at hR;wp_walk;exact⟨rfl,rfl,_,_,_,_,hrest,hvi',hwi',by omega,hR⟩
     | false=>rw[if_neg (fun q=>absurd (hiff.mpr q) QA)] at hR;have hri:=Jfr A.in1 ⟨hp,g,d,tk,os⟩ a t c u prog w;wp_walk using hri;exact⟨_,rfl,by simpa using hR⟩
  case fin =>
   rintro⟨b1,b2⟩ s' ⟨hb',rfl,vs,ws,ns',ms',hz,hvi,hwi,hlen,hR⟩;simp only at hb';subst hb'
   have hv:YQ ns' ms'=decide (items.size<=items2.size):=by
    cases hvi with
    | nil=>simp only[QV] at hlen;rw[show YQ [] ms'=true from rfl];exact(decide_eq_true (by omega)).symm
    | cons a t hv =>
     cases hwi with
     | nil=>simp only[QV,Qk] at hlen;rw[show YQ (_::_) []=false from rfl];exact(decide_eq_false (by omega)).symm
     | cons c u hw=>rw[Ka] at hz;cases hz
   rw[hv] at hR;wp_walk;exact⟨_,rfl,by simpa [KZ] using hR⟩
  case h=>exact⟨rfl,rfl,items.toList,items2.toList,ns,ms,rfl,hi,hj,by omega,h⟩
end
section
variable{prog:Qp}{w:QC}{A:Qx}{E:Qa->Qd->Prop}{s:Qd}
theorem JbT{l b:Qc}{items items2:Array Qa}{ns ms:List Int}{Q:Qa->Qd->Prop}(hl:s.heap.IsTuple l items)(hb:s.heap.IsTuple b items2)(hi:IntsAre items.toList ns)(hj:IntsAre items2.toList ms)
 (hu:A.units<cLine) (h:Q (.bool (YQ ns ms)) s):wpAny (model prog w) A (compareOp .LtE (.ref l) (.ref b)) Q E s:=by
 obtain⟨⟨cls,dd,data,sl⟩,ho,hc,n,hd⟩:=id hl;obtain⟨⟨cls2,dd2,data2,sl2⟩,ho2,hc2,n2,hd2⟩:=id hb;simp only at hc hd hc2 hd2;subst hc hd hc2 hd2;exact richCompare_meets_room (op:=.LtE) ⟨_,ho,rfl⟩ ⟨_,ho2,rfl⟩ PySem.F.slot_tuple_le PySem.F.entry_tuple_le (PySem.F.args_tuple_le_2 _ _) (ZH l b items items2 n n2 dd dd2 sl sl2 ns ms hi hj)
  ⟨ho,ho2,show Value.bool (YQ ns ms)≠Value.notImplemented/\Q (.bool (YQ ns ms)) s from⟨(fun x=>nomatch x),h⟩⟩ hu
end
noncomputable def JlY(K:Qq):R2:=fun x y H Q=>∃a b ns ms,x=.ref a/\y=.ref b/\SqT K H a (ns.map V.int)/\SqT K H b (ms.map V.int)/\Q (.bl (YQ ns ms)) H
theorem Jj5{X:Cx}{K:Qq}(hK:X.K=K)(hu:X.A.units<cLine):OpR X (compareOp .LtE) (JlY K):=by subst hK;intro pins s σ H x y v u Q I rx ry h;obtain⟨a,b,ns,ms,rfl,rfl,ha,hb,q⟩:=h;cases rx;cases ry;obtain⟨its,r1,p1,_⟩:=I.tuple ha;obtain⟨its2,r2,p2,_⟩:=I.tuple hb;have i1:IntsAre its.toArray.toList ns:=Y7 r1;have i2:IntsAre its2.toArray.toList ms:=Y7 r2;exact JbT p1 p2 i1 i2 hu ⟨.bl (YQ ns ms),H,I,rfl,q⟩
end L2
namespace LE
open PySem L2 LR
noncomputable def WJ:Sl->Sl->Option Sl
 | .sh (.tup ds),.sh (.tup es)=>(ints? ds).bind fun ns=>(ints? es).map fun ms=>.sh (.bl (YQ ns ms))
 | _,_=>none
section
variable{K:Qq}{C:Qc}
theorem RDL.ints'{H:Hp}:∀{xs:List V} {ns:List Int},RDL K C H xs (ns.map .int)->xs=ns.map V.int
 | [],[],_=>rfl
 | [],_::_,r=>by have:=r.1;simp at this
 | _::_,[],r=>by have:=r.1;simp at this
 | x::xs,n::ns,r=>by have h1:RD K C H x (.int n):=r.head;rw[RD.intI h1,RDL.ints' (ns:=ns) r.tail];rfl
theorem Jbm:OpS K C (JlY K) WJ:=by
 intro Hs H0 H x y a b c Q i hs ra rb e q;unfold WJ at e;split at e
 ·obtain⟨ns,e1,e⟩:=bind_some e;obtain⟨ms,e2,e⟩:=Gb.mp e;subst e;have h1:=YZ e1;have h2:=YZ e2;subst h1 h2;obtain⟨p,xs,rfl,s1,r1⟩:=RD.tupI ra;obtain⟨p',ys,rfl,s2,r2⟩:=RD.tupI rb;have z1:=RDL.ints' r1;have z2:=RDL.ints' r2;subst z1 z2;exact⟨p,p',ns,ms,rfl,rfl,i.seqT s1,i.seqT s2,q _ _ _ (.refl i) (.bl _)⟩
 ·cases e
theorem JgM(a b c d:Int):WJ (.sh (.tup [.int a,.int b])) (.sh (.tup [.int c,.int d]))=some (.sh (.bl (if a=c then decide (b<=d) else decide (a<=c)))):=by
 show some (Sl.sh (.bl (YQ [a,b] [c,d])))=_;rw[Vk];split
 ·rw[Vk];split
  ·next h=>rw[h];simp[YQ]
  ·rfl
 ·rfl
end
end LE

namespace L2
open PySem PySem.Spec PyProof.Rows
noncomputable def YC:List Int->List Int->Bool
 | _,[]=>true
 | [],_::_=>false
 | x::xs,y::ys=>if x=y then YC xs ys else decide (x ≥ y)
theorem Y8(x y:Int)(xs ys:List Int):YC (x::xs) (y::ys)=if x=y then YC xs ys else decide (x ≥ y):=rfl
theorem Jfq(A:Qx)(s:Qd)(a:Int)(t:Tok)(c:Int)(u:Tok)(prog:Qp)(w:QC)(E:Qa->Qd->Prop)(Q:Qa->Qd->Prop)(h:Q (.bool (decide (a ≥ c))) s) :
 wpAny (model prog w) A (richCompare .GtE (.int a t) (.int c u)) Q E s :=
 (PyProof.Rows.ge_int h:wpAny (model prog w) A (compareOp .GtE (.int a t) (.int c u)) Q E s)
section
open PySem.SeqAt
open PySem.AutoSeq1 (wpAny_loadPart')
open PySem.MeetsSeq PySem.MeetsSeq2 PySem.MeetsSeq3
theorem ZG(l b:Qc)(items items2:Array Qa)(n n2:Nat)(dd dd2:Option Qc)(sl sl2:Array (Option Qa))(ns ms:List Int)(hi:IntsAre items.toList ns)(hj:IntsAre items2.toList ms) :
 Meets (Builtin.«tuple.__ge__» ⟨[.ref l,.ref b],[]⟩)
  (fun _ R s=>s.heap.get? l=some { cls:=.type "tuple",dict:=dd,data:=.seq items n,slots:=sl }/\s.heap.get? b=some { cls:=.type "tuple",dict:=dd2,data:=.seq items2 n2,slots:=sl2 } ∧
   R (.ok (.ret (.bool (YC ns ms)))) s) :=
 .of_wp fun prog w A R s h=>by
  obtain⟨hp,g,d,tk,os⟩:=s;obtain⟨hl,hb,h⟩:=h;have f2:=LN;have z1:items.size=ns.length:=by rw[<- hi.length];simp
  have z2:items2.size=ms.length:=by rw[<- hj.length];simp
  wp_walk using Gy hl,Gy hb,wpAny_forIn_list _ (fun rest b s'=>b.1=none/\s'=⟨hp,g,d,tk,os⟩/\∃(vs ws:List Qa) (ns' ms':List Int),rest=vs.zip ws ∧
   IntsAre vs ns'/\IntsAre ws ms'/\ns'.length+items2.size=ms'.length+items.size/\R (.ok (.ret (.bool (YC ns' ms')))) ⟨hp,g,d,tk,os⟩) _
  case turn =>
   rintro⟨y,x⟩ rest b s' ⟨hb',rfl,vs,ws,ns',ms',hz,hvi,hwi,hlen,hR⟩
   cases hvi with
   | nil=>rw[List.zip_nil_left] at hz;cases hz
   | cons a t hvi' =>
    cases hwi with
    | nil=>rw[List.zip_nil_right] at hz;cases hz
    | cons c u hwi' =>
     rw[Ka] at hz
     injection hz with hyx hrest
     injection hyx with hy hx
     subst hy hx;rw[Y8] at hR;simp only[Qk] at hlen;obtain⟨e,he,hiff⟩:=HT.Ja5 A.in1 ⟨hp,g,d,tk,os⟩ a t c u;refine Qe (he prog w _ _ ?_)
     cases e with
     | true=>rw[if_pos (hiff.mp rfl)] at hR;wp_walk;exact⟨rfl,rfl,_,_,_,_,hrest,hvi',hwi',by omega,hR⟩
     | false=>rw[if_neg (fun q=>absurd (hiff.mpr q) QA)] at hR;have hri:=Jfq A.in1 ⟨hp,g,d,tk,os⟩ a t c u prog w;wp_walk using hri;exact⟨_,rfl,by simpa using hR⟩
  case fin =>
   rintro⟨b1,b2⟩ s' ⟨hb',rfl,vs,ws,ns',ms',hz,hvi,hwi,hlen,hR⟩;simp only at hb';subst hb'
   have hv:YC ns' ms'=decide (items.size ≥ items2.size):=by
    cases hwi with
    | nil=>simp only[QV] at hlen;rw[show YC ns' []=true by cases ns' <;> rfl];exact(decide_eq_true (by omega)).symm
    | cons a t hv =>
     cases hvi with
     | nil=>simp only[QV,Qk] at hlen;rw[show YC [] (_::_)=false from rfl];exact(decide_eq_false (by omega)).symm
     | cons c u hw=>rw[Ka] at hz;cases hz
   rw[hv] at hR;wp_walk;exact⟨_,rfl,by simpa [KZ] using hR⟩
  case h=>exact⟨rfl,rfl,items.toList,items2.toList,ns,ms,rfl,hi,hj,by omega,h⟩
end
section
variable{prog:Qp}{w:QC}{A:Qx}{E:Qa->Qd->Prop}{s:Qd}
theorem JbQ{l b:Qc}{items items2:Array Qa}{ns ms:List Int}{Q:Qa->Qd->Prop}(hl:s.heap.IsTuple l items)(hb:s.heap.IsTuple b items2)(hi:IntsAre items.toList ns)(hj:IntsAre items2.toList ms)
 (hu:A.units<cLine) (h:Q (.bool (YC ns ms)) s):wpAny (model prog w) A (compareOp .GtE (.ref l) (.ref b)) Q E s:=by
 obtain⟨⟨cls,dd,data,sl⟩,ho,hc,n,hd⟩:=id hl;obtain⟨⟨cls2,dd2,data2,sl2⟩,ho2,hc2,n2,hd2⟩:=id hb;simp only at hc hd hc2 hd2;subst hc hd hc2 hd2;exact richCompare_meets_room (op:=.GtE) ⟨_,ho,rfl⟩ ⟨_,ho2,rfl⟩ PySem.F.slot_tuple_ge PySem.F.entry_tuple_ge (PySem.F.args_tuple_ge_2 _ _) (ZG l b items items2 n n2 dd dd2 sl sl2 ns ms hi hj)
  ⟨ho,ho2,show Value.bool (YC ns ms)≠Value.notImplemented/\Q (.bool (YC ns ms)) s from⟨(fun x=>nomatch x),h⟩⟩ hu
end
noncomputable def JlT(K:Qq):R2:=fun x y H Q=>∃a b ns ms,x=.ref a/\y=.ref b/\SqT K H a (ns.map V.int)/\SqT K H b (ms.map V.int)/\Q (.bl (YC ns ms)) H
theorem Jj2{X:Cx}{K:Qq}(hK:X.K=K)(hu:X.A.units<cLine):OpR X (compareOp .GtE) (JlT K):=by subst hK;intro pins s σ H x y v u Q I rx ry h;obtain⟨a,b,ns,ms,rfl,rfl,ha,hb,q⟩:=h;cases rx;cases ry;obtain⟨its,r1,p1,_⟩:=I.tuple ha;obtain⟨its2,r2,p2,_⟩:=I.tuple hb;have i1:IntsAre its.toArray.toList ns:=Y7 r1;have i2:IntsAre its2.toArray.toList ms:=Y7 r2;exact JbQ p1 p2 i1 i2 hu ⟨.bl (YC ns ms),H,I,rfl,q⟩
end L2
namespace LE
open PySem L2 LR
noncomputable def JeB:Sl->Sl->Option Sl
 | .sh (.tup ds),.sh (.tup es)=>(ints? ds).bind fun ns=>(ints? es).map fun ms=>.sh (.bl (YC ns ms))
 | _,_=>none
section
variable{K:Qq}{C:Qc}
theorem JlI:OpS K C (JlT K) JeB:=by
 intro Hs H0 H x y a b c Q i hs ra rb e q;unfold JeB at e;split at e
 ·obtain⟨ns,e1,e⟩:=bind_some e;obtain⟨ms,e2,e⟩:=Gb.mp e;subst e;have h1:=YZ e1;have h2:=YZ e2;subst h1 h2;obtain⟨p,xs,rfl,s1,r1⟩:=RD.tupI ra;obtain⟨p',ys,rfl,s2,r2⟩:=RD.tupI rb;have z1:=RDL.ints' r1;have z2:=RDL.ints' r2;subst z1 z2;exact⟨p,p',ns,ms,rfl,rfl,i.seqT s1,i.seqT s2,q _ _ _ (.refl i) (.bl _)⟩
 ·cases e
theorem JgK(a b c d:Int):JeB (.sh (.tup [.int a,.int b])) (.sh (.tup [.int c,.int d]))=some (.sh (.bl (if a=c then decide (b ≥ d) else decide (a ≥ c)))):=by
 show some (Sl.sh (.bl (YC [a,b] [c,d])))=_;rw[Y8];split
 ·rw[Y8];split
  ·next h=>rw[h];simp[YC]
  ·rfl
 ·rfl
end
end LE

namespace L2
open PySem PySem.Spec PyProof.Rows
end L2
namespace LE
open PySem L2 LR
noncomputable def WC(a:Int):Bool:=LC a.natAbs (10 ^ 200)
section
variable{K:Qq}{C:Qc}
end
end LE

namespace LE
open PySem L2 LR
section
variable{K:Qq}{C:Qc}{W:XK}{t:TA}{ev:En->Option (List Sl)}{ts us:TS}{x:Xv}{H:Hp}
end
end LE

namespace PySem
open PySem.Calls PyProof.Rows PyProof.V PySem.Spec
section
variable{prog:Qp}{w:QC}{A:Qx}{E:Qa->Qd->Prop}{s:Qd}{r a:Qc}{xs:Array Qa}{n:Nat}
end
end PySem
namespace L2
open PySem PySem.Spec PyProof.Rows
theorem Vals.rev{xs:List V}{us:List Qa}(h:Vals xs us):Vals xs.reverse us.reverse:=by
 induction h with
 | nil=>exact .nil
 | cons r t ih=>rw[GQ,GQ];exact ih.append (.cons r .nil)
end L2
namespace LE
open PySem L2 LR
section
variable{K:Qq}{C:Qc}
end
end LE

namespace L2
open PySem PySem.Spec PyProof.Rows PySem.Calls
section
variable{X:Cx}
noncomputable def Jl2:V->Option Int->Option Int->Hp->VK->Prop:=fun x lo hi H Q=>∃z,x=.str z/\z.length<=Qu/\Q (.str (Kv z lo hi)) H
theorem JfF:SlR X Jl2:=by
 intro pins s σ H x v vl vu lo hi sl Q I rx hs pl pu h;obtain⟨z,rfl,hz,q⟩:=h;obtain⟨t,rfl⟩:=rx;have fin:∀t' k,EP X pins σ Q (.str (Kv z lo hi) t') { s with toks:=k }:=fun t' k=>⟨.str _,H,I.tok k,⟨t',rfl⟩,q⟩
 refine⟨"str",_,F.slot_str_getitem.lookup,typeIs_str _ _ _,?_⟩
 cases pl with
 | none =>
  cases pu with
  | none=>exact G5 (l:=none) (u:=none) (st:=none) hs rfl (post_val_or_str ⟨QK (Mb z _ _) hz,fun t' k=>fin t' k⟩)
  | int j u=>exact G5 (l:=none) (u:=some (j,u)) (st:=none) hs rfl (post_val_or_str ⟨QK (Mb z _ _) hz,fun t' k=>fin t' k⟩)
 | int i u' =>
  cases pu with
  | none=>exact G5 (l:=some (i,u')) (u:=none) (st:=none) hs rfl (post_val_or_str ⟨QK (Mb z _ _) hz,fun t' k=>fin t' k⟩)
  | int j u=>exact G5 (l:=some (i,u')) (u:=some (j,u)) (st:=none) hs rfl (post_val_or_str ⟨QK (Mb z _ _) hz,fun t' k=>fin t' k⟩)
noncomputable def JcZ:V->List V->Hp->VK->Prop:=fun x vs H Q=>∃z y,x=.str z/\vs=[.str y]/\Q (.bl (Ko z y)) H
theorem ZW:MtM X "str.startswith" JcZ:=by intro pins s σ H x vs v us Q I rx rv h;obtain⟨z,y,rfl,rfl,q⟩:=h;obtain⟨t,rfl⟩:=rx;obtain⟨u,rfl,ru⟩:=rv.one;obtain⟨t',rfl⟩:=ru;exact SC.startswith ⟨.bl _,H,I,rfl,q⟩
noncomputable def Jiz:List V->Hp->VK->Prop:=fun xs H Q=>∃z n,xs=[.str z]/\intText? z=some n/\z.length<=640/\Q (.int n) H
theorem Jdn:CallR X (.type "int") Jiz:=by intro pins s σ H xs us Q I r h;obtain⟨z,n,rfl,hn,hl,q⟩:=h;obtain⟨u,rfl,t,rfl⟩:=Vf r;exact PySem.W.KIN.call_text hn hl ⟨.int n,H,I.tok _,⟨_,rfl⟩,q⟩
noncomputable def ZD(z:Str)(n:Nat):Str:=⟨(QO n z.cps.toList).flatten.toArray⟩
theorem Ja9:∀(n:Nat) (a b:Array Nat),((QO n a).foldl (·++·) b).toList=b.toList++(QO n a.toList).flatten
 | 0,a,b=>by simp
 | n+1,a,b=>by rw[GB,List.foldl_cons,Ja9 n a (b++a),Array.toList_append,Gk];simp[GB]
theorem JeV(n:Nat)(l:List Nat):(QO n l).flatten.length=n*l.length:=by simp
noncomputable def JiA:R2:=fun x y H Q=>∃z n,x=.str z/\y=.int n/\1<=n/\n<=16777216/\z.length*n.toNat<=Qu/\Q (.str (ZD z n.toNat)) H
theorem Jhn:OpR X (binaryOp .Mult) JiA:=by
 intro pins s σ H x y v u Q I rx ry h;obtain⟨z,n,rfl,rfl,h1,h2,hz,q⟩:=h;obtain⟨t,rfl⟩:=rx;obtain⟨t',rfl⟩:=ry;have big:¬n<1:=by omega
 have e0:∀w:Str,w.cps.toList=(QO n.toNat z.cps.toList).flatten->w=ZD z n.toNat:=fun w e=>by
  cases w with
  | mk c=>unfold ZD;congr 1;apply Array.toList_inj.mp;simpa using e
 refine P.mul_str (by rw[decide_eq_false (by omega),decide_eq_false (by omega)];rfl) (fun _ _=>?_) (fun _ _=>?_) ?_
 ·intro hgt
  have:(z.length:Int)<=(2 ^ 63-1) / n:=by
   rw[Int.le_ediv_iff_mul_le (by omega)];have e:((z.length*n.toNat:Nat):Int)=(z.length:Int)*n:=by rw[Int.natCast_mul];congr 1;omega
   have:=sizeLine_eq;omega
  omega
 ·unfold Builtin.Str.tooLong;simp only[decide_eq_false_iff_not,gt_iff_lt,Nat.not_lt];exact hz
 ·rw[if_neg big];split
  ·next c =>
   rw[Me] at c
   have e:z=ZD z n.toNat:=e0 z (by
    rcases c with c|c
    ·have:n=1:=by simpa using c
     subst this;simp
    ·have:z.cps.toList=[]:=Gs (by simpa [MJ] using c);rw[this];simp)
   exact⟨.str z,H,I,⟨_,rfl⟩,by rw[e] at q ⊢;rw[<- e] at q ⊢;rw[e];exact q⟩
  ·have e:(⟨(QO n.toNat z.cps).foldl (·++·) #[]⟩:Str)=ZD z n.toNat:=e0 _ (by show((QO n.toNat z.cps).foldl (·++·) #[]).toList=_;rw[Ja9];simp)
   rw[e];refine⟨?_,⟨.str _,H,I.tok _,⟨_,rfl⟩,q⟩⟩;show(ZD z n.toNat).cps.size<=Qu;unfold ZD;simp only[Qn,JeV];rw[Nat.mul_comm];exact hz
noncomputable def Itc(z:Str):It:=⟨fun i _=>i<z.cps.size,fun i H x H'=>H'=H/\∃c,z.cps[i]?=some c/\x=.str ⟨#[c]⟩,fun i _=>i=z.cps.size⟩
theorem JbD{P:Qp}{w:QC}{K:Qq}{tg:QQ}(it:Qc)(z:Str)(t:Tok)(T:String)(hT:T="str_ascii_iterator"\/T="str_iterator"):Turn P w K tg (Itc z) [it] it (fun i h=>h.IsStrIter it T z t i) where
 mem:=by simp
 obj:=fun i h st b hb=>by
  have e:b=it:=by simpa using hb
  subst e;obtain⟨o,e,c,d⟩:=st;exact⟨o,e,fun v z=>by rw[d] at z;cases z⟩
 keep:=fun i h h' st k=>by obtain⟨o,e,r⟩:=st;exact⟨o,k it (by simp) o e,r⟩
 item:=by
  intro X hP hw hK hc i pins s σ H E I hf st hg;subst hP hw hK;obtain⟨f0,f1,f2,f3,f4,f5⟩:=hf it (by simp);have hx:z.cps[i]?=some z.cps[i]:=Lw hg
  have go:∀h',h'.IsStrIter it T z t (i+1)->Ge it s.heap h'->∃u,some (Value.str ⟨#[z.cps[i]]⟩ s.toks)=some u ∧
   wpAny (model X.prog X.w) X.A (letOwnedTupleGo tg (.ref it) u) (fun _ s2=>∃x H',Inv X pins σ H' s2/\RelV x u/\(Itc z).yld i H x H'/\s2.heap.IsStrIter it T z t (i+1)/\∀b∈[it],H' b=none) E { s with heap:=h',toks:=s.toks+1 }:=fun h' st' sb=>by
   have I1:Inv X pins σ H { s with heap:=h',toks:=s.toks+1 }:=I.turned (fun b o hb e=>(sb.2 b hb).trans e) f0 f1 f3 f4 f5;obtain⟨o,e,c,d⟩:=id st';refine⟨_,rfl,JcH (s:={ s with heap:=h',toks:=s.toks+1 }) e c d ?_ ⟨.str ⟨#[z.cps[i]]⟩,H,I1,⟨_,rfl⟩,⟨rfl,_,hx,rfl⟩,st',fun b hb=>(hf b hb).1⟩⟩;rcases hT with rfl|rfl <;> decide
  rcases hT with rfl|rfl
  ·exact wpAny_pyNext_ascii_item st hx fun h' st' sb=>go h' st' sb
  ·exact wpAny_pyNext_wide_item st hx fun h' st' sb=>go h' st' sb
 done:=by
  intro X hP hw hK hc i pins s σ H E I hf st hg;subst hP hw hK;obtain⟨f0,f1,f2,f3,f4,f5⟩:=hf it (by simp);have hx:z.cps[i]?=none:=Array.getElem?_eq_none (MN (show i=z.cps.size from hg).symm);rcases hT with rfl|rfl
  ·exact wpAny_pyNext_ascii_end (I.ok.hd hc) st hx fun h' eb=>⟨rfl,I.turned (t':=s.toks) (fun b o hb e=>eb b o hb e) f0 f1 f3 f4 f5⟩
  ·exact wpAny_pyNext_wide_end (I.ok.hd hc) st hx fun h' eb=>⟨rfl,I.turned (t':=s.toks) (fun b o hb e=>eb b o hb e) f0 f1 f3 f4 f5⟩
 self:=fun _ _ _ _ _ st h=>by
  rcases hT with rfl|rfl
  ·exact wpAny_pyIter_striter_ascii st h
  ·exact wpAny_pyIter_striter_wide st h
noncomputable def JlC(tl:TE):TI:=fun σ H R=>tl σ H fun x H1=>∃z,x=.str z/\R (Itc z) H1
theorem Jke{tg l:QQ}{tl:TE}(hl:PE X l tl):PI X tg l (JlC tl):=by
 intro pins s σ H R I h;refine thn (hl pins s σ H _ I h) fun v s1 ⟨x,H1,I1,r1,q1⟩=>?_
 obtain⟨z,rfl,q⟩:=q1;obtain⟨t,rfl⟩:=r1
 have fr:∀b∈[s1.heap.objs.size],FpOk X pins H1 b:=fun b hb=>by
  have e:b=s1.heap.objs.size:=by simpa using hb
  subst e;exact I1.fpOk (Qr _) (I1.hok.fresh (Qr _))
 cases ha:z.cps.all (·<128)
 ·exact wpAny_pyIter_wide ha ⟨s1.heap.objs.size,[s1.heap.objs.size],_,_,H1,rfl,I1.kept (t':=s1.toks) fun b o e=>Qg _ e,JbD _ z t _ (.inr rfl),⟨_,Qz _ rfl,rfl,rfl⟩,fr,q⟩
 ·exact wpAny_pyIter_ascii ha ⟨s1.heap.objs.size,[s1.heap.objs.size],_,_,H1,rfl,I1.kept (t':=s1.toks) fun b o e=>Qg _ e,JbD _ z t _ (.inl rfl),⟨_,Qz _ rfl,rfl,rfl⟩,fr,q⟩
end
end L2
namespace L2
open PySem PySem.Spec PyProof.Rows PySem.Calls
section
variable{X:Cx}{es:List QQ}{t:TA}{x:Str}{j:Nat}{p:Pos}
noncomputable def VX:Nat->List QQ->List Str->Option (List Str×List QQ)
 | 0,es,acc=>some (acc.reverse,es)
 | n+1,.Constant (.str x) _ _::es,acc=>VX n es (x::acc)
 | _,_,_=>none
noncomputable def JbB:List Str->TA->TA
 | [],t=>t
 | y::ys,t=>Uc (tC (.str y)) (JbB ys t)
theorem Jbq:∀(n:Nat) {es rest:List QQ} {acc ys:List Str} {t:TA},VX n es acc=some (ys,rest)->PA X rest t->∃zs,ys=acc.reverse++zs/\PA X es (JbB zs t)
 | 0,es,rest,acc,ys,t,h,hr=>by have h':some (acc.reverse,es)=some (ys,rest):=h;cases h';exact⟨[],by simp,hr⟩
 | n+1,.Constant (.str x) j p::es,rest,acc,ys,t,h,hr=>by obtain⟨zs,e1,e2⟩:=Jbq n (show VX n es (x::acc)=some (ys,rest) from h) hr;exact⟨x::zs,by rw[e1];simp,Ja JE e2 rfl⟩
theorem UF(n:Nat){rest:List QQ}{ys:List Str}(h:VX n es []=some (ys,rest))(hr:PA X rest t):PA X es (JbB ys t):=by
 obtain⟨zs,e1,e2⟩:=Jbq n h hr;have:ys=zs:=by simpa using e1
 rw[this];exact e2
structure PSi (X:Cx) (st:Gw) (ts:TS):Prop where
 out:PS X st ts
theorem Jff{i:Nat}{pos pos' lp:Pos}(n:Nat){rest:List QQ}{ys:List Str}(hN:X.N.Nodup)(hi:X.N[i]?=some x)(hx:Loc X.env.scope x)(h:VX n es []=some (ys,rest))(hr:PA X rest t)(hf:X.fn x=true\/X.env.scope.names.lookup x=some .local:=by first|exact .inl rfl|exact .inr rfl|assumption) :
 PSi X (.Assign [.Name x pos'] (.List es lp) pos) (Zi (Jh5 (JbB ys t)) (Ug i)):=⟨Jfe hN hi hx (JQ (UF n h hr)) rfl hf⟩
structure PSsi (X:Cx) (ss:List Gw) (ts:TS):Prop where
 out:PSs X ss ts
theorem Y0{s:Gw}{ss:List Gw}{ts us:TS}(h:PSi X s ts)(r:PSsi X ss us):PSsi X (s::ss) (JfQ ts us):=⟨Jf h.out r.out⟩
theorem Jfg{s:Gw}{ts:TS}(h:PSi X s ts):PSsi X [s] ts:=⟨Jo h.out⟩
theorem Fun.okI{P:Qp}{w:QC}{K:Qq}{mg:Str->Option Qa}{base:QJ}{x qual:Str}{st:Gw}{f:Qc}{fd:QH}{N ps:List Str}{k:Nat}{sp:Sp}(F:Fun K x qual st f fd)(S:FnScope N ps (Jr st))(len:∀vs H Q E,sp vs H Q E->vs.length=ps.length)
 (hbody:∀(cdv:Qa) (A:Qx) (outer:List Env) (s:Qd) (H:Hp) (vs:List V) (Q:VK) (E:XK),Room k (A.deeper (envOfC qual (Jr st) s.heap.objs.size f cdv))->sp vs H Q E ->
  ∃t,PSsi (WG CX0 P w K mg base N qual (Jr st) f cdv A outer s H E).nox (Yw st) t/\t { nx:=fun _ H'=>Q .non H',rt:=Q } (YD N vs) H):FnOk P w K mg base CX0 (k+1) f fd ps sp :=
 F.ok S len fun cdv A outer s H vs Q E hr h=>(hbody cdv A outer s H vs Q E hr h).elim fun t q=>⟨t,q.1.out,q.2⟩
end
end L2

namespace LE
open PySem L2 LR
noncomputable def inS(i j:Str):Bool:=!(Q8 j i 0 j.length 1).isEmpty
noncomputable def JeC:Sl->Sl->Option Sl
 | .sh (.str i),.sh (.str j)=>some (.sh (.bl (inS i j)))
 | _,_=>none
noncomputable def Jds(a:Ev)(lo hi:Option Ev):Ev:=fun E=>(a E).bind fun s=>(UX lo E).bind fun l=>(UX hi E).bind fun h=>(str? s).bind fun z=>if z.length<=16777216 then some (.sh (.str (Kv z l h))) else none
noncomputable def Yp(z:Str):List Sl->Option Sl
 | [.sh (.str y)]=>some (.sh (.bl (Ko z y)))
 | _=>none
noncomputable def JcC:List Sl->Option Sl
 | [.sh (.str z)]=>if z.length<=640 then(intText? z).map fun n=>.sh (.int n) else none
 | _=>none
noncomputable def JcE:Sl->Sl->Option Sl
 | .sh (.str z),.sh (.int n)=>if 1<=n/\n<=16777216/\z.length*n.toNat<=16777216 then some (.sh (.str (ZD z n.toNat))) else none
 | _,_=>none
noncomputable def sgE(c:Nat):D:=.str ⟨#[c]⟩
noncomputable def iTx(a:Ev):En->Option (List D):=fun E=>(a E).bind fun s=>(str? s).map fun z=>z.cps.toList.map sgE
noncomputable def Ue(ys:List Str)(r:En->Option (List Sl)):En->Option (List Sl):=fun E=>(r E).map fun ss=>ys.map (fun y=>.sh (.str y))++ss
section
variable{K:Qq}{C:Qc}{te:TE}{ea:Ev}{tl th:TO}{el eh:Option Ev}{m:Bool}
theorem U6{t:TA}{ev:En->Option (List Sl)}(h:SA K C t ev):∀{ys:List Str},SA K C (JbB ys t) (Ue ys ev)
 | []=>by
  have e:Ue [] ev=ev:=by funext E;unfold Ue;cases ev E <;> rfl
  rw[e];exact h
 | y::ys=>by
  have e:Ue (y::ys) ev=aC (eC (.str y)) (Ue ys ev):=by
   funext E
   show Option.map _ (ev E)=(some (Sl.sh (D.str y))).bind fun x=>(Option.map _ (ev E)).bind fun xs=>some (x::xs)
   cases ev E <;> rfl
  rw[e];exact Jd JT (U6 h)
theorem JlK:OpS K C (fun x y H Q=>∃i j,x=.str i/\y=.str j/\Q (.bl (!(Q8 j i 0 j.length 1).isEmpty)) H) JeC:=by
 intro Hs H0 H x y a b c Q i hs ra rb e q;unfold JeC at e;split at e
 ·cases e;exact⟨_,_,RD.strI ra,RD.strI rb,q _ _ _ (.refl i) (RD.bl _)⟩
 ·cases e
theorem JjU:OpS K C JiA JcE:=by
 intro Hs H0 H x y a b c Q i hs ra rb e q;unfold JcE at e;split at e
 ·split at e
  ·next h=>cases e;exact⟨_,_,RD.strI ra,RD.intI rb,h.1,h.2.1,h.2.2,q _ _ _ (.refl i) (RD.str _)⟩
  ·cases e
 ·cases e
theorem JiE(ha:SE K C te ea)(hl:SP' K C tl (UX el))(hh:SP' K C th (UX eh)):SE K C (tSl Jl2 te tl th) (Jds ea el eh):=by
 intro B H0 H σ E c Q I e q;obtain⟨s,e1,e⟩:=bind_some e;obtain⟨l,e2,e⟩:=bind_some e;obtain⟨h,e3,e⟩:=bind_some e;obtain⟨z,e4,e⟩:=bind_some e;split at e
 ·next hz =>
  cases e;have e5:=Zg e4;subst e5;refine ha B H0 H σ E _ _ I e1 fun x H1 H1' s1 r1=>hl B H1 H1' σ E l _ (I.step s1) e2 fun H2 H2' s2=>hh B H2 H2' σ E h _ (I.step (s1.trans s2)) e3 fun H3 H3' s3=>?_
  exact⟨z,RD.strI r1,hz,q _ _ _ ((s1.trans s2).trans s3) (RD.str _)⟩
 ·cases e
theorem VF:MtS K C JcZ Yp:=by
 intro Hs H0 H z xs as c Q i hs r e q;unfold Yp at e;split at e
 ·cases e;obtain⟨v,rfl,r0⟩:=r.one;exact⟨z,_,rfl,by rw[RD.strI r0],q _ _ _ (.refl i) (RD.bl _)⟩
 ·cases e
theorem JiS:UV K C Jiz JcC:=by
 intro Hs H0 H xs as c Q i hs r e q;unfold JcC at e;split at e
 ·split at e
  ·next hl=>obtain⟨n,e1,rfl⟩:=map_some e;obtain⟨v,rfl,r0⟩:=r.one;exact⟨_,n,by rw[RD.strI r0],e1,hl,q _ _ _ (.refl i) (RD.int _)⟩
  ·cases e
 ·cases e
theorem Jme(ha:SE K C te ea):SI K C m (JlC te) (iTx ea):=by
 intro B H0 H σ E ds R I e q;obtain⟨s,e1,e⟩:=bind_some e;obtain⟨z,e2,rfl⟩:=map_some e;have e5:=Zg e2;subst e5;refine ha B H0 H σ E _ _ I e1 fun x H1 H1' s1 r1=>⟨z,RD.strI r1,q _ _ _ s1 ?_⟩
 intro H0' H' st;refine⟨fun i d e=>?_,by show(z.cps.toList.map sgE).length=z.cps.size;simp⟩;rw[QR,K0] at e
 cases hc:z.cps[i]? with
 | none=>rw[hc] at e;cases e
 | some c=>rw[hc] at e;cases e;refine⟨(QP.mp hc).1,fun x H2 ⟨e1,c',e2,e3⟩=>?_⟩;rw[hc] at e2;cases e2;subst e1 e3;exact⟨H0',.refl st.i,.str _⟩
end
end LE

namespace L2
open PySem PySem.Spec PyProof.Rows PySem.Calls
section
variable{X:Cx}
end
end L2
namespace LE
open PySem L2 LR
section
variable{K:Qq}{C:Qc}{to te:TE}{eo ea:Ev}{Hs H0 H:Hp}{v:V}
end
end LE

namespace L2
open PySem PySem.Spec PyProof.Rows PySem.Calls
section
variable{X:Cx}
theorem Z8:∀(ys:List Str) (k:Nat),Vals (ys.map V.str) (strsFrom k ys)
 | [],_=>.nil
 | y::ys,k=>.cons ⟨k,rfl⟩ (Z8 ys (k+1))
noncomputable def Jfo:V->List V->Hp->VK->Prop:=fun x vs H Q=>∃z y,x=.str z/\vs=[.str y]/\(y.length == 0)=false/\z.length<=Qu/\(G6 z y).length<=Qu/\∀l,H l=none->Q (.ref l) (upd H l (.lst ((G6 z y).map V.str)))
theorem WX:MtM X "str.split" Jfo:=by
 intro pins s σ H x vs v us Q I rx rv h;obtain⟨z,y,rfl,rfl,hy,hz,hn,q⟩:=h;obtain⟨t,rfl⟩:=rx;obtain⟨u,rfl,ru⟩:=rv.one;obtain⟨t',rfl⟩:=ru;have hne:H s.heap.objs.size=none:=I.hok.fresh (Qr _)
 have fin:∀(us:List Qa) (k:Nat),Vals ((G6 z y).map V.str) us->EP X pins σ Q (.ref s.heap.objs.size) { s with heap:=s.heap.push { cls:=.type "list",data:=.seq us.toArray },toks:=k }:=fun us k r=>⟨.ref s.heap.objs.size,_,I.laid (t':=k) (fun b o x=>Qg _ x) (Qr _) (show ObjOk X.prog X.w _ _ _ (.lst ((G6 z y).map V.str)) from⟨by rw[Qy];exact hn,us,0,r,Qz _ rfl⟩),rfl,q _ hne⟩
 cases h1:(decide (z.length<y.length) || decide (GC z<GC y)) with
 | true=>have e:G6 z y=[z]:=if_pos h1;refine call_meets LX (typeIs_str _ _ _) LH (Lq _ _) (meets_str_split_cannot_occur z y t t' h1) ?_;exact fin [.str z t] s.toks (by rw[e];exact .cons ⟨t,rfl⟩ .nil)
 | false =>
  cases hf:(Q8 z y 0 z.length (z.length+1)).isEmpty with
  | true=>have e:G6 z y=[z]:=(if_neg (ne_true_of_eq_false h1)).trans (if_pos hf);refine call_meets LX (typeIs_str _ _ _) LH (Lq _ _) (meets_str_split_not_found z y t t' h1 hy hf) ?_;exact fin [.str z t] s.toks (by rw[e];exact .cons ⟨t,rfl⟩ .nil)
  | false=>have e:G6 z y=LO z (Q8 z y 0 z.length (z.length+1)) y.length:=(if_neg (ne_true_of_eq_false h1)).trans (if_neg (ne_true_of_eq_false hf));refine call_meets LX (typeIs_str _ _ _) LH (Lq _ _) (meets_str_split_sep z y t t' h1 hy hf hz (by rw[<- e];exact hn)) ?_;exact fin _ _ (by rw[e];exact Z8 _ _)
end
noncomputable def JjS:V->Bool
 | .non=>true
 | _=>false
noncomputable def Je0:Qa->Bool
 | .none=>true
 | _=>false
noncomputable def JlU(K:Qq):R2:=fun x y H Q=>∃p xs,x=.non/\y=.ref p/\SqL K H p xs/\(∀v∈xs,v=.non\/(∃i,v=.int i)\/∃a ys,v=.ref a/\SqT K H a ys)/\Q (.bl (xs.any JjS)) H
theorem Jf9{xs:List V}{us:List Qa}(r:Vals xs us)(h:∀v∈xs,v=.non\/(∃i,v=.int i)\/∃a,v=.ref a):us.any Je0=xs.any JjS:=by
 induction r with
 | nil=>rfl
 | cons r0 rs ih =>
  rw[GW,GW,ih fun v hv=>h v (Qj _ hv)];rcases h _ QB with e|⟨i,e⟩|⟨a,e⟩ <;> subst e
  ·cases r0;rfl
  ·obtain⟨t,rfl⟩:=r0;rfl
  ·cases r0;rfl
theorem Ji9{X:Cx}{A:Qx}{pins:List (Qc×Obj)}{s:Qd}{σ:St}{H:Hp}(hu:A.units<cLine)(I:Inv X pins σ H s){xs:List V}{us:List Qa}(r:Vals xs us)(h:∀v∈xs,v=.non\/(∃i,v=.int i)\/∃a ys,v=.ref a/\SqT X.K H a ys):∀u∈us,SeqAt.EqAt A s u .none (Je0 u):=by
 induction r with
 | nil=>intro u hu;cases hu
 | cons r0 rs ih =>
  intro u hu';rcases Qv.mp hu' with e|e
  ·subst e;rcases h _ QB with e|⟨i,e⟩|⟨a,ys,e,q⟩ <;> subst e
   ·cases r0;exact Ji6 (x:=.non) (y:=.non) rfl rfl rfl rfl
   ·obtain⟨t,rfl⟩:=r0;exact Mv i t
   ·cases r0;obtain⟨its,_,pl,_⟩:=I.tuple q;exact SeqAt.EqAt.tuple_none pl hu
  ·exact ih (fun v hv=>h v (Qj _ hv)) u e
theorem Jj3{X:Cx}{K:Qq}(hK:X.K=K)(hu:X.A.units+64<cLine):OpR X (compareOp .In) (JlU K):=by subst hK;intro pins s σ H x y v u Q I rx ry h;obtain⟨p,xs,rfl,rfl,hq,hx,q⟩:=h;cases ry;cases rx;obtain⟨its,r,pl,hz⟩:=I.list hq;refine SeqAt.in_listAt Je0 pl.isList (fun w hw=>Ji9 (show X.A.units+1<cLine by omega) I r hx w (by simpa using hw)) ⟨.bl _,H,I,rfl,?_⟩;rw[show its.toArray.any Je0=its.any Je0 by simp,Jf9 r fun v hv=>(hx v hv).imp id (Or.imp id fun⟨a,_,e,_⟩=>⟨a,e⟩)];exact q
end L2
namespace LE
open PySem L2 LR
noncomputable def UB(z:Str):List Sl->Option Sl
 | [.sh (.str y)]=>if (y.length == 0)=false/\z.length<=16777216/\(G6 z y).length<=16777216 then some (.own ((G6 z y).map .str)) else none
 | _=>none
noncomputable def okN:D->Bool
 | .non=>true
 | .int _=>true
 | .tup _=>true
 | _=>false
noncomputable def JgL(x y:Sl):Option Sl:=match x with
 | .sh .non=>y.r.bind fun ds=>if ds.all okN=true then some (.sh (.bl (ds.any D.isNon))) else none
 | _=>none
section
variable{K:Qq}{C:Qc}
theorem JlJ:OpS K C (JlU K) JgL:=by
 intro Hs H0 H x y a b c Q i hs ra rb e q;unfold JgL at e;split at e
 ·obtain⟨ds,e1,e⟩:=bind_some e;split at e
  ·next hok =>
   cases e;obtain⟨l,xs,rfl,h,r⟩:=rb.r i e1
   have item:∀(j:Nat) (v:V),xs[j]?=some v->∃d,ds[j]?=some d/\RD K C H0 v d/\okN d=true:=fun j v hv=>by obtain⟨d,h1,h2⟩:=r.get' hv;exact⟨d,h1,h2,Q4.mp hok d (QX h1)⟩
   have an:∀{xs:List V} {ds:List D},RDL K C H0 xs ds->ds.all okN=true->xs.any JjS=ds.any D.isNon:=by
    intro xs
    induction xs with
    | nil=>intro ds r _;cases ds with
     | nil=>rfl
     | cons d ds=>have:=r.1;cases this
    | cons v xs ih=>intro ds r hk;cases ds with
     | nil=>have:=r.1;cases this
     | cons d ds =>
      rw[LL,QL] at hk;rw[GW,GW,ih r.tail hk.2];congr 1;have r0:=r.head
      cases d with
      | non=>rw[RD.nonI r0];rfl
      | int i=>rw[RD.intI r0];rfl
      | tup l=>obtain⟨a,ys,rfl,_,_⟩:=RD.tupI r0;rfl
      | _=>cases hk.1
   refine⟨l,xs,RD.nonI ra,rfl,h,fun v hv=>?_,?_⟩
   ·obtain⟨j,hj⟩:=K1.mp hv;obtain⟨d,_,h2,h3⟩:=item j v hj
    cases d with
    | non=>exact .inl (RD.nonI h2)
    | int i=>exact .inr (.inl ⟨i,RD.intI h2⟩)
    | tup l=>obtain⟨a,ys,rfl,hq,_⟩:=RD.tupI (h2.mono i);exact .inr (.inr ⟨a,ys,rfl,hq⟩)
    | _=>cases h3
   ·rw[an r hok];exact q _ _ _ (.refl i) (RD.bl _)
  ·cases e
 ·cases e
theorem Jfy{H:Hp}(ns:List Str):RDL K C H (ns.map V.str) (ns.map D.str):=by refine⟨by simp,fun i x d h1 h2=>?_⟩;rw[QR] at h1 h2;obtain⟨n,e,rfl⟩:=Gb.mp h1;rw[e] at h2;cases h2;exact .str n
theorem Jaw:MtS K C Jfo UB:=by
 intro Hs H0 H z xs as c Q i hs r e q;unfold UB at e;split at e
 ·split at e
  ·next hn=>cases e;obtain⟨v,rfl,r0⟩:=r.one;exact⟨z,_,rfl,by rw[RD.strI r0],hn.1,hn.2.1,hn.2.2,fun p hp=>UE i hs hp (Jfy _) q⟩
  ·cases e
 ·cases e
end
end LE

namespace PySem
open AutoSeq1 (wpAny_loadPart')
section
variable{prog:Qp}{w:QC}{A:Qx}{E:Qa->Qd->Prop}{s:Qd}
theorem Wm{T newId initId:String}{Bn Bi:Builtin}{args:List Qa}{kw:List (Str×Qa)}{S:Spec}{Q Q₁:Qa->Qd->Prop}(ft:TypeCalled T newId initId)
 (hct:checkTypeCall T ⟨args,kw⟩=pure ()) (hcn:checkBuiltinCall newId ⟨.type T::args,kw⟩=pure ())
 (entryN:entryFor table newId=some Bn) (entryI:entryFor table initId=some Bi) (g:Meets (Bn ⟨.type T::args,kw⟩) S)
 (h:S A.in1 (wants Q₁ E) s)
 (hnext:∀obj s₁,Q₁ obj s₁->s₁.TypeIs obj T/\argsOk initId ⟨obj::args,kw⟩/\∃Si,Meets (Bi ⟨obj::args,kw⟩) Si/\Si A.in1 (wants (fun r s₂=>r=.none/\Q obj s₂) E) s₁) :
 wpAny (model prog w) A (call (.type T) args kw) Q E s:=by
 obtain⟨c,tl,hmro⟩:=ft.mro;have hmade:=ft.made;have hsub:=ft.sub;refine Ln (codeAny_of_tree ?_);show wpAny _ _ (callAny (.type T) _) _ _ _;refine Qw ⟨Lr _ (by decide +kernel),codeAny_builtin F.entry_type_call ?_⟩;rw[Around.under_plain (weight_type_call_type T args kw) (units_type_call_type T args kw)];have h1:=ft.notType;have h2:=ft.canCreate
 repeat (any_goals (first|assumption|wp_step))
 refine Ks (Gu ft.plain entryN (wpAny_of_eq hcn (g prog w A.in1 _ s h))) fun r s₁ hr=>?_
 cases r with
 | error e=>exact hr
 | ok fl =>
  cases fl with
  | ret obj =>
   obtain⟨hT,hok,Si,gi,hsi⟩:=hnext _ _ hr;have hli:=ft.init.lookup;have hbi:=ft.init.bind obj
   repeat (any_goals (first|assumption|wp_step))
   refine Ks (Gu ft.init.plain entryI (ft.init.check _ _ _ _ _ _ _ _ hT hok (gi prog w A.in1 _ s₁ hsi))) fun r₂ s₂ hr₂=>?_
   cases r₂ with
   | error e=>exact hr₂
   | ok fl₂ =>
    cases fl₂ with
    | ret r =>
     obtain⟨rfl,hq⟩:=hr₂
     repeat (any_goals (first|assumption|wp_step))
    | _=>exact hr₂.elim
  | _=>exact hr.elim
theorem Vm{T newId:String}{self a:Qa}{rest:List Qa}{kw:List (Str×Qa)}(hl:typeLookup (.type T) "__init__"=pure (some (.builtin "object.__init__")))
 (hm:Bind.madeBy (.type T)=pure (some newId)) (hne:(some newId != some "object.__new__")=true) :
 Meets (Builtin.«object.__init__» ⟨self::a::rest,kw⟩) (fun _ R s=>s.TypeIs self T/\R (.ok (.ret .none)) s):=by
 refine Meets.of_wp fun prog w A R s hs=>?_
 obtain⟨hT,hq⟩:=hs
 repeat (any_goals (first|assumption|wp_step))
 exact⟨_,rfl,hq⟩
end
theorem JaR(a b:Qa):checkTypeCall "enumerate" ⟨[a],[("start",b)]⟩=pure ():=by kernel_rfl
theorem Jbi(a b:Qa):checkBuiltinCall "enumerate.__new__" ⟨[.type "enumerate",a],[("start",b)]⟩=pure ():=by kernel_rfl
theorem Jat(o a b:Qa):argsOk "object.__init__" ⟨[o,a],[("start",b)]⟩:=by unfold argsOk;rw[signature?_of (id:="object.__init__") (n:=['_','_','t','i','n','i','_','_']) (o:=['t','c','e','j','b','o']) (by kernel_rfl) F.owner_object];kernel_rfl
abbrev JiW(it:Qc):Obj:={ cls:=.type "enumerate",data:=.fields #[.none,.bool false,.ref it,rawInt 1,.none,.none] }
section
variable{prog:Qp}{w:QC}{A:Qx}{E:Qa->Qd->Prop}{s:Qd}
theorem Zv{T newId:String}{Bn:Builtin}{a:Qa}{args:List Qa}{kw:List (Str×Qa)}{S:Spec}{Q:Qa->Qd->Prop}(ft:TypeCalled T newId "object.__init__")
 (hne:(some newId != some "object.__new__")=true) (hct:checkTypeCall T ⟨a::args,kw⟩=pure ()) (hcn:checkBuiltinCall newId ⟨.type T::a::args,kw⟩=pure ())
 (hok:∀obj,argsOk "object.__init__" ⟨obj::a::args,kw⟩) (entryN:entryFor table newId=some Bn) (g:Meets (Bn ⟨.type T::a::args,kw⟩) S)
 (h:S A.in1 (wants (fun obj s₁=>s₁.TypeIs obj T/\Q obj s₁) E) s):wpAny (model prog w) A (call (.type T) (a::args) kw) Q E s :=
 Wm ft hct hcn entryN F.entry_object_init g h fun obj _ hq=>⟨hq.1,hok obj,_,Vm ft.init.lookup ft.made hne,hq.1,rfl,hq.2⟩
end
theorem Jb0(b:Bool)(a:Qc)(xs:Array Qa)(t:Tok):Meets (Builtin.«enumerate.__new__» ⟨[.type "enumerate",.ref a],[("start",.int 1 t)]⟩) (fun _ R s=>IsSq b s.heap a xs ∧
 R (.ok (.ret (.ref (s.heap.push (itO b a)).objs.size))) { s with heap:=(s.heap.push (itO b a)).push (JiW s.heap.objs.size) }) :=
 .of_wp fun prog w A R s h=>by
  obtain⟨hp,g,d,tk,os⟩:=s;obtain⟨q,h⟩:=h;have hsub:=sub_enumerate;have r:IsSq b (Shared.heap ⟨hp,g,d,tk,os⟩) a xs:=q
  obtain⟨o,hl⟩:∃o,hp.get? a=some o:=by
   cases b with
   | true=>obtain⟨o,e,_⟩:=q;exact⟨o,e⟩
   | false=>obtain⟨o,e,_⟩:=q;exact⟨o,e⟩
  wp_walk using Gy hl
  refine wpAny_stack_any fun st=>Qw ?_
  split
  ·rename_i c _ _ _ _ _;cases (c == Value.type "enumerate")
   ·wp_walk using Gy hl,Wc r
    exact⟨_,rfl,h⟩
   ·wp_walk using Gy hl,Wc r
    exact⟨_,rfl,h⟩
  ·wp_walk using Gy hl,Wc r
   exact⟨_,rfl,h⟩
section
variable{prog:Qp}{w:QC}{A:Qx}{E:Qa->Qd->Prop}{s:Qd}{b:Bool}{a e it:Qc}{xs:Array Qa}
theorem Jdm{t:Tok}{Q:Qa->Qd->Prop}(q:IsSq b s.heap a xs)
 (h:∀h',IsEnum h' (s.heap.objs.size+1) s.heap.objs.size 1 .none->IsItr b h' s.heap.objs.size a 0->(∀c o,s.heap.get? c=some o->h'.get? c=some o)->Q (.ref (s.heap.objs.size+1)) { s with heap:=h' }) :
 wpAny (model prog w) A (call (.type "enumerate") [.ref a] [("start",.int 1 t)]) Q E s:=by
 refine Zv F.called_enumerate (by decide) (JaR _ _) (Jbi _ _) (fun obj=>Jat obj _ _) F.entry_enumerate_new (Jb0 b a xs t) ⟨q,?_⟩;have hz:(s.heap.push (itO b a)).objs.size=s.heap.objs.size+1:=G2 ..;have fi:(itO b a).isFreed=false:=by cases b <;> rfl
 have g2:((s.heap.push (itO b a)).push (JiW s.heap.objs.size)).get? (s.heap.push (itO b a)).objs.size=some _:=Qz _ rfl
 have g1:((s.heap.push (itO b a)).push (JiW s.heap.objs.size)).get? s.heap.objs.size=some _:=Qg _ (Qz _ fi)
 show _/\_;rw[hz] at g2;rw[hz];exact⟨⟨_,g2,rfl⟩,h _ g2 (.new g1) fun c o x=>Qg _ (Qg _ x)⟩
theorem Jeq{p:List Qc}{n i:Nat}{j:Int}{P:Nat->Qa->Prop}{S:Nat->QJ->Prop}{old:Qa}{Q:Qa->Qd->Prop}(D:Draws prog w A it p n P S)(he:IsEnum s.heap e it j old)(st:S i s.heap)(hi:i<n)(hne:e∉p)(him:it∈p)
 (hQ:∀x h' tk t,P i x->IsEnumOut h' e it (j+1) x s.heap.objs.size->S (i+1) h'->h'.get? s.heap.objs.size=some { cls:=.type "tuple",data:=.seq #[.int j t,x] }->h'.objs.size=s.heap.objs.size+1 ->
  (∀c o,c≠e->c≠it->s.heap.get? c=some o->h'.get? c=some o)->Q (.ref s.heap.objs.size) { s with heap:=h',toks:=tk }) :
 wpAny (model prog w) A (Builtin.«enumerate.__next__» ⟨[.ref e],[]⟩) (fun fin s'=>∃v,fin=.done (.ret v)/\Q v s') E s:=by
 obtain⟨hp,g,d,tk,os⟩:=s;have ne:e≠it:=fun q=>hne (q▸him)
 show wpAny _ _ (field (.ref e) 2 >>= _) _ _ _;refine Qe (Q5 he rfl (x:=.ref it) rfl (Qe (D.item i _ _ _ hi st fun x k1 t1 px s1 e1=>?_)))
 replace e1:Ge it hp k1:=e1;have E1:IsEnum k1 e it j old:=(e1.2 e ne).trans he;refine Qe (Q5 (s:=⟨k1,g,d,t1,os⟩) E1 rfl (x:=rawInt j) rfl ?_);show wpAny _ _ (field (.ref e) 4 >>= _) _ _ ⟨k1,g,d,t1,os⟩;refine Qe (Q5 (s:=⟨k1,g,d,t1,os⟩) E1 rfl (x:=.none) rfl ?_);show wpAny _ _ (mkInt j >>= _) _ _ ⟨k1,g,d,t1,os⟩;refine Qe (wpAny_mkInt ?_);show wpAny _ _ (setField (.ref e) 3 (rawInt (j+1)) >>= _) _ _ ⟨k1,g,d,t1+1,os⟩
 refine Qe (Kb E1 (by simp) fun k2 E2 e2=>?_)
 replace e2:Ge e k1 k2:=e2
 replace E2:IsEnum k2 e it (j+1) old:=E2;show wpAny _ _ (setField (.ref e) 4 .none >>= _) _ _ ⟨k2,g,d,t1+1,os⟩;refine Qe (Kb E2 (by simp) fun k3 E3 e3=>?_)
 replace e3:Ge e k2 k3:=e3
 replace E3:IsEnum k3 e it (j+1) old:=E3;show wpAny _ _ (newTuple [.int j t1,x] >>= _) _ _ ⟨k3,g,d,t1+1,os⟩;refine Qe (wpAny_newTuple ?_);have hsz:k3.objs.size=hp.objs.size:=by rw[e3.1,e2.1,e1.1]
 have elt:e<hp.objs.size:=Qm he
 have E4:IsEnum (k3.push { cls:=.type "tuple",data:=.seq #[.int j t1,x] }) e it (j+1) old:=Qg _ E3
 have T4:(k3.push { cls:=.type "tuple",data:=.seq #[.int j t1,x] }).get? hp.objs.size=some { cls:=.type "tuple",data:=.seq #[.int j t1,x] }:=by rw[<- hsz];exact Qz _ rfl
 have z4:(k3.push { cls:=.type "tuple",data:=.seq #[.int j t1,x] }).objs.size=hp.objs.size+1:=by rw[G2,hsz]
 have kp:∀c o,c≠e->k1.get? c=some o->(k3.push { cls:=.type "tuple",data:=.seq #[.int j t1,x] }).get? c=some o:=fun c o c1 q=>Qg _ (e3.extBut c o c1 (e2.extBut c o c1 q))
 show wpAny _ _ (KE (.ref e) >>= _) _ _ ⟨k3.push { cls:=.type "tuple",data:=.seq #[.int j t1,x] },g,d,t1+1,os⟩;rw[hsz]
 generalize k3.push { cls:=.type "tuple",data:=.seq #[.int j t1,x] }=k4 at E4 T4 z4 kp ⊢
 refine Qe ?_;unfold KE;refine Qe (Q5 (s:=⟨k4,g,d,t1+1,os⟩) E4 rfl (x:=.none) rfl (Qw ?_));simp only[if_true];refine Qe (wpAny_rule (Qe (Q5 (s:=⟨k4,g,d,t1+1,os⟩) E4 rfl (x:=old) rfl (Qe (Kb E4 (by simp) fun k5 E5 e5=>?_)))))
 replace e5:Ge e k4 k5:=e5
 replace E5:IsEnum k5 e it (j+1) x:=E5;show wpAny _ _ (KC (.ref e) (.ref hp.objs.size) >>= _) _ _ ⟨k5,g,d,t1+1,os⟩;refine Qe ?_;unfold KC;refine Qe (Kb E5 (by simp) fun k6 E6 e6=>?_)
 replace e6:Ge e k5 k6:=e6
 replace E6:IsEnumOut k6 e it (j+1) x hp.objs.size:=E6;refine Kb E6 (by simp) fun k7 E7 e7=>?_
 replace e7:Ge e k6 k7:=e7
 replace E7:IsEnumOut k7 e it (j+1) x hp.objs.size:=E7;have up:∀c o,c≠e->k4.get? c=some o->k7.get? c=some o:=fun c o c1 q=>e7.extBut c o c1 (e6.extBut c o c1 (e5.extBut c o c1 q))
 refine Qe (wpAny_letGo (Qw ⟨_,rfl,hQ x k7 (t1+1) t1 px E7 ?_ (up _ _ (Kr elt) T4) (by rw[e7.1,e6.1,e5.1,z4]) fun c o c1 c2 q=>up c o c1 (kp c o c1 (e1.extBut c o c2 q))⟩));exact D.frame _ _ _ s1 fun c hc o q=>up c o (fun z=>hne (z▸hc)) (kp c o (fun z=>hne (z▸hc)) q)
theorem Jgo{p:List Qc}{n:Nat}{j:Int}{P:Nat->Qa->Prop}{S:Nat->QJ->Prop}{old:Qa}{Q:Fin->Qd->Prop}(D:Draws prog w A it p n P S)(he:IsEnum s.heap e it j old)(st:S n s.heap)
 (hE:∀h' x tk,Heap.ExtBut it s.heap h'->(∃o,h'.get? x=some o/\o.cls=.type "StopIteration")->E (.ref x) { s with heap:=h',toks:=tk }) :
 wpAny (model prog w) A (Builtin.«enumerate.__next__» ⟨[.ref e],[]⟩) Q E s:=by
 show wpAny _ _ (field (.ref e) 2 >>= _) _ _ _;refine Qe (Q5 he rfl (x:=.ref it) rfl (Qe (D.done _ _ _ st fun k1 x e1 hx=>?_)));exact hE k1 x s.toks e1 hx
end
end PySem
namespace L2
open PySem PySem.Spec PyProof.Rows
noncomputable def JiK(K:Qq)(b:Bool)(a:Qc):It :=
 ⟨fun i H=>∃xs x,Sq b K H a xs/\xs[i]?=some x,
  fun i H x H'=>∃p v,x=.ref p/\H p=none/\H'=upd H p (.tup [.int ((i:Int)+1),v])/\∀xs,Sq b K H a xs->xs[i]?=some v,
  fun i H=>∃xs,Sq b K H a xs/\i=xs.length⟩
theorem JfY{P:Qp}{w:QC}{K:Qq}{elts:List QQ}{kk:Nat}{pos:Pos}(b:Bool)(a e it:Qc)(ne:e≠it) :
 Turn P w K (.Tuple elts kk pos) (JiK K b a) [e,it] e (fun i h=>(∃old,IsEnum h e it ((i:Int)+1) old)/\IsItr b h it a i) where
 mem:=by simp
 obj:=fun i h st c hc=>by
  obtain⟨⟨old,s1⟩,s2⟩:=st;simp only[Qv,Gp,or_false] at hc;rcases hc with rfl|rfl
  ·exact⟨_,s1,fun v z=>nomatch (show Data.fields _=Data.cell v from z)⟩
  ·exact IsItr.obj (b:=b) s2
 keep:=fun i h h' st k=>by obtain⟨⟨old,s1⟩,s2⟩:=st;exact⟨⟨old,k e (by simp) _ s1⟩,IsItr.keep (b:=b) s2 fun o q=>k it (by simp) o q⟩
 item:=by
  intro X hP hw hK hc i pins s σ H E I hf st hg;subst hP hw hK;obtain⟨xs,x,q1,e1⟩:=hg;obtain⟨its,r1,p1⟩:=q1.heap I;obtain⟨⟨old,s1⟩,s2⟩:=st;have hh:X.A.in1.handled=none:=I.ok.hd hc;have ne1:a≠it:=FpOk.off I q1 (hf it (by simp));have ne2:a≠e:=FpOk.off I q1 (hf e (by simp));have D1:=Draws.sq (prog:=X.prog) (w:=X.w) (b:=b) (xs:=its.toArray) hh it ne1;have hT:s.TypeIs (.ref e) "enumerate":=⟨_,s1,rfl⟩
  have l1:i<its.toArray.size:=by have:=(Qo.mp e1).1;rw[Qn,<- r1.length];exact this
  unfold pyNext;refine Qe (wpAny_attempt (Gf (name:=Qf "__next__") hT Kh (G3 Kh hT F.entry_enumerate_next
   (Jeq D1 s1 ⟨s2,p1⟩ l1 (by simp[ne,Q0 ne2]) (by simp) fun u k tk t pu t1 t2 t3 t4 t5=>Qw ?_) (LY _))))
  refine⟨_,rfl,wpAny_letOwnedTupleGo_enum (s:={ s with heap:=k,toks:=tk }) t1 fun k2 t9 e9=>?_⟩
  replace e9:Ge e k k2:=e9;obtain⟨ux,hx1,rx⟩:=r1.get e1
  have eu:u=ux:=by
   have pu':its[i]?=some u:=by simpa using pu
   rw[hx1] at pu';exact(QI pu').symm
  subst eu
  have elt:∀c∈[e,it],c<s.heap.objs.size:=fun c hc=>by
   simp only[Qv,Gp,or_false] at hc;rcases hc with rfl|rfl
   ·exact Qm s1
   ·obtain⟨_,q,_⟩:=IsItr.obj (b:=b) s2;exact Qm q
  have ri:RelV (.int ((i:Int)+1)) (.int ((i:Int)+1) t):=⟨t,rfl⟩
  have I1:Inv X pins σ (upd H s.heap.objs.size (.tup [.int ((i:Int)+1),x])) { s with heap:=s.heap.push { cls:=.type "tuple",data:=.seq #[.int ((i:Int)+1) t,u] },toks:=s.toks } :=
   I.laid (o:=.tup [.int ((i:Int)+1),x]) (fun c ob q=>Qg _ q) (Qr _) ⟨by show 2<=Qu;decide,[.int ((i:Int)+1) t,u],.cons ri (.cons rx .nil),⟨_,Qz _ rfl,rfl,_,rfl⟩⟩
  have hf1:∀c∈[e,it],FpOk X pins (upd H s.heap.objs.size (.tup [.int ((i:Int)+1),x])) c:=fun c hc=>⟨by rw[Jm (QG (elt c hc))];exact(hf c hc).1,(hf c hc).2⟩
  have I2:Inv X pins σ (upd H s.heap.objs.size (.tup [.int ((i:Int)+1),x])) { s with heap:=k2,toks:=tk }:=Inv.turnedL (s:={ s with heap:=s.heap.push { cls:=.type "tuple",data:=.seq #[.int ((i:Int)+1) t,u] },toks:=s.toks }) I1 (fun c o hc q=>by
   simp only[Qv,Gp,or_false,not_or] at hc;refine e9.extBut c o hc.1 ?_
   by_cases hcs:c=s.heap.objs.size
   ·subst hcs;have q':(s.heap.push { cls:=.type "tuple",data:=.seq #[.int ((i:Int)+1) t,u] }).get? s.heap.objs.size=some o:=q;rw[Qz _ rfl] at q';cases q';exact t3
   ·have q':s.heap.get? c=some o:=by have q2:(s.heap.push { cls:=.type "tuple",data:=.seq #[.int ((i:Int)+1) t,u] }).get? c=some o:=q;exact(Heap.get?_push_ne s.heap c _ hcs).symm.trans q2
    exact t5 c o hc.1 hc.2 q') hf1
  refine⟨.ref s.heap.objs.size,_,I2,rfl,⟨_,x,rfl,I.hok.fresh (Qr _),rfl,fun xs' h1=>?_⟩,⟨⟨u,?_⟩,?_⟩,fun c hc=>(hf1 c hc).1⟩
  ·rw[Sq.inj I h1 q1];exact e1
  ·have ei:((i+1:Nat):Int)+1=(i:Int)+1+1:=by omega
   rw[ei];exact t9
  ·exact IsItr.keep (b:=b) t2.1 fun o q=>e9.extBut _ _ (Q0 ne) q
 done:=by
  intro X hP hw hK hc i pins s σ H E I hf st hg;subst hP hw hK;obtain⟨xs,q1,ei⟩:=hg;obtain⟨its,r1,p1⟩:=q1.heap I;obtain⟨⟨old,s1⟩,s2⟩:=st;have hh:X.A.in1.handled=none:=I.ok.hd hc;have D1:=Draws.sq (prog:=X.prog) (w:=X.w) (b:=b) (xs:=its.toArray) hh it (FpOk.off I q1 (hf it (by simp)));have hT:s.TypeIs (.ref e) "enumerate":=⟨_,s1,rfl⟩
  have n1:i=its.toArray.size:=by rw[Qn,<- r1.length];exact ei
  subst n1;unfold pyNext;refine Qe (wpAny_attempt (Gf (name:=Qf "__next__") hT Kh (G3 Kh hT F.entry_enumerate_next (Jgo D1 s1 ⟨s2,p1⟩ fun k x tk kk he=>?_) (LY _))));obtain⟨o,ho,hoc⟩:=he;refine Qe (wpAny_isInstance (T:="StopIteration") (b:=true) ⟨o,ho,hoc⟩ isSubtype_stop (Qw ⟨rfl,?_⟩));exact I.turnedL (fun c o hc q=>by simp only[Qv,Gp,or_false,not_or] at hc;exact kk c o hc.2 q) hf
 self:=fun _ _ _ _ _ st h=>by obtain⟨⟨old,s1⟩,_⟩:=st;exact wpAny_pyIter_enum s1 h
noncomputable def JlA(K:Qq)(ta:TA):TI:=fun σ H R=>ta σ H fun vs H1=>∃(b:Bool) (a:Qc) (xs:List V),vs=[.ref a]/\Sq b K H1 a xs/\R (JiK K b a) H1
theorem Jae{M:Model}{A:Qx}{E:Qa->Qd->Prop}{s:Qd}{env:Env}{pos:Pos}{T:String}{e:QQ}{rest:List QQ}{kws:List Lh}{Q:Qa->Qd->Prop}
 (h:wpAny M A (spliced (backTo pos (starEach (e::rest) env))) (fun vs s₁=>wpAny M A (evalAll ((backToKw pos (keywordEach kws env)).map (·.2)))
  (fun kvs s₂=>wpAny M A (call (.type T) vs (((backToKw pos (keywordEach kws env)).filterMap (·.1)).zip kvs)) Q E s₂) E s₁) E s)
 (he:backTo pos (starEach (e::rest) env)=(false,eval e env)::backTo pos (starEach rest env):=by rfl)
 (hplain:(backTo pos (starEach (e::rest) env)).any (·.1)=false:=by rfl)
 (hall:(backToKw pos (keywordEach kws env)).all (·.1.isSome)=true:=by rfl)
 (hkw:(backToKw pos (keywordEach kws env)).any (·.1.isNone)=false:=by rfl) :
 wpAny M A (callWith pos (.type T) [] (backTo pos (starEach (e::rest) env)) (backToKw pos (keywordEach kws env))) Q E s:=by
 have h2:wpAny M A (evalArgs (.type T) true (backTo pos (starEach (e::rest) env)) (backToKw pos (keywordEach kws env))) (fun a s₁=>wpAny M A (call (.type T) ([]++a.pos) a.kw) Q E s₁) E s:=by rw[he] at h ⊢;exact evalArgs_kwB hall h
 unfold callWith;refine Qe (Gg (Q2 h2 (fun a s₁ h₁=>Qe (Kf ?_)) fun _ _ x=>x));simp only[hplain,hkw,Mz];refine Qe (Qw ?_);exact Qe (Q2 h₁ (fun r s₂ hr=>Qe (Gg (wpAny_point (Qw hr)))) fun _ _ x=>x)
theorem JdR{X:Cx}{K:Qq}{elts:List QQ}{kk:Nat}{tpos:Pos}{a ek:QQ}{ta:TA}{p pos kpos:Pos}(hK:X.K=K)(hg:Gl X "enumerate")(hm:X.mg "enumerate"=none)(ha:PA X [a] ta)(hk:PE X ek (tC (.int 1)))
 (he:backTo pos (starEach [a] X.env)=(false,eval a X.env)::backTo pos (starEach [] X.env):=by rfl) (hpl:(backTo pos (starEach [a] X.env)).any (·.1)=false:=by rfl)
:PI X (.Tuple elts kk tpos) (.Call (.Name "enumerate" p) [a] [⟨some "start",ek,kpos⟩] pos) (JlA K ta):=by
 subst hK;intro pins s σ H R I h;refine G8 (WU I hg hm Jac ?_);refine Jae (thn (ha pos pins s σ H _ I h) fun us s1 ⟨vs,H1,I1,r1,q1⟩=>?_) he hpl rfl rfl;refine kws_cons (thn (hk pins s1 σ H1 (fun v H2=>v=.int 1/\∃(b:Bool) (a:Qc) (xs:List V),vs=[.ref a]/\Sq b X.K H2 a xs/\R (JiK X.K b a) H2) I1 ⟨rfl,q1⟩) fun w s2 ⟨v,H2,I2,rz,e2,q2⟩=>kws_nil ?_);subst e2;obtain⟨t,rfl⟩:=rz;obtain⟨b,a,xs,e,c1,q⟩:=q2;subst e
 cases r1 with
 | cons r rr =>
 cases rr;cases r;obtain⟨its,w1,p1⟩:=c1.heap I2;refine Jdm p1 fun h' t1 t2 kp=>wpAny_pyIter_enum t1 ?_
 refine⟨_,[s2.heap.objs.size+1,s2.heap.objs.size],_,_,H2,rfl,I2.kept (t':=s2.toks) kp,JfY b a _ _ (by simp),⟨⟨_,t1⟩,t2⟩,fun c hc=>?_,q⟩
 have hle:s2.heap.objs.size<=c:=by simp only[Qv,Gp,or_false] at hc;rcases hc with rfl|rfl <;> first|exact Qr _|exact LZ _ _
 exact I2.fpOk hle (I2.hok.fresh hle)
end L2
namespace LE
open PySem L2 LR
noncomputable def V1(ds:List D):List D:=ds.mapIdx fun i d=>.tup [.int ((i:Int)+1),d]
noncomputable def Vj(m:Bool)(as:En->Option (List Sl)):En->Option (List D):=fun E=>(as E).bind fun ss=>match ss with
 | [s]=>(s.it m).map V1
 | _=>none
section
variable{K:Qq}{C:Qc}{m:Bool}
theorem Za{t:TA}{ev:En->Option (List Sl)}(ha:SA K C t ev):SI K C m (JlA K t) (Vj m ev):=by
 intro B H0 H σ E ds R I e q;obtain⟨ss,e1,e⟩:=bind_some e;split at e
 ·next s =>
  obtain⟨ds1,e2,e⟩:=Gb.mp e;subst e;refine ha B H0 H σ E _ _ I e1 fun vs H1 H1' s1 r1=>?_
  obtain⟨v,rfl,ra⟩:=r1.one;have f:=JX (Hs:=H) s1.i;obtain⟨b1,a1,xs,rfl,k1,w1⟩:=Jmw ra s1.i e2;have hA:m=true->(if m=true then H1' else B)=H1':=fun h=>if_pos h
  have sA:Same (if m=true then H1' else B) H1':=by
   split
   ·exact Same.refl _
   ·exact I.b.trans s1.h
  have st0:SStep (if m=true then H1' else B) (YN H H1 H1') (YN H H1 H1') H1':=⟨sA,Same.refl _,fun _ _ e=>.inl e,f.i⟩
  refine⟨b1,a1,xs,rfl,k1 _ hA _ _ st0,q _ _ _ (s1.comp f fun _ z=>z) ?_⟩;intro H0' H' st;have q1:=k1 _ hA _ _ st;refine⟨fun i d e=>?_,⟨xs,q1,by unfold V1;rw[List.length_mapIdx,w1.1]⟩⟩;unfold V1 at e;rw[Kp] at e;obtain⟨d1,g1,e⟩:=Gb.mp e;subst e;obtain⟨x,x1,x2⟩:=w1.get g1;refine⟨⟨xs,x,q1,x1⟩,?_⟩;rintro z H2 ⟨p,v',rfl,hp,rfl,hv⟩;have h1:=hv xs q1;rw[x1] at h1;cases h1;have h0:H0' p=none:=Same.free st.i hp
  refine⟨upd H0' p (.tup [.int ((i:Int)+1),x]),⟨.new hp,.new h0,fun a o e=>?_,fun a o e=>?_⟩,?_⟩
  ·by_cases h:a=p
   ·subst h;exact .inr (.inl hp)
   ·rw[Jm h] at e;exact .inl e
  ·by_cases h:a=p
   ·subst h;rw[JF] at e ⊢;exact e
   ·rw[Jm h] at e ⊢;exact st.i a o e
  ·exact .mkT (.of JF) (.cons (.int _) (.cons (x2.mono (st.z.trans (.new h0))) .nil))
 ·cases e
theorem Jdt{α:Type}(f:α->D)(xs:List α):V1 (xs.map f)=xs.mapIdx fun i x=>.tup [.int ((i:Int)+1),f x]:=by
 unfold V1;refine List.ext_getElem? fun i=>?_
 rw[Kp,Kp,QR,Option.map_map];rfl
end
end LE

namespace L2
open PySem PySem.Spec PyProof.Rows PySem.Calls
noncomputable def Zz(b:Bool){α:Type}:List α->List α
 | [p,q,r,s,t,u]=>if b then [q,s,u] else [p,r,t]
 | _=>[]
theorem JdS(b:Bool)(its:List Qa)(h:its.length=6):slicePick its.toArray (if b=true then some 1 else none) none (some 2)=(Zz b its).toArray:=by
 match its,h with
 | [p,q,r,s,t,u],_ =>
  have e0:sliceRange 0 6 2=[0,2,4]:=by decide +kernel
  have e1:sliceRange 1 6 2=[1,3,5]:=by decide +kernel
  cases b
  ·show(((sliceRange 0 6 2).filterMap fun i=>#[p,q,r,s,t,u][i]?)).toArray=_;rw[e0];rfl
  ·show(((sliceRange 1 6 2).filterMap fun i=>#[p,q,r,s,t,u][i]?)).toArray=_;rw[e1];rfl
noncomputable def Jfl(K:Qq)(b:Bool):V->Hp->VK->Prop:=fun x H Q=>∃a xs,x=.ref a/\SqL K H a xs/\xs.length=6/\∀l,H l=none->Q (.ref l) (upd H l (.lst (Zz b xs)))
noncomputable def Jc6(K:Qq)(b:Bool)(te:TE):TE:=fun σ H Q=>te σ H fun x H1=>Jfl K b x H1 Q
theorem Jd2(b:Bool){xs:List V}{us:List Qa}(r:Vals xs us)(h:xs.length=6):Vals (Zz b xs) (Zz b us):=by
 cases r with
 | nil=>cases h
 | cons r1 r =>
 cases r with
 | nil=>cases h
 | cons r2 r =>
 cases r with
 | nil=>cases h
 | cons r3 r =>
 cases r with
 | nil=>cases h
 | cons r4 r =>
 cases r with
 | nil=>cases h
 | cons r5 r =>
 cases r with
 | nil=>cases h
 | cons r6 r =>
 cases r with
 | cons _ _=>simp at h
 | nil=>cases b <;> first|exact .cons r1 (.cons r3 (.cons r5 .nil))|exact .cons r2 (.cons r4 (.cons r6 .nil))
section
variable{X:Cx}{K:Qq}{e:QQ}{te:TE}{p2 pos:Pos}
theorem Jbr(b:Bool){lo st:QQ}{lw:Option QQ}(hK:X.K=K)(he:PE X e te)(hl:PO X lw (if b=true then JfP (tC (.int 1)) else JaP))(hst:PE X st (tC (.int 2))):PE X (.Subscript e (.Slice lw none (some st) p2) pos) (Jc6 K b te):=by
 subst hK;intro pins s σ H Q I h;refine Subscript_ (thn (he pins s σ H _ I h) fun v s1 ⟨x,H1,I1,r1,q1⟩=>?_);refine wpAny_Slice (thn (hl pins s1 σ H1 (fun l H2=>l=(if b=true then some 1 else none)/\Jfl X.K b x H2 Q) I1 (by cases b <;> first|exact⟨rfl,q1⟩|exact⟨1,rfl,rfl,q1⟩)) fun vl s2 ⟨l,H2,I2,pl,q2⟩=>?_);rw[evalPart_none];refine Qw ?_;rw[evalPart_some];refine thn (hst pins s2 σ H2 (fun z H3=>z=.int 2/\Jfl X.K b x H3 Q) I2 ⟨rfl,q2.2⟩) fun vs s3 ⟨z,H3,I3,r3,q3⟩=>?_
 obtain⟨rfl,a,xs,rfl,hx,h6,q⟩:=q3;obtain⟨t3,rfl⟩:=r3;cases r1;have I4:Inv X pins σ H3 { s3 with heap:=s3.heap.push { cls:=.type "slice",data:=.fields #[vl,.none,.int 2 t3] } }:=I3.kept (t':=s3.toks) fun b ob q=>Qg _ q
 obtain⟨its,r,ht,hz⟩:=I4.list hx;have hlen:=r.length;have hl6:its.length=6:=by omega
 show wpAny (model X.prog X.w) X.A (subscriptTail e (.Slice lw none (some st) p2) (.ref a) (.ref s3.heap.objs.size)) (EP X pins σ Q) X.xe { s3 with heap:=s3.heap.push { cls:=.type "slice",data:=.fields #[vl,.none,.int 2 t3] } };refine tail_any (ops:=[.ref a,.ref s3.heap.objs.size]) ht.isList.typeIs LA.lookup ?_ (by with_unfolding_all rfl);refine wpAny_getItem_list_slice (st:=some 2) ht.isList (MI ..) (q2.1▸pl) .none (.int 2 t3) (by simp) ?_ (by rw[Qn] <;> omega)
 rw[JdS b its hl6];refine⟨.ref _,_,I4.laid (t':=s3.toks) (o:=.lst (Zz b xs)) (fun b ob q=>Qg _ q) (Qr _) ?_,rfl,q _ (I4.hok.fresh (Qr _))⟩;exact⟨by
  match xs,h6 with
  | [_,_,_,_,_,_],_=>cases b <;> exact QK (show 3<=6 by omega) hz,_,0,Jd2 b r h6,Qz _ rfl⟩
theorem Je6{st:QQ}(hK:X.K=K)(he:PE X e te)(hst:PE X st (tC (.int 2))):PE X (.Subscript e (.Slice none none (some st) p2) pos) (Jc6 K false te):=Jbr false (lo:=e) hK he UI hst
theorem Je7{lw st:QQ}(hK:X.K=K)(he:PE X e te)(hl:PE X lw (tC (.int 1)))(hst:PE X st (tC (.int 2))):PE X (.Subscript e (.Slice (some lw) none (some st) p2) pos) (Jc6 K true te):=Jbr true (lo:=e) hK he (UJ hl) hst
end
end L2
namespace LE
open PySem L2 LR
noncomputable def Jcz(b:Bool)(a:Ev):Ev:=fun E=>(a E).bind fun s=>s.r.bind fun ds=>if ds.length=6 then some (.own (Zz b ds)) else none
section
variable{K:Qq}{C:Qc}{te:TE}{ea:Ev}
theorem Jfx(b:Bool){H:Hp}{xs:List V}{ds:List D}(r:RDL K C H xs ds)(h:ds.length=6):RDL K C H (Zz b xs) (Zz b ds):=by
 have hx:xs.length=6:=by have:=r.1;omega
 match xs,ds,hx,h,r with
 | [_,_,_,_,_,_],[_,_,_,_,_,_],_,_,r =>
  have r1:=r.head
  have r2:=r.tail.head
  have r3:=r.tail.tail.head
  have r4:=r.tail.tail.tail.head
  have r5:=r.tail.tail.tail.tail.head
  have r6:=r.tail.tail.tail.tail.tail.head;cases b
  ·exact .cons r1 (.cons r3 (.cons r5 .nil))
  ·exact .cons r2 (.cons r4 (.cons r6 .nil))
theorem JfA(b:Bool)(ha:SE K C te ea):SE K C (Jc6 K b te) (Jcz b ea):=by
 intro B H0 H σ E c Q I e q;obtain⟨s,e1,e⟩:=bind_some e;obtain⟨ds,e2,e⟩:=bind_some e;split at e
 ·next h6 =>
  cases e;refine ha B H0 H σ E s _ I e1 fun x H1 H1' s1 r1=>?_
  obtain⟨l,xs,rfl,hl,rl⟩:=r1.r s1.i e2;refine⟨l,xs,rfl,hl,by rw[rl.1];exact h6,fun p hp=>?_⟩;exact UE s1.i s1.h hp (Jfx b rl h6) fun v H4 H4' s4 r4=>q v H4 H4' (s1.comp s4 fun _ z=>z) r4
 ·cases e
end
end LE

namespace LE
open PySem L2 LR
section
variable{K:Qq}{C:Qc}
end
end LE

namespace L2
open PySem PySem.Spec PyProof.Rows
structure Blk1 (X:Cx) (sc:Lx) (cl:List (Str×Qc)) (y:Str) (N':List Str) (imp:List (Option Nat)):Prop where
 clos:closureFor sc X.env=pure cl
 kind:sc.kind=.function
 cf:∀n,cellsFrom n sc.names cl=(y,n)::cl
 cf0:∀n,cellsFrom n sc.names []=[(y,n)]
 names:∀y∈sc.names,y.2=.local->sc.names.lookup y.1=some .local
 sub:∀p∈cl,X.env.cells.lookup p.1=some p.2
 has:∀z∈(relabel sc X.env).names,(z.2=.cell\/z.2=.free)->z.1=y\/(cl.lookup z.1).isSome=true
 len:imp.length=N'.length
 im:∀p∈imp.zip N',∀k,p.1=some k->p.2≠y/\X.N[k]?=some p.2/\(X.env.scope.names.lookup p.2=some .cell\/X.env.scope.names.lookup p.2=some .free)/\((relabel sc X.env).names.lookup p.2=some .cell\/(relabel sc X.env).names.lookup p.2=some .free)
section
variable{X:Cx}{tg iter elt:QQ}{ifs:List QQ}{sc:Lx}{cl:List (Str×Qc)}{y:Str}{N':List Str}{imp:List (Option Nat)}{pos:Pos}{wi:TI}{g:TG}{tt:TT}{te:TE}
theorem Blk1.subL(B:Blk1 X sc cl y N' imp):∀x c,cl.lookup x=some c->X.env.cells.lookup x=some c:=fun x c e=>B.sub (x,c) (UD e)
end
end L2

namespace L2
open PySem PySem.W PyProof.Rows
structure Pm (p:Array Nat) (N:Nat):Prop where
 size:p.size=N
 low:∀a,a<N->p.getD a 0<N
 inj:∀a b,a<N->b<N->p.getD a 0=p.getD b 0->a=b
theorem JjR{l:List Nat}(nd:l.Nodup){a b:Nat}(h1:a<l.length)(h2:b<l.length)(e:l[a]=l[b]):a=b:=by
 rcases Nat.lt_trichotomy a b with c|c|c
 ·exact absurd e (Kx.mp nd a b h1 h2 c)
 ·exact c
 ·exact absurd e.symm (Kx.mp nd b a h2 h1 c)
theorem Pm.of{p:Array Nat}{N:Nat}(h:p.toList.Perm (G7 N)):Pm p N:=by
 have hz:p.size=N:=by have:=h.length_eq;simpa using this
 have get:∀a,a<N->p.toList[a]?=some (p.getD a 0):=fun a ha=>by rw[K0,Lw (by omega)];simp[Array.getD,show a<p.size by omega]
 refine⟨hz,fun a ha=>?_,fun a b ha hb e=>?_⟩
 ·have:=h.mem_iff.mp (QX (get a ha))
  simpa using this
 ·have nd:p.toList.Nodup:=h.nodup_iff.mpr List.nodup_range
  have ga:=get a ha
  have gb:=get b hb;rw[e] at ga;obtain⟨h1,e1⟩:=Qo.mp ga;obtain⟨h2,e2⟩:=Qo.mp gb;exact JjR nd h1 h2 (e1.trans e2.symm)
section
variable{N:Nat}{lt:Nat->Nat->Bool}{cmp:Nat->Nat->(Bool->Qd->Prop)->Qd->Prop}{I:Qd->Prop}
end
end L2

namespace L2
open PySem PySem.W PyProof.Rows
section
variable{prog:Qp}{w:QC}{A:Qx}{E:Qa->Qd->Prop}{s:Qd}
end
end L2

namespace L2
open PySem PySem.W PyProof.Rows
noncomputable abbrev PrI:=Int×Int
noncomputable def TupP(h:QJ)(v:Qa)(p:PrI):Prop:=∃a o n t u,v=.ref a/\h.get? a=some o/\o.cls=.type "tuple"/\o.data=.seq #[.int p.1 t,.int p.2 u] n
section
variable{prog:Qp}{w:QC}{A:Qx}{E:Qa->Qd->Prop}{s:Qd}
theorem TupP.off{h h1:QJ}{a:Qc}{vs:Array Qa}{n:Nat}{v:Qa}{p:PrI}(ho:h.get? a=some (seqObj "list" vs n))(keep:∀b ob,b≠a->h.get? b=some ob->h1.get? b=some ob)(t:TupP h v p):TupP h1 v p:=by obtain⟨b,o,m,t,u,rfl,hb,hc,hd⟩:=t;refine⟨b,o,m,t,u,rfl,keep b o (fun e=>?_) hb,hc,hd⟩;subst e;rw[ho] at hb;cases hb;have z:(Value.type "list":Qa)=.type "tuple":=hc;exact absurd z (by decide)
end
end L2

namespace L2
open PySem PySem.Spec PySem.W PyProof.Rows
section
variable{prog:Qp}{w:QC}{A:Qx}{E:Qa->Qd->Prop}{s:Qd}
end
section
variable{X:Cx}
end
end L2

namespace L2
open PySem PySem.Spec PySem.W PyProof.Rows
noncomputable def RawD(h:QJ)(d:Qc)(es:Array DictEntry)(ep:Nat):Prop:=∃o,h.get? d=some o/\o.ExactDict/\o.data=.dict es ep
section
variable{prog:Qp}{w:QC}{A:Qx}{E:Qa->Qd->Prop}{s:Qd}{it d v:Qc}{i ep:Nat}{es:Array DictEntry}
theorem RawD.at{h h':QJ}(x:RawD h d es ep)(e:∀o,h.get? d=some o->h'.get? d=some o):RawD h' d es ep:=let ⟨o,ho,r⟩:=x;⟨o,e _ ho,r⟩
theorem RawD.lt{h:QJ}(x:RawD h d es ep):d<h.objs.size:=let ⟨_,ho,_⟩:=x;Qm ho
end
end L2

namespace L2
open PySem PySem.Spec PySem.W PyProof.Rows
theorem KT.get{H:Hp}:∀{kvs:List (List Key×V)} {xs:List (List Key×Qc×Qa)},KT H kvs xs->kvs.length=xs.length/\∀(i:Nat) (k:List Key×V) (x:List Key×Qc×Qa),kvs[i]?=some k->xs[i]?=some x->k.1=x.1/\H x.2.1=some (.tup (k.1.map kV))
 | _,_,.nil=>⟨rfl,fun i k x e=>by simp at e⟩
 | _,_,.cons h t=>by
  obtain⟨h1,h2⟩:=KT.get t;refine⟨by simp[h1],fun i k x e1 e2=>?_⟩
  cases i with
  | zero=>simp at e1 e2;subst e1 e2;exact⟨h.1,h.2.1⟩
  | succ i=>exact h2 i k x (by simpa using e1) (by simpa using e2)
end L2

namespace L2
open PySem PySem.Spec PySem.W PyProof.Rows
end L2
namespace LE
open PySem L2 LR
section
variable{K:Qq}{C:Qc}{Hs H0 H:Hp}
end
noncomputable def Sl.dt:Sl->Option (List (Int×Int)×List D)
 | .bt ks ds=>some (ks,ds)
 | .ot ks ds=>some (ks,ds)
 | _=>none
noncomputable def pr?:Sl->Option (Int×Int)
 | .sh (.tup [.int a,.int b])=>some (a,b)
 | _=>none
section
variable{K:Qq}{C:Qc}{Hs H0 H:Hp}{td ty te tk1 tk2:TE}{ed ek ea k1 k2:Ev}
theorem RR.dt{v:V}{s:Sl}{p:List (Int×Int)×List D}(r:RR K C Hs H0 H v s)(e:s.dt=some p):∃l xs,v=.ref l/\H l=some (dtO p.1 xs)/\p.1.length=p.2.length/\RDL K C H0 xs p.2:=by
 cases s with
 | bt ks ds=>cases e;exact r
 | ot ks ds=>cases e;obtain⟨l,xs,h1,h2,_,_,h3⟩:=r;exact⟨l,xs,h1,h2,h3⟩
 | _=>cases e
noncomputable def JlD:List Sl->Option (Int×Int)
 | [.sh (.int a),.sh (.int b)]=>some (a,b)
 | _=>none
end
end LE

namespace LE
open PySem L2 LR
section
variable{K:Qq}{C:Qc}
theorem RDL.eraseIdx{H:Hp}:∀{xs:List V} {ds:List D} (k:Nat),RDL K C H xs ds->RDL K C H (xs.eraseIdx k) (ds.eraseIdx k)
 | [],[],_,h=>by simpa using h
 | [],_::_,_,h=>by have:=h.1;simp at this
 | _::_,[],_,h=>by have:=h.1;simp at this
 | x::xs,d::ds,0,h=>by simpa using h.tail
 | x::xs,d::ds,k+1,h=>by rw[KM,KM];exact .cons h.head (RDL.eraseIdx k h.tail)
end
end LE

namespace LE
open PySem L2 LR
noncomputable def Y6{α:Type}(xs:List α)(k:Nat)(x:α):List α:=xs.take k++x::xs.drop k
section
variable{X:Cx}
noncomputable def JcX:V->List V->Hp->VK->Prop:=fun x vs H Q=>∃l xs i y,x=.ref l/\vs=[.int i,y]/\H l=some (.lst xs)/\0<=i/\i<=(xs.length:Int)/\xs.length<Qu/\Q .non (upd H l (.lst (Y6 xs i.toNat y)))
theorem WM{α:Type}(xs:List α)(k:Nat)(x:α)(h:k<=xs.length):(Y6 xs k x).length=xs.length+1:=by unfold Y6;rw[Qh,GH,Qk,Kt];omega
theorem ZV:MtM X "list.insert" JcX:=by
 intro pins s σ H x vs v us Q I rx rv h;obtain⟨l,xs,i,y,rfl,rfl,hH,h0,h1,hz,q⟩:=h;cases rx;obtain⟨u,w,rfl,ru,rw'⟩:=rv.two;obtain⟨t,rfl⟩:=ru;obtain⟨z,its,n,r,hl,e⟩:=I.lstM hH;have hzz:xs.length<16777216:=hz;refine call_meets F.slot_list_insert ⟨_,e,rfl⟩ F.entry_list_insert (F.args_list_insert_3 _ _ _)
  (AutoSeq1.list_insert_list_int_val_1 l its.toArray n i t w (by rw[fitsIndex_both (by omega) (by omega)];exact QA) (by rw[Qn];omega)) ⟨e,?_⟩
 refine⟨.non,_,I.lset (its':=Y6 its i.toNat w) hH e ?_ ((r.take _).append (.cons rw' (r.drop _))) ?_,rfl,q⟩
 ·show(have k:=if i<0 then(i+(its.toArray.size:Int)).toNat else min i.toNat its.toArray.size;(its.toArray.extract 0 k).push w++its.toArray.extract k)=_;rw[if_neg (by omega),Qn,<- hl,show min i.toNat xs.length=i.toNat by omega];unfold Y6;simp;exact KS (by rw[Kt];omega)
 ·show(Y6 xs i.toNat y).length<=16777216;rw[WM _ _ _ (by omega)];omega
end
noncomputable def Zq(i:Nat)(a b:Ev):Es:=fun E=>match E[i]? with
 | some (.own ds)=>((a E).bind int?).bind fun z=>(b E).bind fun s=>s.frz.bind fun d=>if 0<=z/\z<=(ds.length:Int)/\ds.length<=1000 then some (.nx (E.set i (.own (Y6 ds z.toNat d)))) else none
 | _=>none
section
variable{K:Qq}{C:Qc}
theorem RDL.drp{H:Hp}:∀{xs:List V} {ds:List D} (k:Nat),RDL K C H xs ds->RDL K C H (xs.drop k) (ds.drop k)
 | xs,ds,0,h=>h
 | [],[],k+1,h=>by simpa using h
 | [],_::_,_,h=>by have:=h.1;simp at this
 | _::_,[],_,h=>by have:=h.1;simp at this
 | x::xs,d::ds,k+1,h=>by rw[List.drop_succ_cons,List.drop_succ_cons];exact RDL.drp k h.tail
theorem JiH{i:Nat}{ta tb:TE}{ea eb:Ev}(ha:SE K C ta ea)(hb:SE K C tb eb):SS K C (Zj (tBM K "list" JcX (Zk i) (Uc ta (Uc tb ZF)))) (Zq i ea eb):=by
 intro B H0 H σ E o D I e f;unfold Zq at e;split at e
 ·next ds h =>
  obtain⟨z,e1,e⟩:=bind_some e;obtain⟨t,e1,e2⟩:=bind_some e1;obtain rfl:=JeM e2;obtain⟨s,e3,e⟩:=bind_some e;obtain⟨d,e4,e⟩:=bind_some e;split at e
  ·next hz =>
   cases e;obtain⟨l,xs,g1,g2,g3,g4,g5⟩:=I.slot h;refine⟨_,g1,.inl ⟨rfl,_,.of g2⟩,?_⟩;refine ha B H0 H σ E _ _ I e1 fun v H1 H1' s1 r1=>?_
   refine hb B H1 H1' σ E _ _ (I.step s1) e3 fun w H3 H3' s3 r3=>?_
   have s4:Step H1' H1 H1' (YN H1' H3 H3') H3':=s3.comp (JX s3.i) fun _ z=>z
   have s2:=s1.trans s4
   have I2:=I.step s2;rw[RD.intI r1]
   have hl:xs.length=ds.length:=g5.1
   have g6:=g5.mono s2.z
   have m:=I2.mut (xs:=Y6 xs z.toNat w) h g1 ((g6.take z.toNat).append (RDL.cons (RR.frz s3.i r3 e4) (g6.drp z.toNat)));refine⟨l,xs,z,w,rfl,rfl,s2.h _ _ g2,hz.1,by omega,?_,f _ _ _ ⟨m.b,s2.z,(s2.ss I.b).n,m.h⟩ m⟩
   show xs.length<16777216;omega
  ·cases e
 ·cases e
end
end LE

namespace L2
open PySem
noncomputable def Ris(xs:Array Nat):Prop:=xs.toList.Pairwise (·<·)
theorem Ris.lt{xs:Array Nat}(r:Ris xs){i j:Nat}(h:i<j)(hj:j<xs.size):xs[i]'(by omega)<xs[j]:=by
 have:=Kx.mp r i j (by simp;omega) (by simpa using hj) h
 simpa using this
noncomputable def TOk(led:Bool)(t:SetTable):Prop:=(t.plain=true->Ris t.place)/\t.led=led
end L2

namespace L2
open PySem PyProof.Rows
structure SetS (prog:Qp) (w:QC) (led:Bool) (h:QJ) (a:Qc) (S:Int->Bool) (n:Nat) (o:Obj) (es:Array (Int×Qa)) (ep:Nat) (t:SetTable):Prop where
 got:h.get? a=some o
 ex:o.ExactSet
 data:o.data=.set es ep t
 els:ElemsOf (intKind prog w) es.toList
 mem:∀k,S k=true↔∃e∈es.toList,(intKind prog w).is k e.2=true
 few:es.size<scanBound
 fits:t.fits es.size=true
 size:es.size=n
 tok:TOk led t
noncomputable def SetL(prog:Qp)(w:QC)(led:Bool)(h:QJ)(a:Qc)(S:Int->Bool)(n:Nat):Prop:=∃o es ep t,SetS prog w led h a S n o es ep t
section
variable{prog:Qp}{w:QC}{A:Qx}{E:Qa->Qd->Prop}{s:Qd}{led:Bool}{a:Qc}{S:Int->Bool}{n:Nat}
theorem SetL.as{h:QJ}{S':Int->Bool}{n':Nat}(x:SetL prog w led h a S n)(e:∀k,S k=S' k)(en:n=n'):SetL prog w led h a S' n':=by have:S=S':=funext e;subst this en;exact x
end
section
variable{prog:Qp}{w:QC}{A:Qx}{R:Result->Qd->Prop}{I:Qc}{fp wr:List Qc}{G:Array GenState->Array GenState->Prop}{n:Nat}{P:Nat->Qa->Prop}{St:Nat->Qd->Prop}
end
end L2

namespace L2
open PySem PyProof.Rows
section
variable{prog:Qp}{w:QC}{A:Qx}{E:Qa->Qd->Prop}{s:Qd}
end
end L2

namespace L2
open PySem PyProof.Rows PySem.W
end L2

namespace L2
open PySem PyProof.Rows PySem.W
noncomputable def SIt(h:QJ)(I d:Qc)(f:Qa)(i n ep:Nat):Prop:=∃o,h.get? I=some o/\o.cls=.type "set_iterator"/\o.data=.fields #[f,.int i 0,.ref d,.int n 0,.int ep 0]
section
variable{prog:Qp}{w:QC}{A:Qx}{E:Qa->Qd->Prop}{s:Qd}{I d:Qc}{f:Qa}{i n ep:Nat}{es:Array (Int×Qa)}{t:SetTable}{o:Obj}
theorem SIt.type{s:Qd}(x:SIt s.heap I d f i n ep):s.TypeIs (.ref I) "set_iterator":=let ⟨o,ho,hc,_⟩:=x;⟨o,ho,hc⟩
theorem SIt.at{h h':QJ}(x:SIt h I d f i n ep)(e:∀o,h.get? I=some o->h'.get? I=some o):SIt h' I d f i n ep:=let ⟨o,ho,r⟩:=x;⟨o,e _ ho,r⟩
noncomputable def SHas(h:QJ)(d:Qc)(es:Array (Int×Qa))(ep:Nat)(t:SetTable):Prop:=∃o,h.get? d=some o/\o.ExactSet/\o.data=.set es ep t
theorem SHas.at{h h':QJ}(x:SHas h d es ep t)(e:∀o,h.get? d=some o->h'.get? d=some o):SHas h' d es ep t:=let ⟨o,ho,r⟩:=x;⟨o,e _ ho,r⟩
end
end L2

namespace L2
open PySem PyProof.Rows PySem.W PySem.Spec
section
variable{prog:Qp}{w:QC}{A:Qx}{E:Qa->Qd->Prop}{s:Qd}{d:Qc}{ep:Nat}{es:Array (Int×Qa)}{t:SetTable}
end
section
variable{X:Cx}
theorem PE.imp{e:QQ}{t1 t2:TE}(h:PE X e t1)(i:∀σ H Q,t2 σ H Q->t1 σ H Q):PE X e t2:=fun pins s σ H Q I x=>h pins s σ H Q I (i σ H Q x)
end
section
variable{X:Cx}{e:QQ}{te:TE}{p1 p2 q1 q2:Pos}
end
end L2

namespace LE
open PySem L2 LR
section
variable{K:Qq}{C:Qc}{td:TE}{ed:Ev}
end
end LE

namespace L2
open PySem PyProof.Rows PySem.W PySem.Spec
section
variable{X:Cx}
end
end L2
namespace LE
open PySem L2 LR
section
variable{K:Qq}{C:Qc}
end
end LE

namespace L2
open PySem PyProof.Rows PySem.W PySem.Spec
end L2
namespace LE
open PySem L2 LR
section
variable{K:Qq}{C:Qc}
end
end LE

namespace L2
open PySem PyProof.Rows PySem.W PySem.Spec
section
variable{prog:Qp}{w:QC}{A:Qx}{E:Qa->Qd->Prop}{s:Qd}
end
section
variable{prog:Qp}{w:QC}{A:Qx}{R:Result->Qd->Prop}{I:Qc}{fp wr:List Qc}{G:Array GenState->Array GenState->Prop}{n:Nat}{P:Nat->Qa->Prop}{St:Nat->Qd->Prop}
end
section
variable{prog:Qp}{w:QC}{A:Qx}{E:Qa->Qd->Prop}{s:Qd}
end
end L2

namespace L2
open PySem PyProof.Rows PySem.W PySem.Spec
end L2
namespace LE
open PySem L2 LR
noncomputable def prs?:List D->Option (List PrI)
 | []=>some []
 | .tup [.int a,.int b]::r=>(prs? r).map ((a,b)::·)
 | _=>none
theorem JcS:∀ps:List PrI,prs? (ps.map prE)=some ps
 | []=>rfl
 | p::ps=>by show(prs? (ps.map prE)).map _=_;rw[JcS ps];rfl
section
variable{K:Qq}{C:Qc}{td:TE}{ed:Ev}
end
end LE

namespace LE
open PySem L2 LR
noncomputable def ifB(f:Sl->Sl->Option Sl)(d:D)(ew:Ev)(a b:Es):Es:=fun E=>((ew E).bind fun s=>(f (.sh d) s).bind bool?).bind fun k=>if k=true then a E else b E
section
variable{K:Qq}{C:Qc}{r:R2}{f:Sl->Sl->Option Sl}{j:Nat}{ty tx tw:TE}{ek ev ew:Ev}{t u:TS}{et eu:Es}
end
end LE

namespace LE
open PySem L2 LR
section
variable{K:Qq}{C:Qc}{Hs H0 H:Hp}{td tx:TE}{ed ex:Ev}
end
end LE

namespace L2
open PySem PySem.Spec PyProof.Rows
end L2
namespace LE
open PySem L2 LR
section
variable{K:Qq}{C:Qc}{te:TE}{ea:Ev}
end
theorem Jha{x y:Int}{α:Type}{r:α}(h:x.natAbs<=10 ^ 200/\y.natAbs<=10 ^ 200):(if (WC x && WC y)=true then some r else none)=some r:=by rw[if_pos];simp only[QL,WC,Km];exact h
end LE

namespace LE
open PySem L2 LR
end LE

namespace L2
open PySem PySem.Spec PyProof.Rows
section
variable{X:Cx}{pos:Pos}
theorem pgN(i:Nat){x:Str}(hN:X.N.Nodup)(hi:X.N[i]?=some x:=by rfl)(hx:Loc X.env.scope x:=by exact Or.inl rfl)(hf:X.fn x=true\/X.env.scope.names.lookup x=some .local:=by exact Or.inr rfl):PG X (.Name x pos) (Ug i):=Yb hN hi hx hf
theorem psN(i:Nat){x:Str}{e:QQ}{te:TE}{pos':Pos}(hN:X.N.Nodup)(he:PE X e te)(hi:X.N[i]?=some x:=by rfl)(hx:Loc X.env.scope x:=by exact Or.inl rfl)(hs:swapsWith e (some (.Name x pos')) pos.line X.env=pure false:=by rfl)(hf:X.fn x=true\/X.env.scope.names.lookup x=some .local:=by first|exact .inl rfl|exact .inr rfl|assumption):PS X (.Assign [.Name x pos'] e pos) (Zi te (Ug i)):=Jfe hN hi hx he hs hf
theorem pxK(K:Qq){a b:QQ}{ta tb:TE}(ha:PE X a ta)(hb:PE X b tb)(hK:X.K=K:=by rfl)(hs:Jco b:=by exact fun _ _=>rfl):PE X (.Subscript a b pos) (tOp (rIx K) ta tb):=JlQ (Jg1 hK) ha hb hs
theorem piK(K:Qq){tg l:QQ}{tl:TE}(hl:PE X l tl)(hK:X.K=K:=by rfl):PI X tg l (JeK K tl):=Jht hK hl
theorem hrM{j k:Nat}{A:Qx}(r:Room k A)(h:j<=k:=by decide):Room j A:=r.mono h
end
end L2
namespace LE
open PySem PyProof.Rows L2 LR
structure PB (P:Qp) (w:QC) (base:QJ):Prop where
section
variable{P:Qp}{w:QC}{K:Qq}{mg:Str->Option Qa}{base:QJ}{x y q:Str}{st:Gw}{f:Qc}{fd:QH}{k:Nat}{ps:List Str}{sp:Sp}
theorem YK(Z:PB P w base)(F:Fun K x q st f fd)(o:FnOk P w K mg base CX0 k f fd ps sp)(m:mg y=some (.ref f))
 (h:∀(kV doc pm:Qa) (an:Option Qc) (cdv ct:Qa) (us:List Qa),us.length=ps.length->bindArgs (fnOf x q (Uf st) (Yw st) (Jr st) .none kV doc pm an cdv ct) ⟨us,[]⟩=pure (ps.zip us)):Cal P w K mg base y k ps sp:=⟨f,fd,o,m,F.kp,F.binds h⟩
theorem Jcr(Z:PB P w base)(F:Fun K x q st f fd)(o:FnOk P w K mg base (CX1 P w) k f fd ps sp)(m:mg y=some (.ref f))
 (h:∀(kV doc pm:Qa) (an:Option Qc) (cdv ct:Qa) (us:List Qa),us.length=ps.length->bindArgs (fnOf x q (Uf st) (Yw st) (Jr st) .none kV doc pm an cdv ct) ⟨us,[]⟩=pure (ps.zip us)):CalX P w K mg base y k ps sp:=⟨f,fd,o,m,F.kp,F.binds h⟩
end
section
variable{P:Qp}{w:QC}{K:Qq}{C:Qc}{mg:Str->Option Qa}{base:QJ}{x qual:Str}{st:Gw}{f:Qc}{fd:QH}{N ps:List Str}{k n:Nat}{b:Es}
theorem okE(F:Fun K x qual st f fd)(S:FnScope N ps (Jr st))(hn:n=ps.length)
 (hb:∀(cdv:Qa) (A:Qx) (outer:List Env) (s:Qd) (H:Hp) (E:XK),Room k (A.deeper (envOfC qual (Jr st) s.heap.objs.size f cdv))->(A.deeper (envOfC qual (Jr st) s.heap.objs.size f cdv)).units+64<cLine ->
  ∃t,PSs (WG CX0 P w K mg base N qual (Jr st) f cdv A outer s H E).nox (Yw st) t/\SS K C t b):FnOk P w K mg base CX0 (k+1) f fd ps (spE K C n (Us N.length b)) :=
 F.ok S (fun vs H Q E h=>(Jc1 h).trans hn) fun cdv A outer s H vs Q E hr h=>(hb cdv A outer s H E hr hr.units).elim fun t q=>⟨t,q.1,Jar q.2 h⟩
end
end LE

namespace L2
open PySem PySem.Spec PyProof.Rows
end L2
namespace LE
open PySem L2 LR
section
variable{K:Qq}{C:Qc}{te:TE}{ea:Ev}
end
theorem Jgj{y:Int}{α:Type}{r:α}(h:0<y/\y.natAbs<=10 ^ 200):(if (decide (0<y) && WC y)=true then some r else none)=some r:=by rw[if_pos];simp only[QL,WC,Km,decide_eq_true_eq];exact h
end LE

namespace L2
open PySem PySem.Spec PyProof.Rows
end L2
namespace LE
open PySem L2 LR
section
variable{K:Qq}{C:Qc}{td:TE}{ed:Ev}
end
end LE

namespace LE
open PySem L2 LR
section
variable{K:Qq}{C:Qc}{W:XK}{t:TS}{a b:Xv}
end
end LE

namespace L2
open PySem PySem.Spec PyProof.Rows PySem.Calls Builtin Builtin.ObjectAttr
section
variable{prog:Qp}{w:QC}{A:Qx}{E:Qa->Qd->Prop}{h:QJ}{g:Array GenState}{d:Drawn}{t:Nat}{os:OsState}
variable{nm q:Str}{C N:Qc}{bs bm bmB:List Qa}{hdct:Bool}{sn:List Str}{sub:List Qa}{ab:Bool}{col:Option Bool}{dd:Option Qc}{k0 k1 k2 k3 k5:Option Qa}{B Bn newId nid initId inN:String}{bmN:List Qa}
theorem Jey(Fn:ExcBaseFacts Bn newId inN bmN)(hBn:bmB.contains (.type Bn)=true)(F:ExcBaseFacts B nid initId bmB)(T:OwnTail h bmB bm){mN:Str->Option Qa}{rest:List Qa}{fI:Qc}{oI:Obj}{Q:Fin->Qd->Prop}
 (hC:h.get? C=some (excClassObj nm q C N bs bm hdct sn sub ab col dd k0 k1 k2 k3 k5 newId)) (hn:h.Ns N mN) (hi:mN "__init__"=some (.ref fI)) (hfI:h.get? fI=some oI) (hfc:oI.cls=.type "function")
 (hq:∀h' e,Heap.MadeExcOf h h' e (.ref C) rest->wpAny (model prog w) A (call (.ref fI) (.ref e::rest)) (fun r s'=>r=.none/\Q (.done (.ret (.ref e))) s') E ⟨h',g,d,t,os⟩) (hrest:rest.length<=Qu) :
 wpAny (model prog w) A (Builtin.«type.__call__» ⟨.ref C::rest,[]⟩) Q E ⟨h,g,d,t,os⟩:=by
 repeat (first|with_reducible refine Ki hC ?_|with_reducible refine wpAny_madeBy_exc hC ?_|wp_step)
 refine codeAny_call_builtin_code (Lr _ Fn.quiet) (wpAny_check_new_subU Fn hBn T hC ?_);refine codeAny_exc_new_subU Fn hBn F T hC ?_ hrest;show wpAny _ _ _ _ _ _;have kp:∀b o,h.get? b=some o->((h.push { cls:=.type "tuple",data:=.seq rest.toArray }).push { cls:=.ref C,data:=.fields #[.ref h.objs.size,.none,.none,.none,.bool false,.none] }).get? b=some o:=fun b o e=>Qg _ (Qg _ e)
 have hC₁:=kp _ _ hC
 have hfI₁:=kp _ _ hfI
 have hn₁:=hn.keeps kp
 have T₁:=T.keeps kp
 have hget:((h.push { cls:=.type "tuple",data:=.seq rest.toArray }).push
  { cls:=.ref C,data:=.fields #[.ref h.objs.size,.none,.none,.none,.bool false,.none] }).get? (h.objs.size+1)=some
  { cls:=.ref C,data:=.fields #[.ref h.objs.size,.none,.none,.none,.bool false,.none] }:=by heap_get
 have hcC:(Value.ref C::bm).contains (.ref C)=true:=by simp
 unfold isInstance
 repeat (first|with_reducible refine Ki hget ?_|(with_reducible refine wpAny_isSubtype_exc hC₁ ?_;rw[hcC])|wp_step)
 show wpAny _ _ (typeLookup (.ref C) _) _ _ _;refine wpAny_typeLookup_tail hC₁ hn₁ T₁ F.mroIs F.init.lookup ?_;rw[hi];refine Gg (Qe ?_);unfold bindSpecial;refine Qe (L9 (T:="function") ⟨_,hfI₁,hfc⟩ ?_);rw[if_pos (by decide)];refine Qw (Qe (Q2 (hq _ (h.objs.size+1) ⟨kp,Kk (Nat.le_succ _),h.objs.size,hget,Kk (Qr _),?_⟩) (fun r s' hr=>?_) fun _ _ x=>x))
 ·exact Qg _ (Heap.get?_push_at rfl rfl)
 ·obtain⟨rfl,hQ⟩:=hr;wp_walk;exact hQ
theorem Jew(Fn:ExcBaseFacts Bn newId inN bmN)(hBn:bmB.contains (.type Bn)=true)(F:ExcBaseFacts B nid initId bmB)(T:OwnTail h bmB bm){mN:Str->Option Qa}{rest:List Qa}{fI:Qc}{oI:Obj}{Q:Qa->Qd->Prop}
 (hC:h.get? C=some (excClassObj nm q C N bs bm hdct sn sub ab col dd k0 k1 k2 k3 k5 newId)) (hn:h.Ns N mN) (hi:mN "__init__"=some (.ref fI)) (hfI:h.get? fI=some oI) (hfc:oI.cls=.type "function")
 (hq:∀h' e,Heap.MadeExcOf h h' e (.ref C) rest->wpAny (model prog w) (A.under (.builtin "type.__call__" ⟨.ref C::rest,[]⟩)) (call (.ref fI) (.ref e::rest)) (fun r s'=>r=.none/\Q (.ref e) s') E ⟨h',g,d,t,os⟩) (hrest:rest.length<=Qu) :
 wpAny (model prog w) A (call (.ref C) rest) Q E ⟨h,g,d,t,os⟩:=by
 have f1:=tc_lookup
 have f2:=tc_bind (.ref C)
 have hT:(⟨h,g,d,t,os⟩:Qd).TypeIs (.ref C) "type":=⟨_,hC,rfl⟩
 refine Ln (codeAny_of_tree ?_);show wpAny _ _ (callAny (.ref C) _) _ _ _
 repeat (any_goals (first|assumption|with_reducible refine Ki hC ?_|wp_step))
 refine⟨rfl,?_⟩;exact codeAny_call_builtin_at (Lr _ (by decide +kernel)) entry_typeCall (wpAny_check_type_call_sub hC (Jey Fn hBn F T hC hn hi hfI hfc (fun h' e hm=>hq h' e hm) hrest))
theorem Jev(F:ExcBaseFacts B nid initId bmB)(T:OwnTail h bmB bm){e:Qc}{rest:List Qa}{oe:Obj}{vs:Array Qa}{Q:Qa->Qd->Prop}
 (hC:h.get? C=some (excClassObj nm q C N bs bm hdct sn sub ab col dd k0 k1 k2 k3 k5 newId)) (he:h.get? e=some oe) (hc:oe.cls=.ref C) {t0:Qc} (hd:oe.data=.fields vs) (hz:vs[0]?=some (.ref t0)) (hrest:rest.length<=Qu)
 (hq:∀h' tup,(∀b o,b≠e->h.get? b=some o->h'.get? b=some o)->h'.get? e=some (oe.mapFields (·.setIfInBounds 0 (.ref tup)))->Q .none ⟨h',g,d,t,os⟩) :
 wpAny (model prog w) A (call (.builtin initId) (.ref e::rest)) Q E ⟨h,g,d,t,os⟩:=by
 refine Ln (Gu F.init.plain F.initEntry (wpAny_check_init_subU F T hC he hc ?_));have hp:=Qg { cls:=.type "tuple",data:=.seq rest.toArray } he;have hne:h.objs.size≠e:=Kr (Qm he)
 repeat (first|(with_reducible refine GK hp hd (QP.mp hz).1 ?_)|wp_step)
 rw[hd]
 repeat (first|(with_reducible refine GK hp hd (QP.mp hz).1 ?_)|wp_step)
 rw[hz]
 repeat (first|(with_reducible refine GK hp hd (QP.mp hz).1 ?_)|wp_step)
 refine hq _ h.objs.size (fun b o hb q=>?_) ?_
 ·rw[QY _ _ (Q0 hb)];exact Qg _ q
 ·exact Go _ hp (Kg (Gq hd _))
end
end L2
namespace L2
open PySem PySem.Spec PyProof.Rows PySem.Calls Builtin Builtin.ObjectAttr
noncomputable abbrev VEt:List Qa:=[.type "ValueError",.type "Exception",.type "BaseException",.type "object"]
noncomputable def JeP:Qa->Bool
 | .ref _=>true
 | _=>false
theorem Wk(self:Qa)(what:Str):∀l:List Qa,refuseLoop self what l=refuseLoop self what (l.dropWhile JeP)
 | []=>rfl
 | v::l=>by
  cases v with
  | ref c=>rw[refuseLoop_ref,Wk self what l];rfl
  | _=>rfl
noncomputable def JcP(K:Qq)(C:Qc):Bool:=(clsIn K C).any fun cd=>cd.mro.dropWhile JeP == VEt && cd.hasDict
section
variable{prog:Qp}{w:QC}{A:Qx}{R:Result->Qd->Prop}{s:Qd}{K:Qq}{x C:Qc}{ox:Obj}{name:Str}{tk:Tok}{v:Qa}
theorem Jho(X:K.In s.heap)(hx:s.heap.get? x=some ox)(hcl:ox.cls=.ref C)(hn:notCls ox=true)(hdn:ox.dict=none)(hov:JcP K C=true)(hm:mroIn K C (.type "object")=some true)(ht:takerIn K C name=some none)
 (h:∀h' tk',h'.get? x=some { ox with dict:=some s.heap.objs.size }->h'.Ns1 s.heap.objs.size (fun y=>if y=name then some v else none)->(∀b o,b≠x->s.heap.get? b=some o->h'.get? b=some o)->R (.ok (.ret .none)) { s with heap:=h',toks:=tk' }) :
 codeAny (model prog w) A (.call (.builtin "object.__setattr__") ⟨[.ref x,.str name tk,v],[]⟩) R s:=by
 have SF:=PySem.F.store_object
 have I:InstAt s.heap x ox C none:=⟨hx,hcl,hn,by rw[hdn];trivial⟩
 obtain⟨cd,hc,ho⟩:=any_some hov;rw[QL,beq_iff_eq] at ho;have sub:Looks (model prog w) s.heap (isInstance (.ref x) (.type "object")) true:=I.type.andThen (looks_mroIn X hm);refine Gu SF.slot.plain SF.entry (@PySem.W.check_slot (model prog w) _ _ s "object.__setattr__" "object" "__setattr__" (.ref x) [.str name tk,v] [] _ SF.kind SF.split sub (SF.args (.ref x) (.str name tk) v) ?_);obtain⟨attr,ha,hr⟩:=Option.bind_eq_some_iff.mp ht
 have hmr:Looks (model prog w) s.heap (mroOf (.ref C)) cd.mro:=(Mx X hc).andThen .now
 have L3:Looks (model prog w) s.heap (storeTaker? attr) none:=by
  cases attr with
  | none=>exact .now
  | some a =>
   obtain⟨b,hb,e⟩:=Gb.mp hr;refine(PySem.W.looks_takesIn X hb).andThen ?_;cases b
   ·exact .now
   ·cases e
 rw[PySem.W.osa_eq,refuse_eq];refine Qe (Qe (I.type.here (Qe (hmr.here ?_))));rw[Wk,ho.1,PySem.F.store_ValueError.passes];refine Qw (Qe (I.type.here (Qe ((looks_findIn X ha).here (Qe (L3.here ?_))))));obtain⟨oc,odi,oda,osl⟩:=ox;dsimp only at hcl hdn;subst hcl hdn;refine Qe (Qw (Qe (Qe (wpAny_loadPart hx (Qe ((Mx X hc).here ?_))))));rw[ho.2];have hx₁:(s.heap.push { cls:=.type "dict",data:=.dict #[] }).get? x=some ⟨.ref C,none,oda,osl⟩:=Qg _ hx
 have hxs:x≠s.heap.objs.size:=QG (Qm hx)
 have hgd:((s.heap.push { cls:=.type "dict",data:=.dict #[] }).update x fun o=>{ o with dict:=some s.heap.objs.size }).get? s.heap.objs.size=some { cls:=.type "dict",data:=.dict #[] } :=
  (Heap.get?_update_ne _ _ _ _ hxs.symm).trans (Heap.get?_push_at rfl rfl)
 have hnd:((s.heap.push { cls:=.type "dict",data:=.dict #[] }).update x fun o=>{ o with dict:=some s.heap.objs.size }).Ns s.heap.objs.size (fun _=>none) :=
  ⟨_,#[],_,hgd,rfl,fun e he=>absurd he (by simp),fun _=>rfl⟩
 have hx2:((s.heap.push { cls:=.type "dict",data:=.dict #[] }).update x fun o=>{ o with dict:=some s.heap.objs.size }).get? x=some ⟨.ref C,some s.heap.objs.size,oda,osl⟩:=by refine Go _ hx₁ ?_;have hfr:=(Heap.get?_some_iff.mp hx).2;cases oda <;> first | rfl | exact hfr
 have fin:wpAny (model prog w) A.in1 (storeInDict s.heap.objs.size (.str name tk) name v) (fun fin s'=>match fin with|.done f=>R (.ok f) s'|.again c'=>c'.quiet=true/\codeAny (model prog w) A c' R s') (fun e s'=>R (.error e) s')
  { s with heap:=(s.heap.push { cls:=.type "dict",data:=.dict #[] }).update x fun o=>{ o with dict:=some s.heap.objs.size } }:=by
  unfold storeInDict newKeyGuard;refine Qe (Qw (Qe (wpAny_nsSet1 (MO hnd) fun h' hn' hs=>?_)));obtain⟨oD,esD,epD,hoD,hdD,hcD⟩:=hn'.count (Within.cons name v Within.nil);refine Qe (wpAny_lookBehind hoD (by rw[hdD];exact pastItsLine_dict (QK hcD (by rw[Qk,QV,sizeLine_eq];omega))) ?_);refine Qw (h h' _ ((hs.2 x hxs).trans hx2) hn' fun b o hb q=>?_);exact(hs.2 b (QG (Qm q))).trans ((Heap.get?_update_ne _ _ _ _ hb).trans (Qg _ q))
 cases oda with
 | cls _=>cases hn
 | _=>refine Qe (wpAny_alloc' ?_);refine Qe (wpAny_update' hx₁ ?_);exact Qw fin
end
end L2
namespace L2
open PySem PySem.Spec PyProof.Rows PySem.Calls Builtin Builtin.ObjectAttr
section
variable{prog:Qp}{w:QC}{A:Qx}{E:Qa->Qd->Prop}{s:Qd}{K:Qq}{x C:Qc}{ox:Obj}{name:Str}{v:Qa}
theorem JhY{Q:Unit->Qd->Prop}(X:K.In s.heap)(hx:s.heap.get? x=some ox)(hcl:ox.cls=.ref C)(hn:notCls ox=true)(hdn:ox.dict=none)(hov:JcP K C=true)(hm:mroIn K C (.type "object")=some true)(ht:takerIn K C name=some none)
 (hs:findIn K (.ref C) "__setattr__"=some (some (.builtin "object.__setattr__")))
 (h:∀h' tk',h'.get? x=some { ox with dict:=some s.heap.objs.size }->h'.Ns1 s.heap.objs.size (fun y=>if y=name then some v else none)->(∀b o,b≠x->s.heap.get? b=some o->h'.get? b=some o)->Q () { s with heap:=h',toks:=tk' }) :
 wpAny (model prog w) A (setAttr (.ref x) name v) Q E s :=
 PySem.W.set_plain X (ox:=ox) (od:=none) ⟨hx,hcl,hn,by rw[hdn];trivial⟩ hs (Jho (s:={ s with toks:=s.toks+1 }) X hx hcl hn hdn hov hm ht fun h' tk' a b c=>h h' tk' a b c)
theorem Jgv{Q:Qa->Qd->Prop}{expr:Bool}{od:Option Obj}(X:K.In s.heap)(I:InstAt s.heap x ox C od)(hga:findIn K (.ref C) "__getattribute__"=some (some (.builtin "BaseException.__getattribute__")))
 (hgn:findIn K (.ref C) "__getattr__"=some none) (hmB:mroIn K C (.type "BaseException")=some true)
 (hf:findObj K C od name=some (.value v)) (hv:PySem.W.handedIn v=true)
 (h:Q v { s with toks:=s.toks+1 }):wpAny (model prog w) A (getAttr (.ref x) name expr) Q E s:=by
 obtain⟨hh,g,d,t,os⟩:=s;have L0:=I.type (M:=model prog w);have L1:=looks_findIn (M:=model prog w) X hga;have L2:=looks_findIn (M:=model prog w) X hgn;have f3:=GD.ga.bind (.ref x);have hx2:(Value.builtin "BaseException.__getattribute__" == Value.builtin "object.__getattribute__")=false:=by decide +kernel
 have hx1:(onTheHeap (Value.ref C) && Value.builtin "BaseException.__getattribute__" == Value.builtin "object.__getattribute__")=false:=by rw[hx2];rfl
 have hx0:(expr && onTheHeap (Value.builtin "BaseException.__getattribute__"))=false:=by cases expr <;> rfl
 unfold getAttr getAttrBy
 repeat (any_goals (first|assumption|(with_reducible refine L0.at ?_)|(with_reducible refine L1.at ?_)|(with_reducible refine L2.at ?_)|wp_step))
 have LB:=looks_mroIn (M:=model prog w) X hmB
 have LF:=MM (M:=model prog w) X I hf
 have hk:builtinKind "BaseException.__getattribute__"=some .slot:=by decide +kernel
 have hsplit:splitId "BaseException.__getattribute__"=some ("BaseException","__getattribute__"):=by decide +kernel
 have hag:=Mr (.ref x) (Value.str name t);refine Gu GD.ga.plain Mj ?_;simp only[Gr,GO,checkBuiltinCall,hk,hsplit];refine Qe ?_;unfold isInstance
 repeat (first|(with_reducible refine L0.at ?_)|(with_reducible refine LB.at ?_)|(with_reducible refine LF.at ?_)|wp_step)
 exact MS hv h
end
section
variable{M:Model}{A:Qx}{E:Qa->Qd->Prop}{s:Qd}{env:Env}
variable{nm q:Str}{C N:Qc}{bs bm bmB:List Qa}{hdct:Bool}{sn:List Str}{sub:List Qa}{ab:Bool}{col:Option Bool}{dd:Option Qc}{k0 k1 k2 k3 k5:Option Qa}{B Bn newId nid initId inN:String}{bmN:List Qa}
theorem Jex{x:Sem Qa}{Q:Flow->Qd->Prop}(hbase:bm.contains (.type "BaseException")=true)(hh:A.handled=none)
 (h:wpAny M A x (fun v s₁=>∃e oe vs,v=.ref e/\s₁.heap.get? C=some (excClassObj nm q C N bs bm hdct sn sub ab col dd k0 k1 k2 k3 k5 newId) ∧
  s₁.heap.get? e=some oe/\oe.cls=.ref C/\oe.data=.fields vs/\vs[1]?=some .none/\E (.ref e) s₁) E s) :
 wpAny M A (raiseStmt env (some x) none) Q E s:=by
 have hcB:(Value.ref C::bm).contains (.type "BaseException")=true:=by rw[List.contains_cons,hbase,Bool.or_true]
 unfold raiseStmt;refine Qe (Q2 h (fun v s₁ h₁=>?_) fun _ _ x=>x);obtain⟨e,oe,vs,rfl,hC,he,hc,hd,hv1,hE⟩:=h₁;obtain⟨c0,d0,dt,sl⟩:=oe;cases hc;cases hd;obtain⟨hp,g,d,tk,os⟩:=s₁
 repeat (first|with_reducible refine Ki he ?_|with_reducible refine Ki hC ?_|(with_reducible refine wpAny_isSubtype_exc hC ?_;rw[hcB])|wp_step)
 rw[hv1];refine Qw ?_;rw[if_neg (by decide)];exact Qw (wpAny_raiseNew_none hh hE)
end
section
variable{prog:Qp}{w:QC}{A:Qx}{E:Qa->Qd->Prop}{s:Qd}{env:Env}
variable{nm q:Str}{C N:Qc}{bs bm bmB:List Qa}{hdct:Bool}{sn:List Str}{sub:List Qa}{ab:Bool}{col:Option Bool}{dd:Option Qc}{k0 k1 k2 k3 k5:Option Qa}{B Bn newId nid initId inN:String}{bmN:List Qa}
theorem Jdw(Fn:ExcBaseFacts Bn newId inN bmN)(hBn:bmB.contains (.type Bn)=true)(F:ExcBaseFacts B nid initId bmB){mN:Str->Option Qa}{x:Str}{np cpos pos:Pos}{args:List PySem.Expr}{fI:Qc}{oI:Obj}{Q:Flow->Qd->Prop}
 (hbase:bm.contains (.type "BaseException")=true) (hh:A.handled=none) (hplain:(backTo cpos (starEach args env)).any (·.1)=false) (hi:mN "__init__"=some (.ref fI)) (hfc:oI.cls=.type "function")
 (h:wpAny (model prog w) A (eval (.Name x np) env) (fun f s₁=>f=.ref C/\wpAny (model prog w) A (evalArgs (.ref C) true (backTo cpos (starEach args env)) [])
  (fun a s₂=>a.kw=[]/\a.pos.length<=Qu/\s₂.heap.get? C=some (excClassObj nm q C N bs bm hdct sn sub ab col dd k0 k1 k2 k3 k5 newId)/\s₂.heap.Ns N mN/\OwnTail s₂.heap bmB bm/\s₂.heap.get? fI=some oI ∧
   ∀h' e,Heap.MadeExcOf s₂.heap h' e (.ref C) a.pos->wpAny (model prog w) (A.under (.builtin "type.__call__" ⟨.ref C::a.pos,[]⟩)) (call (.ref fI) (.ref e::a.pos))
    (fun r s₃=>r=.none/\∃oe vs,s₃.heap.get? C=some (excClassObj nm q C N bs bm hdct sn sub ab col dd k0 k1 k2 k3 k5 newId)/\s₃.heap.get? e=some oe/\oe.cls=.ref C/\oe.data=.fields vs/\vs[1]?=some .none/\E (.ref e) s₃) E { s₂ with heap:=h' }) E s₁) E s) :
 wpAny (model prog w) A (exec (.Raise (some (.Call (.Name x np) args [] cpos)) none pos) env) Q E s:=by
 rw[arm_exec_Raise];refine Qe (Kf (Jex (C:=C) (nm:=nm) (q:=q) (N:=N) (bs:=bs) (bm:=bm) (hdct:=hdct) (sn:=sn) (sub:=sub) (ab:=ab) (col:=col) (dd:=dd) (k0:=k0) (k1:=k1) (k2:=k2) (k3:=k3) (k5:=k5) (newId:=newId) hbase hh (Qe (Q2 (wpAny_Call_ofName (Q2 h (fun f s₁ h₁=>?_) fun _ _ x=>x)) (fun v s₃ h₃=>Qe (Kf (Qw h₃))) fun _ _ x=>x))));obtain⟨rfl,h₁⟩:=h₁;unfold callWith;refine Qe (Gg (Q2 h₁ (fun a s₂ h₂=>Qe (Kf ?_)) fun _ _ x=>x))
 obtain⟨apos,akw⟩:=a;obtain⟨hkw,hlen,hC,hn,T,hfI,h₂⟩:=h₂;obtain rfl:akw=[]:=hkw;obtain⟨hp,g,d,tk,os⟩:=s₂;simp only[hplain];refine Qe (wpAny_keeperOf_exc hC ?_);refine Qe (Jew Fn hBn F T hC hn hi hfI hfc (fun h' e hm=>Q2 (h₂ h' e hm) (fun r s₃ ⟨hr,oe,vs,k1,k2,k3,k4,k5,k6⟩=>⟨hr,Qe (Gg (wpAny_point (Qw ?_)))⟩) fun _ _ z=>z) hlen);exact⟨e,oe,vs,rfl,k1,k2,k3,k4,k5,k6⟩
end
end L2

namespace L2
open PySem PySem.Spec PyProof.Rows PySem.Calls LE
noncomputable def JcA(K:Qq)(C f:Qc):Bool:=match K.lookup C with
 | some ⟨.type "type",_,.cls cd,sl⟩=>(match cd.mro,sl.toList with
  | .ref C'::bm,[_,_,_,_,some (.builtin n),_]=>C' == C && n == "ValueError.__new__" && !cd.hasDel && PySem.W.tailIn K VEm bm && PySem.W.nsOkIn K cd.ns && nsIn K cd.ns "__init__" == some (some (.ref f))
  | _,_=>false)
 | _=>false
theorem Jb2{K:Qq}{h:QJ}{N:Qc}{mg:Str->Option Qa}{n:Str}{v:Qa}(X:K.In h)(G:h.Ns N mg)(e:nsIn K N n=some (some v)):mg n=some v:=by
 obtain⟨o,es,ep,ho,hd,_,hf⟩:=G;unfold nsIn at e;split at e
 ·rename_i c d es' n' sl q;have:=X _ _ q;rw[ho] at this;cases this;cases hd;split at e
  ·rename_i en he;cases e;rw[<- hf];unfold nsFind findBy;rw[<- Array.find?_toList,he];rfl
  ·split at e <;> cases e
 ·cases e
theorem JcB{K:Qq}{h:QJ}{C f:Qc}(X:K.In h)(q:JcA K C f=true):∃bm N nm q bs hdct sn sub ab col dd k0 k1 k2 k3 k5 mN,h.get? C=some (excClassObj nm q C N bs bm hdct sn sub ab col dd k0 k1 k2 k3 k5 "ValueError.__new__")/\h.Ns N mN/\mN "__init__"=some (.ref f)/\OwnTail h VEm bm:=by
 unfold JcA at q;split at q
 ·rename_i dd cd sl ho;split at q
  ·rename_i C' bm k0 k1 k2 k3 n k5 hm hs;simp only[QL,beq_iff_eq,KR] at q;obtain⟨⟨⟨⟨⟨rfl,rfl⟩,hdel⟩,ht⟩,hok⟩,hni⟩:=q;obtain⟨nm,bs,mro,ns,qn,hd,sn,sub,ab,col,del⟩:=cd;dsimp only at hm hdel hok hni;subst hm hdel
   have hsl:sl=#[k0,k1,k2,k3,some (.builtin "ValueError.__new__"),k5]:=by obtain⟨l⟩:=sl;simp only at hs;rw[hs]
   subst hsl;have hN:h.Ns ns (h.nsMap ns):=.of_isNs (MK X hok);exact⟨bm,ns,nm,qn,bs,hd,sn,sub,ab,col,dd,k0,k1,k2,k3,k5,_,X _ _ ho,hN,Jb2 X hN hni,ML X ht⟩
  ·cases q
 ·cases q
noncomputable def XN(a C:Qc)(d:Option Qc):HO:=.ext fun h=>∃o t0,h.get? a=some o/\o.cls=.ref C/\o.dict=d/\o.data=.fields #[.ref t0,.none,.none,.none,.bool false,.none]
noncomputable def Z3(C:Qc):Sp:=fun vs H Q _=>∃a k,vs=[.ref a,.int k]/\k.natAbs.log2<1920/\H a=some (XN a C none)/\∀D,D≠a->H D=none->Q .non (upd (upd H a (XN a C (some D))) D (.xd [("at",.int k)]))
theorem JdY{C:Qc}{vs:List V}{H:Hp}{Q:VK}{E:XK}(h:Z3 C vs H Q E):vs.length=2:=by obtain⟨a,k,rfl,_⟩:=h;rfl
section
variable{X:Cx}
theorem Jhr{i:Nat}{x z:Str}{p p1 p2 p3:Pos}{j:Nat}(hN:X.N[i]?=some x)(hv:Vis X.env.scope x)(hz:z.length<=1000)(hd:(x == ("__debug__":Str))=false:=by decide)(hcd:(x == ("__classdict__":Str))=false:=by decide) :
 PE X (.JoinedStr [.Constant (.str z) j p,.FormattedValue (.Name x p1) (-1) none p2] p3) (fun σ H Q=>∃k,σ[i]?=some (some (.int k))/\k.natAbs.log2<1920/\Q (.str (GG++z++(toString k:String))) H):=by
 intro pins s σ H Q I h;obtain⟨k,hk,hl,q⟩:=h;have e1:(GG++z).length<=1000:=by rw[strLen_append];show 0+z.length<=1000;omega
 have e2:(GG++z++Qf (toString k)).length<=Qu:=by have e:=int_text_length_le (k:=1920) (by decide) hl;rw[strLen_append,PySem.ofString_length,sizeLine_eq];omega
 refine wpAny_JoinedStr ?_;refine thn (JE (X:=X) pins s σ H (fun v H'=>v=.str z/\H'=H) I ⟨rfl,rfl⟩) fun v s1 ⟨v1,H1,I1,r1,e3,e4⟩=>?_
 subst e3 e4;obtain⟨t,rfl⟩:=(show ∃t,v=Value.str z t from r1)
 refine⟨z,t,rfl,QK e1 (by decide),?_⟩;refine wpAny_FormattedValue_plain (thn (W6 hN hv hd hcd pins s1 σ H1 (fun v H'=>v=.int k/\H'=H1) I1 ⟨_,hk,rfl,rfl⟩) fun u s2 ⟨v2,H2,I2,r2,e5,e6⟩=>?_);subst e5 e6;obtain⟨t2,rfl⟩:=(show ∃t,u=Value.int k t from r2)
 refine wpAny_formatField_int hl ⟨Qf (toString k),_,rfl,e2,⟨e2,?_⟩⟩;exact⟨.str _,H2,I2.tok _,⟨_,rfl⟩,q⟩
end
end L2
namespace L2
open PySem PySem.Spec PyProof.Rows PySem.Calls LE
structure IniC (K:Qq) (C f B:Qc):Prop where
 ok:JcA K C f=true
 fn:isFn K (.ref f)=true
 ov:JcP K C=true
 mo:mroIn K C (.type "object")=some true
 tk:takerIn K C "at"=some none
 sa:findIn K (.ref C) "__setattr__"=some (some (.builtin "object.__setattr__"))
 rd:PySem.W.readsIn K B (.type "type")=true
 fc:PySem.W.findCls K (.ref B) (.type "type") "__init__"=some (.val (.builtin "ValueError.__init__"))
 ga:specialIn K (.ref B) "__getattribute__"=some (some (.builtin "type.__getattribute__"))
noncomputable def JmO(C:Qc):TS:=fun D σ H=>∃a k,σ[0]?=some (some (.ref a))/\σ[1]?=some (some (.int k))/\H a=some (XN a C none)/\∀t,t≠a->H t=none->D.nx σ (upd (upd H a (XN a C (some t))) t (.xd [("at",.int k)]))
section
variable{X:Cx}{C f B:Qc}
theorem Jfc{x y n z:Str}{p0 p1 p2 p3 p4 p5 p6 p7:Pos}{j:Nat}{pl:Sem Bool}(T:IniC X.K C f B)(hg:Gl X n)(hm:X.mg n=some (.ref B))(h0:X.N[0]?=some x)(h1:X.N[1]?=some y)(v0:Vis X.env.scope x)(v1:Vis X.env.scope y)(hz:z.length<=1000)
 (d0:(x == ("__debug__":Str))=false:=by decide) (c0:(x == ("__classdict__":Str))=false:=by decide) (d1:(y == ("__debug__":Str))=false:=by decide) (c1:(y == ("__classdict__":Str))=false:=by decide) (dn:(n == ("__debug__":Str))=false:=by decide)
 (hst:starEach [.Name x p2,.JoinedStr [.Constant (.str z) j p3,.FormattedValue (.Name y p4) (-1) none p5] p6] X.env=(false,eval (.Name x p2) X.env)::starEach [.JoinedStr [.Constant (.str z) j p3,.FormattedValue (.Name y p4) (-1) none p5] p6] X.env:=by rfl)
 (hpl:(backTo p7 (starEach [.JoinedStr [.Constant (.str z) j p3,.FormattedValue (.Name y p4) (-1) none p5] p6] X.env)).any (·.1)=false:=by rfl)
 (ht:eval (.Call (.Attribute (.Name n p0) "__init__" p1) [.Name x p2,.JoinedStr [.Constant (.str z) j p3,.FormattedValue (.Name y p4) (-1) none p5] p6] [] p7) X.env=(do
  let ov <- eval (.Name n p0) X.env
  standAt p1.atName
  let (f,first) <- holding [ov] (getMethod ov "__init__" pl)
  callWith p7 f first (backTo p7 (starEach [.Name x p2,.JoinedStr [.Constant (.str z) j p3,.FormattedValue (.Name y p4) (-1) none p5] p6] X.env)) (backToKw p7 (keywordEach [] X.env))):=by rfl)
 (hs:swapsWith (.Call (.Attribute (.Name n p0) "__init__" p1) [.Name x p2,.JoinedStr [.Constant (.str z) j p3,.FormattedValue (.Name y p4) (-1) none p5] p6] [] p7) none p0.line X.env=pure false:=by rfl) :
 PE X (.Call (.Attribute (.Name n p0) "__init__" p1) [.Name x p2,.JoinedStr [.Constant (.str z) j p3,.FormattedValue (.Name y p4) (-1) none p5] p6] [] p7) (fun σ H Q=>∃a k,σ[0]?=some (some (.ref a))/\σ[1]?=some (some (.int k))/\k.natAbs.log2<1920/\H a=some (XN a C none)/\Q .non H):=by
 intro pins s σ H Q I h;obtain⟨a,k,e0,e1,hk,ha,q⟩:=h;refine PySem.W.methodCall_KW (pl:=pl) (UC I hg hm ?_ dn) ht;refine PySem.W.method_cls I.kIn T.ga (PySem.W.cls_value I.kIn T.rd T.fc rfl ?_);have I1:=I.tok (s.toks+1);have hA:=(Ja (W6 h0 v0 d0 c0) (Ja (Jhr (p:=p3) (p1:=p4) (p2:=p5) (p3:=p6) (j:=j) h1 v1 hz d1 c1) Je) hst) p7 pins _ σ H (fun vs H'=>∃z',vs=[.ref a,.str z']/\H'=H) I1 ⟨_,e0,k,e1,hk,_,rfl,rfl⟩;rw[hst] at hA ⊢
 refine KP (by show(false || (backTo p7 (starEach _ X.env)).any (·.1))=false;rw[hpl] <;> rfl) (Kl ?_);refine thn hA fun us s2 ⟨vs,H2,I2,r2,z',e2,e3⟩=>?_
 subst e2 e3;obtain⟨u,v,rfl,r3,r4⟩:=Vals.two r2;cases (show u=Value.ref a from r3);obtain⟨bm,N,nm,qn,bs,hdct,sn,sub,ab,col,dd,k0,k1,k2,k3,k5,mN,hC,hN,hi,OT⟩:=JcB I2.kIn T.ok;obtain⟨⟨o,t0,g1,g2,g3,g4⟩,_⟩:=(show ObjOk X.prog X.w H2 s2.heap a (XN a C none) from I2.hok a _ ha)
 obtain⟨hh,g,d,tk,os⟩:=s2;refine Jev Q1 OT hC g1 g2 g4 rfl (show 1<=Qu by decide) fun h' tup kp he=>?_
 refine⟨.non,H2,?_,rfl,q⟩;have:=I2.write (x:=a) (e:=a) (h':=h') (t':=tk) (o:=XN a C none) (by rw[ha];exact True.intro) (.inl rfl) kp ⟨_,he⟩ ⟨⟨_,tup,he,?_,?_,?_⟩,⟨_,he⟩,fun g1 g2 ⟨o,t,q,r⟩ k=>⟨o,t,k o q,r⟩⟩
 ·have e:upd H2 a (XN a C none)=H2:=by
   funext b
   by_cases hb:b=a
   ·rw[hb,JF,ha]
   ·rw[Jm hb]
  rw[e] at this;exact this
 ·rw[LG];exact g2
 ·rw[JcO];exact g3
 ·rw[Gq g4];rfl
theorem Jkf{x y:Str}{p0 p1 p2 p3:Pos}(T:IniC X.K C f B)(hx:X.ex=[])(h0:X.N[0]?=some x)(h1:X.N[1]?=some y)(v0:Vis X.env.scope x)(v1:Vis X.env.scope y)
 (d0:(x == ("__debug__":Str))=false:=by decide) (c0:(x == ("__classdict__":Str))=false:=by decide) (d1:(y == ("__debug__":Str))=false:=by decide) (c1:(y == ("__classdict__":Str))=false:=by decide)
 (hs:swapsWith (.Name y p2) (some (.Attribute (.Name x p0) "at" p1)) p3.line X.env=pure false:=by rfl) :
 PS X (.Assign [.Attribute (.Name x p0) "at" p1] (.Name y p2) p3) (JmO C):=by
 intro pins s σ H D I h;obtain⟨a,k,e0,e1,ha,q⟩:=h;refine plainObj_wpAny_Assign_Attribute (thn (W6 h1 v1 d1 c1 pins s σ H (fun v H'=>v=.int k/\H'=H) I ⟨_,e1,rfl,rfl⟩) fun u s1 ⟨v2,H1,I1,r1,z1,z2⟩=>thn (W6 h0 v0 d0 c0 pins s1 σ H1 (fun v H'=>v=.ref a/\H'=H1) I1 ⟨_,e0,rfl,rfl⟩) fun ov s2 ⟨v3,H2,I2,r2,z3,z4⟩=>?_) hs
 subst z1 z2 z3 z4;cases (show ov=Value.ref a from r2);obtain⟨⟨o,t0,g1,g2,g3,g4⟩,_⟩:=(show ObjOk X.prog X.w _ s2.heap a (XN a C none) from I2.hok a _ ha)
 refine JhY I2.kIn g1 g2 (by unfold notCls;rw[g4]) g3 T.ov T.mo T.tk T.sa fun h' tk' n1 n2 n3=>?_
 have hne:s2.heap.objs.size≠a:=Kr (Qm g1)
 have hf:=I2.hok.fresh (Qr s2.heap.objs.size)
 have J1:=I2.write (x:=a) (e:=a) (h':=h') (t':=tk') (o:=XN a C (some s2.heap.objs.size)) (by rw[ha];exact True.intro) (.inl rfl) n3 ⟨_,n1⟩ ⟨⟨_,t0,n1,g2,rfl,g4⟩,⟨_,n1⟩,fun g1 g2 ⟨o,t,q,r⟩ k=>⟨o,t,k o q,r⟩⟩
 have hf1:upd H2 a (XN a C (some s2.heap.objs.size)) s2.heap.objs.size=none:=by rw[Jm hne];exact hf
 refine⟨σ,_,J1.track hx hf1 (Kk I2.sz) (Kr I2.lt) (fun y c e=>?_) (fun p hp=>?_) ?_,q _ hne hf⟩
 ·obtain⟨v,oc,e,_⟩:=I2.cell y c e;exact QG (Qm e)
 ·exact QG (Qm (I2.pin p hp).1)
 ·refine⟨_,n2,fun f=>?_⟩;show RelO (List.lookup f [(("at":Str),V.int k)]) (if f="at" then some u else none)
  by_cases hfa:f="at"
  ·subst hfa;exact r1
  ·rw[if_neg hfa,List.lookup_cons];rw[show(f == ("at":Str))=false from beq_eq_false_iff_ne.mpr hfa];exact True.intro
end
end L2

namespace L2
open PySem PySem.Spec PyProof.Rows PySem.Calls LE
noncomputable def Wx(C:Qc)(E:XK)(te:TE):TS:=fun D σ H=>te σ H fun x H1=>∃k,[x]=[V.int k]/\k.natAbs.log2<1920/\∀a t,H1 t=none->E (.int C t) (some a) (upd H1 t (.xd [("at",.int k)]))
section
variable{X:Cx}{pins:List (Qc×Obj)}{σ:St}{H:Hp}{s:Qd}{C e:Qc}{h':QJ}{args:List Qa}
theorem Inv.newX(I:Inv X pins σ H s)(hx:X.ex=[])(m:Heap.MadeExcOf s.heap h' e (.ref C) args):Inv X pins σ (upd H e (XN e C none)) { s with heap:=h' }:=by
 have J:Inv X pins σ H { s with heap:=h' }:=I.kept (t':=s.toks) m.keeps
 have was:∀b o,s.heap.get? b=some o->b≠e:=fun b o q z=>by rw[z,m.new] at q;cases q
 obtain⟨t,ht,_,_⟩:=m.there;refine J.track hx ?_ ?_ ?_ (fun x c q=>?_) (fun p hp=>?_) ⟨⟨_,t,ht,rfl,rfl,rfl⟩,⟨_,ht⟩,fun g1 g2 ⟨o,t,q,r⟩ k=>⟨o,t,k o q,r⟩⟩
 ·cases z:H e with
  | none=>rfl
  | some u=>obtain⟨o,ho⟩:=(I.hok e u z).there;rw[m.new] at ho;cases ho
 ·cases z:X.s₀.heap.get? e with
  | none=>rfl
  | some u=>obtain⟨o,q⟩:=I.base.there e u z (by rw[hx];simp);exact absurd rfl (was e o q)
 ·obtain⟨m,⟨o,_,_,q,_⟩,_⟩:=I.loc;exact Q0 (was _ o q)
 ·obtain⟨v,o,q,_⟩:=I.cell x c q;exact was c o q
 ·exact was _ _ (I.pin p hp).1
theorem XP.madeF{E:XK}{s3:Qd}{t:Qc}{k:Int}(I:Inv X pins σ H s)(m:Heap.MadeExcOf s.heap h' e (.ref C) args)(hte:t≠e)(hht:H t=none)(os:s3.os=s.os)(bare:AllBare s3.gens)
 (un:Un (frs X.stack) [] (upd H e (XN e C none)) (upd (upd (upd H e (XN e C none)) e (XN e C (some t))) t (.xd [("at",.int k)])) h' s3.heap)
 (hok:HOk X.prog X.w (upd (upd (upd H e (XN e C none)) e (XN e C (some t))) t (.xd [("at",.int k)])) s3.heap)
 (st:s3.heap.FunFrames X.base X.stack) (q:E (.int C t) (some e) (upd H t (.xd [("at",.int k)]))):XP X pins σ E (.ref e) s3:=by
 have was:∀b o,s.heap.get? b=some o->b≠e:=fun b o q z=>by rw[z,m.new] at q;cases q
 have he:H e=none:=by
  cases z:H e with
  | none=>rfl
  | some u=>obtain⟨o,ho⟩:=(I.hok e u z).there;rw[m.new] at ho;cases ho
 have h2:∀b,b≠e->upd H e (XN e C none) b=H b:=fun b hb=>Jm hb
 have h3:∀b,b≠e->upd (upd (upd H e (XN e C none)) e (XN e C (some t))) t (.xd [("at",.int k)]) b=upd H t (.xd [("at",.int k)]) b:=fun b hb=>by
  by_cases hb':b=t
  ·rw[hb',JF,JF]
  ·rw[Jm hb',Jm hb',Jm hb,Jm hb]
 have hfe:upd H t (.xd [("at",.int k)]) e=none:=by rw[Jm (Q0 hte)];exact he
 have tr:∀b u,H b=some u->b≠e:=fun b u q z=>by rw[z,he] at q;cases q
 have xe:upd (upd (upd H e (XN e C none)) e (XN e C (some t))) t (.xd [("at",.int k)]) e=some (XN e C (some t)):=by rw[Jm (Q0 hte),JF]
 obtain⟨⟨oe,t0,g1,g2,g3,g4⟩,_⟩:=(show ObjOk X.prog X.w _ s3.heap e (XN e C (some t)) from hok e _ xe)
 have nfr:e∉frs X.stack:=fun hb=>by obtain⟨_,o,ho,_⟩:=Wu I.stack hb;exact was _ _ ho rfl
 refine⟨H,s,I,e,.int C t,upd H t (.xd [("at",.int k)]),wo (e::frs X.stack) s3.heap,rfl,os,bare,⟨⟨fun b o q n hb hx=>?_,fun b o q n hb hx=>?_,fun b o q n hx=>?_,fun b o q hx=>?_,fun b xs z=>?_,fun b o u z=>?_,fun b ps z=>?_⟩,fun b u z=>?_,⟨fun b o q=>?_,Zp QB,Jap st fun b hb=>Zp (Qj _ hb),.inr ⟨oe,_,g1,⟨g2,g3⟩,g4,rfl⟩⟩,fun b o hb hfr q=>?_,hfe,m.new⟩,q⟩
 ·exact un.keep b o (m.keeps b o q) (by rw[h2 b (was b o q)];exact n) hb hx
 ·exact un.slot b o (m.keeps b o q) (by rw[h2 b (was b o q)];exact n) hb hx
 ·have:=un.free b o (m.keeps b o q) (by rw[h2 b (was b o q)];exact n) hx;rw[h3 b (was b o q)] at this;exact this
 ·exact un.there b o (m.keeps b o q) hx
 ·have:=un.tups b xs (by rw[h2 b (tr b _ z)];exact z);rw[h3 b (tr b _ z)] at this;exact this
 ·have:=un.frzs b o u (by rw[h2 b (tr b _ z)];exact z);rw[h3 b (tr b _ z)] at this;exact this
 ·obtain⟨more,this⟩:=un.tbls b ps (by rw[h2 b (tr b _ z)];exact z);rw[h3 b (tr b _ z)] at this;exact⟨more,this⟩
 ·have hb:b≠e:=fun y=>by rw[y,hfe] at z;cases z
  refine(hok b u (by rw[h3 b hb];exact z)).stay (fun _ _ _ q=>q) (fun c q=>?_) fun c xs q=>?_
  ·have hc:c≠e:=fun y=>by rw[y,xe] at q;cases q
   rw[h3 c hc] at q;exact q
  ·have hc:c≠e:=fun y=>by rw[y,xe] at q;cases q
   rw[h3 c hc] at q;exact q
 ·by_cases hb:b∈e::frs X.stack
  ·rw[Zp hb] at q;cases q
  ·rw[Wf hb] at q;exact q
 ·have hbe:b≠e:=by
   rcases hb with hb|⟨u,hb⟩
   ·exact fun y=>hb (by rw[y];exact hfe)
   ·exact was b u hb
  rw[Wf (fun z=>(Qv.mp z).elim hbe hfr)];exact q
end
section
variable{X:Cx}{x:Str}{np cpos pos:Pos}{C f B:Qc}{fd:QH}{E:XK}{e:QQ}{te:TE}{k:Nat}{ps:List Str}
theorem JdU(T:IniC X.K C f B)(F:FnOk X.prog X.w X.K X.mg X.base CX0 k f fd ps (Z3 C))(hb:Binds X.K fd ps [])(hr:Room (k+1) X.A)(hg:Gl X x)(hm:X.mg x=some (.ref C))(hx:XOk X E)(hex:X.ex=[])(ha:PE X e te)(hdb:(x == ("__debug__":Str))=false:=by decide)
 (he:starEach [e] X.env=(false,eval e X.env)::starEach [] X.env:=by rfl) :
 PS X (.Raise (some (.Call (.Name x np) [e] [] cpos)) none pos) (Wx C E te):=by
 intro pins s σ H D I h;obtain⟨tl,N,nm,q,bs,hdct,sn,sub,ab,col,dd,k0,k1,k2,k3,k5,mN,hC,hN,hni,OT⟩:=JcB (h:=X.base) I.ok.mod.kin T.ok;obtain⟨oI,hoI,hoc⟩:=Gb.mp (show(X.K.lookup f).map (·.cls)=some (.type "function") from beq_iff_eq.mp T.fn);have hoI':X.base.get? f=some oI:=I.ok.mod.kin _ _ hoI;refine Jdw (C:=C) (nm:=nm) (q:=q) (N:=N) (bs:=bs) (bm:=tl) (hdct:=hdct) (sn:=sn) (sub:=sub) (ab:=ab) (col:=col) (dd:=dd) (k0:=k0) (k1:=k1) (k2:=k2) (k3:=k3) (k5:=k5)
  Q1 (by decide) Q1 (mN:=mN) (fI:=f) (oI:=oI) (OT.hasType Q1.hasBase) hr.hd (by rw[he];rfl) hni hoc (UC I hg hm ⟨rfl,?_⟩ hdb)
 have h1:=(Ja ha Je he) cpos pins s σ H (fun vs H1=>∃k,vs=[.int k]/\k.natAbs.log2<1920/\∀a t,H1 t=none->E (.int C t) (some a) (upd H1 t (.xd [("at",.int k)]))) I h;rw[he] at h1 ⊢;refine Kl (Q2 h1 (fun us s₂ ⟨vs,H1,I1,r,kk,e1,hk,hq⟩=>?_) fun _ _ y=>y);subst e1;refine⟨rfl,by rw[<- r.length];exact(show 1<=Qu by decide),I1.bk _ _ hC,hN.keeps I1.bk,OT.keeps I1.bk,I1.bk _ _ hoI',fun h' ea m=>?_⟩
 have I2:=I1.newX hex m
 have r2:Vals [V.ref ea,V.int kk] (Value.ref ea::us):=.cons rfl r
 have hsp:Z3 C [V.ref ea,V.int kk] (upd H1 ea (XN ea C none)) (fun v H'=>v=.non/\∃t,t≠ea/\H1 t=none/\H'=upd (upd (upd H1 ea (XN ea C none)) ea (XN ea C (some t))) t (.xd [("at",.int kk)])) E0 :=
  ⟨ea,kk,rfl,hk,JF,fun t ht hn=>⟨rfl,t,ht,by rw[Jm ht] at hn;exact hn,rfl⟩⟩
 have hl:(Value.ref ea::us).length=ps.length:=by rw[<- r2.length];exact F.len _ _ _ _ hsp
 refine Ln (Ks (F.run _ X.stack _ _ ⟨Value.ref ea::us,[]⟩ (Value.ref ea::us) _ _ _ (hr.make C us []) (I2.env0.make C us []) (by have:=hb { s₂ with heap:=h' } (Value.ref ea::us) I2.kIn (by rw[QT];exact hl);rw[QT] at this;exact this) r2 hsp) fun r s' hq'=>?_)
 cases r with
 | error e=>exact hq'.elim
 | ok fl =>
  cases fl with
  | ret u =>
   obtain⟨v,H',hos,bare,un,hok,rv,rfl,t,ht,hn,rfl⟩:=hq';have J:=I2.after (Q:=fun _ H''=>H''=upd (upd (upd H1 ea (XN ea C none)) ea (XN ea C (some t))) t (.xd [("at",.int kk)])) ⟨_,_,hos,bare,un,hok,rv,rfl⟩;obtain⟨_,H3,I3,_,rfl⟩:=J;obtain⟨⟨oe,t0,g1,g2,g3,g4⟩,_⟩:=(show ObjOk X.prog X.w _ s'.heap ea (XN ea C (some t)) from hok ea _ (by rw[Jm (Q0 ht),JF]))
   exact⟨rv,oe,_,I3.bk _ _ hC,g1,g2,g4,rfl,hx pins σ _ _ (XP.madeF I1 m ht hn hos bare un hok I3.stack (hq ea t hn))⟩
  | next=>exact Q3 hq'
  | brk=>exact Q3 hq'
  | cont=>exact Q3 hq'
end
end L2

namespace L2
open PySem PySem.Spec PyProof.Rows PySem.Calls LE
structure AtA (K:Qq) (c:Qc):Prop where
 ga:findIn K (.ref c) "__getattribute__"=some (some (.builtin "BaseException.__getattribute__"))
 gn:findIn K (.ref c) "__getattr__"=some none
 mb:mroIn K c (.type "BaseException")=some true
 hd:hasDictIn K c=true
 fa:findIn K (.ref c) "at"=some none
noncomputable def tAt(K:Qq)(te:TE):TE:=fun σ H Q=>te σ H fun x H1=>∃a v c t k,x=.ref a/\H1 a=some (XO a v)/\WF v=.ref c/\Ja1 v=some t/\H1 t=some (.xd [("at",.int k)])/\AtA K c/\Q (.int k) H1
section
variable{X:Cx}{e:QQ}{te:TE}{pos:Pos}{K:Qq}
theorem Jix(hK:X.K=K)(he:PE X e te)(hb:attributeBase e "at" X.env (eval e X.env)=eval e X.env:=by rfl):PE X (.Attribute e "at" pos) (tAt K te):=by
 subst hK;intro pins s σ H Q I h;refine Jgb hb (thn (he pins s σ H _ I h) fun u s1 ⟨x,H1,I1,rx,a,v,c,t,k,ex,h1,h2,h3,h4,N,q⟩=>?_);subst ex;obtain rfl:u=Value.ref a:=rx;obtain⟨⟨o,g1,g2,g3,g4⟩,_⟩:=(show ObjOk X.prog X.w H1 s1.heap a (XO a v) from I1.hok a _ h1)
 obtain⟨mA,hns,rel⟩:=(show ObjOk X.prog X.w H1 s1.heap t (.xd [("at",.int k)]) from I1.hok t _ h4)
 obtain⟨od,ho,hl⟩:=ZU hns;have J:InstAt s1.heap a o c (some od):=⟨g1,g2.trans h2,g3,by rw[g4,h3];exact ho⟩
 have r1:RelO (some (.int k)) (mA "at"):=rel "at"
 cases hm:mA "at" with
 | none=>rw[hm] at r1;exact r1.elim
 | some u =>
  rw[hm] at r1;obtain⟨tk,rfl⟩:=(show ∃t,u=Value.int k t from r1)
  exact Jgv I1.kIn J N.ga N.gn N.mb (PySem.W.findObj_own N.hd N.fa rfl (by rw[hl,hm])) rfl ⟨.int k,H1,I1.tok _,⟨_,rfl⟩,q⟩
theorem Jcb{x:Str}{np cpos:Pos}{C f B:Qc}{fd:QH}{E:XK}{k:Nat}{ps:List Str}(hK:X.K=K)(T:IniC K C f B)(F:FnOk X.prog X.w K X.mg X.base CX0 k f fd ps (Z3 C))(hb:Binds K fd ps [])(hr:Room (k+1) X.A)(hg:Gl X x)(hm:X.mg x=some (.ref C))(hx:XOk X E)(hex:X.ex=[])(ha:PE X e te)(hdb:(x == ("__debug__":Str))=false:=by decide)
 (he:starEach [e] X.env=(false,eval e X.env)::starEach [] X.env:=by rfl) :
 PS X (.Raise (some (.Call (.Name x np) [e] [] cpos)) none pos) (Wx C E te):=by subst hK;exact JdU T F hb hr hg hm hx hex ha hdb he
end
structure RaiF (P:Qp) (w:QC) (K:Qq) (mg:Str->Option Qa) (base:QJ) (x:Str) (C:Qc) (k:Nat):Prop where
 ex:∃(f B:Qc) (fd:QH) (ps:List Str),IniC K C f B/\FnOk P w K mg base CX0 k f fd ps (Z3 C)/\Binds K fd ps []/\mg x=some (.ref C)
theorem JdV{X:Cx}{e:QQ}{te:TE}{pos:Pos}{K:Qq}{x:Str}{np cpos:Pos}{C:Qc}{E:XK}{k:Nat}(hK:X.K=K)(c:RaiF X.prog X.w K X.mg X.base x C k)(hr:Room (k+1) X.A)(hg:Gl X x)(hx:XOk X E)(hex:X.ex=[])(ha:PE X e te)(hdb:(x == ("__debug__":Str))=false:=by decide)
 (he:starEach [e] X.env=(false,eval e X.env)::starEach [] X.env:=by rfl) :
 PS X (.Raise (some (.Call (.Name x np) [e] [] cpos)) none pos) (Wx C E te):=by
 obtain⟨f,B,fd,ps,T,F,hb,hm⟩:=c.ex;exact Jcb hK T F hb hr hg hm hx hex ha hdb he
end L2
namespace LE
open PySem L2 LR
noncomputable def Vz(m:Str)(a:Ev):Xv:=fun E=>(a E).bind fun s=>s.d.bind fun d=>match d with
 | .int k=>if LC k.natAbs 1000000000=true then some ⟨m,some k⟩ else none
 | _=>none
noncomputable def eAt(R:List Str)(a:Ev):Ev:=fun E=>(a E).bind fun s=>s.d.bind fun d=>match d with
 | .exc ⟨n,some k⟩=>if n∈R then some (.sh (.int k)) else none
 | _=>none
noncomputable def Jdf(K:Qq)(R:List Str):Prop:=∀n∈R,∀c,nsIn K mainGlobals n=some (some (.ref c))->AtA K c
section
variable{K:Qq}{C:Qc}{te:TE}{ea:Ev}{W:XK}
theorem Jga:Jdf K []:=fun _ h=>nomatch h
theorem Jd9{n:Str}{c:Qc}{R:List Str}(x:AtY K n c)(f:findIn K (.ref c) "at"=some none)(t:Jdf K R):Jdf K (n::R):=fun m hm c' e=>by
 rcases Qv.mp hm with z|z
 ·rw[z,x.ns] at e;cases e;exact⟨x.ga,x.gn,x.mb,x.hd,f⟩
 ·exact t m z c' e
theorem JbW{k:Nat}(h:k<=1000000000):k.log2<1920:=by
 by_cases h0:k=0
 ·subst h0;decide
 ·rw[Nat.log2_lt h0];exact KJ h (QD (by decide:1000000000<2 ^ 30) (Nat.pow_le_pow_right (by decide) (by decide)))
theorem Jd4{m:Str}{c:Qc}(hc:nsIn K mainGlobals m=some (some (.ref c)))(ha:SE K C te ea):SXS K C W (Wx c W te) (Vz m ea):=by
 intro B H0 H σ E m' D I e q;obtain⟨a,e1,e⟩:=bind_some e;obtain⟨d,e2,e⟩:=bind_some e;refine ha B H0 H σ E a _ I e1 fun x H1 H1' s1 r1=>?_
 have rd:=r1.dat s1.i e2
 cases d with
 | int k =>
  have e:(if LC k.natAbs 1000000000=true then some (⟨m,some k⟩:Xm) else none)=some m':=e;split at e
  ·next hl =>
   cases e;cases RD.intI rd;refine⟨k,rfl,JbW (Nat.le_of_ble_eq_true hl),fun a t ht=>?_⟩
   have ha0:H1 t=none:=by
    cases z:H1 t with
    | none=>rfl
    | some u=>rw[s1.i t u z] at ht;cases ht
   have I1:=I.step s1
   have st:Step H1' H1 H1' (upd H1 t (.xd [("at",.int k)])) (upd H1' t (.xd [("at",.int k)])):=by
    refine⟨fun b u z=>?_,fun b u z=>?_,fun b u z=>?_,fun b u z=>?_⟩
    ·rw[Jm (JB z ht)];exact z
    ·rw[Jm (JB z ha0)];exact z
    ·by_cases hb:b=t
     ·subst hb;exact .inr (.inl ht)
     ·rw[Jm hb] at z;exact .inl z
    ·by_cases hb:b=t
     ·subst hb;rw[JF] at z ⊢;exact z
     ·rw[Jm hb] at z ⊢;exact s1.i b u z
   exact q (.int c t) a _ _ ⟨c,hc,t,rfl,JF⟩ ((s1.ss I.b).trans (st.ss I1.b))
  ·cases e
 | _=>cases e
theorem Jmd{R:List Str}(N:Jdf K R)(ha:SE K C te ea):SE K C (tAt K te) (eAt R ea):=by
 intro B H0 H σ E r Q I e q;obtain⟨a,e1,e⟩:=bind_some e;obtain⟨d,e2,e⟩:=bind_some e;refine ha B H0 H σ E a _ I e1 fun x H1 H1' s1 r1=>?_
 have rd:=r1.dat s1.i e2
 cases d with
 | exc n =>
  obtain⟨n,k⟩:=n
  cases k with
  | none=>cases e
  | some k =>
   have e:(if n∈R then some (Sl.sh (.int k)) else none)=some r:=e;split at e
   ·next hn=>cases e;obtain⟨a',c',rfl,hx,c1,k1,t,k2,k3⟩:=RD.excI rd;subst k2;exact⟨a',_,c1,t,k,rfl,hx,rfl,rfl,k3,N n hn c1 k1,q _ _ _ s1 (RD.int _)⟩
   ·cases e
 | _=>cases e
end
end LE

end
open L2 LR
local macro_rules | `(tactic| walk_at "side")=>`(tactic| first | decide | exact⟨by decide,by decide,by decide⟩ | exact⟨by decide,by decide⟩ | (show(0:Int)<_;omega) | (show(0:Int)<_/\_<(1073741824:Int);omega) | exact Or.inl ⟨by omega,by omega⟩ | exact Or.inr ⟨by omega,by omega⟩ | assumption)
local macro_rules | `(tactic| walk_at "rd1")=>`(tactic| with_reducible first | refine JkJ ?_ | refine Jkq ?_ | refine Jkv ?_ | refine JkI ?_ | refine JhC ?_ | refine JhK ?_ | refine Jl8 ?_ | refine Jmb ?_ | refine JhO ?_ | refine Jma ?_ | refine JhP ?_ | refine Jkp ?_ | refine Jl9 ?_ | refine JkG ?_ | refine JhM ?_ | refine JhA ?_ | refine JkH ?_ | refine Jku ?_ | refine JhB ?_ | refine JkF ?_ | refine Jl5 ?_ | refine Wv ?_ | refine LR.JhJ ?_ | refine JkL ?_ | refine JkB ?_ | refine Jl7 ?_ | refine Jfu ?_ | refine JhE ?_ | refine Jft ?_ | refine JhD ?_ | refine Jkt ?_ | refine JhN ?_ | refine Jfs ?_ | refine JkN ?_ | refine JmG ?_ | refine Jl6 ?_ | refine JmI ?_ | refine Jhz ?_ | refine Jkr ?_ | refine JkD ?_ | refine Jks ?_ | refine JkE ?_ | refine Jkw ?_ | refine JhL ?_ | refine Jfw ?_ | refine JkC ?_ | refine Exists.intro _ (And.intro (LR.Jk7 _ _ _) ?_))
local macro_rules | `(tactic| walk_at "rd2")=>`(tactic| first | ((with_reducible refine JmH ?hc ?_);(case hc=>walk_at "side")) | ((with_reducible refine JkM (v:=?vv) ?hx ?_);(case hx=>exact rfl)) | (with_reducible refine Exists.intro _ (And.intro (Eq.refl (V.bl _)) ?_)))
local macro_rules | `(tactic| walk_at "rd")=>`(tactic| repeat (first | walk_at "rd1" | walk_at "rd2"))
noncomputable section
namespace LK
open PySem L2 LR LE
noncomputable def UA:List Sl->Option Sl:=Us 1 (YO (Jep (Jgm "int" (Jb 0)) (JiV (Jgm "bool" (Jb 0)))))
noncomputable def Uz:List Sl->Option Sl:=Us 2 (Jk (Jl 1 (JW (aC (V0 ["BadTable","BadText","TooMany"] "BadRow" (Jb 0)) (aC (V0 ["BadTable","BadText","TooMany"] "TooMany" (Jb 0)) (aC (V0 ["BadTable","BadText","TooMany"] "BadText" (Jb 0)) (aC (V0 ["BadTable","BadText","TooMany"] "BadSeats" (Jb 0)) a0))))))
 (Jk (Jl 1 (e2 JJ (Jb 1) (JW (aC (V0 ["BadTable","BadText","TooMany"] "BadTable" (Jb 0)) (aC (V0 ["BadTable","BadText","TooMany"] "BadDeed" (Jb 0)) (aC (V0 ["BadTable","BadText","TooMany"] "Unlike" (Jb 0)) (aC (V0 ["BadTable","BadText","TooMany"] "NoRow" (Jb 0)) a0)))))))
 (YO (Jep (e2 fEq (eMB Jlt (Jb 1) (eC (.bl true))) (eC (.int 1))) (Jep (V0 ["BadTable","BadText","TooMany"] "LumpError" (Jb 0)) (Jlr ["BadTable","BadText","TooMany"] (Jb 0)))))))
noncomputable def Jz:List Sl->Option Sl:=Us 5 (Jk (Jl 1 (eC .non))
 (Jk (UU (iV 0) (.tp (.cons (.nm 2) (.cons (.nm 3) (.cons (.nm 4) .nil)))) (Jk (xIf (tOr? (tB? (e2 fLt (Jb 2) (eC (.int 1)))) (tB? (e2 fLt (Jb 4) (eC (.int 1))))) Yg Jx)
 (Jk (xIf (tAnd? (tB? (e2 Y5 (Jb 1) (eC .non))) (tB? (e2 WJ (YR (aC (Jb 2) (aC (Jb 3) a0))) (Jb 1)))) Yg Jx)
 (Jl 1 (YR (aC (Jb 2) (aC (Jb 3) a0)))))))
 (xIf (tB? (e2 fGt (eF V4 (aC (Ur (iE true (Jb 0)) (.tp (.cons (.nm 0) (.cons (.nm 1) (.cons (.nm 2) .nil)))) yes? (Jb 2) [none,none,none]) a0)) (eC (.int 30)))) Yg Jx)))
noncomputable def JS:List Sl->Option Xm:=Jeu 5 (Yd (Jl 1 (eC .non))
 YS (Yd (UU (iV 0) (.tp (.cons (.nm 2) (.cons (.nm 3) (.cons (.nm 4) .nil)))) (Jk (xIf (tOr? (tB? (e2 fLt (Jb 2) (eC (.int 1)))) (tB? (e2 fLt (Jb 4) (eC (.int 1))))) Yg Jx)
 (Jk (xIf (tAnd? (tB? (e2 Y5 (Jb 1) (eC .non))) (tB? (e2 WJ (YR (aC (Jb 2) (aC (Jb 3) a0))) (Jb 1)))) Yg Jx)
 (Jl 1 (YR (aC (Jb 2) (aC (Jb 3) a0)))))))
 (Wh (iV 0) (.tp (.cons (.nm 2) (.cons (.nm 3) (.cons (.nm 4) .nil)))) (Jk (xIf (tOr? (tB? (e2 fLt (Jb 2) (eC (.int 1)))) (tB? (e2 fLt (Jb 4) (eC (.int 1))))) Yg Jx)
 (Jk (xIf (tAnd? (tB? (e2 Y5 (Jb 1) (eC .non))) (tB? (e2 WJ (YR (aC (Jb 2) (aC (Jb 3) a0))) (Jb 1)))) Yg Jx)
 (Jl 1 (YR (aC (Jb 2) (aC (Jb 3) a0)))))) (Yd (xIf (tOr? (tB? (e2 fLt (Jb 2) (eC (.int 1)))) (tB? (e2 fLt (Jb 4) (eC (.int 1))))) Yg Jx)
 (V2 (tOr? (tB? (e2 fLt (Jb 2) (eC (.int 1)))) (tB? (e2 fLt (Jb 4) (eC (.int 1))))) (YT "BadTable" (aC (eC (.str "sizes and numbers of lumps are from 1 on")) a0)) YS) (Yd (xIf (tAnd? (tB? (e2 Y5 (Jb 1) (eC .non))) (tB? (e2 WJ (YR (aC (Jb 2) (aC (Jb 3) a0))) (Jb 1)))) Yg Jx)
 (V2 (tAnd? (tB? (e2 Y5 (Jb 1) (eC .non))) (tB? (e2 WJ (YR (aC (Jb 2) (aC (Jb 3) a0))) (Jb 1)))) (YT "BadTable" (aC (eC (.str "a table is ascending, with each size and spot once")) a0)) YS) YS))) (V2 (tB? (e2 fGt (eF V4 (aC (Ur (iE true (Jb 0)) (.tp (.cons (.nm 0) (.cons (.nm 1) (.cons (.nm 2) .nil)))) yes? (Jb 2) [none,none,none]) a0)) (eC (.int 30)))) (YT "TooMany" (aC (eC (.str "a table has at most 30 lumps in all")) a0)) YS)))
noncomputable def Yh:List Sl->Option Sl:=Us 3 (Jk (U7 1 (eM UB (Jb 0) (aC (eC (.str "\n")) a0)))
 (Jk (Jih 1 2 some)
 (Jlb 1 (YO (eIf (tB? (e2 fEq (Jb 2) (eC (.str "")))) (Jb 1) (e2 JJ (Jb 1) (JW (aC (eC .non) a0))))))))
noncomputable def J5:List Sl->Option Sl:=Us 2 (Jk (Jl 1 (eIf (tTru? (eM Yp (Jb 0) (aC (eC (.str "-")) a0))) (Jds (Jb 0) (some (eC (.int 1))) none) (Jb 0)))
 (Jk (xIf (tOr? (tB? (e2 fEq (Jb 1) (eC (.str "")))) (tB? (e2 fGt (eF Ui (aC (Jb 1) a0)) (eC (.int 200))))) (YO (eC .non)) Jx)
 (Jk (xIf (tNot? (tTru? (eF JeA (aC (Ur (iTx (Jb 1)) (.nm 0) yes? (e2 JeC (Jb 0) (eC (.str "0123456789"))) [none]) a0)))) (YO (eC .non)) Jx)
 (Jk (xIf (tAnd? (tTru? (eM Yp (Jb 1) (aC (eC (.str "0")) a0))) (tB? (e2 fNe (Jb 0) (eC (.str "0"))))) (YO (eC .non)) Jx)
 (YO (eF JcC (aC (Jb 0) a0)))))))
noncomputable def JG:List Sl->Option Sl:=Us 3 (Jk (Jl 1 (eIf (tB? (e2 fIs (Jb 0) (eC .non))) (JW a0) (eM UB (Jb 0) (aC (eC (.str " ")) a0))))
 (Jk (xIf (tOr? (tB? (e2 fNe (eF Ui (aC (Jb 1) a0)) (eC (.int 6)))) (tB? (e2 fNe (Jcz false (Jb 1)) (JW (Ue ["lump","at","times"] a0))))) (YO (eC .non)) Jx)
 (Jk (Jl 2 (Ur (iE true (Jcz true (Jb 1))) (.nm 0) yes? (eU 1 J5 (aC (Jb 0) a0)) [none]))
 (YO (eIf (tB? (e2 JgL (eC .non) (Jb 2))) (eC .non) (eF Jao (aC (Jb 2) a0)))))))
noncomputable def Jq:List Sl->Option Sl:=Us 5 (Jk (U7 1 (JW a0))
 (Jk (UU (Vj false (aC (eU 1 Yh (aC (Jb 0) a0)) a0)) (.tp (.cons (.nm 2) (.cons (.nm 3) .nil))) (Jk (Jl 4 (eU 1 JG (aC (Jb 3) a0)))
 (Jk (xIf (tB? (e2 fIs (Jb 4) (eC .non))) Yg Jx)
 (Wq 1 (Jb 4)))))
 (Jk (Z9 (eU 1 Jz (aC (Jb 1) a0)))
 (Vg 1))))
noncomputable def Ju:List Sl->Option Xm:=Jeu 5 (Yd (U7 1 (JW a0))
 YS (Yd (UU (Vj false (aC (eU 1 Yh (aC (Jb 0) a0)) a0)) (.tp (.cons (.nm 2) (.cons (.nm 3) .nil))) (Jk (Jl 4 (eU 1 JG (aC (Jb 3) a0)))
 (Jk (xIf (tB? (e2 fIs (Jb 4) (eC .non))) Yg Jx)
 (Wq 1 (Jb 4)))))
 (Wh (Vj false (aC (eU 1 Yh (aC (Jb 0) a0)) a0)) (.tp (.cons (.nm 2) (.cons (.nm 3) .nil))) (Jk (Jl 4 (eU 1 JG (aC (Jb 3) a0)))
 (Jk (xIf (tB? (e2 fIs (Jb 4) (eC .non))) Yg Jx)
 (Wq 1 (Jb 4)))) (Yd (Jl 4 (eU 1 JG (aC (Jb 3) a0)))
 YS (Yd (xIf (tB? (e2 fIs (Jb 4) (eC .non))) Yg Jx)
 (V2 (tB? (e2 fIs (Jb 4) (eC .non))) (Vz "BadText" (Jb 2)) YS) YS))) (Yd (Z9 (eU 1 Jz (aC (Jb 1) a0)))
 (exU 1 JS (aC (Jb 1) a0)) YS)))
noncomputable def JZ:List Sl->Option Sl:=Us 5 (Jk (Jl 1 (eC .non))
 (Jk (Jl 2 (eC .non))
 (Jk (JbH ["BadTable","BadText","TooMany"] 3 (Jl 1 (eU 1 Jq (aC (Jb 0) a0))) (exU 1 Ju (aC (Jb 0) a0)) (Jl 2 (Jb 3)))
 (Jk (xIf (tB? (e2 fIs (Jb 2) (eC .non))) (YO (JW (aC (eC (.str "told")) (aC (Jb 1) a0)))) Jx)
 (Jk (xIf (tNot? (tTru? (eU 1 Uz (aC (Jb 2) a0)))) (YO (JW (aC (eC (.str "other")) a0))) Jx)
 (Jk (xIf (tAnd? (tTru? (V0 ["BadTable","BadText","TooMany"] "BadText" (Jb 2))) (tTru? (eU 1 UA (aC (eAt ["BadText"] (Jb 2)) a0)))) (YO (JW (aC (eC (.str "text")) (aC (eAt ["BadText"] (Jb 2)) a0)))) Jx)
 (Jk (Jl 4 (JW (aC (V0 ["BadTable","BadText","TooMany"] "BadTable" (Jb 2)) (aC (V0 ["BadTable","BadText","TooMany"] "TooMany" (Jb 2)) a0))))
 (YO (JW (aC (e2 fIx (JW (aC (eC (.str "other")) (aC (eC (.str "table")) (aC (eC (.str "many")) a0)))) (e2 JJ (eF JeD (aC (e2 fIx (Jb 4) (eC (.int 0))) a0)) (e2 V3 (eC (.int 2)) (eF JeD (aC (e2 fIx (Jb 4) (eC (.int 1))) a0))))) a0))))))))))
noncomputable def JN:List Sl->Option Sl:=Us 2 (Jk (Jl 1 (JW (Ue [""," ","lump","lump 1 at 1 times","lump 1 at 1 times 1 "," lump 1 at 1 times 1","lump 1 at 1"] a0)))
 (Jk (Jl 1 (e2 JJ (Jb 1) (JW (Ue ["lump  1 at 1 times 1","Lump 1 at 1 times 1","lump 1 on 1 times 1","lump 1 times 1 at 1"] a0))))
 (Jk (Jl 1 (e2 JJ (Jb 1) (JW (Ue ["lump 01 at 1 times 1","lump 1 at -0 times 1","lump 1 at +1 times 1","lump 1 at 1 times 1 1"] a0))))
 (Jk (Jl 1 (e2 JJ (Jb 1) (JW (Ue ["lump x at 1 times 1","lump 1 at 1_0 times 1","1 at 1 times 1"] a0))))
 (Jk (Jl 1 (e2 JJ (Jb 1) (JW (aC (e2 JJ (e2 JJ (eC (.str "lump 1 at 1")) (e2 JcE (eC (.str "0")) (eC (.int 200)))) (eC (.str " times 1"))) a0))))
 (Jk (Jl 1 (e2 JJ (Jb 1) (JW (Ue ["lump 1 at 1 time 1","lump 1,at 1 times 1","row 1+1","lump 1 at 1.0 times 1"] a0))))
 (YO (e2 fIx (Jb 1) (e2 Yt (Jb 0) (eF Ui (aC (Jb 1) a0)))))))))))
noncomputable def J2:List Sl->Option Sl:=Us 2 (Jk (UU (iR1 (aC (eF Ui (aC (Jb 0) a0)) a0)) (.nm 1) (xIf (tOr? (tB? (e2 fLt (e2 fIx (e2 fIx (Jb 0) (Jb 1)) (eC (.int 0))) (eC (.int 1)))) (tOr? (tB? (e2 fLt (e2 fIx (e2 fIx (Jb 0) (Jb 1)) (eC (.int 2))) (eC (.int 1)))) (tAnd? (tB? (e2 fGt (Jb 1) (eC (.int 0)))) (tB? (e2 JeB (eSl (e2 fIx (Jb 0) (e2 Vi (Jb 1) (eC (.int 1)))) none (some (eC (.int 2)))) (eSl (e2 fIx (Jb 0) (Jb 1)) none (some (eC (.int 2))))))))) (YO (JW (aC (eC (.str "table")) a0))) Jx))
 (Jk (xIf (tB? (e2 fGt (eF V4 (aC (Ur (iE true (Jb 0)) (.tp (.cons (.nm 0) (.cons (.nm 1) (.cons (.nm 2) .nil)))) yes? (Jb 2) [none,none,none]) a0)) (eC (.int 30)))) (YO (JW (aC (eC (.str "many")) a0))) Jx)
 (YO (JW (aC (eC (.str "told")) (aC (Jb 0) a0))))))
noncomputable def JU:List Sl->Option Sl:=Us 5 (Jk (U7 1 (JW a0))
 (Jk (UU (iV 0) (.tp (.cons (.nm 2) (.cons (.nm 3) (.cons (.nm 4) .nil)))) (Wq 1 (e2 JJ (e2 JJ (e2 JJ (e2 JJ (e2 JJ (e2 JJ (eC (.str "lump ")) (eF Jdy (aC (Jb 2) a0))) (eC (.str " at "))) (eF Jdy (aC (Jb 3) a0))) (eC (.str " times "))) (eF Jdy (aC (Jb 4) a0))) (eC (.str "\n")))))
 (YO (eM UZ (eC (.str "")) (aC (Jb 1) a0)))))
noncomputable def Yx:List Sl->Option Sl:=Us 9 (Jk (U7 3 (eF Ja7 (aC (Jb 0) a0)))
 (Jk (xIf (tB? (e2 fEq (Jb 3) (JW a0))) (Vg 3) Jx)
 (Jk (Jl 4 (e2 Yt (e2 YM (Jb 2) (eC (.int 8))) (eF Ui (aC (Jb 3) a0))))
 (Jk (Jd3 (.tp (.cons (.nm 5) (.cons (.nm 6) (.cons (.nm 7) .nil)))) (e2 fIx (Jb 3) (Jb 4)))
 (Jk (xIf (tB? (e2 fEq (Jb 1) (eC (.int 1)))) (UP 3 (Jb 4) (YR (aC (e2 Vi (eC (.int 0)) (e2 Yt (e2 YM (Jb 2) (eC (.int 64))) (eC (.int 3)))) (aC (Jb 6) (aC (Jb 7) a0))))) Jx)
 (Jk (xIf (tB? (e2 fEq (Jb 1) (eC (.int 2)))) (UP 3 (Jb 4) (YR (aC (Jb 5) (aC (Jb 6) (aC (e2 Vi (eC (.int 0)) (e2 Yt (e2 YM (Jb 2) (eC (.int 64))) (eC (.int 3)))) a0))))) Jx)
 (Jk (xIf (tB? (e2 fEq (Jb 1) (eC (.int 3)))) (Zq 3 (Jb 4) (e2 fIx (Jb 3) (Jb 4))) Jx)
 (Jk (xIf (tB? (e2 fEq (Jb 1) (eC (.int 4)))) (Wq 3 (YR (aC (e2 fIx (e2 fIx (Jb 3) (e1 UY (eC (.int 1)))) (eC (.int 0))) (aC (e2 Vi (e2 Vi (e2 fIx (e2 fIx (Jb 3) (e1 UY (eC (.int 1)))) (eC (.int 1))) (eC (.int 1))) (e2 Yt (e2 YM (Jb 2) (eC (.int 64))) (eC (.int 3)))) (aC (eC (.int 1)) a0))))) Jx)
 (Jk (xIf (tB? (e2 fEq (Jb 1) (eC (.int 5)))) (Jk (Jd3 (.tp (.cons (.nm 5) (.cons (.nm 6) (.cons (.nm 7) .nil)))) (e2 fIx (Jb 3) (e1 UY (eC (.int 1)))))
 (Jk (Jl 8 (eF V4 (aC (Ur (iE true (eSl (Jb 3) none (some (e1 UY (eC (.int 1)))))) (.nm 0) yes? (e2 fIx (Jb 0) (eC (.int 2))) [none]) a0)))
 (UP 3 (e1 UY (eC (.int 1))) (YR (aC (Jb 5) (aC (Jb 6) (aC (e2 JJ (e2 Vi (eC (.int 31)) (Jb 8)) (e2 V3 (e2 Yt (e2 YM (Jb 2) (eC (.int 64))) (eC (.int 2))) (eC (.int 9)))) a0))))))) Jx)
 (Jk (xIf (tB? (e2 fEq (Jb 1) (eC (.int 6)))) (JbG 3) Jx)
 (Vg 3)))))))))))
noncomputable def JM:List Sl->Option Sl:=Us 2 (Jk (xIf (tB? (e2 fLt (Jb 1) (eF Ui (aC (Jb 0) a0)))) (YO (e2 fIx (Jb 0) (Jb 1))) Jx)
 (YO (eC (.int 0))))
noncomputable def Ye:List Sl->Option Sl:=Us 11 (Jk (Jl 1 (eU 2 JM (aC (Jb 0) (aC (eC (.int 0)) a0))))
 (Jk (Jl 2 (e2 fIx (JW (aC (eC (.int 3)) (aC (eC (.int 40)) (aC (e2 JbP (eC (.int 10)) (eC (.int 40))) a0)))) (e2 Yt (e2 YM (Jb 1) (eC (.int 16))) (eC (.int 3)))))
 (Jk (U7 3 (JW a0))
 (Jk (Jl 4 (eC (.int 0)))
 (Jk (Jl 5 (eC (.int 0)))
 (Jk (Jl 6 (eC (.int 0)))
 (Jk (UU (iR1 (aC (e2 Yt (Jb 1) (eC (.int 16))) a0)) (.nm 7) (Jk (Jl 8 (e2 Yt (eU 2 JM (aC (Jb 0) (aC (e2 JJ (eC (.int 1)) (e2 V3 (eC (.int 3)) (Jb 7))) a0))) (Jb 2)))
 (Jk (Jl 9 (e2 Vi (e2 Yt (eU 2 JM (aC (Jb 0) (aC (e2 JJ (eC (.int 2)) (e2 V3 (eC (.int 3)) (Jb 7))) a0))) (e2 JJ (e2 V3 (eC (.int 2)) (Jb 2)) (eC (.int 1)))) (Jb 2)))
 (Jk (Jl 10 (e2 JJ (eC (.int 1)) (e2 Yt (eU 2 JM (aC (Jb 0) (aC (e2 JJ (eC (.int 3)) (e2 V3 (eC (.int 3)) (Jb 7))) a0))) (eC (.int 4)))))
 (Jk (xIf (tAnd? (tB? (e2 fEq (Jb 8) (eC (.int 0)))) (tB? (e2 fGt (Jb 4) (eC (.int 0))))) (Jl 5 (e2 JJ (e2 JJ (Jb 5) (eC (.int 1))) (eF Jez (aC (Jb 9) a0)))) (Jk (Jl 4 (e2 JJ (Jb 4) (eF JeE (aC (eC (.int 1)) (aC (Jb 8) a0)))))
 (Jl 5 (Jb 9))))
 (Jk (Jl 6 (e2 JJ (Jb 6) (Jb 10)))
 (xIf (tB? (e2 fLe (Jb 6) (eC (.int 30)))) (Wq 3 (YR (aC (Jb 4) (aC (Jb 5) (aC (Jb 10) a0))))) Jx)))))))
 (Vg 3))))))))
noncomputable def Jet:List Sl->Option Sl:=Us 8 (Jk (Jl 1 (e2 Yt (eU 2 JM (aC (Jb 0) (aC (eC (.int 1)) a0))) (e2 JbP (eC (.int 10)) (eC (.int 12)))))
 (Jk (Jl 2 (eU 3 Yx (aC (eU 1 Ye (aC (Jb 0) a0)) (aC (e2 Yt (eF V4 (aC (Jb 0) a0)) (eC (.int 9))) (aC (e2 Yt (e2 YM (eF V4 (aC (Jb 0) a0)) (eC (.int 9))) (e2 JbP (eC (.int 10)) (eC (.int 9)))) a0)))))
 (Jk (U7 3 (eSl (eM UB (eU 1 JU (aC (Jb 2) a0)) (aC (eC (.str "\n")) a0)) none (some (e1 UY (eC (.int 1))))))
 (Jk (Jl 4 (eU 1 J2 (aC (Jb 2) a0)))
 (Jk (Jl 5 (e2 Yt (Jb 1) (eC (.int 8))))
 (Jk (Jl 6 (e2 Yt (e2 YM (Jb 1) (eC (.int 8))) (e2 JJ (eF Ui (aC (Jb 3) a0)) (eC (.int 1)))))
 (Jk (xIf (tAnd? (tB? (e2 fGt (Jb 5) (eC (.int 0)))) (tB? (e2 fLt (Jb 5) (eC (.int 4))))) (Jk (Zq 3 (Jb 6) (eU 1 JN (aC (e2 YM (Jb 1) (eC (.int 256))) a0)))
 (Jl 4 (JW (aC (eC (.str "text")) (aC (e2 JJ (Jb 6) (eC (.int 1))) a0))))) Jx)
 (Jk (Jl 7 (eM UZ (eC (.str "")) (aC (Ur (iE true (Jb 3)) (.nm 0) yes? (e2 JJ (Jb 0) (eC (.str "\n"))) [none]) a0)))
 (Jk (xIf (tB? (e2 fEq (Jb 5) (eC (.int 4)))) (Jk (Jl 7 (e2 JJ (Jb 7) (e2 fIx (JW (Ue ["lump 1 at 1 times 1","x"," "] a0)) (e2 Yt (e2 YM (Jb 1) (eC (.int 8))) (eC (.int 3))))))
 (Jl 4 (JW (aC (eC (.str "text")) (aC (e2 JJ (eF Ui (aC (Jb 3) a0)) (eC (.int 1))) a0))))) Jx)
 (Jk (xIf (tAnd? (tB? (e2 fEq (Jb 5) (eC (.int 5)))) (tB? (e2 fNe (Jb 3) (JW a0)))) (Jk (Jl 7 (Jds (Jb 7) none (some (e1 UY (eC (.int 1))))))
 (Jl 4 (JW (aC (eC (.str "text")) (aC (eF Ui (aC (Jb 3) a0)) a0))))) Jx)
 (YO (e2 fEq (eU 1 JZ (aC (Jb 7) a0)) (Jb 4)))))))))))))
end LK
end
namespace LK
open PySem L2 LR LE
local macro_rules | `(tactic| omega)=>`(tactic| first | lia | omega (config:={}))
local macro_rules | `(tactic| walk_at "sd")=>`(tactic| first | omega (config:={}) | assumption | (simp only[Qh,Qy,KA,Qk,QV,QE];omega (config:={})))
local macro_rules | `(tactic| walk_at "ev")=>`(tactic| simp -implicitDefEqProofs (disch:=walk_at "sd") only[Us,JhZ,Int.reduceToNat,Qk,QV,Nat.reduceAdd,Nat.reduceSub,Nat.reduceLT,Nat.reduceLeDiff,Gd,Nat.zero_lt_succ,Nat.succ_lt_succ_iff,Ms,Gr,GO,QT,List.set_cons_zero,List.set_cons_succ,L4,List.getElem?_cons_zero,Qy,KA,KI,Qi,Option.map_some,Option.bind_none,Option.map_none,if_true,if_false,ite_true,ite_false,decide_true,decide_false,Bool.not_true,Bool.not_false,GY,Bool.true_and,reduceIte,reduceCtorEq,Bool.false_eq_true,Qt,Gj,if_pos,
 Jk,xIf,YO,Vg,Jx,U7,Jl,Jd3,Z9,Wq,UP,Jih,Zq,Jha,Jgj,Sl.dt,pr?,JlD,JbG,JcS,ifB,lst?,Ue,Jds,JeC,Yp,iTx,JgM,JgK,JeD,Sl.dk,int?,Jlb,JgV,UU,tB?,tTru?,tAnd?,tOr?,tNot?,Jk6,e2,e1,Jb,eF,eM,eC,aC,a0,eU,VO,Sl.pass,YR,JW,WK,Sl.frz,Jep,JiV,eIf,sh?,bool?,str?,keep?,Jgm,tyN,D.isRow,JjW,JjV,YX,JhX,JhV,JhW,Jgp,Jgq,
 Jlu,JgO,JgN,JgJ,JgQ,JgP,JgB,Wt,JgF,JgE,Jgz,Jgy,JgG,JgH,JgC,JgA,JgD,Jjh,Jjf,Jje,Jji,Jjd,Jjg,Jlx,Jlw,Jlz,Jlv,Jly,JgR,Jao,Ja7,JeE,Sl.q,Sl.r,Sl.m,Sl.d,Sl.it,fEq,fNe,Ji3,Ji5,Ji2,Ji4,JiY,Ji1,JiX,fIs,Y5,JdE,JdC,JeN,JdG,JdH,JdD,JeO,JdF,iE,iV,iR1,Ur,VD,Vj,Jcz,JgL,WN,eSl,UX,fSl,Jjr,Jjq,JfH,JjG,Jg3,JjF,JjJ,JjH,JjI,Jlk,Jll,Jf6,Jd6,Jmp,Jmq,Jmr,Jms,Jmt,eq_self])
noncomputable section
theorem Good.cons'{p:Pr}{ps:List Pr}(g:Good (p::ps)):Good ps:=⟨fun i q e=>g.one (i+1) q (by simpa using e),fun i q r e1 e2=>g.gap (i+1) q r (by simpa using e1) (by simpa using e2)⟩
theorem Good.all{ps:List Pr}(g:Good ps):∀p∈ps,1<=p.2:=fun p hp=>by obtain⟨i,hi,e⟩:=Mq.mp hp;exact g.one i p (by simp[hi,e])
theorem Good.first{p:Pr}:∀{ps:List Pr},Good (p::ps)->∀q∈ps,p.1+p.2<q.1
 | [],_,q,hq=>nomatch hq
 | r::ps,g,q,hq=>by
  have h1:=g.gap 0 p r rfl rfl;rcases Qv.mp hq with z|z
  ·rw[z];exact h1
  ·have h2:=Good.first (Good.cons' g) q z
   have h3:=g.one 1 r rfl;omega
theorem WW(ns:List Int)(k:Int)(hk:0<=k):JM [.sh (.fz (ns.map .int)),.sh (.int k)]=some (.sh (.int (cell ns k))):=by
 unfold JM;walk_at "ev"
 by_cases h:k<(ns.length:Int)
 ·simp only[h,YG,JaV hk h];walk_at "ev"
 ·simp only[h,Jei h];walk_at "ev"
theorem JaW{α:Type}{xs:List α}{k:Nat}{x:α}(h:xs[k]?=some x):atI xs (k:Int)=some x:=by obtain⟨h1,h2⟩:=Qo.mp h;rw[UW h1,h2]
noncomputable def tx(l:List Nat):Str:=⟨l.toArray⟩
theorem Jcn{a b:List Nat}:tx a=tx b↔a=b:=by
 constructor
 ·intro h;have:=congrArg (fun z:Str=>z.cps.toList) h
  simpa [tx] using this
 ·rintro rfl;rfl
theorem JiF(z:Str):z=tx z.cps.toList:=rfl
theorem J9(l:List Nat):(tx l).length=l.length:=by simp[tx,MJ]
theorem YY(l:List Nat):(tx l).cps.toList=l:=rfl
theorem UO(a b:List Nat):tx a++tx b=tx (a++b):=by
 apply Str.mk.injEq _ _ |>.mpr
 apply Array.toList_inj.mp
 simp[tx]
noncomputable def dig(c:Nat):Bool:=decide (48<=c) && decide (c<=57)
theorem Jc4(s:Str)(c i:Nat):KU s ⟨#[c]⟩ i=(((s.cps.toList.drop i).take 1) == [c]):=by rw[StrLaws.subAt_eq];rfl
theorem Zf(l:List Nat)(c:Nat):Ko (tx l) ⟨#[c]⟩=(l.take 1 == [c]):=by
 unfold Ko;rw[Jc4,YY,Ls]
 cases l with
 | nil=>rfl
 | cons a r =>
  have:(0+MJ ⟨#[c]⟩<=(tx (a::r)).length):=by rw[J9];show 0+1<=r.length+1;omega
  rw[decide_eq_true this,Bool.true_and]
theorem JfI:∀c:Nat,c<128->inS ⟨#[c]⟩ (Qf "0123456789")=dig c:=by decide +kernel
theorem Jjs(c:Nat):inS ⟨#[c]⟩ (Qf "0123456789")=dig c:=by
 by_cases h:c<128
 ·exact JfI c h
 ·have e:(Qf "0123456789").cps.toList=[48,49,50,51,52,53,54,55,56,57]:=by decide +kernel
  have no:∀i,KU (Qf "0123456789") ⟨#[c]⟩ i=false:=fun i=>by
   rw[Jc4,e]
   cases hb:((([48,49,50,51,52,53,54,55,56,57]:List Nat).drop i).take 1 == [c]) with
   | false=>rfl
   | true =>
    have e1:(([48,49,50,51,52,53,54,55,56,57]:List Nat).drop i).take 1=[c]:=by simpa using hb
    have m:c∈([48,49,50,51,52,53,54,55,56,57]:List Nat):=Mt (K9 (show c∈(([48,49,50,51,52,53,54,55,56,57]:List Nat).drop i).take 1 by rw[e1];exact QB));simp at m;omega
  unfold inS;rw[StrLaws.occ_eq,(StrLaws.occ_none _ _ _ _ 0 (fun i _=>Lz _)).mpr (fun i _ z=>by rw[no i] at z;cases z.2)];unfold dig;rw[decide_eq_false (show ¬c<=57 by omega),Bool.and_false];rfl
theorem Jh0(l:List Nat)(k:Nat)(h:k<=l.length):Kv (tx l) (some (k:Int)) none=tx (l.drop k):=by
 have e:=StrLaws.sliceText_from (x:=tx l) (i:=(k:Int)) ⟨by omega,by rw[YY];omega⟩;rw[YY] at e
 show MT _ _ _=_;rw[e];unfold tx;congr 2;rw[Gv,KS (by rw[Kt];omega)]
theorem Jmh(l:List Nat)(k:Nat)(h:k<=l.length):Kv (tx l) none (some (k:Int))=tx (l.take k):=by
 have e:=StrLaws.sliceText_to (x:=tx l) (j:=(k:Int)) ⟨by omega,by rw[YY];omega⟩;rw[YY] at e
 show MT _ _ _=_;rw[e];unfold tx;rw[Ls,show((k:Int)-0).toNat=k by omega]
theorem JfE(l:List Nat):Kv (tx l) (some 1) none=tx (l.drop 1):=by
 cases l with
 | nil=>rfl
 | cons a r=>exact Jh0 (a::r) 1 (by simp)
noncomputable def J8:List Nat->List Nat
 | []=>[]
 | c::r=>if c=45 then r else c::r
theorem YE(c:Nat)(r:List Nat):J8 (c::r)=if c=45 then r else c::r:=rfl
noncomputable def okL(l:List Nat):Bool:=!(J8 l).isEmpty && decide ((J8 l).length<=200) && (J8 l).all dig && !((J8 l).take 1 == [48] && !(l == [48]))
noncomputable def JbE(l:List Nat):Int:=(intText? (tx l)).getD 0
noncomputable def VM(l:List Nat):D:=if okL l=true then .int (JbE l) else .non
theorem Jcq(l:List Nat):(J8 l).length<=l.length/\l.length<=(J8 l).length+1:=by
 cases l with
 | nil=>exact⟨Qr _,Nat.le_succ _⟩
 | cons c r=>rw[YE];split <;> simp
theorem Wr{l:List Nat}(h:l.all dig=true):NumText.AllDigits l:=fun c hc=>by have:=Q4.mp h c hc;unfold dig at this;simp at this;exact this
theorem Jjt(l:List Nat)(h:okL l=true):intText? (tx l)=some (JbE l):=by
 unfold okL at h;simp only[QL,KR,decide_eq_true_eq] at h;obtain⟨⟨⟨h1,h2⟩,h3⟩,_⟩:=h;have hb:=Jcq l;have hne:J8 l≠[]:=fun e=>by rw[e] at h1;cases h1
 have some_:∀{n:Int},intText? (tx l)=some n->intText? (tx l)=some (JbE l):=fun {n} e=>by unfold JbE;rw[e];rfl
 cases l with
 | nil=>exact absurd rfl hne
 | cons c r =>
  by_cases hc:c=45
  ·subst hc;have e:J8 (45::r)=r:=by rw[YE,if_pos rfl]
   rw[e] at h3 hne h2;exact some_ (intText_neg (x:=tx (45::r)) (cs:=r) rfl (Wr h3) hne (by rw[J9];simp;omega))
  ·have e:J8 (c::r)=c::r:=by rw[YE,if_neg hc]
   rw[e] at h3 h2;exact some_ (intText_digits (x:=tx (c::r)) (Wr h3) (by rw[YY];simp) (by rw[J9];omega))
theorem JhT:Qf "-"=tx [45]:=by decide +kernel
theorem JkQ:Qf ""=tx []:=by decide +kernel
theorem JfC:Qf "0"=tx [48]:=by decide +kernel
theorem JbM(a b:List Nat):decide (tx a=tx b)=decide (a=b):=by simp only[Jcn]
theorem Jdj(l:List Nat):J8 l=if l.take 1=[45] then l.drop 1 else l:=by
 cases l with
 | nil=>rfl
 | cons c r =>
  rw[YE]
  by_cases h:c=45
  ·rw[if_pos h,if_pos (by simp[h])];rfl
  ·rw[if_neg h,if_neg (by simp[h])]
theorem Jgn(b:List Nat):Y2 (.nm 0) yes? (e2 JeC (Jb 0) (eC (.str (Qf "0123456789")))) [.no] (b.map sgE)=some (b.map fun c=>D.bl (dig c)):=Y4 fun c _=>by simp only[sgE];walk_at "ev";rw[Jjs]
theorem JcD(l:List Nat){n:Int}(hl:l.length<=640)(h:intText? (tx l)=some n):JcC [.sh (.str (tx l))]=some (.sh (.int n)):=by show(if _ then _ else _)=_;rw[if_pos (by rw[J9];exact hl),h];rfl
theorem JjN(l:List Nat)(hl:l.length<=640):J5 [.sh (.str (tx l))]=some (.sh (VM l)):=by
 have hb:=Jcq l
 have ll:=J9 l
 have lb:=J9 (J8 l)
 have st:Ko (tx l) (Qf "-")=decide (l.take 1=[45]):=by rw[JhT];exact(Zf l 45).trans (by rw[Ga];simp)
 have sz:Ko (tx (J8 l)) (Qf "0")=decide ((J8 l).take 1=[48]):=by rw[JfC];exact(Zf _ 48).trans (by rw[Ga];simp)
 have fal:JeA [.own ((J8 l).map fun c=>D.bl (dig c))]=some (.sh (.bl ((J8 l).all dig))):=by
  rw[JgI (ns:=(J8 l).map dig) (by simp[Sl.q]),List.all_map]
  all_goals rfl
 have fig:∀T:Es,(Jk (Jl 1 (eIf (tTru? (eM Yp (Jb 0) (aC (eC (.str "-")) a0))) (Jds (Jb 0) (some (eC (.int 1))) none) (Jb 0))) T) [.sh (.str (tx l)),.no]=T [.sh (.str (tx l)),.sh (.str (tx (J8 l)))]:=fun T=>by
  rw[Jdj];walk_at "ev";rw[st]
  by_cases h:l.take 1=[45]
  ·rw[decide_eq_true h,if_pos h];walk_at "ev";rw[JfE]
  ·rw[decide_eq_false h,if_neg h];walk_at "ev"
 unfold J5 Us;simp only[Qk,QV,Nat.reduceAdd,Nat.reduceSub,Ms,Gr,GO];rw[fig];walk_at "ev";rw[JkQ,JbM];unfold VM okL
 by_cases h1:J8 l=[]
 ·rw[decide_eq_true h1,h1];walk_at "ev"
  all_goals rfl
 ·have h1':(J8 l).isEmpty=false:=by cases e:J8 l with|nil=>exact absurd e h1|cons _ _=>rfl
  rw[decide_eq_false h1,h1'];walk_at "ev"
  by_cases h2:(J8 l).length<=200
  ·rw[decide_eq_false (show ¬(((tx (J8 l)).length:Int)>200) by omega),decide_eq_true h2];walk_at "ev";rw[YY,Jgn];walk_at "ev";rw[fal];walk_at "ev"
   cases h3:(J8 l).all dig with
   | false =>
    walk_at "ev"
    all_goals rfl
   | true =>
    walk_at "ev";rw[sz];rw[JfC,JbM];have io:=Jjt l;unfold okL at io;rw[h1',decide_eq_true h2,h3] at io
    by_cases h4:(J8 l).take 1=[48]
    ·by_cases h5:l=[48]
     ·rw[decide_eq_true h4,decide_eq_true h5];have e5:(l == [48])=true:=by simp[h5]
      rw[e5,Bool.not_true,Bool.and_false] at io ⊢;walk_at "ev";rw[JcD l hl (io rfl)]
      all_goals rfl
     ·rw[decide_eq_true h4,decide_eq_false h5];have e4:((J8 l).take 1 == [48])=true:=by simp[h4]
      have e5:(l == [48])=false:=by simp[h5]
      rw[e4,e5];walk_at "ev"
      all_goals rfl
    ·rw[decide_eq_false h4];have e4:((J8 l).take 1 == [48])=false:=by simp[h4]
     rw[e4] at io ⊢;walk_at "ev";rw[JcD l hl (io rfl)]
     all_goals rfl
  ·rw[decide_eq_true (show(((tx (J8 l)).length:Int)>200) by omega),decide_eq_false h2];walk_at "ev"
   all_goals rfl
noncomputable def YL(m:Nat):List Nat:=(Mc 10 m).map Char.toNat
theorem Ja3:∀d:Nat,d<10->(MB d).toNat=d+48:=by decide
theorem Vx{m:Nat}(h:m<10):YL m=[m+48]:=by unfold YL;rw[L5 h];show [(MB m).toNat]=_;rw[Ja3 m h]
theorem Jak{m:Nat}(h:¬m<10):YL m=YL (m / 10)++[m % 10+48]:=by
 have hm:m % 10<10:=Nat.mod_lt m (by decide)
 have t:Mc 10 (m / 10)++Mc 10 (m % 10)=Mc 10 (10*(m / 10)+m % 10):=Nat.toDigits_append_toDigits (by decide) (by omega) hm;rw[Nat.div_add_mod] at t;unfold YL;rw[<- t,QU,L5 hm]
 show _++[(MB _).toNat]=_;rw[Ja3 _ hm]
theorem Vw(m:Nat):(YL m).all dig=true:=by
 induction m using Nat.strongRecOn with
 | _ m ih =>
  by_cases h:m<10
  ·rw[Vx h];simp[dig];omega
  ·rw[Jak h,List.all_append,ih (m / 10) (by omega)];simp[dig];omega
theorem WH:∀(k m:Nat),m<10 ^ (k+1)->(YL m).length<=k+1
 | 0,m,h=>by rw[Vx (by simpa using h)];simp
 | k+1,m,h=>by
  by_cases z:m<10
  ·rw[Vx z];simp
  ·have:=WH k (m / 10) (by rw[Nat.pow_succ] at h;omega);rw[Jak z,Qh,QE];omega
theorem Ja2(m:Nat):∃c r,YL m=c::r/\(0<m->c≠48):=by
 induction m using Nat.strongRecOn with
 | _ m ih =>
  by_cases h:m<10
  ·exact⟨m+48,[],Vx h,fun _=>by omega⟩
  ·obtain⟨c,r,e,n⟩:=ih (m / 10) (by omega);exact⟨c,r++[m % 10+48],by rw[Jak h,e];rfl,fun _=>n (by omega)⟩
theorem Jbx(m:Nat):strI (m:Int)=tx (YL m):=by have e:=PySem.W.KIN.signs_num m;rw[JiF (strI (m:Int))];exact congrArg tx e
theorem Jby(m:Nat):strI (Int.negSucc m)=tx (45::YL (m+1)):=by rw[JiF (strI (Int.negSucc m))];refine congrArg tx ?_;show(Qf ("-"++Nat.repr (m+1))).cps.toList=_;rw[PyProof.Rows.signs_ofString,String.toList_append,QU,Nat.toList_repr];rfl
theorem JjL(n:Int)(h:n.natAbs<10 ^ 200):∃l,strI n=tx l/\l.length<=201/\okL l=true/\JbE l=n:=by
 cases n with
 | ofNat m =>
  have hl:=WH 199 m h;obtain⟨c,r,e,z⟩:=Ja2 m
  have hd:=Vw m
  have hc:c≠45:=fun q=>by rw[e,q,LL] at hd;exact absurd hd (by simp[dig])
  have hb:J8 (YL m)=YL m:=by rw[e,YE,if_neg hc]
  refine⟨YL m,Jbx m,by omega,?_,?_⟩
  ·unfold okL;rw[hb,hd,decide_eq_true hl,e]
   by_cases h0:m=0
   ·subst h0;rw[Vx (by decide)] at e
    injection e with e1 e2
    rw[<- e1,<- e2];rfl
   ·have:=z (by omega);simp[this]
  ·unfold JbE;rw[intText_digits (x:=tx (YL m)) (Wr hd) (by rw[YY,e];simp) (by rw[J9];omega),YY];show((L6 (YL m):Nat):Int)=_;unfold YL;rw[Mu];rfl
 | negSucc m =>
  have hl:=WH 199 (m+1) h;obtain⟨c,r,e,z⟩:=Ja2 (m+1)
  have hd:=Vw (m+1)
  have hb:J8 (45::YL (m+1))=YL (m+1):=by rw[YE,if_pos rfl]
  refine⟨45::YL (m+1),Jby m,by rw[Qk];omega,?_,?_⟩
  ·unfold okL;rw[hb,hd,decide_eq_true hl,e];have:=z (by omega);simp[this]
  ·unfold JbE;rw[intText_neg (x:=tx (45::YL (m+1))) (cs:=YL (m+1)) rfl (Wr hd) (by rw[e];simp) (by rw[J9,Qk];omega)];show -((L6 (YL (m+1)):Nat):Int)=_;unfold YL;rw[Mu];rfl
noncomputable def Uj(c:Nat):Nat->List Nat->List Nat
 | _,[]=>[]
 | k,a::l=>if a=c then k::Uj c (k+1) l else Uj c (k+1) l
noncomputable def spL(c:Nat):List Nat->List (List Nat)
 | []=>[[]]
 | a::l=>if a=c then []::spL c l else match spL c l with
  | p::ps=>(a::p)::ps
  | []=>[[a]]
theorem JkS(x:Str)(c i:Nat):KU x ⟨#[c]⟩ i=decide (x.cps[i]?=some c):=by
 unfold KU;show(x.cps.extract i (i+1) == #[c])=_;rw[Ga,beq_iff_eq,decide_eq_true_iff];constructor
 ·intro h;have h1:(x.cps.extract i (i+1))[0]?=some c:=by rw[h];rfl
  rw[Array.getElem?_extract] at h1;split at h1
  ·simpa using h1
  ·cases h1
 ·intro h;obtain⟨hi,e⟩:=QP.mp h
  apply Array.ext
  ·rw[Array.size_extract];simp;omega
  ·intro j h1 h2;have:j=0:=by simpa using h2
   subst this;simp[e]
theorem Jaz(x:Str)(c:Nat):∀(l:List Nat) (k:Nat) (found:Array Nat) (free:Nat),free<=k->found.size<=k->(∀i,l[i]?=x.cps[k+i]?) ->
 (forIn (LD k (l.length+1)) (found,free) (Mf x ⟨#[c]⟩ x.length (x.length+1))).run.fst.toList=found.toList++Uj c k l
 | [],k,found,free,h1,h2,h=>by
  have hk:x.cps[k]?=none:=by have:=h 0;simpa using this.symm
  have hn:¬(k+1<=x.length):=by
   have:=Array.getElem?_eq_none_iff.mp hk
   show ¬(k+1<=x.cps.size);omega
  rw[show([]:List Nat).length+1=1 from rfl,List.range'_one,List.forIn_cons];unfold Mf;rw[if_neg fun z=>hn z.1.2];simp[Uj]
 | a::l,k,found,free,h1,h2,h=>by
  have hk:x.cps[k]?=some a:=by have:=h 0;simpa using this.symm
  obtain⟨hi,e⟩:=QP.mp hk;have hn:∀i,l[i]?=x.cps[k+1+i]?:=fun i=>by have:=h (i+1);rw[L4] at this;rw[this];congr 1;omega
  rw[Qk,LW,List.forIn_cons];unfold Mf;rw[JkS,hk]
  by_cases hc:a=c
  ·rw[if_pos ⟨⟨⟨by show found.size<x.cps.size+1;omega,h1⟩,by show k+1<=x.cps.size;omega⟩,by rw[hc];simp⟩];have ih:=Jaz x c l (k+1) (found.push k) (k+1) (Qr _) (by rw[Array.size_push];omega) hn;rw[Uj,if_pos hc];have e2:found.toList++k::Uj c (k+1) l=(found.push k).toList++Uj c (k+1) l:=by simp
   rw[e2];exact ih
  ·rw[if_neg fun z=>hc (by simpa using z.2)];have ih:=Jaz x c l (k+1) found free (by omega) (by omega) hn;rw[Uj,if_neg hc];exact ih
theorem Jhf(x:Str)(c:Nat):Q8 x ⟨#[c]⟩ 0 x.length (x.length+1)=Uj c 0 x.cps.toList:=by rw[StrLaws.occ_eq];have h:=Jaz x c x.cps.toList 0 #[] 0 (Qr _) (by simp) (fun i=>by simp);rw[Kz] at h;exact h
noncomputable def JmE(a:List Nat):List (List Nat)->List (List Nat)
 | []=>[]
 | p::ps=>(a++p)::ps
theorem Vo(x:List Nat)(c:Nat):∀(l:List Nat) (k b:Nat),x.drop k=l->b<=k->((b::(Uj c k l).map (·+1)).zip (Uj c k l++[x.length])).map (fun p=>(x.take p.2).drop p.1)=JmE ((x.take k).drop b) (spL c l)
 | [],k,b,h,hb=>by
  have hk:x.length<=k:=by have:=congrArg Mo h;simp at this;omega
  show [((x.take x.length).drop b)]=[(x.take k).drop b++[]]
  rw[QT,List.take_length,KS hk]
 | a::l,k,b,h,hb=>by
  have hl:k<x.length:=by have:=congrArg Mo h;simp at this;omega
  have hd:x.drop (k+1)=l:=by rw[<- List.drop_drop,h];rfl
  have ha:x[k]?=some a:=by have:=congrArg (·[0]?) h;simpa using this
  have ht:x.take (k+1)=x.take k++[a]:=by rw[List.take_add_one,ha];rfl
  have hbl:b<=(x.take k).length:=by rw[GH];omega
  by_cases hc:a=c
  ·have ih:=Vo x c l (k+1) (k+1) hd (Qr _);rw[Uj,if_pos hc,spL,if_pos hc];rw[Qt,Gr,Ka,Qt,ih]
   have e0:(x.take (k+1)).drop (k+1)=[]:=Md (by rw[GH];omega)
   cases hs:spL c l with
   | nil =>
    exfalso
    cases l with
    | nil=>cases hs
    | cons a' l' =>
     rw[spL] at hs;split at hs
     ·cases hs
     ·split at hs <;> cases hs
   | cons p ps=>show(x.take k).drop b::((x.take (k+1)).drop (k+1)++p)::ps=((x.take k).drop b++[])::p::ps;rw[e0,QT];rfl
  ·have ih:=Vo x c l (k+1) b hd (by omega);rw[Uj,if_neg hc,spL,if_neg hc,ih]
   cases hs:spL c l with
   | nil =>
    exfalso
    cases l with
    | nil=>cases hs
    | cons a' l' =>
     rw[spL] at hs;split at hs
     ·cases hs
     ·split at hs <;> cases hs
   | cons p ps=>show((x.take (k+1)).drop b++p)::ps=((x.take k).drop b++a::p)::ps;rw[ht,List.drop_append_of_le_length hbl,Gk];rfl
theorem WL{c:Nat}:∀{l:List Nat} {k:Nat},Uj c k l=[]->spL c l=[l]
 | [],_,_=>rfl
 | a::l,k,h=>by
  rw[Uj] at h;split at h
  ·cases h
  ·next hc=>rw[spL,if_neg hc,WL h]
theorem Wi{c:Nat}:∀{l:List Nat} {k:Nat},c∉l->Uj c k l=[]
 | [],_,_=>rfl
 | a::l,k,h=>by rw[Uj,if_neg fun e=>h (by rw[e];exact QB),Wi fun m=>h (Qj _ m)]
noncomputable def mkS(l:List Nat):Str:=⟨l.toArray⟩
theorem JdZ(l:List Nat)(c:Nat)(hc:c<256):G6 (mkS l) ⟨#[c]⟩=(spL c l).map mkS:=by
 have o:Q8 (mkS l) ⟨#[c]⟩ 0 (mkS l).length ((mkS l).length+1)=Uj c 0 l:=by rw[Jhf];rfl
 unfold G6;split
 ·next h =>
  have k1:GC (⟨#[c]⟩:Str)=1:=by unfold GC;rw[if_pos (by simp[hc])]
  have k2:¬GC (mkS l)<1:=by unfold GC;split <;> (try split) <;> omega
  rw[k1,decide_eq_false k2,Mz,decide_eq_true_iff] at h
  have:l=[]:=Gs (by
   have h':l.toArray.size<1:=h
   simpa using h')
  subst this;rfl
 ·rw[o];split
  ·next h=>have:Uj c 0 l=[]:=List.isEmpty_iff.mp h;rw[WL this];rfl
  ·unfold LO;have p:=Vo l c l 0 0 rfl (Qr _)
   have e:spL c l=((0::(Uj c 0 l).map (·+1)).zip (Uj c 0 l++[l.length])).map (fun p=>(l.take p.2).drop p.1):=by
    rw[p]
    cases hs:spL c l with
    | nil=>rfl
    | cons p ps=>rfl
   rw[e,GF];have e2:(mkS l).length=l.length:=by show l.toArray.size=_;simp
   rw[e2];refine KB fun q _=>?_
   show(⟨l.toArray.extract q.1 q.2⟩:Str)=mkS ((l.take q.2).drop q.1);unfold mkS;congr 1;simp[List.extract_eq_drop_take,List.drop_take]
theorem JaO(c:Nat):∀l:List Nat,spL c l≠[]
 | []=>by simp[spL]
 | a::l=>by
  rw[spL];split
  ·simp
  ·split <;> simp
theorem JfJ{c:Nat}{p:List Nat}(h:c∉p):spL c p=[p]:=WL (k:=0) (Wi h)
theorem Uh{c:Nat}:∀{p:List Nat} (r:List Nat),c∉p->spL c (p++c::r)=p::spL c r
 | [],r,_=>by show spL c (c::r)=_;rw[spL,if_pos rfl]
 | a::p,r,h=>by show spL c (a::(p++c::r))=_;rw[spL,if_neg fun e=>h (by rw[e];exact QB),Uh r fun m=>h (Qj _ m)]
noncomputable def Ud(n:Int):List Nat:=match n with
 | Int.ofNat m=>YL m
 | Int.negSucc m=>45::YL (m+1)
theorem Vc(n:Int):strI n=tx (Ud n):=by
 cases n with
 | ofNat m=>exact Jbx m
 | negSucc m=>exact Jby m
theorem Y9{n:Int}(h:n.natAbs<10 ^ 200):(Ud n).length<=201/\okL (Ud n)=true/\JbE (Ud n)=n:=by obtain⟨l,e,h1,h2,h3⟩:=JjL n h;rw[Vc,Jcn] at e;rw[e];exact⟨h1,h2,h3⟩
theorem Jay{n:Int}(h:n.natAbs<10 ^ 200):VM (Ud n)=.int n:=by obtain⟨_,h2,h3⟩:=Y9 h;unfold VM;rw[if_pos h2,h3]
theorem Jbk(n:Int):∀c∈Ud n,c=45\/dig c=true:=by
 cases n with
 | ofNat m=>exact fun c hc=>.inr (Q4.mp (Vw m) c hc)
 | negSucc m =>
  intro c hc;rcases Qv.mp hc with e|e
  ·exact .inl e
  ·exact .inr (Q4.mp (Vw (m+1)) c e)
theorem Je1{n:Int}{c:Nat}(h1:c≠45)(h2:dig c=false):c∉Ud n:=fun hc=>by
 rcases Jbk n c hc with e|e
 ·exact h1 e
 ·rw[h2] at e;cases e
noncomputable abbrev Tr:=Int×Int×Int
noncomputable def trE(t:Tr):D:=.tup [.int t.1,.int t.2.1,.int t.2.2]
theorem JcL:Kd trE 2:=⟨fun _=>rfl,fun _=>by simp[trE,D.py,D.pyL,GR,Gn],fun a b=>by obtain⟨a1,a2,a3⟩:=a;obtain⟨b1,b2,b3⟩:=b;simp[trE,D.py,D.pyL,Gx,Gh]⟩
theorem JiZ(a b:List Tr):eqA (.lst (a.map trE)) (.lst (b.map trE))=some (decide (a=b)):=(V6 JcL).eq (by decide) a b
noncomputable def VG(l:List Tr):Int:=(l.map (·.2.2)).sum
noncomputable abbrev ctB:Es:=(Jk (xIf (tOr? (tB? (e2 fLt (Jb 2) (eC (.int 1)))) (tB? (e2 fLt (Jb 4) (eC (.int 1))))) Yg Jx) (Jk (xIf (tAnd? (tB? (e2 Y5 (Jb 1) (eC .non))) (tB? (e2 WJ (YR (aC (Jb 2) (aC (Jb 3) a0))) (Jb 1)))) Yg Jx) (Jl 1 (YR (aC (Jb 2) (aC (Jb 3) a0))))))
noncomputable abbrev ctP:Pt:=(.tp (.cons (.nm 2) (.cons (.nm 3) (.cons (.nm 4) .nil))))
noncomputable def VY:Option Pr->List Tr->Prop
 | _,[]=>True
 | a,t::r=>1<=t.1/\1<=t.2.2/\(∀b,a=some b->b.1<t.1\/(b.1=t.1/\b.2<t.2.1))/\VY (some (t.1,t.2.1)) r
noncomputable def ahE:Option Pr->D
 | none=>.non
 | some p=>prE p
theorem Jai(x:Sl):∀(tb:List Tr) (a:Option Pr) (j2 j3 j4:Sl),VY a tb->∃E',Yf ctP ctB (tb.map trE) [x,.sh (ahE a),j2,j3,j4]=some (.nx (x::E'))/\E'.length=4
 | [],a,j2,j3,j4,_=>⟨_,rfl,rfl⟩
 | t::r,a,j2,j3,j4,h=>by
  obtain⟨h1,h2,h3,h4⟩:=h;obtain⟨E',ih⟩:=Jai x r (some (t.1,t.2.1)) (.sh (.int t.1)) (.sh (.int t.2.1)) (.sh (.int t.2.2)) h4;refine⟨E',?_,ih.2⟩;rw[Qt,Yf];simp only[trE];walk_at "ev";rw[decide_eq_false (show ¬t.1<1 by omega)];walk_at "ev";rw[decide_eq_false (show ¬t.2.2<1 by omega)];walk_at "ev"
  cases a with
  | none=>simp only[ahE];walk_at "ev";exact ih.1
  | some b =>
   have hb:=h3 b rfl;simp only[ahE,prE];walk_at "ev"
   have e:(if t.1=b.1 then decide (t.2.1<=b.2) else decide (t.1<=b.1))=false:=by
    split
    ·exact decide_eq_false (by omega)
    ·exact decide_eq_false (by omega)
   rw[e];walk_at "ev";exact ih.1
theorem Jmy(tb:List Tr)(h:VY none tb)(hs:VG tb<=30)(hl:tb.length<=30):∃r,Jz [.bo (tb.map trE)]=some r:=by
 obtain⟨E',e,el⟩:=Jai (.bo (tb.map trE)) tb none .no .no .no h;unfold Jz;walk_at "ev";rw[show Yf ctP ctB (tb.map trE) [.bo (tb.map trE),.sh .non,.no,.no,.no]=_ from e];walk_at "ev";rw[Y4 (g:=fun t:Tr=>D.int t.2.2)]
 ·walk_at "ev";rw[U9 (ns:=tb.map (·.2.2)) (by simp[Sl.q])];walk_at "ev";rw[decide_eq_false (show ¬(tb.map (·.2.2)).sum>30 from by unfold VG at hs;omega (config:={}))];walk_at "ev";exact⟨_,rfl⟩
 ·intro t _;simp only[trE];walk_at "ev"
theorem JgX{α β:Type}(f:Nat->α->β)(xs:List α):xs.mapIdx f=xs.zipIdx.map fun x=>f x.2 x.1:=by
 refine List.ext_getElem? fun i=>?_
 rw[Kp,QR,List.getElem?_zipIdx,Option.map_map];simp;rfl
noncomputable abbrev ctX:Xv:=(Yd (xIf (tOr? (tB? (e2 fLt (Jb 2) (eC (.int 1)))) (tB? (e2 fLt (Jb 4) (eC (.int 1))))) Yg Jx) (V2 (tOr? (tB? (e2 fLt (Jb 2) (eC (.int 1)))) (tB? (e2 fLt (Jb 4) (eC (.int 1))))) (YT "BadTable" (aC (eC (.str "sizes and numbers of lumps are from 1 on")) a0)) YS) (Yd (xIf (tAnd? (tB? (e2 Y5 (Jb 1) (eC .non))) (tB? (e2 WJ (YR (aC (Jb 2) (aC (Jb 3) a0))) (Jb 1)))) Yg Jx) (V2 (tAnd? (tB? (e2 Y5 (Jb 1) (eC .non))) (tB? (e2 WJ (YR (aC (Jb 2) (aC (Jb 3) a0))) (Jb 1)))) (YT "BadTable" (aC (eC (.str "a table is ascending, with each size and spot once")) a0)) YS) YS))
noncomputable def noT:Option Pr->Tr->Bool
 | none,_=>false
 | some b,t=>if t.1=b.1 then decide (t.2.1<=b.2) else decide (t.1<=b.1)
noncomputable def Vd:Option Pr->List Tr->Bool
 | _,[]=>false
 | a,t::r=>(decide (t.1<1) || decide (t.2.2<1)) || (noT a t || Vd (some (t.1,t.2.1)) r)
theorem Jhb(a:Option Pr)(t:Tr):noT a t=false↔∀b,a=some b->b.1<t.1\/(b.1=t.1/\b.2<t.2.1):=by
 cases a with
 | none=>exact⟨fun _ b e=>(nomatch e),fun _=>rfl⟩
 | some b =>
  have e:noT (some b) t=(if t.1=b.1 then decide (t.2.1<=b.2) else decide (t.1<=b.1)):=rfl;rw[e]
  by_cases c:t.1=b.1
  ·rw[if_pos c,decide_eq_false_iff_not];exact⟨fun h d e=>by cases e;omega,fun h=>by have:=h b rfl;omega⟩
  ·rw[if_neg c,decide_eq_false_iff_not];exact⟨fun h d e=>by cases e;omega,fun h=>by have:=h b rfl;omega⟩
theorem bad_asc:∀{tb:List Tr} {a:Option Pr},Vd a tb=false↔VY a tb
 | [],_=>⟨fun _=>trivial,fun _=>rfl⟩
 | t::r,a=>by
  rw[Vd,VY,Kq,Kq,Kq,bad_asc,Jhb,decide_eq_false_iff_not,decide_eq_false_iff_not];constructor
  ·rintro⟨⟨h1,h2⟩,h3,h4⟩;exact⟨by omega,by omega,h3,h4⟩
  ·rintro⟨h1,h2,h3,h4⟩;exact⟨⟨by omega,by omega⟩,h3,h4⟩
theorem Jek(t:Tr)(x y j2 j3 j4:Sl):ctP.bind (trE t) [x,y,j2,j3,j4]=some [x,y,.sh (.int t.1),.sh (.int t.2.1),.sh (.int t.2.2)]:=by simp only[trE];walk_at "ev"
theorem Jej(x:Sl)(a:Option Pr)(t:Tr):ctB [x,.sh (ahE a),.sh (.int t.1),.sh (.int t.2.1),.sh (.int t.2.2)]=if (decide (t.1<1) || decide (t.2.2<1))=true then none else if noT a t=true then none else some (.nx [x,.sh (ahE (some (t.1,t.2.1))),.sh (.int t.1),.sh (.int t.2.1),.sh (.int t.2.2)]):=by
 walk_at "ev"
 cases h1:decide (t.1<1) with
 | true=>walk_at "ev";try rfl
 | false =>
  walk_at "ev"
  cases h2:decide (t.2.2<1) with
  | true=>walk_at "ev";try rfl
  | false =>
   walk_at "ev"
   cases a with
   | none =>
    simp only[ahE];walk_at "ev"
    try rfl
   | some b =>
    simp only[ahE,prE];walk_at "ev";show _=if noT (some b) t=true then _ else _
    rw[show(if t.1=b.1 then decide (t.2.1<=b.2) else decide (t.1<=b.1))=noT (some b) t from rfl]
    cases noT (some b) t with
    | true=>walk_at "ev";try rfl
    | false=>walk_at "ev";try rfl
theorem Jel(x:Sl)(a:Option Pr)(t:Tr):ctX [x,.sh (ahE a),.sh (.int t.1),.sh (.int t.2.1),.sh (.int t.2.2)]=if (decide (t.1<1) || decide (t.2.2<1))=true then some ⟨Qf "BadTable",none⟩ else if noT a t=true then some ⟨Qf "BadTable",none⟩ else none:=by
 unfold ctX Yd V2 YT YS;walk_at "ev"
 cases h1:decide (t.1<1) with
 | true=>walk_at "ev";try rfl
 | false =>
  walk_at "ev"
  cases h2:decide (t.2.2<1) with
  | true=>walk_at "ev";try rfl
  | false =>
   walk_at "ev"
   cases a with
   | none =>
    simp only[ahE];walk_at "ev"
    try rfl
   | some b =>
    simp only[ahE,prE];walk_at "ev";show _=if noT (some b) t=true then _ else _
    rw[show(if t.1=b.1 then decide (t.2.1<=b.2) else decide (t.1<=b.1))=noT (some b) t from rfl]
    cases noT (some b) t with
    | true=>walk_at "ev";try rfl
    | false=>walk_at "ev";try rfl
theorem Jem(x:Sl):∀(tb:List Tr) (a:Option Pr) (j2 j3 j4:Sl),Vd a tb=true->Yf ctP ctB (tb.map trE) [x,.sh (ahE a),j2,j3,j4]=none/\Ys ctP ctB ctX (tb.map trE) [x,.sh (ahE a),j2,j3,j4]=some ⟨Qf "BadTable",none⟩
 | [],a,j2,j3,j4,h=>by cases h
 | t::r,a,j2,j3,j4,h=>by
  rw[Vd] at h;rw[Qt,Yf,Ys];simp only[Jek,Qi,Jej,Jel]
  cases h1:(decide (t.1<1) || decide (t.2.2<1)) with
  | true=>exact⟨rfl,rfl⟩
  | false =>
   rw[h1,LJ] at h
   cases h2:noT a t with
   | true=>exact⟨rfl,rfl⟩
   | false=>rw[h2,LJ] at h;exact Jem x r (some (t.1,t.2.1)) _ _ _ h
theorem Jcv(x:Sl):∀(tb:List Tr) (a:Option Pr) (j2 j3 j4:Sl),Vd a tb=false->Ys ctP ctB ctX (tb.map trE) [x,.sh (ahE a),j2,j3,j4]=none
 | [],a,j2,j3,j4,h=>rfl
 | t::r,a,j2,j3,j4,h=>by
  rw[Vd] at h;simp only[Kq] at h;have h1:(decide (t.1<1) || decide (t.2.2<1))=false:=by rw[h.1.1,h.1.2];rfl
  rw[Qt,Ys];simp only[Jek,Qi,Jej,Jel,h1,h.2.1,if_neg QA];exact Jcv x r (some (t.1,t.2.1)) _ _ _ h.2.2
theorem VA{a:Es}{ea eb:Xv}{E E':En}(h1:ea E=none)(h2:a E=some (.nx E')):Yd a ea eb E=eb E':=by unfold Yd;rw[h1,h2]
theorem Jan{a:Es}{ea eb:Xv}{E:En}{m:Xm}(h1:ea E=some m):Yd a ea eb E=some m:=by unfold Yd;rw[h1]
noncomputable abbrev ctT:Xv:=(V2 (tB? (e2 fGt (eF V4 (aC (Ur (iE true (Jb 0)) (.tp (.cons (.nm 0) (.cons (.nm 1) (.cons (.nm 2) .nil)))) yes? (Jb 2) [none,none,none]) a0)) (eC (.int 30)))) (YT "TooMany" (aC (eC (.str "a table has at most 30 lumps in all")) a0)) YS)
theorem Jio(x:Sl):JS [x]=Yd (UU (iV 0) ctP ctB) (Wh (iV 0) ctP ctB ctX) ctT [x,.sh .non,.no,.no,.no]:=rfl
theorem JjT(tb:List Tr):Y2 (.tp (.cons (.nm 0) (.cons (.nm 1) (.cons (.nm 2) .nil)))) yes? (Jb 2) [.no,.no,.no] (tb.map trE)=some (tb.map fun t=>D.int t.2.2):=Y4 fun t _=>by simp only[trE];walk_at "ev"
theorem Jla:Qf "lump"=tx [108,117,109,112]:=by decide +kernel
theorem JmR:Qf "at"=tx [97,116]:=by decide +kernel
theorem Jif:Qf "times"=tx [116,105,109,101,115]:=by decide +kernel
theorem Jic:Qf "lump "=tx [108,117,109,112,32]:=by decide +kernel
theorem Jmj:Qf " at "=tx [32,97,116,32]:=by decide +kernel
theorem Jf1:Qf " times "=tx [32,116,105,109,101,115,32]:=by decide +kernel
noncomputable def JH(t:Tr):List Nat:=[108,117,109,112]++32::(Ud t.1++32::([97,116]++32::(Ud t.2.1++32::([116,105,109,101,115]++32::Ud t.2.2))))
noncomputable def Y1(t:Tr):Prop:=t.1.natAbs<10 ^ 200/\t.2.1.natAbs<10 ^ 200/\t.2.2.natAbs<10 ^ 200
theorem Jav{t:Tr}(h:Y1 t):(JH t).length<=640:=by
 have a:=(Y9 h.1).1
 have b:=(Y9 h.2.1).1
 have c:=(Y9 h.2.2).1;unfold JH;simp only[Qh,Qk,QV];omega
theorem JjK(t:Tr):spL 32 (JH t)=[[108,117,109,112],Ud t.1,[97,116],Ud t.2.1,[116,105,109,101,115],Ud t.2.2]:=by
 have n:∀x:Int,32∉Ud x:=fun x=>Je1 (by decide) (by decide)
 unfold JH;rw[Uh _ (by decide),Uh _ (n _),Uh _ (by decide),Uh _ (n _),Uh _ (by decide),JfJ (n _)]
theorem JbU(t:Tr):10∉JH t:=by
 have n:∀x:Int,10∉Ud x:=fun x=>Je1 (by decide) (by decide)
 have n1:=n t.1
 have n2:=n t.2.1
 have n3:=n t.2.2;unfold JH;simp[n1,n2,n3]
noncomputable def JaQ:List Tr->List Nat
 | []=>[]
 | t::r=>JH t++10::JaQ r
theorem JfS:∀ts:List Tr,spL 10 (JaQ ts)=ts.map JH++[[]]
 | []=>rfl
 | t::r=>by rw[JaQ,Uh _ (JbU t),JfS r];rfl
theorem Jc7:∀{ts:List Tr},(∀t∈ts,Y1 t)->(JaQ ts).length<=641*ts.length
 | [],_=>Qr _
 | t::r,h=>by
  have a:=Jav (h t QB)
  have b:=Jc7 fun q hq=>h q (Qj _ hq)
  rw[JaQ,Qh,Qk,Qk];omega
theorem Jcj(l:List Nat)(c:Nat)(hc:c<256)(h1:l.length<=16777216)(h2:(spL c l).length<=16777216):UB (tx l) [.sh (.str (tx [c]))]=some (.own ((spL c l).map fun p=>D.str (tx p))):=by
 have e:G6 (tx l) (tx [c])=(spL c l).map mkS:=JdZ l c hc
 show(if _ then _ else _)=_;rw[e,if_pos ⟨rfl,by rw[J9];exact h1,by rw[Qy];exact h2⟩,GF];rfl
theorem Jid:Qf "\n"=tx [10]:=by decide +kernel
theorem Jib:Qf " "=tx [32]:=by decide +kernel
theorem Jjl{α:Type}(p q r s t u:α):Zz false [p,q,r,s,t,u]=[p,r,t]:=rfl
theorem Jjm{α:Type}(p q r s t u:α):Zz true [p,q,r,s,t,u]=[q,s,u]:=rfl
theorem Jie:Qf ""=tx []:=by decide +kernel
theorem Jci{x:Int}(h:x.natAbs<10 ^ 200):Small x:=Small.of (G9 h (by decide +kernel))
theorem ZR{z:Str}{s:Sl}{ys:List Str}(e:s.r=some (ys.map D.str))(h:(ys.map (·.length)).sum+ys.length*z.length<=16777216):UZ z [s]=some (.sh (.str (K7 z ys))):=by show(s.r.bind _)=_;rw[e,Qi,JbA,Qi,if_pos h]
theorem Jbe:∀ts:List Tr,K7 GG (ts.map fun t=>tx (JH t++[10]))=tx (JaQ ts)
 | []=>rfl
 | [t]=>by show tx (JH t++[10])=tx (JH t++10::[]);rfl
 | t::u::r=>by
  have ih:=Jbe (u::r)
  show tx (JH t++[10])++GG++K7 GG ((u::r).map fun t=>tx (JH t++[10]))=_;rw[ih,show GG=tx [] from rfl,UO,UO];congr 1;rw[QT,Gk];rfl
theorem Jc5:∀{ts:List Tr},(∀t∈ts,Y1 t)->((ts.map fun t=>tx (JH t++[10])).map (·.length)).sum<=641*ts.length
 | [],_=>Qr _
 | t::r,h=>by
  have a:=Jav (h t QB)
  have b:=Jc5 fun q hq=>h q (Qj _ hq)
  rw[Qt,Qt,MA,Qk,J9,Qh,QE];omega
theorem Jdb:Qf ""=GG:=by decide +kernel
theorem Jg2(ts:List Tr)(hl:ts.length<=30)(h:∀t∈ts,Y1 t){s:Sl}(e:s.r=some (ts.map fun t=>D.str (tx (JH t++[10])))):UZ (Qf "") [s]=some (.sh (.str (tx (JaQ ts)))):=by
 have st:=Jc5 h;rw[Jdb,ZR (ys:=ts.map fun t=>tx (JH t++[10])) (by rw[e,GF];rfl) (by
  have:GG.length=0:=rfl;rw[this];omega),Jbe]
theorem JdK(ts:List Tr)(hl:ts.length<=30)(h:∀t∈ts,Y1 t):JU [.sh (.lst (ts.map trE))]=some (.sh (.str (tx (JaQ ts)))):=by
 unfold JU;walk_at "ev";rw[Option.bind_assoc];refine WV (f:=trE) (fun(rest:List Tr) (s:List Tr) E=>s++rest=ts/\∃j2 j3 j4,E=[.sh (.lst (ts.map trE)),.own (s.map fun t=>D.str (tx (JH t++[10]))),j2,j3,j4]) (fun s x=>s++[x]) (as:=ts) [] ⟨rfl,_,_,_,rfl⟩ ?_ ?_
 ·rintro t rest s E ⟨e,j2,j3,j4,rfl⟩;have ht:t∈ts:=by rw[<- e];simp
  have f:=h t ht
  have sl:s.length+1<=30:=by have:=congrArg Mo e;rw[Qh,Qk] at this;omega
  have q1:=Jci f.1
  have q2:=Jci f.2.1
  have q3:=Jci f.2.2;unfold Small at q1 q2 q3
  have l1:=(Y9 f.1).1
  have l2:=(Y9 f.2.1).1
  have l3:=(Y9 f.2.2).1;simp only[trE];walk_at "ev";rw[Vc,Vc,Vc,Jic,Jmj,Jf1,Jid]
  have ad:∀a b:List Nat,a.length+b.length<=2000->JJ (.sh (.str (tx a))) (.sh (.str (tx b)))=some (.sh (.str (tx (a++b)))):=fun a b hab=>by rw[Wt (by rw[J9,J9];omega),UO]
  rw[ad _ _ (by simp only[Qh,Qk,QV];omega),Qi,ad _ _ (by simp only[Qh,Qk,QV];omega),Qi,
   ad _ _ (by simp only[Qh,Qk,QV];omega),Qi,ad _ _ (by simp only[Qh,Qk,QV];omega),Qi,
   ad _ _ (by simp only[Qh,Qk,QV];omega),Qi,ad _ _ (by simp only[Qh,Qk,QV];omega),Qi]
  walk_at "ev";refine⟨by rw[Gk];exact e,.sh (.int t.1),.sh (.int t.2.1),.sh (.int t.2.2),?_⟩;rw[QU,Qt,Gj]
  have el:108::117::109::112::32::(Ud t.1++[32,97,116,32]++Ud t.2.1++[32,116,105,109,101,115,32]++Ud t.2.2++[10])=JH t++[10]:=by unfold JH;simp
  rw[el]
 ·rintro E' ⟨e,j2,j3,j4,rfl⟩;rw[QT] at e;rw[e];walk_at "ev";rw[Jg2 ts hl h (by simp[Sl.r])];walk_at "ev"
structure Tp where
 size:Int
 spot:Int
 total:Int
 tb:List Tr
noncomputable def mor(ns:List Int)(span:Int)(i:Nat):Int:=cell ns (1+3*(i:Int)) % span
noncomputable def awy(ns:List Int)(span:Int)(i:Nat):Int:=cell ns (2+3*(i:Int)) % (2*span+1)-span
noncomputable def mny(ns:List Int)(i:Nat):Int:=1+cell ns (3+3*(i:Int)) % 4
noncomputable def abI(a:Int):Int:=if a<0 then -a else a
noncomputable def stp(a m w n:Int)(s:Tp):Tp:=⟨if m=0/\s.size>0 then s.size else s.size+max 1 m,if m=0/\s.size>0 then s.spot+1+abI w else w,s.total+n,
 if s.total+n<=30 then s.tb++[(if m=0/\s.size>0 then s.size else s.size+max 1 m,if m=0/\s.size>0 then s.spot+1+abI w else w,n)] else s.tb⟩
noncomputable def Yu(ns:List Int)(span:Int):Nat->Tp
 | 0=>⟨0,0,0,[]⟩
 | i+1=>stp 0 (mor ns span i) (awy ns span i) (mny ns i) (Yu ns span i)
noncomputable def JcM:Option Pr->List Tr->Option Pr
 | a,[]=>a
 | _,t::r=>JcM (some (t.1,t.2.1)) r
theorem JaU(u:Tr)(h1:1<=u.1)(h2:1<=u.2.2):∀(tb:List Tr) (a:Option Pr),VY a tb->(∀b,JcM a tb=some b->b.1<u.1\/(b.1=u.1/\b.2<u.2.1))->VY a (tb++[u])
 | [],a,_,h=>⟨h1,h2,h,trivial⟩
 | t::r,a,⟨x,y,z,w⟩,h=>⟨x,y,z,JaU u h1 h2 r _ w h⟩
theorem WS(u:Tr):∀(tb:List Tr) (a:Option Pr),JcM a (tb++[u])=some (u.1,u.2.1)
 | [],_=>rfl
 | t::r,_=>WS u r _
theorem Jbl(tb:List Tr)(u:Tr):VG (tb++[u])=VG tb+u.2.2:=by unfold VG;rw[QU,List.sum_append];simp
theorem Wy(ns:List Int)(span:Int)(h0:0<span)(h1:span<=10 ^ 40):∀i:Nat,i<=16->0<=(Yu ns span i).size/\(Yu ns span i).size<=i*10 ^ 40/\-(10 ^ 40)<=(Yu ns span i).spot/\(Yu ns span i).spot<=i*(10 ^ 40+1)+10 ^ 40/\0<=(Yu ns span i).total ∧
 VY none (Yu ns span i).tb/\VG (Yu ns span i).tb<=30/\(Yu ns span i).tb.length<=i/\(∀t∈(Yu ns span i).tb,Y1 t) ∧
 ((Yu ns span i).total<=30->VG (Yu ns span i).tb=(Yu ns span i).total/\∀b,JcM none (Yu ns span i).tb=some b->b=((Yu ns span i).size,(Yu ns span i).spot)/\0<(Yu ns span i).size)
 | 0,_=>⟨Int.le_refl _,by show(0:Int)<=_;omega,by show _<=(0:Int);omega,by show(0:Int)<=_;omega,Int.le_refl _,trivial,by show(0:Int)<=30;omega,Qr _,fun t h=>absurd h K3,fun _=>⟨rfl,fun b e=>by cases e⟩⟩
 | i+1,hi=>by
  obtain⟨a1,a2,a3,a4,a5,a6,a7,a8,a9,a10⟩:=Wy ns span h0 h1 i (by omega);have m0:0<=mor ns span i:=Gz _ (by omega);have m1:mor ns span i<span:=GL _ h0
  have w0:-span<=awy ns span i/\awy ns span i<=span:=by
   have x:=Gz (cell ns (2+3*(i:Int))) (b:=2*span+1) (by omega)
   have y:=GL (cell ns (2+3*(i:Int))) (b:=2*span+1) (by omega);unfold awy;omega
  have n0:1<=mny ns i/\mny ns i<=4:=by unfold mny;omega
  have e:Yu ns span (i+1)=stp 0 (mor ns span i) (awy ns span i) (mny ns i) (Yu ns span i):=rfl;rw[e]
  generalize Yu ns span i=s at a1 a2 a3 a4 a5 a6 a7 a8 a9 a10
  generalize mor ns span i=m at m0 m1
  generalize awy ns span i=w at w0
  generalize mny ns i=n at n0
  have ab:0<=abI w/\abI w<=span:=by unfold abI;split <;> omega
  have ei:((i+1:Nat):Int)=(i:Int)+1:=by omega
  have key:∃z y:Int,(stp 0 m w n s).size=z/\(stp 0 m w n s).spot=y/\0<z/\z<=((i:Int)+1)*10 ^ 40/\-(10 ^ 40)<=y/\y<=((i:Int)+1)*(10 ^ 40+1)+10 ^ 40/\(s.size<z\/(s.size=z/\s.spot<y))/\(stp 0 m w n s).total=s.total+n/\(stp 0 m w n s).tb=if s.total+n<=30 then s.tb++[(z,y,n)] else s.tb:=by
   by_cases c:m=0/\s.size>0
   ·refine⟨s.size,s.spot+1+abI w,if_pos c,if_pos c,c.2,by omega,by omega,by omega,.inr ⟨rfl,by omega⟩,rfl,by unfold stp;simp only[if_pos c]⟩
   ·refine⟨s.size+max 1 m,w,if_neg c,if_neg c,by omega,by omega,by omega,by omega,.inl (by omega),rfl,by unfold stp;simp only[if_neg c]⟩
  obtain⟨z,y,k1,k2,k3,k4,k5,k6,k7,k8,k9⟩:=key;rw[k1,k2,k8,k9,ei];refine⟨by omega,k4,k5,k6,by omega,?_⟩
  by_cases ct:s.total+n<=30
  ·rw[if_pos ct];obtain⟨b1,b2⟩:=a10 (by omega);refine⟨JaU (z,y,n) (by show 1<=z;omega) n0.1 s.tb none a6 (fun b hb=>?_),by rw[Jbl,b1];exact ct,by rw[Qh,QE];omega,fun t ht=>?_,fun _=>⟨by rw[Jbl,b1],fun b hb=>?_⟩⟩
   ·obtain⟨c1,c2⟩:=b2 b hb;subst c1;exact k7
   ·rcases Gm.mp ht with x|x
    ·exact a9 t x
    ·rw[Lu] at x;subst x;unfold Y1;dsimp only;omega
   ·rw[WS] at hb;cases hb;exact⟨rfl,k3⟩
  ·rw[if_neg ct];exact⟨a6,a7,by omega,a9,fun h=>absurd h ct⟩
noncomputable abbrev tpB:Es:=(Jk (Jl 8 (e2 Yt (eU 2 JM (aC (Jb 0) (aC (e2 JJ (eC (.int 1)) (e2 V3 (eC (.int 3)) (Jb 7))) a0))) (Jb 2))) (Jk (Jl 9 (e2 Vi (e2 Yt (eU 2 JM (aC (Jb 0) (aC (e2 JJ (eC (.int 2)) (e2 V3 (eC (.int 3)) (Jb 7))) a0))) (e2 JJ (e2 V3 (eC (.int 2)) (Jb 2)) (eC (.int 1)))) (Jb 2))) (Jk (Jl 10 (e2 JJ (eC (.int 1)) (e2 Yt (eU 2 JM (aC (Jb 0) (aC (e2 JJ (eC (.int 3)) (e2 V3 (eC (.int 3)) (Jb 7))) a0))) (eC (.int 4))))) (Jk (xIf (tAnd? (tB? (e2 fEq (Jb 8) (eC (.int 0)))) (tB? (e2 fGt (Jb 4) (eC (.int 0))))) (Jl 5 (e2 JJ (e2 JJ (Jb 5) (eC (.int 1))) (eF Jez (aC (Jb 9) a0)))) (Jk (Jl 4 (e2 JJ (Jb 4) (eF JeE (aC (eC (.int 1)) (aC (Jb 8) a0))))) (Jl 5 (Jb 9)))) (Jk (Jl 6 (e2 JJ (Jb 6) (Jb 10))) (xIf (tB? (e2 fLe (Jb 6) (eC (.int 30)))) (Wq 3 (YR (aC (Jb 4) (aC (Jb 5) (aC (Jb 10) a0))))) Jx))))))
theorem Jh9(ns:List Int)(c span:Int)(i:Nat)(hs:0<span)(hb:span<=10 ^ 40)(hi:i<16)(s:Tp)(hl:s.tb.length<=16)(j7 j8 j9 j10:Sl):okS (fun E=>∃j7 j8 j9 j10,E=[.sh (.fz (ns.map .int)),.sh (.int c),.sh (.int span),.own ((stp 0 (mor ns span i) (awy ns span i) (mny ns i) s).tb.map trE),.sh (.int (stp 0 (mor ns span i) (awy ns span i) (mny ns i) s).size),.sh (.int (stp 0 (mor ns span i) (awy ns span i) (mny ns i) s).spot),.sh (.int (stp 0 (mor ns span i) (awy ns span i) (mny ns i) s).total),j7,j8,j9,j10])
 (((Pt.nm 7).bind (.int (i:Int)) [.sh (.fz (ns.map .int)),.sh (.int c),.sh (.int span),.own (s.tb.map trE),.sh (.int s.size),.sh (.int s.spot),.sh (.int s.total),j7,j8,j9,j10]).bind tpB):=by
 have em:cell ns (1+3*(i:Int)) % span=mor ns span i:=rfl
 have ea:cell ns (2+3*(i:Int)) % (2*span+1)-span=awy ns span i:=rfl
 have en:1+cell ns (3+3*(i:Int)) % 4=mny ns i:=rfl
 have fa:∀a:Int,Jez [.sh (.int a)]=some (.sh (.int (abI a))):=fun _=>rfl
 have ap:∀z y n:Int,[D.tup [.int z,.int y,.int n]]=[((z,y,n):Tr)].map trE:=fun _ _ _=>rfl
 walk_at "ev";rw[WW _ _ (by omega)];walk_at "ev";rw[em,WW _ _ (by omega)];walk_at "ev";rw[ea,WW _ _ (by omega)];walk_at "ev";rw[en]
 generalize mor ns span i=m
 generalize awy ns span i=w
 generalize mny ns i=n
 by_cases c1:m=0
 ·rw[decide_eq_true c1];walk_at "ev"
  by_cases c2:s.size>0
  ·have cc:m=0/\s.size>0:=⟨c1,c2⟩
   rw[show decide (0<s.size)=true from decide_eq_true c2];walk_at "ev";rw[fa];walk_at "ev";unfold stp;simp only[if_pos cc]
   by_cases c3:s.total+n<=30
   ·rw[decide_eq_true c3];walk_at "ev";rw[ap,<- QU];exact⟨_,_,_,_,rfl⟩
   ·rw[decide_eq_false c3];walk_at "ev";rw[if_neg c3];exact⟨_,_,_,_,rfl⟩
  ·have cc:¬(m=0/\s.size>0):=fun z=>c2 z.2
   rw[show decide (0<s.size)=false from decide_eq_false c2];walk_at "ev";unfold stp;simp only[if_neg cc]
   by_cases c3:s.total+n<=30
   ·rw[decide_eq_true c3];walk_at "ev";rw[ap,<- QU];exact⟨_,_,_,_,rfl⟩
   ·rw[decide_eq_false c3];walk_at "ev";rw[if_neg c3];exact⟨_,_,_,_,rfl⟩
 ·have cc:¬(m=0/\s.size>0):=fun z=>c1 z.1
  rw[decide_eq_false c1];walk_at "ev";unfold stp;simp only[if_neg cc]
  by_cases c3:s.total+n<=30
  ·rw[decide_eq_true c3];walk_at "ev";rw[ap,<- QU];exact⟨_,_,_,_,rfl⟩
  ·rw[decide_eq_false c3];walk_at "ev";rw[if_neg c3];exact⟨_,_,_,_,rfl⟩
noncomputable def spn(ns:List Int):Int:=Je9 [3,40,10 ^ 40] (cell ns 0 / 16 % 3)
theorem JfK(ns:List Int):0<spn ns/\spn ns<=10 ^ 40:=Jfa (P:=fun z=>0<z/\z<=10 ^ 40) (by omega) (by show _<(3:Int);omega) (by decide)
noncomputable def trs(ns:List Int):List Tr:=(Yu ns (spn ns) (cell ns 0 % 16).toNat).tb
theorem JdM(ns:List Int):Ye [.sh (.fz (ns.map .int))]=some (.own ((trs ns).map trE)):=by
 obtain⟨s1,s2⟩:=JfK ns;have a4:=Jd8 (l:=[3,40,10 ^ 40]) (k:=cell ns 0 / 16 % 3) (by omega) (by show _<(3:Int);omega);simp only[Qt,Gj] at a4;unfold Ye;walk_at "ev";rw[WW _ _ (by omega)];walk_at "ev";rw[a4,show Je9 [3,40,10 ^ 40] (cell ns 0 / 16 % 3)=spn ns from rfl];walk_at "ev";rw[JmJ,Option.bind_assoc];refine JeX (fun i E=>∃j7 j8 j9 j10,E=[.sh (.fz (ns.map .int)),.sh (.int (cell ns 0)),.sh (.int (spn ns)),.own ((Yu ns (spn ns) i).tb.map trE),.sh (.int (Yu ns (spn ns) i).size),.sh (.int (Yu ns (spn ns) i).spot),.sh (.int (Yu ns (spn ns) i).total),j7,j8,j9,j10]) ⟨_,_,_,_,rfl⟩ ?_ ?_
 ·rintro i E hi ⟨j7,j8,j9,j10,rfl⟩;have hk:=(Wy ns (spn ns) s1 s2 i (by omega)).2.2.2.2.2.2.2.1;exact Jh9 ns (cell ns 0) (spn ns) i s1 s2 (by omega) (Yu ns (spn ns) i) (by omega) j7 j8 j9 j10
 ·rintro E' ⟨j7,j8,j9,j10,rfl⟩;walk_at "ev";rfl

theorem Ji0(a b c a' b' c':List Nat)(h1:Q7 (tx a)=true)(h2:Q7 (tx b)=true)(h3:Q7 (tx c)=true)(h1':Q7 (tx a')=true)(h2':Q7 (tx b')=true)(h3':Q7 (tx c')=true) :
 eqA (.lst [.str (tx a),.str (tx b),.str (tx c)]) (.lst [.str (tx a'),.str (tx b'),.str (tx c')])=some (decide (a=a'/\b=b'/\c=c')):=by
 show eqD _ _=_;unfold eqD
 have c1:(D.lst [.str (tx a),.str (tx b),.str (tx c)]).py.canLay0=true:=by simp only[D.py,D.pyL,GI,QS,h1,h2,h3,GY]
 have c2:(D.lst [.str (tx a'),.str (tx b'),.str (tx c')]).py.canLay0=true:=by simp only[D.py,D.pyL,GI,QS,h1',h2',h3',GY]
 have c3:min (D.lst [.str (tx a),.str (tx b),.str (tx c)]).py.depth (D.lst [.str (tx a'),.str (tx b'),.str (tx c')]).py.depth<=60:=by refine QK (Le _ _) ?_;simp[D.py,D.pyL,GR,Gn]
 rw[c1,c2,decide_eq_true c3,if_pos (by rfl)];congr 1;simp only[D.py,D.pyL,Gx,Gh,GY]
 have e:∀x y:List Nat,(tx x == tx y)=decide (x=y):=fun x y=>by rw[Ga,beq_iff_eq,decide_eq_true_eq,Jcn]
 rw[e,e,e,Ga];simp
noncomputable def LnD:Option (List Nat)->D
 | some w=>.str (tx w)
 | none=>.non
noncomputable def JdJ:List Nat:=[108,117,109,112]
noncomputable def atW:List Nat:=[97,116]
noncomputable def tmW:List Nat:=[116,105,109,101,115]
noncomputable def trD:Option Tr->D
 | some t=>trE t
 | none=>.non
noncomputable def lt6(b d f:List Nat):Option Tr:=match VM b,VM d,VM f with
 | .int x,.int y,.int z=>some (x,y,z)
 | _,_,_=>none
noncomputable def ltW:List (List Nat)->Option Tr
 | [a,b,c,d,e,f]=>if a=JdJ/\c=atW/\e=tmW then lt6 b d f else none
 | _=>none
noncomputable def ltL:Option (List Nat)->Option Tr
 | some w=>ltW (spL 32 w)
 | none=>none
theorem VN(l:List Nat):VM l=.non\/∃n,VM l=.int n:=by
 unfold VM;split
 ·exact .inr ⟨_,rfl⟩
 ·exact .inl rfl
theorem Jh2:∀l:List Nat,(spL 32 l).length<=l.length+1/\∀w∈spL 32 l,w.length<=l.length:=by
 intro l
 induction l with
 | nil=>simp[spL]
 | cons c r ih =>
  unfold spL;split
  ·refine⟨by rw[Qk,Qk];omega,fun w hw=>?_⟩;rcases Qv.mp hw with z|z
   ·rw[z];simp
   ·have:=ih.2 w z;rw[Qk];omega
  ·cases hs:spL 32 r with
   | nil=>exact absurd hs (JaO 32 r)
   | cons p q =>
    rw[hs] at ih;refine⟨by simp only[Qk] at ih ⊢;omega,fun w hw=>?_⟩;rcases Qv.mp hw with z|z
    ·rw[z,Qk,Qk];have:=ih.2 p (by simp);omega
    ·have:=ih.2 w (by simp only[Qv];exact .inr z);rw[Qk];omega
theorem Jls(b d f:List Nat)(hb:b.length<=640)(hd:d.length<=640)(hf:f.length<=640):Y2 (.nm 0) yes? (eU 1 J5 (aC (Jb 0) a0)) [.no] [.str (tx b),.str (tx d),.str (tx f)]=some [VM b,VM d,VM f]:=by
 have z:=Y4 (p:=.nm 0) (a:=eU 1 J5 (aC (Jb 0) a0)) (E1:=[.no]) (f:=fun n:List Nat=>D.str (tx n)) (g:=VM) (xs:=[b,d,f]) (fun n hn=>by
  have hl:n.length<=640:=by simp only[Qv,K3,or_false] at hn;rcases hn with e|e|e <;> subst e <;> assumption
  walk_at "ev";rw[JjN _ hl];walk_at "ev")
 exact z
theorem Jbz{l:List Nat}(h2:∀c∈l,c<256):Q7 (tx l)=true:=by unfold Q7 tx;rw[Array.all_eq_true'];intro c hc;have:=h2 c (by simpa using hc);exact decide_eq_true (by omega)
theorem Ze{n:Nat}:∀l:List Nat,(∀c∈l,c<n)->∀w∈spL 32 l,∀c∈w,c<n
 | [],_,w,hw,c,hc=>by simp[spL] at hw;subst hw;cases hc
 | a::l,h,w,hw,c,hc=>by
  unfold spL at hw;split at hw
  ·rcases Qv.mp hw with z|z
   ·subst z;cases hc
   ·exact Ze l (fun x hx=>h x (Qj _ hx)) w z c hc
  ·cases hs:spL 32 l with
   | nil=>exact absurd hs (JaO 32 l)
   | cons p q =>
    rw[hs] at hw;have ih:=Ze l (fun x hx=>h x (Qj _ hx));rw[hs] at ih;rcases Qv.mp hw with z|z
    ·subst z;rcases Qv.mp hc with y|y
     ·rw[y];exact h a (by simp)
     ·exact ih p (by simp) c y
    ·exact ih w (Qj _ z) c hc
theorem JlH(x:Option (List Nat))(hx:∀w,x=some w->w.length<=640/\∀c∈w,c<256):JG [.sh (LnD x)]=some (.sh (trD (ltL x))):=by
 cases x with
 | none=>unfold JG;simp only[LnD,ltL,trD];walk_at "ev";rfl
 | some w =>
  obtain⟨hw,hc⟩:=hx w rfl;obtain⟨s1,s2⟩:=Jh2 w;have f:=Jcj w 32 (by decide) (by omega) (by omega);simp only[LnD,ltL];unfold JG;walk_at "ev";rw[Jib,f];walk_at "ev"
  by_cases h6:(spL 32 w).length=6
  ·match hs:spL 32 w,h6 with
   | [a,b,c,d,e,g],_ =>
    rw[hs] at s2;have q:∀v∈[a,b,c,d,e,g],v.length<=640:=fun v hv=>by have:=s2 v hv;omega
    have qc:=Ze w hc;rw[hs] at qc
    have ok:∀v∈[a,b,c,d,e,g],Q7 (tx v)=true:=fun v hv=>Jbz (qc v hv)
    have eq:=Ji0 a c e JdJ atW tmW (ok a (by simp)) (ok c (by simp)) (ok e (by simp)) (by decide +kernel) (by decide +kernel) (by decide +kernel)
    have e3:=Jls b d g (q b (by simp)) (q d (by simp)) (q g (by simp));simp only[Qt,Gj];walk_at "ev";rw[show decide (((6:Nat):Int)=6)=true from rfl,Jjl,Jla,JmR,Jif,show eqA (D.lst [D.str (tx a),D.str (tx c),D.str (tx e)]) (D.lst [D.str (tx [108,117,109,112]),D.str (tx [97,116]),D.str (tx [116,105,109,101,115])])=_ from eq];rw[show ltW [a,b,c,d,e,g]=if a=JdJ/\c=atW/\e=tmW then lt6 b d g else none from rfl]
    by_cases hh:a=JdJ/\c=atW/\e=tmW
    ·rw[decide_eq_true hh,if_pos hh];walk_at "ev";rw[Jjm];walk_at "ev";rw[e3];unfold lt6;rcases VN b with z1 | ⟨n1,z1⟩
     ·rw[z1];rcases VN d with z2|⟨n2,z2⟩ <;> rcases VN g with z3|⟨n3,z3⟩ <;> rw[z2,z3] <;> rfl
     ·rw[z1];rcases VN d with z2|⟨n2,z2⟩ <;> rcases VN g with z3|⟨n3,z3⟩ <;> rw[z2,z3] <;> rfl
    ·rw[decide_eq_false hh,if_neg hh];walk_at "ev";rfl
  ·have d6:decide (((spL 32 w).length:Int)=6)=false:=decide_eq_false (by omega)
   have n6:ltW (spL 32 w)=none:=by
    unfold ltW;split
    ·next hh=>rw[hh] at h6;exact absurd rfl h6
    ·rfl
   rw[n6];rw[d6];walk_at "ev";rfl
noncomputable def lnO(l:List Nat):List (Option (List Nat)):=(spL 10 l).dropLast.map some++(if (spL 10 l).getLast?=some [] then [] else [none])
theorem JlG(l:List Nat)(h1:l.length<=16000000)(h2:(spL 10 l).length<=1000000):∃s,Yh [.sh (.str (tx l))]=some s/\s.it false=some ((lnO l).map LnD):=by
 have f:=Jcj l 10 (by decide) (by omega) (by omega)
 have ne:=JaO 10 l;obtain⟨r,z,hr⟩:∃r z,spL 10 l=r++[z]:=⟨_,_,(Ke ne).symm⟩
 rw[hr] at f h2;rw[QU,Qt,Gj] at f;rw[Qh,QE] at h2
 have ea:(r.map (fun p=>D.str (tx p))++[D.str (tx z)])[(r.map (fun p=>D.str (tx p))++[D.str (tx z)]).length-1]?=some (D.str (tx z)):=by rw[Qh,QE,Nat.add_sub_cancel,QM (Qr _)];simp
 have ln:lnO l=r.map some++(if z=[] then [] else [none]):=by unfold lnO;rw[hr,GS,La];simp
 have hm:r.map (LnD ∘ some)=r.map fun p=>D.str (tx p):=rfl
 unfold Yh;walk_at "ev";rw[Jid,f];walk_at "ev";rw[ea,GS];walk_at "ev";rw[Jie,JbM,ln,QU,GF,hm]
 by_cases hz:z=[]
 ·rw[decide_eq_true hz,if_pos hz];walk_at "ev";exact⟨_,rfl,rfl⟩
 ·rw[decide_eq_false hz,if_neg hz];walk_at "ev";exact⟨_,rfl,rfl⟩

noncomputable abbrev tdP:Pt:=(.tp (.cons (.nm 2) (.cons (.nm 3) .nil)))
noncomputable abbrev tdB:Es:=(Jk (Jl 4 (eU 1 JG (aC (Jb 3) a0))) (Jk (xIf (tB? (e2 fIs (Jb 4) (eC .non))) Yg Jx) (Wq 1 (Jb 4))))
noncomputable abbrev tdX:Xv:=(Yd (Jl 4 (eU 1 JG (aC (Jb 3) a0))) YS (Yd (xIf (tB? (e2 fIs (Jb 4) (eC .non))) Yg Jx) (V2 (tB? (e2 fIs (Jb 4) (eC .non))) (Vz "BadText" (Jb 2)) YS) YS))
noncomputable def bt(k:Int):Xm:=⟨Qf "BadText",some k⟩
noncomputable def enD(x:Option (List Nat)×Nat):D:=.tup [.int ((x.2:Int)+1),LnD x.1]
noncomputable def OkL(x:Option (List Nat)):Prop:=∀w,x=some w->w.length<=640/\∀c∈w,c<256
theorem Z6(x:Option (List Nat)×Nat)(a b c d e:Sl):tdP.bind (enD x) [a,b,c,d,e]=some [a,b,.sh (.int ((x.2:Int)+1)),.sh (LnD x.1),e]:=by unfold enD;walk_at "ev"
theorem Jc8(x:Option (List Nat))(t:Tr)(hx:OkL x)(ht:ltL x=some t)(a c:Sl)(ts:List D)(e:Sl)(hl:ts.length<=1000):tdB [a,.own ts,c,.sh (LnD x),e]=some (.nx [a,.own (ts++[trE t]),c,.sh (LnD x),.sh (trE t)])/\tdX [a,.own ts,c,.sh (LnD x),e]=none:=by
 have m:=JlH x hx;rw[ht] at m
 have m':JG [.sh (LnD x)]=some (.sh (trE t)):=m;constructor
 ·walk_at "ev";rw[m'];walk_at "ev";rw[show D.isNon (trE t)=false from rfl];walk_at "ev"
 ·unfold tdX Yd V2 YS;walk_at "ev";rw[m'];walk_at "ev";rw[show D.isNon (trE t)=false from rfl];walk_at "ev"
theorem Jk1(x:Option (List Nat))(i:Nat)(hx:OkL x)(ht:ltL x=none)(hi:i<=1000)(a b e:Sl):tdB [a,b,.sh (.int ((i:Int)+1)),.sh (LnD x),e]=none/\tdX [a,b,.sh (.int ((i:Int)+1)),.sh (LnD x),e]=some (bt ((i:Int)+1)):=by
 have m:=JlH x hx;rw[ht] at m
 have m':JG [.sh (LnD x)]=some (.sh .non):=m;constructor
 ·walk_at "ev";rw[m'];walk_at "ev";rfl
 ·have rf:Vz (Qf "BadText") (Jb 2) [a,b,.sh (.int ((i:Int)+1)),.sh (LnD x),.sh .non]=some (bt ((i:Int)+1)):=by show(if LC ((i:Int)+1).natAbs 1000000000=true then some (bt ((i:Int)+1)) else none)=_;rw[if_pos (Nat.ble_eq_true_of_le (by omega))]
  unfold tdX Yd V2 YS;walk_at "ev";rw[m'];walk_at "ev";rw[rf]
theorem JfU:∀(xs:List (Option (List Nat))) (ts:List Tr) (i:Nat) (acc:List D) (a c d e:Sl),(∀x∈xs,OkL x)->xs.map ltL=ts.map some->acc.length+xs.length<=1000 ->
 ∃c' d' e',Yf tdP tdB ((xs.zipIdx i).map enD) [a,.own acc,c,d,e]=some (.nx [a,.own (acc++ts.map trE),c',d',e'])/\Ys tdP tdB tdX ((xs.zipIdx i).map enD) [a,.own acc,c,d,e]=none
 | [],ts,i,acc,a,c,d,e,_,h,_=>by
  have:ts=[]:=by cases ts with|nil=>rfl|cons _ _=>simp at h
  subst this;exact⟨_,_,_,by rw[Gj,QT];rfl,rfl⟩
 | x::xs,ts,i,acc,a,c,d,e,hx,h,hl=>by
  cases ts with
  | nil=>simp at h
  | cons t ts =>
   rw[Qt,Qt] at h;obtain⟨h1,h2⟩:=LM h;rw[Qk] at hl;obtain⟨k1,k2⟩:=Jc8 x t (hx x (by simp)) h1 a (.sh (.int ((i:Int)+1))) acc e (by omega);obtain⟨c',d',e',q1,q2⟩:=JfU xs ts (i+1) (acc++[trE t]) a _ _ _ (fun y hy=>hx y (Qj _ hy)) h2 (by rw[Qh,QE];omega);refine⟨c',d',e',?_,?_⟩
   ·rw[K4,Qt,Yf,Z6,Qi];dsimp only;rw[k1,Qi];rw[Gk] at q1;exact q1
   ·rw[K4,Qt,Ys];dsimp only;rw[Z6,Qi];dsimp only;rw[k2,k1];exact q2
theorem JfV(x:Option (List Nat))(hx:OkL x)(hn:ltL x=none)(post:List (Option (List Nat))):∀(xs:List (Option (List Nat))) (ts:List Tr) (i:Nat) (acc:List D) (a c d e:Sl),(∀y∈xs,OkL y)->xs.map ltL=ts.map some->acc.length+xs.length<=900->i+xs.length<=900 ->
 Yf tdP tdB (((xs++x::post).zipIdx i).map enD) [a,.own acc,c,d,e]=none/\Ys tdP tdB tdX (((xs++x::post).zipIdx i).map enD) [a,.own acc,c,d,e]=some (bt (((i+xs.length:Nat):Int)+1))
 | [],ts,i,acc,a,c,d,e,_,h,_,hi=>by
  obtain⟨k1,k2⟩:=Jk1 x i hx hn (by simp at hi;omega) a (.own acc) e;rw[GO,K4,Qt];constructor
  ·rw[Yf,Z6,Qi];dsimp only;rw[k1];rfl
  ·rw[Ys];dsimp only;rw[Z6,Qi];dsimp only;rw[k2];rfl
 | y::xs,ts,i,acc,a,c,d,e,hy,h,hl,hi=>by
  cases ts with
  | nil=>simp at h
  | cons t ts =>
   rw[Qt,Qt] at h;obtain⟨h1,h2⟩:=LM h;rw[Qk] at hl hi;obtain⟨k1,k2⟩:=Jc8 y t (hy y (by simp)) h1 a (.sh (.int ((i:Int)+1))) acc e (by omega);obtain⟨q1,q2⟩:=JfV x hx hn post xs ts (i+1) (acc++[trE t]) a (.sh (.int ((i:Int)+1))) (.sh (LnD y)) (.sh (trE t)) (fun z hz=>hy z (Qj _ hz)) h2 (by rw[Qh,QE];omega) (by omega);rw[Gr,K4,Qt]
   constructor
   ·rw[Yf,Z6,Qi];dsimp only;rw[k1,Qi];exact q1
   ·rw[Ys];dsimp only;rw[Z6,Qi];dsimp only;rw[k2,k1];rw[Qk,show i+(xs.length+1)=i+1+xs.length by omega];exact q2

theorem Jea(tb:List Tr)(hl:tb.length<=1000)(h:Vd none tb=true):Jz [.bo (tb.map trE)]=none/\JS [.bo (tb.map trE)]=some ⟨Qf "BadTable",none⟩:=by
 obtain⟨e1,e2⟩:=Jem (.bo (tb.map trE)) tb none .no .no .no h;constructor
 ·unfold Jz;walk_at "ev";rw[show Yf ctP ctB (tb.map trE) [.bo (tb.map trE),.sh .non,.no,.no,.no]=_ from e1];rfl
 ·rw[Jio];exact Jan e2
theorem JdN(tb:List Tr)(hl:tb.length<=1000)(h:VY none tb)(hs:VG tb>30):Jz [.bo (tb.map trE)]=none/\JS [.bo (tb.map trE)]=some ⟨Qf "TooMany",none⟩:=by
 obtain⟨E',e,el⟩:=Jai (.bo (tb.map trE)) tb none .no .no .no h;have e2:=Jcv (.bo (tb.map trE)) tb none .no .no .no (bad_asc.mpr h);have hd:decide ((tb.map (·.2.2)).sum>30)=true:=decide_eq_true hs;constructor
 ·unfold Jz;walk_at "ev";rw[show Yf ctP ctB (tb.map trE) [.bo (tb.map trE),.sh .non,.no,.no,.no]=_ from e];walk_at "ev";rw[JjT];walk_at "ev";rw[U9 (ns:=tb.map (·.2.2)) (by simp[Sl.q])];walk_at "ev"
  try rw[hd]
  rfl
 ·rw[Jio];refine(VA (a:=UU (iV 0) ctP ctB) e2 e).trans ?_
  obtain⟨b1,b2,b3,b4,rfl⟩:∃b1 b2 b3 b4,E'=[b1,b2,b3,b4]:=by
   match E',el with
   | [b1,b2,b3,b4],_=>exact⟨b1,b2,b3,b4,rfl⟩
  unfold ctT V2 YT;walk_at "ev";rw[JjT];walk_at "ev";rw[U9 (ns:=tb.map (·.2.2)) (by simp[Sl.q])];walk_at "ev"
  try (rw[hd];walk_at "ev")

noncomputable def Rows(l:List Nat):Prop:=l.length<=16000000/\(spL 10 l).length<=800/\∀x∈lnO l,OkL x
theorem JeW{l:List Nat}(h:Rows l):(lnO l).length<=800:=by
 have:=h.2.1;unfold lnO;rw[Qh,Qy,Mp]
 have hp:0<(spL 10 l).length:=List.length_pos_iff.mpr (JaO 10 l);split
 ·simp;omega
 ·simp;omega
theorem Jit(l:List Nat)(h:Rows l)(b c d e:Sl):Vj false (aC (eU 1 Yh (aC (Jb 0) a0)) a0) [.sh (.str (tx l)),b,c,d,e]=some (((lnO l).zipIdx).map enD):=by obtain⟨s,k1,k2⟩:=JlG l h.1 (by have:=h.2.1;omega);unfold Vj;walk_at "ev";rw[k1];walk_at "ev";show Option.map V1 (Sl.it false s)=_;rw[k2,Option.map_some,Jdt,JgX];rfl
theorem Zl{l:List Nat}(h:Rows l){xs post:List (Option (List Nat))}{x:Option (List Nat)}{ts:List Tr}(hl:lnO l=xs++x::post)(ht:xs.map ltL=ts.map some)(hx:ltL x=none):Jq [.sh (.str (tx l))]=none/\Ju [.sh (.str (tx l))]=some (bt ((xs.length:Int)+1)):=by
 have hn:=JeW h;rw[hl,Qh,Qk] at hn
 have ok:=h.2.2;rw[hl] at ok
 have it:=Jit l h (.own []) .no .no .no;rw[hl] at it;obtain⟨q1,q2⟩:=JfV x (ok x (by simp)) hx post xs ts 0 [] (.sh (.str (tx l))) .no .no .no (fun y hy=>ok y (by simp[hy])) ht (by simp;omega) (by omega);rw[Nat.zero_add] at q2;constructor
 ·show(Jk (U7 1 (JW a0)) (Jk (UU _ _ _) _) [.sh (.str (tx l)),.no,.no,.no,.no]).bind Vy=_;rw[Jk,show U7 1 (JW a0) [.sh (.str (tx l)),.no,.no,.no,.no]=some (.nx [.sh (.str (tx l)),.own [],.no,.no,.no]) from rfl,Qi,YX,Jk,UU,it,Qi,q1];rfl
 ·show Yd (U7 1 (JW a0)) YS (Yd (UU _ _ _) (Wh _ _ _ _) _) [.sh (.str (tx l)),.no,.no,.no,.no]=_;rw[VA (E':=[.sh (.str (tx l)),.own [],.no,.no,.no]) rfl rfl];refine Jan ?_;rw[Wh,it,Qi];exact q2
theorem JfW{l:List Nat}(h:Rows l){ts:List Tr}(ht:(lnO l).map ltL=ts.map some)(hts:ts.length<=30):(Vd none ts=true->Jq [.sh (.str (tx l))]=none/\Ju [.sh (.str (tx l))]=some ⟨Qf "BadTable",none⟩) ∧
 (VY none ts->VG ts>30->Jq [.sh (.str (tx l))]=none/\Ju [.sh (.str (tx l))]=some ⟨Qf "TooMany",none⟩) ∧
 (VY none ts->VG ts<=30->Jq [.sh (.str (tx l))]=some (.own (ts.map trE))):=by
 have hn:=JeW h
 have ok:=h.2.2
 have it:=Jit l h (.own []) .no .no .no;obtain⟨c',d',e',q1,q2⟩:=JfU (lnO l) ts 0 [] (.sh (.str (tx l))) .no .no .no ok ht (by simp;omega);rw[GO] at q1
 have st:Jq [.sh (.str (tx l))]=((Jk (Z9 (eU 1 Jz (aC (Jb 1) a0))) (Vg 1)) [.sh (.str (tx l)),.own (ts.map trE),c',d',e']).bind Vy:=by show(Jk (U7 1 (JW a0)) (Jk (UU _ _ _) _) [.sh (.str (tx l)),.no,.no,.no,.no]).bind Vy=_;rw[Jk,show U7 1 (JW a0) [.sh (.str (tx l)),.no,.no,.no,.no]=some (.nx [.sh (.str (tx l)),.own [],.no,.no,.no]) from rfl,Qi,YX,Jk,UU,it,Qi,q1,Qi,YX]
 have sx:Ju [.sh (.str (tx l))]=Yd (Z9 (eU 1 Jz (aC (Jb 1) a0))) (exU 1 JS (aC (Jb 1) a0)) YS [.sh (.str (tx l)),.own (ts.map trE),c',d',e']:=by
  show Yd (U7 1 (JW a0)) YS (Yd (UU _ _ _) (Wh _ _ _ _) _) [.sh (.str (tx l)),.no,.no,.no,.no]=_;rw[VA (E':=[.sh (.str (tx l)),.own [],.no,.no,.no]) rfl rfl];refine VA ?_ ?_
  ·rw[Wh,it,Qi];exact q2
  ·rw[UU,it,Qi];exact q1
 have bad:∀m:Xm,Jz [.bo (ts.map trE)]=none/\JS [.bo (ts.map trE)]=some m->Jq [.sh (.str (tx l))]=none/\Ju [.sh (.str (tx l))]=some m:=fun m k=>by
  rw[st,sx];constructor
  ·walk_at "ev";rw[k.1];rfl
  ·refine Jan ?_;unfold exU;walk_at "ev";rw[k.2]
 refine⟨fun b=>bad _ (Jea ts (by omega) b),fun a s=>bad _ (JdN ts (by omega) a s),fun a s=>?_⟩;obtain⟨r,k⟩:=Jmy ts a s hts;rw[st];walk_at "ev";rw[k];walk_at "ev"

theorem JmQ(t:Str)(m:Xm)(hm:m.n∈[Qf "BadTable",Qf "BadText",Qf "TooMany"])(h1:Jq [.sh (.str t)]=none)(h2:Ju [.sh (.str t)]=some m) :
 JbH [Qf "BadTable",Qf "BadText",Qf "TooMany"] 3 (Jl 1 (eU 1 Jq (aC (Jb 0) a0))) (exU 1 Ju (aC (Jb 0) a0)) (Jl 2 (Jb 3)) [.sh (.str t),.sh .non,.sh .non,.no,.no]=some (.nx [.sh (.str t),.sh .non,.sh (.exc m),.no,.no]):=by
 have a:Jl 1 (eU 1 Jq (aC (Jb 0) a0)) [.sh (.str t),.sh .non,.sh .non,.no,.no]=none:=by walk_at "ev";rw[h1];rfl
 have b:exU 1 Ju (aC (Jb 0) a0) [.sh (.str t),.sh .non,.sh .non,.no,.no]=some m:=by unfold exU;walk_at "ev";rw[h2]
 unfold JbH;rw[a,b];dsimp only;rw[Qi,if_pos ⟨hm,by show 3<5;decide⟩];rfl
theorem Jjn(t:Str)(m:Xm)(hm:m.n∈[Qf "BadTable",Qf "BadText",Qf "TooMany"])(h1:Jq [.sh (.str t)]=none)(h2:Ju [.sh (.str t)]=some m)(T:Es) :
 (Jk (Jl 1 (eC .non)) (Jk (Jl 2 (eC .non)) (Jk (JbH [Qf "BadTable",Qf "BadText",Qf "TooMany"] 3 (Jl 1 (eU 1 Jq (aC (Jb 0) a0))) (exU 1 Ju (aC (Jb 0) a0)) (Jl 2 (Jb 3))) T)) [.sh (.str t),.no,.no,.no,.no])=T [.sh (.str t),.sh .non,.sh (.exc m),.no,.no]:=by
 rw[Jk,show Jl 1 (eC .non) [.sh (.str t),.no,.no,.no,.no]=some (.nx [.sh (.str t),.sh .non,.no,.no,.no]) from rfl,Qi,YX];rw[Jk,show Jl 2 (eC .non) [.sh (.str t),.sh .non,.no,.no,.no]=some (.nx [.sh (.str t),.sh .non,.sh .non,.no,.no]) from rfl,Qi,YX];rw[Jk,JmQ t m hm h1 h2,Qi,YX]
theorem JgT(t:Str)(k:Int)(h1:Jq [.sh (.str t)]=none)(h2:Ju [.sh (.str t)]=some (bt k)):JZ [.sh (.str t)]=some (.own [.str (Qf "text"),.int k]):=by refine(congrArg (fun o:Option Out=>o.bind Vy) (Jjn t (bt k) (by simp[bt]) h1 h2 _)).trans ?_;rfl
theorem JeF(t:Str)(h1:Jq [.sh (.str t)]=none)(h2:Ju [.sh (.str t)]=some ⟨Qf "BadTable",none⟩):JZ [.sh (.str t)]=some (.own [.str (Qf "table")]):=by refine(congrArg (fun o:Option Out=>o.bind Vy) (Jjn t _ (by simp) h1 h2 _)).trans ?_;rfl
theorem JgS(t:Str)(h1:Jq [.sh (.str t)]=none)(h2:Ju [.sh (.str t)]=some ⟨Qf "TooMany",none⟩):JZ [.sh (.str t)]=some (.own [.str (Qf "many")]):=by refine(congrArg (fun o:Option Out=>o.bind Vy) (Jjn t _ (by simp) h1 h2 _)).trans ?_;rfl
theorem JgU(t:Str)(ds:List D)(h1:Jq [.sh (.str t)]=some (.own ds)):JZ [.sh (.str t)]=some (.own [.str (Qf "told"),.lst ds]):=by
 have a:Jl 1 (eU 1 Jq (aC (Jb 0) a0)) [.sh (.str t),.sh .non,.sh .non,.no,.no]=some (.nx [.sh (.str t),.sh (.lst ds),.sh .non,.no,.no]):=by walk_at "ev";rw[h1];walk_at "ev"
 show(Jk (Jl 1 (eC .non)) (Jk (Jl 2 (eC .non)) (Jk (JbH _ _ _ _ _) _)) [.sh (.str t),.no,.no,.no,.no]).bind Vy=_;rw[Jk,show Jl 1 (eC .non) [.sh (.str t),.no,.no,.no,.no]=some (.nx [.sh (.str t),.sh .non,.no,.no,.no]) from rfl,Qi,YX];rw[Jk,show Jl 2 (eC .non) [.sh (.str t),.sh .non,.no,.no,.no]=some (.nx [.sh (.str t),.sh .non,.sh .non,.no,.no]) from rfl,Qi,YX];rw[Jk,JbH,a];rfl

noncomputable abbrev dvB:Es:=(xIf (tOr? (tB? (e2 fLt (e2 fIx (e2 fIx (Jb 0) (Jb 1)) (eC (.int 0))) (eC (.int 1)))) (tOr? (tB? (e2 fLt (e2 fIx (e2 fIx (Jb 0) (Jb 1)) (eC (.int 2))) (eC (.int 1)))) (tAnd? (tB? (e2 fGt (Jb 1) (eC (.int 0)))) (tB? (e2 JeB (eSl (e2 fIx (Jb 0) (e2 Vi (Jb 1) (eC (.int 1)))) none (some (eC (.int 2)))) (eSl (e2 fIx (Jb 0) (Jb 1)) none (some (eC (.int 2))))))))) (YO (JW (aC (eC (.str "table")) a0))) Jx)
theorem Jlm(t:Tr):fIx (.sh (trE t)) (.sh (.int 0))=some (.sh (.int t.1)):=rfl
theorem Jik(t:Tr):fIx (.sh (trE t)) (.sh (.int 2))=some (.sh (.int t.2.2)):=rfl
theorem Jlq(tb:List Tr)(k:Nat)(t:Tr)(ht:tb[k]?=some t)(j:Sl):(Pt.nm 1).bind (.int (0+(k:Int))) [.sh (.lst (tb.map trE)),j]=some [.sh (.lst (tb.map trE)),.sh (.int (k:Int))]:=by rw[Int.zero_add];rfl
theorem Jgl(tb:List Tr)(k:Nat)(t:Tr)(ht:tb[k]?=some t)(a:Option Pr)(ha:∀p,k=p+1->∃u,tb[p]?=some u/\a=some (u.1,u.2.1))(h0:k=0->a=none)(hk:k<=1000) :
 dvB [.sh (.lst (tb.map trE)),.sh (.int (k:Int))]=if (decide (t.1<1) || decide (t.2.2<1) || noT a t)=true then some (.rt (.own [.str (Qf "table")])) else some (.nx [.sh (.lst (tb.map trE)),.sh (.int (k:Int))]):=by
 have i1:atI (tb.map trE) (k:Int)=some (trE t):=by rw[YG,JaW ht];rfl
 unfold dvB;walk_at "ev";rw[i1];walk_at "ev";rw[Jlm];walk_at "ev"
 by_cases c1:t.1<1
 ·rw[decide_eq_true c1];walk_at "ev";rfl
 ·rw[decide_eq_false c1];walk_at "ev";rw[Jik];walk_at "ev"
  by_cases c2:t.2.2<1
  ·rw[decide_eq_true c2];walk_at "ev";rfl
  ·rw[decide_eq_false c2];walk_at "ev"
   cases k with
   | zero=>rw[h0 rfl];rfl
   | succ p =>
    obtain⟨u,hu,hau⟩:=ha p rfl
    have i2:atI (tb.map trE) (((p+1:Nat):Int)-1)=some (trE u):=by rw[show((p+1:Nat):Int)-1=(p:Int) by omega,YG,JaW hu];rfl
    rw[hau,decide_eq_true (show(0:Int)<((p+1:Nat):Int) by omega)];walk_at "ev";rw[i2];walk_at "ev"
    have L:YC [u.1,u.2.1] [t.1,t.2.1]=noT (some (u.1,u.2.1)) t:=by
     rw[Y8,Y8];unfold noT;dsimp only
     by_cases q1:u.1=t.1
     ·rw[if_pos q1,if_pos q1.symm]
      by_cases q2:u.2.1=t.2.1
      ·rw[if_pos q2,decide_eq_true (by omega)];rfl
      ·rw[if_neg q2,decide_eq_decide]
     ·rw[if_neg q1,if_neg (fun z=>q1 z.symm),decide_eq_decide]
    show(if YC [u.1,u.2.1] [t.1,t.2.1]=true then some (Out.rt (Sl.own [.str (Qf "table")])) else some (.nx [.sh (.lst (tb.map trE)),.sh (.int ((p+1:Nat):Int))]))=_;rw[L];rfl
theorem Jal(tb:List Tr)(hl:tb.length<=1000):∀(n k:Nat) (a:Option Pr) (j:Sl),k+n=tb.length->(∀p,k=p+1->∃u,tb[p]?=some u/\a=some (u.1,u.2.1))->(k=0->a=none) ->
 (Vd a (tb.drop k)=true->Yf (.nm 1) dvB ((LD k n).map fun(i:Nat)=>D.int (0+(i:Int))) [.sh (.lst (tb.map trE)),j]=some (.rt (.own [.str (Qf "table")]))) ∧
 (Vd a (tb.drop k)=false->∃j',Yf (.nm 1) dvB ((LD k n).map fun(i:Nat)=>D.int (0+(i:Int))) [.sh (.lst (tb.map trE)),j]=some (.nx [.sh (.lst (tb.map trE)),j']))
 | 0,k,a,j,hk,ha,h0=>by rw[Md (by omega)];exact⟨fun h=>by(cases h),fun _=>⟨j,rfl⟩⟩
 | n+1,k,a,j,hk,ha,h0=>by
  have hkl:k<tb.length:=by omega
  have ht:tb[k]?=some tb[k]:=GX hkl
  have hd:tb.drop k=tb[k]::tb.drop (k+1):=GN hkl
  obtain⟨i1,i2⟩:=Jal tb hl n (k+1) (some (tb[k].1,tb[k].2.1)) (.sh (.int (k:Int))) (by omega) (fun p hp=>by
   have:p=k:=by omega
   subst this;exact⟨_,ht,rfl⟩) (fun z=>by omega)
  have tn:=Jgl tb k tb[k] ht a ha h0 (by omega);rw[hd,Vd,LW,Qt,Yf,Jlq tb k tb[k] ht,Qi,tn];rw[show((decide (tb[k].1<1) || decide (tb[k].2.2<1)) || (noT a tb[k] || Vd (some (tb[k].1,tb[k].2.1)) (tb.drop (k+1))))=((decide (tb[k].1<1) || decide (tb[k].2.2<1) || noT a tb[k]) || Vd (some (tb[k].1,tb[k].2.1)) (tb.drop (k+1))) from by rw[MC,MC,MC]]
  cases hb:(decide (tb[k].1<1) || decide (tb[k].2.2<1) || noT a tb[k]) with
  | true=>exact⟨fun _=>rfl,fun h=>by simp at h⟩
  | false=>rw[if_neg (by decide),LJ];exact⟨i1,i2⟩
theorem Jhc(tb:List Tr):Y2 (.tp (.cons (.nm 0) (.cons (.nm 1) (.cons (.nm 2) .nil)))) yes? (Jb 2) [.no,.no,.no] (tb.map trE)=some (tb.map fun t=>D.int t.2.2):=JjT tb
theorem Jeo(tb:List Tr)(hl:tb.length<=1000)(h:Vd none tb=true):J2 [.sh (.lst (tb.map trE))]=some (.own [.str (Qf "table")]):=by have d:=(Jal tb hl tb.length 0 none .no (by omega) (fun p hp=>by omega) (fun _=>rfl)).1 h;rw[<- K8] at d;unfold J2;walk_at "ev";rw[show(((tb.length:Nat):Int)).toNat=tb.length from Gv _];rw[show Yf (Pt.nm 1) _ (rng 0 tb.length) [.sh (.lst (tb.map trE)),.no]=_ from d];walk_at "ev"
theorem Jgk(tb:List Tr)(hl:tb.length<=1000)(h:VY none tb):(VG tb>30->J2 [.sh (.lst (tb.map trE))]=some (.own [.str (Qf "many")]))/\(VG tb<=30->J2 [.sh (.lst (tb.map trE))]=some (.own [.str (Qf "told"),.lst (tb.map trE)])):=by
 obtain⟨j',d⟩:=(Jal tb hl tb.length 0 none .no (by omega) (fun p hp=>by omega) (fun _=>rfl)).2 (bad_asc.mpr h);rw[<- K8] at d
 have go:∀b:Bool,decide ((tb.map (·.2.2)).sum>30)=b->J2 [.sh (.lst (tb.map trE))]=if b=true then some (.own [.str (Qf "many")]) else some (.own [.str (Qf "told"),.lst (tb.map trE)]):=fun b hb=>by
  unfold J2;walk_at "ev";rw[show(((tb.length:Nat):Int)).toNat=tb.length from Gv _];rw[show Yf (Pt.nm 1) _ (rng 0 tb.length) [.sh (.lst (tb.map trE)),.no]=_ from d];walk_at "ev";rw[Jhc];walk_at "ev";rw[U9 (ns:=tb.map (·.2.2)) (by simp[Sl.q])];walk_at "ev";rw[hb];cases b
  ·walk_at "ev"
  ·walk_at "ev"
 exact⟨fun s=>go true (decide_eq_true s),fun s=>go false (decide_eq_false (by unfold VG at s;omega))⟩

noncomputable def Bt(t:Tr):Prop:=t.1.natAbs<=10 ^ 44/\t.2.1.natAbs<=10 ^ 44/\t.2.2.natAbs<=10 ^ 44
theorem Bt.fig{t:Tr}(h:Bt t):Y1 t:=by obtain⟨h1,h2,h3⟩:=h;unfold Y1;omega
theorem Jiu{n k:Nat}(h:k<n):ixN n (k:Int)=some k:=by unfold ixN;rw[if_pos (by omega),if_pos (by omega)];simp
theorem JcK{n:Nat}(h:0<n):ixN n (-1)=some (n-1):=by unfold ixN;rw[if_neg (by omega),if_pos (by omega)];congr 1;omega
theorem Jbc{α β:Type}(f:α->β)(xs:List α)(k:Nat)(x:α):Y6 (xs.map f) k (f x)=(Y6 xs k x).map f:=by unfold Y6;rw[QU,Qt,List.map_take,List.map_drop]
theorem Jbg{α:Type}{xs:List α}{k:Nat}{x y:α}(h:y∈Y6 xs k x):y∈xs\/y=x:=by
 unfold Y6 at h;rcases Gm.mp h with z|z
 ·exact .inl (K9 z)
 ·rcases Qv.mp z with z|z
  ·exact .inr z
  ·exact .inl (Mt z)
theorem Jch(ts:List Tr)(k:Nat)(a b c:Int):(ts.map trE).set k (.tup [.int a,.int b,.int c])=(ts.set k (a,b,c)).map trE:=by rw[List.map_set];rfl
theorem JjM(ts:List Tr)(hb:∀t∈ts,t.1.natAbs<=10 ^ 43/\t.2.1.natAbs<=10 ^ 43/\1<=t.2.2/\t.2.2<=30)(hl:ts.length<=16)(w c:Int)(hc:0<=c):∃qs:List Tr,(∀t∈qs,Bt t)/\qs.length<=17/\Yx [.sh (.lst (ts.map trE)),.sh (.int w),.sh (.int c)]=some (.own (qs.map trE)):=by
 have B:∀t∈ts,Bt t:=fun t ht=>by obtain⟨h1,h2,h3,h4⟩:=hb t ht;unfold Bt;omega
 by_cases h0:ts=[]
 ·subst h0;refine⟨[],B,by decide,?_⟩;unfold Yx;walk_at "ev";rw[show eqA (D.lst []) (D.lst [])=some true from rfl];walk_at "ev"
 ·have hpos:0<ts.length:=List.length_pos_iff.mpr h0
  have u1:eqA (D.lst (ts.map trE)) (D.lst [])=some false:=by rw[show(D.lst [])=D.lst (([]:List Tr).map trE) from rfl,JiZ,decide_eq_false h0]
  obtain⟨k,hk⟩:∃k:Nat,c / 8 % (ts.length:Int)=(k:Int):=⟨(c / 8 % (ts.length:Int)).toNat,by have:=Gz (c / 8) (show(ts.length:Int)≠0 by omega);omega⟩
  have hk':k<ts.length:=by have:=GL (c / 8) (show 0<(ts.length:Int) by omega);omega
  have hg:atI (ts.map trE) (k:Int)=some (.tup [.int ts[k].1,.int ts[k].2.1,.int ts[k].2.2]):=by rw[YG,UW hk'];rfl
  have hbk:=hb ts[k] (G4 hk')
  have hm:=Gz (c / 64) (show(3:Int)≠0 by decide)
  have hm2:=GL (c / 64) (show(0:Int)<3 by decide);obtain⟨p,hp⟩:∃p,ts[ts.length-1]?=some p:=⟨ts[ts.length-1],GX (by omega)⟩
  have hbp:=hb p (QX hp)
  have hlast:atI (ts.map trE) (-1)=some (.tup [.int p.1,.int p.2.1,.int p.2.2]):=by rw[YG];unfold atI;rw[JcK hpos,Qi,hp];rfl
  have pre0:∀T:Es,(Jk (U7 3 (eF Ja7 (aC (Jb 0) a0))) (Jk (xIf (tB? (e2 fEq (Jb 3) (JW a0))) (Vg 3) Jx) (Jk (Jl 4 (e2 Yt (e2 YM (Jb 2) (eC (.int 8))) (eF Ui (aC (Jb 3) a0)))) (Jk (Jd3 (.tp (.cons (.nm 5) (.cons (.nm 6) (.cons (.nm 7) .nil)))) (e2 fIx (Jb 3) (Jb 4))) T)))) [.sh (.lst (ts.map trE)),.sh (.int w),.sh (.int c),.no,.no,.no,.no,.no,.no]=T [.sh (.lst (ts.map trE)),.sh (.int w),.sh (.int c),.own (ts.map trE),.sh (.int (k:Int)),.sh (.int ts[k].1),.sh (.int ts[k].2.1),.sh (.int ts[k].2.2),.no]:=fun T=>by walk_at "ev";rw[u1];walk_at "ev";rw[hk,hg];walk_at "ev"
  have pre:∀r,((Jk (xIf (tB? (e2 fEq (Jb 1) (eC (.int 1)))) (UP 3 (Jb 4) (YR (aC (e2 Vi (eC (.int 0)) (e2 Yt (e2 YM (Jb 2) (eC (.int 64))) (eC (.int 3)))) (aC (Jb 6) (aC (Jb 7) a0))))) Jx) (Jk (xIf (tB? (e2 fEq (Jb 1) (eC (.int 2)))) (UP 3 (Jb 4) (YR (aC (Jb 5) (aC (Jb 6) (aC (e2 Vi (eC (.int 0)) (e2 Yt (e2 YM (Jb 2) (eC (.int 64))) (eC (.int 3)))) a0))))) Jx) (Jk (xIf (tB? (e2 fEq (Jb 1) (eC (.int 3)))) (Zq 3 (Jb 4) (e2 fIx (Jb 3) (Jb 4))) Jx) (Jk (xIf (tB? (e2 fEq (Jb 1) (eC (.int 4)))) (Wq 3 (YR (aC (e2 fIx (e2 fIx (Jb 3) (e1 UY (eC (.int 1)))) (eC (.int 0))) (aC (e2 Vi (e2 Vi (e2 fIx (e2 fIx (Jb 3) (e1 UY (eC (.int 1)))) (eC (.int 1))) (eC (.int 1))) (e2 Yt (e2 YM (Jb 2) (eC (.int 64))) (eC (.int 3)))) (aC (eC (.int 1)) a0))))) Jx) (Jk (xIf (tB? (e2 fEq (Jb 1) (eC (.int 5)))) (Jk (Jd3 (.tp (.cons (.nm 5) (.cons (.nm 6) (.cons (.nm 7) .nil)))) (e2 fIx (Jb 3) (e1 UY (eC (.int 1))))) (Jk (Jl 8 (eF V4 (aC (Ur (iE true (eSl (Jb 3) none (some (e1 UY (eC (.int 1)))))) (.nm 0) yes? (e2 fIx (Jb 0) (eC (.int 2))) [none]) a0))) (UP 3 (e1 UY (eC (.int 1))) (YR (aC (Jb 5) (aC (Jb 6) (aC (e2 JJ (e2 Vi (eC (.int 31)) (Jb 8)) (e2 V3 (e2 Yt (e2 YM (Jb 2) (eC (.int 64))) (eC (.int 2))) (eC (.int 9)))) a0))))))) Jx) (Jk (xIf (tB? (e2 fEq (Jb 1) (eC (.int 6)))) (JbG 3) Jx) (Vg 3))))))) [.sh (.lst (ts.map trE)),.sh (.int w),.sh (.int c),.own (ts.map trE),.sh (.int (k:Int)),.sh (.int ts[k].1),.sh (.int ts[k].2.1),.sh (.int ts[k].2.2),.no]).bind Vy=r->Yx [.sh (.lst (ts.map trE)),.sh (.int w),.sh (.int c)]=r:=fun r h=>(congrArg (fun o:Option Out=>o.bind Vy) (pre0 _)).trans h
  by_cases h1:w=1
  ·refine⟨ts.set k (0-c / 64 % 3,ts[k].2.1,ts[k].2.2),fun t ht=>?_,by rw[KI];omega,pre _ ?_⟩
   ·rcases Ky ht with z|z
    ·exact B t z
    ·rw[z];unfold Bt;dsimp only;omega
   ·walk_at "ev";rw[decide_eq_true h1];walk_at "ev";rw[Jiu hk'];walk_at "ev";rw[decide_eq_false (show ¬w=2 by omega)];walk_at "ev";rw[decide_eq_false (show ¬w=3 by omega)];walk_at "ev";rw[decide_eq_false (show ¬w=4 by omega)];walk_at "ev";rw[decide_eq_false (show ¬w=5 by omega)];walk_at "ev";rw[decide_eq_false (show ¬w=6 by omega)];walk_at "ev";rw[Jch]
  ·by_cases h2:w=2
   ·refine⟨ts.set k (ts[k].1,ts[k].2.1,0-c / 64 % 3),fun t ht=>?_,by rw[KI];omega,pre _ ?_⟩
    ·rcases Ky ht with z|z
     ·exact B t z
     ·rw[z];unfold Bt;dsimp only;omega
    ·walk_at "ev";rw[decide_eq_false h1];walk_at "ev";rw[decide_eq_true h2];walk_at "ev";rw[Jiu hk'];walk_at "ev";rw[decide_eq_false (show ¬w=3 by omega)];walk_at "ev";rw[decide_eq_false (show ¬w=4 by omega)];walk_at "ev";rw[decide_eq_false (show ¬w=5 by omega)];walk_at "ev";rw[decide_eq_false (show ¬w=6 by omega)];walk_at "ev";rw[Jch]
   ·by_cases h3:w=3
    ·refine⟨Y6 ts k ts[k],fun t ht=>?_,by rw[WM _ _ _ (by omega)];omega,pre _ ?_⟩
     ·rcases Jbg ht with z|z
      ·exact B t z
      ·rw[z];exact B _ (G4 hk')
     ·walk_at "ev";rw[decide_eq_false h1];walk_at "ev";rw[decide_eq_false h2];walk_at "ev";rw[decide_eq_true h3,hg];walk_at "ev";rw[decide_eq_false (show ¬w=4 by omega)];walk_at "ev";rw[decide_eq_false (show ¬w=5 by omega)];walk_at "ev";rw[decide_eq_false (show ¬w=6 by omega)];walk_at "ev";rw[show((k:Int)).toNat=k from Gv _];exact congrArg (fun x=>some (Sl.own x)) (Jbc trE ts k ts[k])
    ·by_cases h4:w=4
     ·refine⟨ts++[(p.1,p.2.1-1-c / 64 % 3,1)],fun t ht=>?_,by rw[Qh];show _+1<=_;omega,pre _ ?_⟩
      ·rcases Gm.mp ht with z|z
       ·exact B t z
       ·rw[Lu.mp z];unfold Bt;dsimp only;omega
      ·walk_at "ev";rw[decide_eq_false h1];walk_at "ev";rw[decide_eq_false h2];walk_at "ev";rw[decide_eq_false h3];walk_at "ev";rw[decide_eq_true h4,hlast];walk_at "ev";rw[show atI [D.int p.1,D.int p.2.1,D.int p.2.2] 0=some (.int p.1) from rfl];walk_at "ev";rw[show atI [D.int p.1,D.int p.2.1,D.int p.2.2] 1=some (.int p.2.1) from rfl];walk_at "ev";rw[decide_eq_false (show ¬w=5 by omega)];walk_at "ev";rw[decide_eq_false (show ¬w=6 by omega)];walk_at "ev"
       rw[QU];rfl
     ·by_cases h5:w=5
      ·obtain⟨r,q,hr⟩:∃r q,ts=r++[q]:=⟨_,_,(Ke h0).symm⟩
       have hqp:p=q:=by
        rw[hr] at hp;rw[Qh,QE,Nat.add_sub_cancel,QM (Qr _)] at hp
        simpa using hp.symm
       have hs0:0<=(r.map (·.2.2)).sum/\(r.map (·.2.2)).sum<=30*(r.length:Int):=by
        have hr':∀t∈r,1<=t.2.2/\t.2.2<=30:=fun t ht=>by have:=hb t (by rw[hr];simp[ht]);exact⟨this.2.2.1,this.2.2.2⟩
        clear hr hqp
        induction r with
        | nil=>simp
        | cons t r ih =>
         have:=hr' t (by simp)
         have ih:=ih fun x hx=>hr' x (Qj _ hx)
         rw[Qt,MA,Qk];omega
       have hrl:r.length<=15:=by rw[hr,Qh,QE] at hl;omega
       have m2:=Gz (c / 64) (show(2:Int)≠0 by decide)
       have m3:=GL (c / 64) (show(0:Int)<2 by decide);refine⟨ts.set (ts.length-1) (p.1,p.2.1,31-(r.map (·.2.2)).sum+c / 64 % 2*9),fun t ht=>?_,by rw[KI];omega,pre _ ?_⟩
       ·rcases Ky ht with z|z
        ·exact B t z
        ·rw[z];unfold Bt;dsimp only;omega
       ·have cut:Jaj (ts.map trE) none (some (-1))=r.map trE:=by
         have hx:HT.sIx (ts.map trE).length (ts.map trE).length (some (-1))=r.length:=by
          rw[Qy,hr,Qh,QE];unfold HT.sIx;simp
          try omega
         unfold Jaj;rw[HT.Jbv,hx,hr,QU,Ls,Nat.sub_zero];exact List.take_left' (Qy _)
        have sm:Y2 (.nm 0) yes? (e2 fIx (Jb 0) (eC (.int 2))) [.no] (r.map trE)=some (r.map fun t=>D.int t.2.2):=Y4 fun t _=>by walk_at "ev";rw[Jik];walk_at "ev"
        walk_at "ev";rw[decide_eq_false h1];walk_at "ev";rw[decide_eq_false h2];walk_at "ev";rw[decide_eq_false h3];walk_at "ev";rw[decide_eq_false h4];walk_at "ev";rw[decide_eq_true h5,hlast];walk_at "ev";rw[cut];walk_at "ev";rw[sm];walk_at "ev";rw[U9 (ns:=r.map (·.2.2)) (by simp[Sl.q])];walk_at "ev";rw[JcK hpos];walk_at "ev";rw[decide_eq_false (show ¬w=6 by omega)];walk_at "ev";rw[Jch]
      ·by_cases h6:w=6
       ·refine⟨ts.reverse,fun t ht=>B t (List.mem_reverse.mp ht),by rw[KA];omega,pre _ ?_⟩;walk_at "ev";rw[decide_eq_false h1];walk_at "ev";rw[decide_eq_false h2];walk_at "ev";rw[decide_eq_false h3];walk_at "ev";rw[decide_eq_false h4];walk_at "ev";rw[decide_eq_false h5];walk_at "ev";rw[decide_eq_true h6];walk_at "ev";rw[List.map_reverse]
       ·refine⟨ts,B,by omega,pre _ ?_⟩;walk_at "ev";rw[decide_eq_false h1];walk_at "ev";rw[decide_eq_false h2];walk_at "ev";rw[decide_eq_false h3];walk_at "ev";rw[decide_eq_false h4];walk_at "ev";rw[decide_eq_false h5];walk_at "ev";rw[decide_eq_false h6];walk_at "ev"

noncomputable def zz:List Nat:=QO 200 48
noncomputable def zA:List Nat:=[108,117,109,112,32,49,32,97,116,32,49]++zz
noncomputable def zB:List Nat:=zA++[32,116,105,109,101,115,32,49]
noncomputable def menuL:List (List Nat):=[[],[32],[108,117,109,112],[108,117,109,112,32,49,32,97,116,32,49,32,116,105,109,101,115],[108,117,109,112,32,49,32,97,116,32,49,32,116,105,109,101,115,32,49,32],[32,108,117,109,112,32,49,32,97,116,32,49,32,116,105,109,101,115,32,49],[108,117,109,112,32,49,32,97,116,32,49],[108,117,109,112,32,32,49,32,97,116,32,49,32,116,105,109,101,115,32,49],[76,117,109,112,32,49,32,97,116,32,49,32,116,105,109,101,115,32,49],[108,117,109,112,32,49,32,111,110,32,49,32,116,105,109,101,115,32,49],[108,117,109,112,32,49,32,116,105,109,101,115,32,49,32,97,116,32,49],[108,117,109,112,32,48,49,32,97,116,32,49,32,116,105,109,101,115,32,49],[108,117,109,112,32,49,32,97,116,32,45,48,32,116,105,109,101,115,32,49],[108,117,109,112,32,49,32,97,116,32,43,49,32,116,105,109,101,115,32,49],[108,117,109,112,32,49,32,97,116,32,49,32,116,105,109,101,115,32,49,32,49],[108,117,109,112,32,120,32,97,116,32,49,32,116,105,109,101,115,32,49],[108,117,109,112,32,49,32,97,116,32,49,95,48,32,116,105,109,101,115,32,49],[49,32,97,116,32,49,32,116,105,109,101,115,32,49]]++zB::[[108,117,109,112,32,49,32,97,116,32,49,32,116,105,109,101,32,49],[108,117,109,112,32,49,44,97,116,32,49,32,116,105,109,101,115,32,49],[114,111,119,32,49,43,49],[108,117,109,112,32,49,32,97,116,32,49,46,48,32,116,105,109,101,115,32,49]]
theorem JeZ:menuL.all (fun w=>(ltW (spL 32 w)).isNone && decide (w.length<=300) && !w.contains 10 && w.all (fun c=>decide (c<256)))=true:=by decide +kernel
theorem JmS:JcE (.sh (.str (Qf "0"))) (.sh (.int 200))=some (.sh (.str (tx zz))):=by show(if (1:Int)<=200/\(200:Int)<=16777216/\(Qf "0").length*(200:Int).toNat<=16777216 then some (Sl.sh (.str (ZD (Qf "0") (200:Int).toNat))) else none)=_;rw[if_pos (by rw[show(Qf "0").length=1 by decide +kernel];decide)];rw[show ZD (Qf "0") (200:Int).toNat=tx zz by decide +kernel]
theorem z1:JJ (.sh (.str (Qf "lump 1 at 1"))) (.sh (.str (tx zz)))=some (.sh (.str (tx zA))):=by rw[show Qf "lump 1 at 1"=tx [108,117,109,112,32,49,32,97,116,32,49] by decide +kernel,Wt (by rw[J9,J9];decide +kernel),UO];rfl
theorem z2:JJ (.sh (.str (tx zA))) (.sh (.str (Qf " times 1")))=some (.sh (.str (tx zB))):=by rw[show Qf " times 1"=tx [32,116,105,109,101,115,32,49] by decide +kernel,Wt (by rw[J9,J9];decide +kernel),UO];rfl
theorem Jg7:[Qf "",Qf " ",Qf "lump",Qf "lump 1 at 1 times",Qf "lump 1 at 1 times 1 ",Qf " lump 1 at 1 times 1",Qf "lump 1 at 1",Qf "lump  1 at 1 times 1",Qf "Lump 1 at 1 times 1",Qf "lump 1 on 1 times 1",Qf "lump 1 times 1 at 1",Qf "lump 01 at 1 times 1",Qf "lump 1 at -0 times 1",Qf "lump 1 at +1 times 1",Qf "lump 1 at 1 times 1 1",Qf "lump x at 1 times 1",Qf "lump 1 at 1_0 times 1",Qf "1 at 1 times 1",tx zB,Qf "lump 1 at 1 time 1",Qf "lump 1,at 1 times 1",Qf "row 1+1",Qf "lump 1 at 1.0 times 1"]=menuL.map tx:=by decide +kernel
theorem JdL(c:Int):∃w∈menuL,JN [.sh (.int c)]=some (.sh (.str (tx w))):=by
 obtain⟨k,hk3⟩:∃k:Nat,c % 23=(k:Int):=⟨(c % 23).toNat,by omega⟩
 have hl:menuL.length=23:=by decide +kernel
 have hk4:k<menuL.length:=by omega
 refine⟨menuL[k],G4 hk4,?_⟩
 have hat:atI ((menuL.map tx).map D.str) (k:Int)=some (.str (tx menuL[k])):=by rw[YG,YG,UW hk4];rfl
 rw[<- Jg7] at hat;simp only[Qt,Gj] at hat;unfold JN;walk_at "ev";rw[JmS];walk_at "ev";rw[z1];walk_at "ev";rw[z2];walk_at "ev";rw[show c % ((23:Nat):Int)=(k:Int) from hk3,hat];walk_at "ev"
theorem Jg8{w:List Nat}(h:w∈menuL):ltL (some w)=none/\w.length<=300/\10∉w/\∀c∈w,c<256:=by have:=Q4.mp JeZ w h;simp only[QL,decide_eq_true_eq,KR,List.contains_eq_mem,decide_eq_false_iff_not,Q4,Option.isNone_iff_eq_none] at this;exact⟨this.1.1.1,this.1.1.2,this.1.2,this.2⟩
noncomputable def Yo:List (List Nat)->List Nat
 | []=>[]
 | w::r=>w++10::Yo r
theorem Jah(e:List Nat)(he:10∉e):∀ws:List (List Nat),(∀w∈ws,10∉w)->spL 10 (Yo ws++e)=ws++[e]
 | [],_=>by rw[Yo,GO,JfJ he];rfl
 | w::r,h=>by rw[Yo,Gk,Gr,Uh _ (h w (by simp)),Jah e he r fun v hv=>h v (Qj _ hv)];rfl
theorem Jeh(ws:List (List Nat))(h:∀w∈ws,10∉w):lnO (Yo ws)=ws.map some:=by have:=Jah [] (by simp) ws h;rw[QT] at this;unfold lnO;rw[this,GS,La,if_pos rfl,QT]
theorem Jct(ws:List (List Nat))(e:List Nat)(he:10∉e)(hn:e≠[])(h:∀w∈ws,10∉w):lnO (Yo ws++e)=ws.map some++[none]:=by unfold lnO;rw[Jah e he ws h,GS,La,if_neg (fun z=>hn (QI z))]
theorem Ws(n:Nat):∀ws:List (List Nat),(∀w∈ws,w.length<=n)->(Yo ws).length<=ws.length*(n+1)
 | [],_=>by simp[Yo]
 | w::r,h=>by
  have:=h w (by simp)
  have ih:=Ws n r fun v hv=>h v (Qj _ hv)
  rw[Yo,Qh,Qk,Qk,Nat.succ_mul];omega
theorem Jcs:∀a b:List (List Nat),Yo (a++b)=Yo a++Yo b
 | [],b=>rfl
 | w::a,b=>by rw[Gr,Yo,Yo,Jcs a b,Gk];rfl
noncomputable def Jdg(w:List Nat):Prop:=w.length<=640/\10∉w/\∀c∈w,c<256
theorem VS{ws:List (List Nat)}(hl:ws.length<=30)(h:∀w∈ws,Jdg w)(e:List Nat)(he:10∉e)(el:e.length<=640)(ec:∀c∈e,c<256):Rows (Yo ws++e):=by
 have cl:=Ws 640 ws fun w hw=>(h w hw).1
 have sp:=Jah e he ws fun w hw=>(h w hw).2.1
 refine⟨?_,by rw[sp,Qh,QE];omega,?_⟩
 ·have:ws.length*(640+1)<=30*641:=Lb _ hl;rw[Qh];omega
 ·intro x hx w hw;subst hw;unfold lnO at hx;rw[sp,GS] at hx;rcases Gm.mp hx with z|z
  ·obtain⟨v,hv,e⟩:=Ku.mp z;have e2:=QI e;subst e2;exact⟨(h v hv).1,(h v hv).2.2⟩
  ·split at z
   ·cases z
   ·simp at z
theorem JcN(t:Tr)(h:Y1 t):ltL (some (JH t))=some t:=by
 show ltW (spL 32 (JH t))=some t;rw[JjK]
 show(if JdJ=JdJ/\atW=atW/\tmW=tmW then lt6 (Ud t.1) (Ud t.2.1) (Ud t.2.2) else none)=some t;rw[if_pos ⟨rfl,rfl,rfl⟩];unfold lt6;rw[Jay h.1,Jay h.2.1,Jay h.2.2]
theorem JbV{t:Tr}(h:Y1 t):Jdg (JH t):=by
 refine⟨Jav h,JbU t,fun c hc=>?_⟩
 have nm:∀n:Int,∀c∈Ud n,c<256:=fun n c hc=>by
  rcases Jbk n c hc with z|z
  ·omega
  ·unfold dig at z;simp only[QL,decide_eq_true_eq] at z;omega
 unfold JH at hc;simp only[Gm,Qv,K3,or_false] at hc;rcases hc with (z|z|z|z)|z|z|z|(z|z)|z|z|z|(z|z|z|z|z)|z|z
 all_goals first|omega|exact nm _ c z
noncomputable def wD(w:List Nat):D:=.str (tx w)
noncomputable def Fd(t:List Nat)(d:D):Prop:=∃l,JZ [.sh (.str (tx t))]=some (.own l)/\eqA (.lst l) d=some true
noncomputable def JbN(k:Int):D:=.lst [.str (Qf "text"),.int k]
theorem Jhi(w:Str)(h:Q7 w=true)(k:Int):eqA (.lst [.str w,.int k]) (.lst [.str w,.int k])=some true:=by
 show eqD _ _=_;unfold eqD
 have c1:(D.lst [.str w,.int k]).py.canLay0=true:=by simp only[D.py,D.pyL,GI,QS,h,GY]
 have c3:min (D.lst [.str w,.int k]).py.depth (D.lst [.str w,.int k]).py.depth<=60:=by refine QK (Le _ _) ?_;simp[D.py,D.pyL,GR,Gn]
 rw[c1,decide_eq_true c3,if_pos (by rfl)];congr 1;simp[D.py,D.pyL,Gx,Gh]
theorem Jin(w:Str)(h:Q7 w=true):eqA (.lst [.str w]) (.lst [.str w])=some true:=by
 show eqD _ _=_;unfold eqD
 have c1:(D.lst [.str w]).py.canLay0=true:=by simp only[D.py,D.pyL,GI,QS,h,GY]
 have c3:min (D.lst [.str w]).py.depth (D.lst [.str w]).py.depth<=60:=by refine QK (Le _ _) ?_;simp[D.py,D.pyL,GR,Gn]
 rw[c1,decide_eq_true c3,if_pos (by rfl)];congr 1;simp[D.py,D.pyL,Gx,Gh]
theorem Jgu(w:Str)(h:Q7 w=true)(ts:List Tr):eqA (.lst [.str w,.lst (ts.map trE)]) (.lst [.str w,.lst (ts.map trE)])=some true:=by
 have k1:(D.lst (ts.map trE)).py.canLay0=true:=(V6 JcL).lay ts
 have k2:(D.lst (ts.map trE)).py.depth<=_:=(V6 JcL).dep ts
 have k3:Gx (D.lst (ts.map trE)).py (D.lst (ts.map trE)).py=true:=((V6 JcL).eqv ts ts).mpr rfl
 have e:(D.lst [.str w,.lst (ts.map trE)]).py=.list [.str w,(D.lst (ts.map trE)).py]:=rfl
 show eqD _ _=_;unfold eqD;rw[e]
 have c1:(PyData.list [.str w,(D.lst (ts.map trE)).py]).canLay0=true:=by simp only[GI,QS,h,k1,GY]
 have c3:min (PyData.list [.str w,(D.lst (ts.map trE)).py]).depth (PyData.list [.str w,(D.lst (ts.map trE)).py]).depth<=60:=by refine QK (Le _ _) ?_;simp only[GR,Gn];omega
 rw[c1,decide_eq_true c3,if_pos (by rfl)];congr 1;simp only[Gx,Gh,k3,GY];simp
theorem Jhh:Q7 (Qf "text")=true:=by decide +kernel
theorem fdT{t:List Nat}{k:Int}(h:Jq [.sh (.str (tx t))]=none/\Ju [.sh (.str (tx t))]=some (bt k)):Fd t (JbN k):=⟨_,JgT _ k h.1 h.2,Jhi _ Jhh k⟩
theorem JiU{qs:List Tr}(hb:∀t∈qs,Y1 t)(hl:qs.length<=17):∃d,J2 [.sh (.lst (qs.map trE))]=some (.own d)/\Fd (Yo (qs.map JH)) (.lst d):=by
 have R:Rows (Yo (qs.map JH)):=by
  have:=VS (ws:=qs.map JH) (by rw[Qy];omega) (fun w hw=>by obtain⟨t,ht,rfl⟩:=Ku.mp hw;exact JbV (hb t ht)) [] (by simp) (by decide) (by simp)
  rw[QT] at this;exact this
 have ln:(lnO (Yo (qs.map JH))).map ltL=qs.map some:=by
  rw[Jeh _ (fun w hw=>by obtain⟨t,ht,rfl⟩:=Ku.mp hw;exact JbU t),GF,GF]
  exact KB fun t ht=>JcN t (hb t ht)
 obtain⟨q1,q2,q3⟩:=JfW R ln (by omega)
 by_cases h1:Vd none qs=true
 ·obtain⟨u1,u2⟩:=q1 h1;exact⟨_,Jeo qs (by omega) h1,_,JeF _ u1 u2,Jin _ (by decide +kernel)⟩
 ·have ha:VY none qs:=bad_asc.mp (Bool.eq_false_iff.mpr h1);obtain⟨d1,d2⟩:=Jgk qs (by omega) ha
  by_cases hs:VG qs>30
  ·obtain⟨u1,u2⟩:=q2 ha hs;exact⟨_,d1 hs,_,JgS _ u1 u2,Jin _ (by decide +kernel)⟩
  ·exact⟨_,d2 (by omega),_,JgU _ _ (q3 ha (by omega)),Jgu _ (by decide +kernel) qs⟩
theorem Jgi{α:Type}(xs:List α)(x:α):Jaj (xs++[x]) none (some (-1))=xs:=by
 have hx:HT.sIx (xs++[x]).length (xs++[x]).length (some (-1))=xs.length:=by
  rw[Qh,QE];unfold HT.sIx;simp
  try omega
 unfold Jaj;rw[HT.Jbv,hx,Ls,Nat.sub_zero];exact List.take_left' rfl
theorem Jc9(ns:List Int)(span:Int)(h0:0<span)(h1:span<=10 ^ 40):∀i:Nat,i<=16->∀t∈(Yu ns span i).tb,t.1.natAbs<=10 ^ 43/\t.2.1.natAbs<=10 ^ 43/\1<=t.2.2/\t.2.2<=30
 | 0,_=>fun t h=>absurd h K3
 | i+1,hi=>fun t ht=>by
  obtain⟨a1,a2,a3,a4,_⟩:=Wy ns span h0 h1 (i+1) hi;have n0:1<=mny ns i/\mny ns i<=4:=by unfold mny;omega
  have e:Yu ns span (i+1)=stp 0 (mor ns span i) (awy ns span i) (mny ns i) (Yu ns span i):=rfl
  have k:t∈(Yu ns span i).tb\/t=((Yu ns span (i+1)).size,(Yu ns span (i+1)).spot,mny ns i):=by
   rw[e] at ht ⊢;unfold stp at ht ⊢;dsimp only at ht ⊢;split at ht
   ·rcases Gm.mp ht with z|z
    ·exact .inl z
    ·exact .inr (Lu.mp z)
   ·exact .inl ht
  rcases k with z|z
  ·exact Jc9 ns span h0 h1 i (by omega) t z
  ·rw[z];dsimp only;omega
theorem Jk5(ns:List Int):(∀t∈trs ns,t.1.natAbs<=10 ^ 43/\t.2.1.natAbs<=10 ^ 43/\1<=t.2.2/\t.2.2<=30)/\(trs ns).length<=16:=by obtain⟨s1,s2⟩:=JfK ns;obtain⟨_,_,_,_,_,a6,a7,a8,a9,_⟩:=Wy ns (spn ns) s1 s2 (cell ns 0 % 16).toNat (by omega);exact⟨Jc9 ns (spn ns) s1 s2 (cell ns 0 % 16).toNat (by omega),by have:(trs ns).length<=(cell ns 0 % 16).toNat:=a8;omega⟩
theorem Jjo(ns:List Int):∃(qs:List Tr) (d:List D) (c:Int) (k:Nat),(∀t∈qs,Y1 t)/\qs.length<=17/\0<=c/\k<=qs.length/\Fd (Yo (qs.map JH)) (.lst d) ∧
 ∀T:Es,(Jk (Jl 1 (e2 Yt (eU 2 JM (aC (Jb 0) (aC (eC (.int 1)) a0))) (e2 JbP (eC (.int 10)) (eC (.int 12))))) (Jk (Jl 2 (eU 3 Yx (aC (eU 1 Ye (aC (Jb 0) a0)) (aC (e2 Yt (eF V4 (aC (Jb 0) a0)) (eC (.int 9))) (aC (e2 Yt (e2 YM (eF V4 (aC (Jb 0) a0)) (eC (.int 9))) (e2 JbP (eC (.int 10)) (eC (.int 9)))) a0))))) (Jk (U7 3 (eSl (eM UB (eU 1 JU (aC (Jb 2) a0)) (aC (eC (.str "\n")) a0)) none (some (e1 UY (eC (.int 1)))))) (Jk (Jl 4 (eU 1 J2 (aC (Jb 2) a0))) (Jk (Jl 5 (e2 Yt (Jb 1) (eC (.int 8)))) (Jk (Jl 6 (e2 Yt (e2 YM (Jb 1) (eC (.int 8))) (e2 JJ (eF Ui (aC (Jb 3) a0)) (eC (.int 1))))) T)))))) [.sh (.fz (ns.map .int)),.no,.no,.no,.no,.no,.no,.no]=T [.sh (.fz (ns.map .int)),.sh (.int c),.sh (.lst (qs.map trE)),.own ((qs.map JH).map wD),.sh (.lst d),.sh (.int (c % 8)),.sh (.int (k:Int)),.no]:=by
 obtain⟨b1,b2⟩:=Jk5 ns;obtain⟨qs,q1,q2,u1⟩:=JjM (trs ns) b1 b2 (ns.sum % 9) (ns.sum / 9 % 10 ^ 9) (Gz _ (by decide));have hf:∀t∈qs,Y1 t:=fun t ht=>(q1 t ht).fig
 obtain⟨d,u2,fd⟩:=JiU hf q2;have hr:=Gz (cell ns 1) (show(10:Int) ^ 12≠0 by decide);have hp:(0:Int)<((qs.length:Nat):Int)+1:=by omega
 obtain⟨k,hk⟩:∃k:Nat,(cell ns 1 % 10 ^ 12) / 8 % ((qs.length:Int)+1)=(k:Int):=⟨((cell ns 1 % 10 ^ 12) / 8 % ((qs.length:Int)+1)).toNat,by have:=Gz ((cell ns 1 % 10 ^ 12) / 8) (Int.ne_of_gt hp);omega⟩
 have hk':k<=qs.length:=by have:=GL ((cell ns 1 % 10 ^ 12) / 8) hp;omega
 have mt:=JdK qs (by omega) hf
 have tl:=Jc7 hf
 have sp:=JfS qs
 have tb:641*qs.length<=641*17:=Nat.mul_le_mul_left _ q2
 have f:=Jcj (JaQ qs) 10 (by decide) (by omega) (by rw[sp,Qh,Qy,QE];omega);rw[sp,QU,Qt,Gj] at f;refine⟨qs,d,cell ns 1 % 10 ^ 12,k,hf,q2,hr,hk',fd,fun T=>?_⟩;walk_at "ev";rw[WW ns 1 (by decide)];walk_at "ev";rw[JdM];walk_at "ev";rw[U9 (ns:=ns) rfl];walk_at "ev";rw[u1];walk_at "ev";rw[mt];walk_at "ev";rw[Jid,f];walk_at "ev";rw[Jgi,u2];walk_at "ev"
 rw[hk];rfl
noncomputable def extL:List (List Nat):=[[108,117,109,112,32,49,32,97,116,32,49,32,116,105,109,101,115,32,49],[120],[32]]
theorem Jjb:[Qf "lump 1 at 1 times 1",Qf "x",Qf " "]=extL.map tx:=by decide +kernel
theorem Jjc{m:List Nat}(h:m∈extL):m≠[]/\m.length<=20/\10∉m/\∀c∈m,c<256:=by
 have:∀m∈extL,m≠[]/\m.length<=20/\10∉m/\∀c∈m,c<256:=by decide
 exact this m h
theorem JeQ:∀ws:List (List Nat),K7 GG (ws.map fun w=>tx (w++[10]))=tx (Yo ws)
 | []=>rfl
 | [w]=>by simp[Yo];rfl
 | w::v::r=>by
  have ih:=JeQ (v::r);rw[Qt] at ih ⊢;rw[Qt]
  show tx (w++[10])++GG++K7 GG (tx (v++[10])::r.map fun w=>tx (w++[10]))=_;rw[ih,show GG=tx [] from rfl,UO,UO];simp[Yo]
theorem Jda(ws:List (List Nat))(hl:ws.length<=30)(h:∀w∈ws,Jdg w)(a b c d e f j:Sl):eM UZ (eC (.str (Qf ""))) (aC (Ur (iE true (Jb 3)) (.nm 0) yes? (e2 JJ (Jb 0) (eC (.str (Qf "\n")))) [none]) a0) [a,b,c,.own (ws.map wD),d,e,f,j]=some (.sh (.str (tx (Yo ws)))):=by
 have l1:(Qf "\n").length=1:=by decide +kernel
 have ea:Y2 (.nm 0) yes? (e2 JJ (Jb 0) (eC (.str (Qf "\n")))) [.no] (ws.map wD)=some (ws.map fun w=>D.str (tx (w++[10]))):=Y4 fun w hw=>by
  have:=(h w hw).1
  have l2:(tx w).length<=640:=by rw[J9];exact this
  unfold wD;walk_at "ev";rw[Jid,UO]
 walk_at "ev";rw[ea];walk_at "ev";have e:(Sl.own (ws.map fun w=>D.str (tx (w++[10])))).r=some ((ws.map fun w=>tx (w++[10])).map D.str):=by rw[GF];rfl
 rw[ZR e,Jdb,JeQ];rw[GF,Qy]
 have:((ws.map ((·.length) ∘ fun w=>tx (w++[10]))).sum)<=(ws.map ((·.length) ∘ fun w=>tx (w++[10]))).length*641:=JkT fun x hx=>by obtain⟨w,hw,rfl⟩:=Ku.mp hx;show(tx (w++[10])).length<=641;rw[J9,Qh];have:=(h w hw).1;show _+1<=_;omega
 rw[Qy] at this;have l0:(Qf "").length=0:=by decide +kernel
 rw[l0];omega
noncomputable abbrev JfX:Es:=(Jk (xIf (tAnd? (tB? (e2 fGt (Jb 5) (eC (.int 0)))) (tB? (e2 fLt (Jb 5) (eC (.int 4))))) (Jk (Zq 3 (Jb 6) (eU 1 JN (aC (e2 YM (Jb 1) (eC (.int 256))) a0))) (Jl 4 (JW (aC (eC (.str "text")) (aC (e2 JJ (Jb 6) (eC (.int 1))) a0))))) Jx) (Jk (Jl 7 (eM UZ (eC (.str "")) (aC (Ur (iE true (Jb 3)) (.nm 0) yes? (e2 JJ (Jb 0) (eC (.str "\n"))) [none]) a0))) (Jk (xIf (tB? (e2 fEq (Jb 5) (eC (.int 4)))) (Jk (Jl 7 (e2 JJ (Jb 7) (e2 fIx (JW (Ue ["lump 1 at 1 times 1","x"," "] a0)) (e2 Yt (e2 YM (Jb 1) (eC (.int 8))) (eC (.int 3)))))) (Jl 4 (JW (aC (eC (.str "text")) (aC (e2 JJ (eF Ui (aC (Jb 3) a0)) (eC (.int 1))) a0))))) Jx) (Jk (xIf (tAnd? (tB? (e2 fEq (Jb 5) (eC (.int 5)))) (tB? (e2 fNe (Jb 3) (JW a0)))) (Jk (Jl 7 (Jds (Jb 7) none (some (e1 UY (eC (.int 1)))))) (Jl 4 (JW (aC (eC (.str "text")) (aC (eF Ui (aC (Jb 3) a0)) a0))))) Jx) (YO (e2 fEq (eU 1 JZ (aC (Jb 7) a0)) (Jb 4)))))))

theorem Jh1(l:List Nat)(c:Nat):Kv (tx (l++[c])) none (some (-1))=tx l:=by
 have i:Kj none (some (-1)) 1 (tx (l++[c])).length=Kj none (some (l.length:Int)) 1 (tx (l++[c])).length:=by unfold Kj;rw[J9,Qh,QE];dsimp only;rw[if_pos (show(-1:Int)<0 by decide),if_neg (show ¬(l.length:Int)<0 by omega),show(-1:Int)+((l.length+1:Nat):Int)=(l.length:Int) by omega]
 have e:Kv (tx (l++[c])) none (some (-1))=Kv (tx (l++[c])) none (some (l.length:Int)):=by unfold Kv;rw[i]
 rw[e,Jmh _ _ (by rw[Qh];omega),List.take_left]

theorem Jk9(ws:List (List Nat))(k:Nat)(w:List Nat):Y6 (ws.map wD) k (.str (tx w))=(Y6 ws k w).map wD:=Jbc wD ws k w
section
variable{qs:List Tr}{d:List D}(fz:D)(c:Int)(k:Nat)
noncomputable def UN(fz:D)(c:Int)(qs:List Tr)(d:List D)(k:Nat):En:=[.sh fz,.sh (.int c),.sh (.lst (qs.map trE)),.own ((qs.map JH).map wD),.sh (.lst d),.sh (.int (c % 8)),.sh (.int (k:Int)),.no]
theorem U0(hf:∀t∈qs,Y1 t):∀w∈qs.map JH,Jdg w:=fun w hw=>by obtain⟨t,ht,rfl⟩:=Ku.mp hw;exact JbV (hf t ht)
theorem Jau(hf:∀t∈qs,Y1 t):((qs.map JH).map some).map ltL=qs.map some:=by rw[GF,GF];exact KB fun t ht=>JcN t (hf t ht)
theorem Jk4(h:0<c % 8/\c % 8<4)(hc:0<=c)(hf:∀t∈qs,Y1 t)(hl:qs.length<=17)(hk:k<=qs.length):JfX (UN fz c qs d k)=some (.rt (.sh (.bl true))):=by
 obtain⟨w,hw,u⟩:=JdL (c / 256);obtain⟨w1,w2,w3,w4⟩:=Jg8 hw;have hll:(qs.map JH).length=qs.length:=Qy _
 have ok:∀v∈Y6 (qs.map JH) k w,Jdg v:=fun v hv=>by
  rcases Jbg hv with z|z
  ·exact U0 hf v z
  ·rw[z];exact⟨by omega,w3,w4⟩
 have il:(Y6 (qs.map JH) k w).length<=30:=by rw[WM _ _ _ (by omega)];omega
 have R:Rows (Yo (Y6 (qs.map JH) k w)):=by have:=VS il ok [] (by simp) (by decide) (by simp);rw[QT] at this;exact this
 have ln:lnO (Yo (Y6 (qs.map JH) k w))=((qs.take k).map JH).map some++some w::((qs.drop k).map JH).map some:=by rw[Jeh _ fun v hv=>(ok v hv).2.1];unfold Y6;simp only[QU,Qt,List.map_take,List.map_drop]
 have F:Fd (Yo (Y6 (qs.map JH) k w)) (JbN ((k:Int)+1)):=by have tf:=Zl R ln (Jau (qs:=qs.take k) fun t ht=>hf t (K9 ht)) w1;rw[Qy,Qy,GH,Nat.min_eq_left hk] at tf;exact fdT tf
 have pre:∀T:Es,(Jk (xIf (tAnd? (tB? (e2 fGt (Jb 5) (eC (.int 0)))) (tB? (e2 fLt (Jb 5) (eC (.int 4))))) (Jk (Zq 3 (Jb 6) (eU 1 JN (aC (e2 YM (Jb 1) (eC (.int 256))) a0))) (Jl 4 (JW (aC (eC (.str "text")) (aC (e2 JJ (Jb 6) (eC (.int 1))) a0))))) Jx) T) (UN fz c qs d k)=T [.sh fz,.sh (.int c),.sh (.lst (qs.map trE)),.own ((Y6 (qs.map JH) k w).map wD),.sh (.lst [.str (Qf "text"),.int ((k:Int)+1)]),.sh (.int (c % 8)),.sh (.int (k:Int)),.no]:=fun T=>by unfold UN;walk_at "ev";rw[decide_eq_true h.1,decide_eq_true h.2];walk_at "ev";rw[u];walk_at "ev";rw[show((k:Int)).toNat=k from Gv _,Jk9]
 refine(pre _).trans ?_;rw[Jk,Jl,Jda _ il ok];walk_at "ev";rw[decide_eq_false (show ¬c % 8=4 by omega)];walk_at "ev";rw[decide_eq_false (show ¬c % 8=5 by omega)];walk_at "ev";obtain⟨l,h1,h2⟩:=F;simp only[JbN] at h2;rw[h1];walk_at "ev";rw[h2];walk_at "ev"
theorem Jk3(h:c % 8=4)(hc:0<=c)(hf:∀t∈qs,Y1 t)(hl:qs.length<=17):JfX (UN fz c qs d k)=some (.rt (.sh (.bl true))):=by
 obtain⟨j,hj⟩:∃j:Nat,c / 8 % 3=(j:Int):=⟨(c / 8 % 3).toNat,by omega⟩
 have hj':j<extL.length:=by show j<3;omega
 have hat:atI ((extL.map tx).map D.str) (j:Int)=some (.str (tx extL[j])):=by rw[YG,YG,UW hj'];rfl
 rw[<- Jjb] at hat;simp only[Qt,Gj] at hat;obtain⟨e1',e2',e3',e4'⟩:=Jjc (G4 hj');have hll:(qs.map JH).length=qs.length:=Qy _;have R:=VS (ws:=qs.map JH) (by omega) (U0 hf) extL[j] e3' (by omega) e4';have ln:=Jct (qs.map JH) extL[j] e3' e1' fun w hw=>(U0 hf w hw).2.1
 have F:Fd (Yo (qs.map JH)++extL[j]) (JbN ((qs.length:Int)+1)):=by have tf:=Zl R ln (Jau hf) rfl;rw[Qy,Qy] at tf;exact fdT tf
 have cl:=Ws 640 (qs.map JH) fun w hw=>(U0 hf w hw).1
 have cb:(qs.map JH).length*(640+1)<=17*641:=Lb _ (by omega)
 have l1:(tx (Yo (qs.map JH))).length<=17*641:=by rw[J9];omega
 have l2:(tx extL[j]).length<=20:=by rw[J9];exact e2'
 have pre:∀T:Es,(Jk (xIf (tAnd? (tB? (e2 fGt (Jb 5) (eC (.int 0)))) (tB? (e2 fLt (Jb 5) (eC (.int 4))))) (Jk (Zq 3 (Jb 6) (eU 1 JN (aC (e2 YM (Jb 1) (eC (.int 256))) a0))) (Jl 4 (JW (aC (eC (.str "text")) (aC (e2 JJ (Jb 6) (eC (.int 1))) a0))))) Jx) T) (UN fz c qs d k)=T (UN fz c qs d k):=fun T=>by unfold UN;walk_at "ev";rw[decide_eq_true (show(0:Int)<c % 8 by omega),decide_eq_false (show ¬c % 8<4 by omega)];walk_at "ev"
 refine(pre _).trans ?_;unfold UN;rw[Jk,Jl,Jda _ (by omega) (U0 hf)];walk_at "ev";rw[decide_eq_true h];walk_at "ev";rw[hj,hat];walk_at "ev";rw[decide_eq_false (show ¬c % 8=5 by omega)];walk_at "ev";obtain⟨l,h1,h2⟩:=F;simp only[JbN] at h2;rw[UO,h1];walk_at "ev";rw[h2];walk_at "ev"
theorem lay_all:∀ws:List (List Nat),(∀w∈ws,Jdg w)->QS (D.pyL (ws.map wD))=true
 | [],_=>rfl
 | w::r,h=>by
  have ih:=lay_all r fun v hv=>h v (Qj _ hv)
  have k:Q7 (tx w)=true:=Jbz (h w (by simp)).2.2
  show(Q7 (tx w) && QS (D.pyL (r.map wD)))=true;rw[k,ih];rfl
theorem Ji8(h0:qs≠[])(hf:∀t∈qs,Y1 t):eqA (D.lst ((qs.map JH).map wD)) (D.lst [])=some false:=by
 show eqD _ _=_;unfold eqD
 have c1:(D.lst ((qs.map JH).map wD)).py.canLay0=true:=lay_all _ (U0 hf)
 have c3:min (D.lst ((qs.map JH).map wD)).py.depth (D.lst []).py.depth<=60:=QK (Nat.min_le_right _ _) (by decide);rw[c1,decide_eq_true c3,if_pos (by rfl)];congr 1
 cases qs with
 | nil=>exact absurd rfl h0
 | cons t r=>rfl
theorem Jk2(h:c % 8=5)(h0:qs≠[])(hf:∀t∈qs,Y1 t)(hl:qs.length<=17):JfX (UN fz c qs d k)=some (.rt (.sh (.bl true))):=by
 obtain⟨r,q,hr⟩:∃r q,qs=r++[q]:=⟨_,_,(Ke h0).symm⟩
 have hfr:∀t∈r,Y1 t:=fun t ht=>hf t (by rw[hr];simp[ht])
 have hfq:Y1 q:=hf q (by rw[hr];simp)
 have okq:=JbV hfq
 have hrl:r.length+1=qs.length:=by rw[hr,Qh];rfl
 have ct:Yo (qs.map JH)=(Yo (r.map JH)++JH q)++[10]:=by rw[hr,QU,Jcs];simp[Yo]
 have R:=VS (ws:=r.map JH) (by rw[Qy];omega) (U0 hfr) (JH q) okq.2.1 okq.1 okq.2.2
 have ln:=Jct (r.map JH) (JH q) okq.2.1 (by unfold JH;simp) fun w hw=>(U0 hfr w hw).2.1
 have F:Fd (Yo (r.map JH)++JH q) (JbN (qs.length:Int)):=by have tf:=Zl R ln (Jau hfr) rfl;rw[Qy,Qy,show(r.length:Int)+1=(qs.length:Int) by omega] at tf;exact fdT tf
 have cl:=Ws 640 (qs.map JH) fun w hw=>(U0 hf w hw).1
 have hll:(qs.map JH).length=qs.length:=Qy _
 have cb:(qs.map JH).length*(640+1)<=17*641:=Lb _ (by omega)
 have l1:(tx (Yo (r.map JH)++JH q++[10])).length<=17*641:=by rw[<- ct,J9];omega
 have en:=Ji8 h0 hf
 have pre:∀T:Es,(Jk (xIf (tAnd? (tB? (e2 fGt (Jb 5) (eC (.int 0)))) (tB? (e2 fLt (Jb 5) (eC (.int 4))))) (Jk (Zq 3 (Jb 6) (eU 1 JN (aC (e2 YM (Jb 1) (eC (.int 256))) a0))) (Jl 4 (JW (aC (eC (.str "text")) (aC (e2 JJ (Jb 6) (eC (.int 1))) a0))))) Jx) T) (UN fz c qs d k)=T (UN fz c qs d k):=fun T=>by unfold UN;walk_at "ev";rw[decide_eq_true (show(0:Int)<c % 8 by omega),decide_eq_false (show ¬c % 8<4 by omega)];walk_at "ev"
 refine(pre _).trans ?_;unfold UN;rw[Jk,Jl,Jda _ (by omega) (U0 hf)];walk_at "ev";rw[decide_eq_false (show ¬c % 8=4 by omega)];walk_at "ev";rw[decide_eq_true h,en,ct];walk_at "ev";obtain⟨l,h1,h2⟩:=F;simp only[JbN] at h2;rw[Jh1,h1];walk_at "ev";rw[h2];walk_at "ev"
theorem Jh8(h1:¬(0<c % 8/\c % 8<4))(h4:¬c % 8=4)(h5:c % 8=5->qs=[])(hf:∀t∈qs,Y1 t)(hl:qs.length<=17)(F:Fd (Yo (qs.map JH)) (.lst d)):JfX (UN fz c qs d k)=some (.rt (.sh (.bl true))):=by
 have hll:(qs.map JH).length=qs.length:=Qy _
 have pre:∀T:Es,(Jk (xIf (tAnd? (tB? (e2 fGt (Jb 5) (eC (.int 0)))) (tB? (e2 fLt (Jb 5) (eC (.int 4))))) (Jk (Zq 3 (Jb 6) (eU 1 JN (aC (e2 YM (Jb 1) (eC (.int 256))) a0))) (Jl 4 (JW (aC (eC (.str "text")) (aC (e2 JJ (Jb 6) (eC (.int 1))) a0))))) Jx) T) (UN fz c qs d k)=T (UN fz c qs d k):=fun T=>by
  unfold UN;walk_at "ev"
  by_cases q:0<c % 8
  ·rw[decide_eq_true q,decide_eq_false (show ¬c % 8<4 from fun z=>h1 ⟨q,z⟩)];walk_at "ev"
  ·rw[decide_eq_false q];walk_at "ev"
 refine(pre _).trans ?_;unfold UN;rw[Jk,Jl,Jda _ (by omega) (U0 hf)];walk_at "ev";rw[decide_eq_false h4];walk_at "ev";obtain⟨l,u1,u2⟩:=F
 by_cases q5:c % 8=5
 ·have:=h5 q5;subst this;simp only[Gj] at u1;rw[decide_eq_true q5,show eqA (D.lst (([]:List Tr).map JH |>.map wD)) (D.lst [])=some true from rfl];walk_at "ev";rw[u1];walk_at "ev";rw[u2];walk_at "ev"
 ·rw[decide_eq_false q5];walk_at "ev";rw[u1];walk_at "ev";rw[u2];walk_at "ev"
end
theorem law_true(ns:List Int)(hn:ns.length<=63):Jet [.sh (.fz (ns.map .int))]=some (.sh (.bl true)):=by
 obtain⟨qs,d,c,k,hf,hl,hc,hk,F,hd⟩:=Jjo ns;refine(congrArg (fun o:Option Out=>o.bind Vy) (hd _)).trans ?_
 have t:JfX (UN (.fz (ns.map .int)) c qs d k)=some (.rt (.sh (.bl true))):=by
  by_cases h1:0<c % 8/\c % 8<4
  ·exact Jk4 _ _ _ h1 hc hf hl hk
  ·by_cases h4:c % 8=4
   ·exact Jk3 _ _ _ h4 hc hf hl
   ·by_cases h5:c % 8=5/\qs≠[]
    ·exact Jk2 _ _ _ h5.1 h5.2 hf hl
    ·exact Jh8 _ _ _ h1 h4 (fun z=>Classical.byContradiction fun y=>h5 ⟨z,y⟩) hf hl F
 exact congrArg (fun o:Option Out=>o.bind Vy) t
end
end LK
noncomputable section
namespace LK
open PySem L2 LR LE
noncomputable def top(i:Nat):Gw:=PySem.Challenge.pw_lumprow_k73_texts_of_no_tables.main.body.getD i (.Pass ⟨0,0,0,0⟩)
noncomputable abbrev Ua:Gw:=JgY (top 4) 0
noncomputable abbrev U4:Gw:=top 23
noncomputable abbrev U2:Gw:=top 24
noncomputable abbrev Ul:Gw:=top 12
noncomputable abbrev Vt:Gw:=top 17
noncomputable abbrev Up:Gw:=top 16
noncomputable abbrev U5:Gw:=top 20
noncomputable abbrev UL:Gw:=top 19
noncomputable abbrev U3:Gw:=top 30
noncomputable abbrev Um:Gw:=top 27
noncomputable abbrev We:Gw:=top 29
noncomputable abbrev YF:Gw:=top 26
noncomputable abbrev Wd:Gw:=top 28
noncomputable abbrev Vs:Gw:=top 22
noncomputable abbrev Uo:Gw:=top 25
noncomputable abbrev VT:Gw:=top 31
local macro_rules | `(tactic| walk_at "c")=>`(tactic| exact⟨rfl,rfl,rfl,by decide +kernel,rfl,by decide +kernel,by decide +kernel⟩)
theorem JjP:(["size","spot","number"]:List Str).Nodup:=by decide +kernel
theorem Jmz:(["figure"]:List Str).Nodup:=by decide +kernel
theorem JmA:(["word"]:List Str).Nodup:=by decide +kernel
theorem JjQ:(["size","spot","many"]:List Str).Nodup:=by decide +kernel
theorem JmB:(["each"]:List Str).Nodup:=by decide +kernel
theorem JmC:(["row"]:List Str).Nodup:=by decide +kernel
section
variable{P:Qp}{w:QC}{K:Qq}{C:Qc}{mg:Str->Option Qa}{base:QJ}{qf:Qc}{qv:Qc}{qo:Qc}{qk:Qc}{qb:Qc}{qi:Qc}{qa:Qc}{qd:Qc}{qp:Qc}
theorem Wo:FnScope ["self","at"] ["self","at"] (Jr Ua):=by walk_at "c"
theorem Jbb{f B c:Qc}{fd:QH}(F:Fun K "__init__" "BadText.__init__" Ua f fd)(T:IniC K c f B)(qg:mg "LumpError"=some (.ref B)):FnOk P w K mg base CX0 1 f fd ["self","at"] (Z3 c):=by refine F.ok Wo (fun vs H Q E h=>JdY h) (fun cdv A outer s H vs Q E hr h=>?_);refine⟨_,Jf (YW (Jfc T rfl qg rfl rfl (.inl rfl) (.inl rfl) (by decide))) (Jo (Jkf T rfl rfl rfl (.inl rfl) (.inl rfl))),?_⟩;obtain⟨a,k,e,hk,ha,q⟩:=h;subst e;exact⟨a,k,rfl,rfl,hk,ha,a,k,rfl,rfl,ha,q⟩
theorem JaL:FnScope ["found"] ["found"] (Jr U4):=by walk_at "c"
theorem JaC{f:Qc}{fd:QH}(F:Fun K "_law_whole" "_law_whole" U4 f fd)(qe:mg "isinstance"=none)(w5:mg "bool"=none)(wd:mg "int"=none):FnOk P w K mg base CX0 1 f fd ["found"] (spE K C 1 UA) :=
 okE F JaL rfl fun _ _ _ _ _ _ hr hu=>⟨_,(Jo (JV (Jb8 (Jv (ZO (K:=K) rfl) rfl qe Jy (Ja (pv 0) (Ja (JaG (v:=V.ty "int") rfl wd Jad rfl) Je))) (Je8 (Jka (Jv (ZO (K:=K) rfl) rfl qe Jy (Ja (pv 0) (Ja (JaG (v:=V.ty "bool") rfl w5 Jge rfl) Je)))))))),(Yv (Jfz (JiD Jg4 (Jc 0)) (Jmg (JiD JeS (Jc 0)))))⟩
theorem sc_law_alone:FnScope ["e","kinds"] ["e"] (Jr U2):=by walk_at "c"
theorem JaA{f:Qc}{fd:QH}(F:Fun K "_law_alone" "_law_alone" U2 f fd)(qe:mg "isinstance"=none)(qH:mg "ValueError"=none)(xG:ExcG K)(xO:OwnL K ["BadTable","BadText","TooMany"] [qb,qa,qd])(iV:IsiV K ["BadTable","BadText","TooMany"])(qg:mg "LumpError"=some (.ref qf))(qO:IsiN K ["BadTable","BadText","TooMany"] "LumpError" qf)(wN:mg "NoRow"=some (.ref qv))(wO:IsiN K ["BadTable","BadText","TooMany"] "NoRow" qv)(wH:mg "Unlike"=some (.ref qo))(wI:IsiN K ["BadTable","BadText","TooMany"] "Unlike" qo)(wB:mg "BadDeed"=some (.ref qk))(wC:IsiN K ["BadTable","BadText","TooMany"] "BadDeed" qk)(qj:mg "BadTable"=some (.ref qb))(qt:IsiN K ["BadTable","BadText","TooMany"] "BadTable" qb)(we:mg "BadSeats"=some (.ref qi))(wf:IsiN K ["BadTable","BadText","TooMany"] "BadSeats" qi)(qu:mg "BadText"=some (.ref qa))(qw:IsiN K ["BadTable","BadText","TooMany"] "BadText" qa)(qm:mg "TooMany"=some (.ref qd))(qx:IsiN K ["BadTable","BadText","TooMany"] "TooMany" qd)(wJ:mg "BadRow"=some (.ref qp))(wK:IsiN K ["BadTable","BadText","TooMany"] "BadRow" qp):FnOk P w K mg base CX0 1 f fd ["e"] (spE K C 1 Uz) :=
 okE F sc_law_alone rfl fun _ _ _ _ _ _ hr hu=>⟨_,(Jf (psN 1 sc_law_alone.nd (JQ (Ja (Jv (J0 (K:=K) rfl) rfl qe Jy (Ja (pv 0) (Ja (Yq (v:=V.ref qp) rfl wJ rfl) Je))) (Ja (Jv (J0 (K:=K) rfl) rfl qe Jy (Ja (pv 0) (Ja (Yq (v:=V.ref qd) rfl qm rfl) Je))) (Ja (Jv (J0 (K:=K) rfl) rfl qe Jy (Ja (pv 0) (Ja (Yq (v:=V.ref qa) rfl qu rfl) Je))) (Ja (Jv (J0 (K:=K) rfl) rfl qe Jy (Ja (pv 0) (Ja (Yq (v:=V.ref qi) rfl we rfl) Je))) Je))))))
  (Jf (psN 1 sc_law_alone.nd (Js (JC (K:=K) rfl) (pv 1) (JQ (Ja (Jv (J0 (K:=K) rfl) rfl qe Jy (Ja (pv 0) (Ja (Yq (v:=V.ref qb) rfl qj rfl) Je))) (Ja (Jv (J0 (K:=K) rfl) rfl qe Jy (Ja (pv 0) (Ja (Yq (v:=V.ref qk) rfl wB rfl) Je))) (Ja (Jv (J0 (K:=K) rfl) rfl qe Jy (Ja (pv 0) (Ja (Yq (v:=V.ref qo) rfl wH rfl) Je))) (Ja (Jv (J0 (K:=K) rfl) rfl qe Jy (Ja (pv 0) (Ja (Yq (v:=V.ref qv) rfl wN rfl) Je))) Je)))))))
  (Jo (JV (Jb8 (JaH (Yz (K:=K) rfl hu) (YA (K:=K) rfl QW PySem.F.slot_list_count PySem.F.type_list_count JdO (pv 1) (Ja JlO Je)) Jg (JD _)) (Jb8 (Jv (J0 (K:=K) rfl) rfl qe Jy (Ja (pv 0) (Ja (Yq (v:=V.ref qf) rfl qg rfl) Je))) (Je8 (Jv (J0 (K:=K) rfl) rfl qe Jy (Ja (pv 0) (Ja (JaG (v:=V.ty "ValueError") rfl qH Zu rfl) Je)))))))))),(Jn (Jt (J7 (Jd (UT wK (Jc 0)) (Jd (UT qx (Jc 0)) (Jd (UT qw (Jc 0)) (Jd (UT wf (Jc 0)) Jh))))))
  (Jn (Jt (Jj J6 (Jc 1) (J7 (Jd (UT qt (Jc 0)) (Jd (UT wC (Jc 0)) (Jd (UT wI (Jc 0)) (Jd (UT wO (Jc 0)) Jh)))))))
  (Yv (Jfz (Jj VH (JhR (Jc 1) JmL) Ji) (Jfz (UT qO (Jc 0)) (Jmf iV (Jc 0)))))))⟩
theorem sc_check_table:FnScope ["table","ahead","size","spot","number"] ["table"] (Jr Ul):=by walk_at "c"
theorem WZ{f:Qc}{fd:QH}(F:Fun K "check_table" "check_table" Ul f fd)(qE:mg "sum"=none)(qI:GV mg "MOST_LUMPS" (.int 30))(qm:mg "TooMany"=some (.ref qd))(qF:AtX K "TooMany" qd)(qj:mg "BadTable"=some (.ref qb))(qq:AtX K "BadTable" qb):FnOk P w K mg base (CX1 P w) 1 f fd ["table"] (spX K C 1 Jz JS):=by
 refine Fun.okX F sc_check_table (fun vs H Q E h=>Jc3 h) (fun cdv A outer s H vs Q E hr h=>?_);have hu:=hr.units;refine⟨_,(Jf (psN 1 sc_check_table.nd YB)
  (Jf (W9 MU rfl (piK K (pv 0)) (UG (K:=K) (n:=3) rfl rfl (JP (Yb (i:=2) sc_check_table.nd rfl (.inl rfl)) (JP (Yb (i:=3) sc_check_table.nd rfl (.inl rfl)) (JP (Yb (i:=4) sc_check_table.nd rfl (.inl rfl)) UH))) rfl rfl) (Jf (Yi (PW.pt (Jbt (Jw ZZ (pv 2) Jg (JD _)) (JaI (Jw ZZ (pv 4) Jg (JD _))))) (Jo (Wb (K:=K) rfl qq.ok rfl qj rfl xok_cx (Ja JE Je))) JO)
  (Jf (Yi (PW.pt (Vq (Jw Je3 (pv 1) YB (JD _)) (UK (Jw (Jj5 (K:=K) rfl (KJ (LZ _ 64) hu)) (Vp (Ja (pv 2) (Ja (pv 3) Je))) (pv 1) (JD _))))) (Jo (Wb (K:=K) rfl qq.ok rfl qj rfl xok_cx (Ja JE Je))) JO)
  (Jo (psN 1 sc_check_table.nd (Vp (Ja (pv 2) (Ja (pv 3) Je))))))))
  (Jo (Yi (Jw ZY (Jv (Uq (K:=K) rfl rfl) rfl qE WE (Ja (VP (N':=["size","spot","number"]) (imp:=[none,none,none]) rfl (piK K (pv 0)) (Jdi rfl rfl) (fun _ _ _ _=>(UG (K:=K) (n:=3) rfl rfl (JP (pgN 0 JjP) (JP (pgN 1 JjP) (JP (pgN 2 JjP) UH))) rfl rfl)) (fun _ _ _ _=>Uu) (fun _ _ _ _=>(pv 2))) Je)) (W4 rfl qI) (JD _)) (Jo (Wb (K:=K) rfl qF.ok rfl qm rfl xok_cx (Ja JE Je))) JO)))),?_⟩
 exact Ja8 (N:=["table","ahead","size","spot","number"]) (Jn (Jt Yl)
  (Jn (Zr (JhS 0) (US (JL (Yj 2) (JL (Yj 3) (JL (Yj 4) UR))) rfl) (Jn (Ym (VU (Jp (Jj VJ (Jc 2) Ji)) (Jp (Jj VJ (Jc 4) Ji))) Yr JI)
  (Jn (Ym (Ub (Jp (Jj VI (Jc 1) Yl)) (Jp (Jj Jbm (Uv (Jd (Jc 2) (Jd (Jc 3) Jh))) (Jc 1)))) Yr JI)
  (Jt (Uv (Jd (Jc 2) (Jd (Jc 3) Jh)))))))
  (Ym (Jp (Jj Jb3 (YJ ZM (Jd (Vr (Jcf (Jc 0)) (US (JL (Yj 0) (JL (Yj 1) (JL (Yj 2) UR))) rfl) Zb (Jc 2) rfl) Jh)) Ji)) Yr JI))) (UQ (Jt Yl)
  Vh (UQ (Zr (JhS 0) (US (JL (Yj 2) (JL (Yj 3) (JL (Yj 4) UR))) rfl) (Jn (Ym (VU (Jp (Jj VJ (Jc 2) Ji)) (Jp (Jj VJ (Jc 4) Ji))) Yr JI)
  (Jn (Ym (Ub (Jp (Jj VI (Jc 1) Yl)) (Jp (Jj Jbm (Uv (Jd (Jc 2) (Jd (Jc 3) Jh))) (Jc 1)))) Yr JI)
  (Jt (Uv (Jd (Jc 2) (Jd (Jc 3) Jh)))))))
  (Jdd (JhS 0) (US (JL (Yj 2) (JL (Yj 3) (JL (Yj 4) UR))) rfl) (Jn (Ym (VU (Jp (Jj VJ (Jc 2) Ji)) (Jp (Jj VJ (Jc 4) Ji))) Yr JI)
  (Jn (Ym (Ub (Jp (Jj VI (Jc 1) Yl)) (Jp (Jj Jbm (Uv (Jd (Jc 2) (Jd (Jc 3) Jh))) (Jc 1)))) Yr JI)
  (Jt (Uv (Jd (Jc 2) (Jd (Jc 3) Jh)))))) (UQ (Ym (VU (Jp (Jj VJ (Jc 2) Ji)) (Jp (Jj VJ (Jc 4) Ji))) Yr JI)
  (Jde (VU (Jp (Jj VJ (Jc 2) Ji)) (Jp (Jj VJ (Jc 4) Ji))) (Zt qq.ns (Jd JT Jh)) Vh) (UQ (Ym (Ub (Jp (Jj VI (Jc 1) Yl)) (Jp (Jj Jbm (Uv (Jd (Jc 2) (Jd (Jc 3) Jh))) (Jc 1)))) Yr JI)
  (Jde (Ub (Jp (Jj VI (Jc 1) Yl)) (Jp (Jj Jbm (Uv (Jd (Jc 2) (Jd (Jc 3) Jh))) (Jc 1)))) (Zt qq.ns (Jd JT Jh)) Vh) Vh))) (Jde (Jp (Jj Jb3 (YJ ZM (Jd (Vr (Jcf (Jc 0)) (US (JL (Yj 0) (JL (Yj 1) (JL (Yj 2) UR))) rfl) Zb (Jc 2) rfl) Jh)) Ji)) (Zt qF.ns (Jd JT Jh)) Vh))) h
theorem sc_lines_of:FnScope ["text","lines","last"] ["text"] (Jr Vt):=by walk_at "c"
theorem Jbp{f:Qc}{fd:QH}(F:Fun K "lines_of" "lines_of" Vt f fd) :FnOk P w K mg base CX0 1 f fd ["text"] (spE K C 1 Yh) :=
 okE F sc_lines_of rfl fun _ _ _ _ _ _ hr hu=>⟨_,(Jf (psN 1 sc_lines_of.nd (YA (K:=K) rfl Gc KW KY WX (pv 0) (Ja JE Je)))
  (Jf (psN 2 sc_lines_of.nd (JcQ (K:=K) rfl QW PySem.F.slot_list_pop PySem.F.type_list_pop JjO (pv 1)))
  (Jo (JV (VQ (Jw (Yz (K:=K) rfl hu) (pv 2) JE (JD _)) (pv 1) (Js (JC (K:=K) rfl) (pv 1) (JQ (Ja YB Je)))))))),(Jn (Zs (Jce Jaw (Jc 0) (Jd JT Jh)))
  (Jn Jml
  (Jmk 1 (Yv (Jc0 (Jp (Jj VH (Jc 2) JT)) (Jc 1) (Jj J6 (Jc 1) (J7 (Jd Yl Jh))))))))⟩
theorem sc_number_told:FnScope ["text","figures"] ["text"] (Jr Up):=by walk_at "c"
theorem W2{f:Qc}{fd:QH}(F:Fun K "number_told" "number_told" Up f fd)(wd:mg "int"=none)(vi:mg "all"=none)(ql:mg "len"=none)(wE:GV mg "FIGURES" (.str "0123456789"))(qy:GV mg "MOST_FIGURES" (.int 200)):FnOk P w K mg base CX0 1 f fd ["text"] (spE K C 1 J5) :=
 okE F sc_number_told rfl fun _ _ _ _ _ _ hr hu=>⟨_,(Jf (psN 1 sc_number_told.nd (VQ (Vb (K:=K) rfl (YA (K:=K) rfl Gc Lj Lk ZW (pv 0) (Ja JE Je)) (fun _=>rfl)) (Ut JfF (pv 0) (UJ Jg) UI) (pv 0)))
  (Jf (Yi (PW.pt (Jbt (Jw (Yz (K:=K) rfl hu) (pv 1) JE (JD _)) (JaI (Jw ZY (Jv (Yn (K:=K) rfl) rfl ql Ux (Ja (pv 1) Je)) (W4 rfl qy) (JD _))))) (Jo (JV YB)) JO)
  (Jf (Yi (Jfh (Vb (K:=K) rfl (Jv (Jdk (K:=K) rfl rfl) rfl vi JiQ (Ja (VP (N':=["figure"]) (imp:=[none]) rfl (Jke (pv 1)) (Jdi rfl rfl) (fun _ _ _ _=>(pgN 0 Jmz)) (fun _ _ _ _=>Uu) (fun _ _ _ _=>(JaH JdQ (pv 0) (W4 rfl wE) rfl))) Je)) (fun _=>rfl))) (Jo (JV YB)) JO)
  (Jf (Yi (PW.pt (Vq (Vb (K:=K) rfl (YA (K:=K) rfl Gc Lj Lk ZW (pv 1) (Ja JE Je)) (fun _=>rfl)) (UK (Jw (JaF (K:=K) rfl hu) (pv 0) JE (JD _))))) (Jo (JV YB)) JO)
  (Jo (JV (Yy Jdn rfl wd Jad (Ja (pv 0) Je)))))))),(Jn (Jt (Jc0 (Z2 (Jce VF (Jc 0) (Jd JT Jh))) (JiE (Jc 0) (Wa Ji) V9) (Jc 0)))
  (Jn (Ym (VU (Jp (Jj VH (Jc 1) JT)) (Jp (Jj Jb3 (YJ Vv (Jd (Jc 1) Jh)) Ji))) (Yv Yl) JI)
  (Jn (Ym (JfB (Z2 (YJ Jlo (Jd (Vr (Jme (Jc 1)) (Yj 0) Zb (Jj JlK (Jc 0) JT) rfl) Jh)))) (Yv Yl) JI)
  (Jn (Ym (Ub (Z2 (Jce VF (Jc 1) (Jd JT Jh))) (Jp (Jj Jhe (Jc 0) JT))) (Yv Yl) JI)
  (Yv (YJ JiS (Jd (Jc 0) Jh)))))))⟩
theorem sc_lump_told:FnScope ["line","words","numbers"] ["line"] (Jr U5):=by walk_at "c"
theorem JaD{f:Qc}{fd:QH}(F:Fun K "lump_told" "lump_told" U5 f fd)(wP:mg "tuple"=none)(ql:mg "len"=none)(qC:Cal P w K mg base "number_told" 1 ["text"] (spE K C 1 J5)):FnOk P w K mg base CX0 2 f fd ["line"] (spE K C 1 JG) :=
 okE F sc_lump_told rfl fun _ _ _ _ _ _ hr hu=>⟨_,(Jf (psN 1 sc_lump_told.nd (VQ (Jw JaE (pv 0) YB (JD _)) (JQ Je) (YA (K:=K) rfl Gc KW KY WX (pv 0) (Ja JE Je))))
  (Jf (Yi (PW.pt (Jbt (Jw (JaF (K:=K) rfl hu) (Jv (Yn (K:=K) rfl) rfl ql Ux (Ja (pv 1) Je)) Jg (JD _)) (JaI (Jw (JaF (K:=K) rfl hu) (Je6 (K:=K) rfl (pv 1) Jg) (JQ (UF 3 rfl Je)) (JD _))))) (Jo (JV YB)) JO)
  (Jf (Jcc (i:=2) (N':=["word"]) (imp:=[none]) sc_lump_told.nd rfl (.inl rfl) rfl (piK K (Je7 (K:=K) rfl (pv 1) Jg Jg)) (Jdi rfl rfl) (fun _ _ _ _=>(pgN 0 JmA)) (fun _ _ _ _=>Uu) (fun _ _ _ _=>(JY qC (hrM hr) rfl (Ja (pv 0) Je))) rfl (.inl rfl))
  (Jo (JV (VQ (Jw (Jj3 (K:=K) rfl hu) YB (pv 2) rfl) YB (Yy (JaY (K:=K) rfl) rfl wP Jeb (Ja (pv 2) Je)))))))),(Jn (Jt (Jc0 (Jp (Jj Jb4 (Jc 0) Yl)) (J7 Jh) (Jce Jaw (Jc 0) (Jd JT Jh))))
  (Jn (Ym (VU (Jp (Jj Jhe (YJ Vv (Jd (Jc 1) Jh)) Ji)) (Jp (Jj Jhe (JfA false (Jc 1)) (J7 (U6 Jh))))) (Yv Yl) JI)
  (Jn (Jt (Vr (Jcf (JfA true (Jc 1))) (Yj 0) Zb (Yc (Jd (Jc 0) Jh)) rfl))
  (Yv (Jc0 (Jp (Jj JlJ Yl (Jc 2))) Yl (YJ Jgg (Jd (Jc 2) Jh)))))))⟩
theorem sc_table_told:FnScope ["text","table","at","line","triple"] ["text"] (Jr UL):=by walk_at "c"
theorem ZC{f:Qc}{fd:QH}(F:Fun K "table_told" "table_told" UL f fd)(qP:mg "enumerate"=none)(qz:CalX P w K mg base "check_table" 1 ["table"] (spX K C 1 Jz JS))(wg:Cal P w K mg base "lines_of" 1 ["text"] (spE K C 1 Yh))(qQ:Cal P w K mg base "lump_told" 2 ["line"] (spE K C 1 JG))(qG:AtY K "BadText" qa)(R_BadText:RaiF P w K mg base "BadText" qa 1):FnOk P w K mg base (CX1 P w) 3 f fd ["text"] (spX K C 1 Jq Ju):=by
 refine Fun.okX F sc_table_told (fun vs H Q E h=>Jc3 h) (fun cdv A outer s H vs Q E hr h=>?_);have hu:=hr.units;refine⟨_,(Jf (psN 1 sc_table_told.nd (JQ Je))
  (Jf (W9 MU rfl (JdR (K:=K) rfl rfl qP (Ja (JY wg (hrM hr) rfl (Ja (pv 0) Je)) Je) Jg) (UG (K:=K) (n:=2) rfl rfl (JP (Yb (i:=2) sc_table_told.nd rfl (.inl rfl)) (JP (Yb (i:=3) sc_table_told.nd rfl (.inl rfl)) UH)) rfl rfl) (Jf (psN 4 sc_table_told.nd (JY qQ (hrM hr) rfl (Ja (pv 3) Je)))
  (Jf (Yi (Jw JaE (pv 4) YB (JD _)) (Jo (JdV (K:=K) rfl R_BadText (hrM hr) rfl xok_cx rfl (pv 2))) JO)
  (Jo (YW (YA (K:=K) rfl QW GZ G0 Va (pv 1) (Ja (pv 4) Je)))))))
  (Jf (YW (Je5 qz (hrM hr) rfl xok_cx.passes (Ja (pv 1) Je)))
  (Jo (JV (pv 1)))))),?_⟩
 exact Ja8 (N:=["text","table","at","line","triple"]) (Jn (Zs (J7 Jh))
  (Jn (Zr (Za (Jd (Yc (Jd (Jc 0) Jh)) Jh)) (US (JL (Yj 2) (JL (Yj 3) UR)) rfl) (Jn (Jt (Yc (Jd (Jc 3) Jh)))
  (Jn (Ym (Jp (Jj Jb4 (Jc 4) Yl)) Yr JI)
  (Jaa (Jc 4)))))
  (Jn (Jf2 (JaK (Jd (Jc 1) Jh)))
  JaS))) (UQ (Zs (J7 Jh))
  Vh (UQ (Zr (Za (Jd (Yc (Jd (Jc 0) Jh)) Jh)) (US (JL (Yj 2) (JL (Yj 3) UR)) rfl) (Jn (Jt (Yc (Jd (Jc 3) Jh)))
  (Jn (Ym (Jp (Jj Jb4 (Jc 4) Yl)) Yr JI)
  (Jaa (Jc 4)))))
  (Jdd (Za (Jd (Yc (Jd (Jc 0) Jh)) Jh)) (US (JL (Yj 2) (JL (Yj 3) UR)) rfl) (Jn (Jt (Yc (Jd (Jc 3) Jh)))
  (Jn (Ym (Jp (Jj Jb4 (Jc 4) Yl)) Yr JI)
  (Jaa (Jc 4)))) (UQ (Jt (Yc (Jd (Jc 3) Jh)))
  Vh (UQ (Ym (Jp (Jj Jb4 (Jc 4) Yl)) Yr JI)
  (Jde (Jp (Jj Jb4 (Jc 4) Yl)) (Jd4 qG.ns (Jc 2)) Vh) Vh))) (UQ (Jf2 (JaK (Jd (Jc 1) Jh)))
  (Jii (Jdc (Jd (Jc 1) Jh))) Vh))) h
theorem sc_law_found:FnScope ["text","told","error","e","kinds"] ["text"] (Jr U3):=by walk_at "c"
theorem JaB{f:Qc}{fd:QH}(F:Fun K "_law_found" "_law_found" U3 f fd)(wd:mg "int"=none)(qe:mg "isinstance"=none)(qJ:Cal P w K mg base "_law_whole" 1 ["found"] (spE K C 1 UA))(qK:Cal P w K mg base "_law_alone" 1 ["e"] (spE K C 1 Uz))(qD:CalX P w K mg base "table_told" 3 ["text"] (spX K C 1 Jq Ju))(qm:mg "TooMany"=some (.ref qd))(xG:ExcG K)(xO:OwnL K ["BadTable","BadText","TooMany"] [qb,qa,qd])(qx:IsiN K ["BadTable","BadText","TooMany"] "TooMany" qd)(qj:mg "BadTable"=some (.ref qb))(qt:IsiN K ["BadTable","BadText","TooMany"] "BadTable" qb)(xF:Jdf K ["BadText"])(qu:mg "BadText"=some (.ref qa))(qw:IsiN K ["BadTable","BadText","TooMany"] "BadText" qa)(qg:mg "LumpError"=some (.ref qf))(qR:ExmL K qf [qb,qa,qd]):FnOk P w K mg base CX0 4 f fd ["text"] (spE K C 1 JZ) :=
 okE F sc_law_found rfl fun _ _ _ _ _ _ hr hu=>⟨_,(Jf (psN 1 sc_law_found.nd YB)
  (Jf (psN 2 sc_law_found.nd YB)
  (Jf (Jhv (K:=K) (i:=3) rfl rfl rfl rfl sc_law_found.nd rfl rfl rfl qg (Je4 (Jhq (i:=1) sc_law_found.nd rfl (.inl rfl) (Jhw qD (hrM hr) rfl (Ja (pv 0) Je)))) (fun a=>(Jo (psN 2 sc_law_found.nd (pv 3)))))
  (Jf (Yi (Jw JaE (pv 2) YB (JD _)) (Jo (JV (JQ (Ja JE (Ja (pv 1) Je))))) JO)
  (Jf (Yi (Jfh (Vb (K:=K) rfl (JY qK (hrM hr) rfl (Ja (pv 2) Je)) (fun _=>rfl))) (Jo (JV (JQ (Ja JE Je)))) JO)
  (Jf (Yi (PW.pt (Vq (Vb (K:=K) rfl (Jv (J0 (K:=K) rfl) rfl qe Jy (Ja (pv 2) (Ja (Yq (v:=V.ref qa) rfl qu rfl) Je))) (fun _=>rfl)) (UK (Vb (K:=K) rfl (JY qJ (hrM hr) rfl (Ja (Jix (K:=K) rfl (pv 2)) Je)) (fun _=>rfl))))) (Jo (JV (JQ (Ja JE (Ja (Jix (K:=K) rfl (pv 2)) Je))))) JO)
  (Jf (psN 4 sc_law_found.nd (JQ (Ja (Jv (J0 (K:=K) rfl) rfl qe Jy (Ja (pv 2) (Ja (Yq (v:=V.ref qb) rfl qj rfl) Je))) (Ja (Jv (J0 (K:=K) rfl) rfl qe Jy (Ja (pv 2) (Ja (Yq (v:=V.ref qd) rfl qm rfl) Je))) Je))))
  (Jo (JV (JQ (Ja (pxK K (JQ (Ja JE (Ja JE (Ja JE Je)))) (Js (JC (K:=K) rfl) (Yy ZN rfl wd Jad (Ja (pxK K (pv 4) Jg) Je)) (Js V8 Jg (Yy ZN rfl wd Jad (Ja (pxK K (pv 4) Jg) Je))))) Je))))))))))),(Jn (Jt Yl)
  (Jn (Jt Yl)
  (Jn (Jmm (qR.all xO) (fun W=>(Jf3 (fun W=>JaK (Jd (Jc 0) Jh)) W)) (Jld (fun W=>Jdc (Jd (Jc 0) Jh))) (Jt (Jc 3)))
  (Jn (Ym (Jp (Jj Jb4 (Jc 2) Yl)) (Yv (J7 (Jd JT (Jd (Jc 1) Jh)))) JI)
  (Jn (Ym (JfB (Z2 (Yc (Jd (Jc 2) Jh)))) (Yv (J7 (Jd JT Jh))) JI)
  (Jn (Ym (Ub (Z2 (UT qw (Jc 2))) (Z2 (Yc (Jd (Jmd xF (Jc 2)) Jh)))) (Yv (J7 (Jd JT (Jd (Jmd xF (Jc 2)) Jh)))) JI)
  (Jn (Jt (J7 (Jd (UT qt (Jc 2)) (Jd (UT qx (Jc 2)) Jh))))
  (Yv (J7 (Jd (Jj Uk (J7 (Jd JT (Jd JT (Jd JT Jh)))) (Jj J6 (YJ Jil (Jd (Jj Uk (Jc 4) Ji) Jh)) (Jj ZX Ji (YJ Jil (Jd (Jj Uk (Jc 4) Ji) Jh))))) Jh))))))))))⟩
theorem sc_law_strange:FnScope ["cell","menu"] ["cell"] (Jr Um):=by walk_at "c"
theorem W0{f:Qc}{fd:QH}(F:Fun K "_law_strange" "_law_strange" Um f fd)(ql:mg "len"=none):FnOk P w K mg base CX0 1 f fd ["cell"] (spE K C 1 JN):=by
 refine Fun.okI F sc_law_strange (fun vs H Q E h=>Jc1 h) (fun cdv A outer s H vs Q E hr h=>?_);have hu:=hr.units;refine⟨_,(Y0 (Jff (i:=1) (ys:=[""," ","lump","lump 1 at 1 times","lump 1 at 1 times 1 "," lump 1 at 1 times 1","lump 1 at 1"]) 7 sc_law_strange.nd rfl (.inl rfl) rfl Je)
  (Y0 (PSi.mk (psN 1 sc_law_strange.nd (Js (JC (K:=K) rfl) (pv 1) (JQ (UF 4 rfl Je)))))
  (Y0 (PSi.mk (psN 1 sc_law_strange.nd (Js (JC (K:=K) rfl) (pv 1) (JQ (UF 4 rfl Je)))))
  (Y0 (PSi.mk (psN 1 sc_law_strange.nd (Js (JC (K:=K) rfl) (pv 1) (JQ (UF 3 rfl Je)))))
  (Y0 (PSi.mk (psN 1 sc_law_strange.nd (Js (JC (K:=K) rfl) (pv 1) (JQ (Ja (Js (JC (K:=K) rfl) (Js (JC (K:=K) rfl) JE (Js Jhn JE Jg)) JE) Je)))))
  (Y0 (PSi.mk (psN 1 sc_law_strange.nd (Js (JC (K:=K) rfl) (pv 1) (JQ (UF 4 rfl Je)))))
  (Jfg (PSi.mk (JV (pxK K (pv 1) (Js Yk (pv 0) (Jv (Yn (K:=K) rfl) rfl ql Ux (Ja (pv 1) Je))))))))))))),?_⟩
 exact Jar (N:=["cell","menu"]) (Jn (Jt (J7 (U6 Jh)))
  (Jn (Jt (Jj J6 (Jc 1) (J7 (U6 Jh))))
  (Jn (Jt (Jj J6 (Jc 1) (J7 (U6 Jh))))
  (Jn (Jt (Jj J6 (Jc 1) (J7 (U6 Jh))))
  (Jn (Jt (Jj J6 (Jc 1) (J7 (Jd (Jj J6 (Jj J6 JT (Jj JjU JT Ji)) JT) Jh))))
  (Jn (Jt (Jj J6 (Jc 1) (J7 (U6 Jh))))
  (Yv (Jj Uk (Jc 1) (Jj YI (Jc 0) (YJ Vv (Jd (Jc 1) Jh))))))))))) h
theorem sc_law_due:FnScope ["table","k"] ["table"] (Jr We):=by walk_at "c"
theorem Jb6{f:Qc}{fd:QH}(F:Fun K "_law_due" "_law_due" We f fd)(qE:mg "sum"=none)(qY:mg "range"=none)(ql:mg "len"=none):FnOk P w K mg base CX0 1 f fd ["table"] (spE K C 1 J2) :=
 okE F sc_law_due rfl fun _ _ _ _ _ _ hr hu=>⟨_,(Jf (W9 Mg rfl (Z0 rfl qY (Ja (Jv (Yn (K:=K) rfl) rfl ql Ux (Ja (pv 0) Je)) Je)) (Yb (i:=1) sc_law_due.nd rfl (.inl rfl)) (Jo (Yi (PW.pt (Jbt (Jw ZZ (pxK K (pxK K (pv 0) (pv 1)) Jg) Jg (JD _)) (Jbt (Jw ZZ (pxK K (pxK K (pv 0) (pv 1)) Jg) Jg (JD _)) (JaI (PW.pt (Vq (Jw ZY (pv 1) Jg (JD _)) (UK (Jw (Jj2 (K:=K) rfl (KJ (LZ _ 64) hu)) (Ut (Ww (K:=K) rfl) (pxK K (pv 0) (Js Vn (pv 1) Jg)) UI (UJ Jg)) (Ut (Ww (K:=K) rfl) (pxK K (pv 0) (pv 1)) UI (UJ Jg)) (JD _))))))))) (Jo (JV (JQ (Ja JE Je)))) JO)))
  (Jf (Yi (Jw ZY (Jv (Uq (K:=K) rfl rfl) rfl qE WE (Ja (VP (N':=["size","spot","many"]) (imp:=[none,none,none]) rfl (piK K (pv 0)) (Jdi rfl rfl) (fun _ _ _ _=>(UG (K:=K) (n:=3) rfl rfl (JP (pgN 0 JjQ) (JP (pgN 1 JjQ) (JP (pgN 2 JjQ) UH))) rfl rfl)) (fun _ _ _ _=>Uu) (fun _ _ _ _=>(pv 2))) Je)) Jg (JD _)) (Jo (JV (JQ (Ja JE Je)))) JO)
  (Jo (JV (JQ (Ja JE (Ja (pv 0) Je))))))),(Jn (Zr (JiC (Jd (YJ Vv (Jd (Jc 0) Jh)) Jh)) (Yj 1) (Ym (VU (Jp (Jj VJ (Jj Uk (Jj Uk (Jc 0) (Jc 1)) Ji) Ji)) (VU (Jp (Jj VJ (Jj Uk (Jj Uk (Jc 0) (Jc 1)) Ji) Ji)) (Ub (Jp (Jj Jb3 (Jc 1) Ji)) (Jp (Jj JlI (JhU (Jj Uk (Jc 0) (Jj WY (Jc 1) Ji)) V9 (Wa Ji)) (JhU (Jj Uk (Jc 0) (Jc 1)) V9 (Wa Ji))))))) (Yv (J7 (Jd JT Jh))) JI))
  (Jn (Ym (Jp (Jj Jb3 (YJ ZM (Jd (Vr (Jcf (Jc 0)) (US (JL (Yj 0) (JL (Yj 1) (JL (Yj 2) UR))) rfl) Zb (Jc 2) rfl) Jh)) Ji)) (Yv (J7 (Jd JT Jh))) JI)
  (Yv (J7 (Jd JT (Jd (Jc 0) Jh))))))⟩
theorem sc_law_table_text:FnScope ["table","rows","size","spot","many"] ["table"] (Jr YF):=by walk_at "c"
theorem VL{f:Qc}{fd:QH}(F:Fun K "_law_table_text" "_law_table_text" YF f fd)(wV:mg "str"=none):FnOk P w K mg base CX0 1 f fd ["table"] (spE K C 1 JU) :=
 okE F sc_law_table_text rfl fun _ _ _ _ _ _ hr hu=>⟨_,(Jf (psN 1 sc_law_table_text.nd (JQ Je))
  (Jf (W9 Mg rfl (piK K (pv 0)) (UG (K:=K) (n:=3) rfl rfl (JP (Yb (i:=2) sc_law_table_text.nd rfl (.inl rfl)) (JP (Yb (i:=3) sc_law_table_text.nd rfl (.inl rfl)) (JP (Yb (i:=4) sc_law_table_text.nd rfl (.inl rfl)) UH))) rfl rfl) (Jo (YW (YA (K:=K) rfl QW GZ G0 Va (pv 1) (Ja (Js (JC (K:=K) rfl) (Js (JC (K:=K) rfl) (Js (JC (K:=K) rfl) (Js (JC (K:=K) rfl) (Js (JC (K:=K) rfl) (Js (JC (K:=K) rfl) JE (Yy VZ rfl wV JbJ (Ja (pv 2) Je))) JE) (Yy VZ rfl wV JbJ (Ja (pv 3) Je))) JE) (Yy VZ rfl wV JbJ (Ja (pv 4) Je))) JE) Je)))))
  (Jo (JV (YA (K:=K) rfl Gc Ml Mm (Jbh (K:=K) rfl) JE (Ja (pv 1) Je)))))),(Jn (Zs (J7 Jh))
  (Jn (Zr (JhS 0) (US (JL (Yj 2) (JL (Yj 3) (JL (Yj 4) UR))) rfl) (Jaa (Jj J6 (Jj J6 (Jj J6 (Jj J6 (Jj J6 (Jj J6 JT (YJ Jec (Jd (Jc 2) Jh))) JT) (YJ Jec (Jd (Jc 3) Jh))) JT) (YJ Jec (Jd (Jc 4) Jh))) JT)))
  (Yv (Jce JeY JT (Jd (Jc 1) Jh)))))⟩
theorem sc_law_bad:FnScope ["table","way","cell","some","at","size","spot","many","others"] ["table","way","cell"] (Jr Wd):=by walk_at "c"
theorem Jb5{f:Qc}{fd:QH}(F:Fun K "_law_bad" "_law_bad" Wd f fd)(qE:mg "sum"=none)(ql:mg "len"=none)(w6:mg "list"=none):FnOk P w K mg base CX0 1 f fd ["table","way","cell"] (spE K C 3 Yx) :=
 okE F sc_law_bad rfl fun _ _ _ _ _ _ hr hu=>⟨_,(Jf (psN 3 sc_law_bad.nd (Yy (JbK (K:=K) rfl) rfl w6 Jgf (Ja (pv 0) Je)))
  (Jf (Yi (Jw (Yz (K:=K) rfl hu) (pv 3) (JQ Je) (JD _)) (Jo (JV (pv 3))) JO)
  (Jf (psN 4 sc_law_bad.nd (Js Yk (Js YH (pv 2) Jg) (Jv (Yn (K:=K) rfl) rfl ql Ux (Ja (pv 3) Je))))
  (Jf (W8 (pxK K (pv 3) (pv 4)) (UG (K:=K) (n:=3) rfl rfl (JP (Yb (i:=5) sc_law_bad.nd rfl (.inl rfl)) (JP (Yb (i:=6) sc_law_bad.nd rfl (.inl rfl)) (JP (Yb (i:=7) sc_law_bad.nd rfl (.inl rfl)) UH))) rfl rfl))
  (Jf (Yi (Jw (Yz (K:=K) rfl hu) (pv 1) Jg (JD _)) (Jo (W8 (Vp (Ja (Js Vn Jg (Js Yk (Js YH (pv 2) Jg) Jg)) (Ja (pv 6) (Ja (pv 7) Je)))) (Jb9 (pv 3) (pv 4) Zc))) JO)
  (Jf (Yi (Jw (Yz (K:=K) rfl hu) (pv 1) Jg (JD _)) (Jo (W8 (Vp (Ja (pv 5) (Ja (pv 6) (Ja (Js Vn Jg (Js Yk (Js YH (pv 2) Jg) Jg)) Je)))) (Jb9 (pv 3) (pv 4) Zc))) JO)
  (Jf (Yi (Jw (Yz (K:=K) rfl hu) (pv 1) Jg (JD _)) (Jo (YW (YA (K:=K) rfl QW LP LQ ZV (pv 3) (Ja (pv 4) (Ja (pxK K (pv 3) (pv 4)) Je))))) JO)
  (Jf (Yi (Jw (Yz (K:=K) rfl hu) (pv 1) Jg (JD _)) (Jo (YW (YA (K:=K) rfl QW GZ G0 Va (pv 3) (Ja (Vp (Ja (pxK K (pxK K (pv 3) (W5 Vu Jg)) Jg) (Ja (Js Vn (Js Vn (pxK K (pxK K (pv 3) (W5 Vu Jg)) Jg) Jg) (Js Yk (Js YH (pv 2) Jg) Jg)) (Ja Jg Je)))) Je)))) JO)
  (Jf (Yi (Jw (Yz (K:=K) rfl hu) (pv 1) Jg (JD _)) (Jf (W8 (pxK K (pv 3) (W5 Vu Jg)) (UG (K:=K) (n:=3) rfl rfl (JP (Yb (i:=5) sc_law_bad.nd rfl (.inl rfl)) (JP (Yb (i:=6) sc_law_bad.nd rfl (.inl rfl)) (JP (Yb (i:=7) sc_law_bad.nd rfl (.inl rfl)) UH))) rfl rfl))
  (Jf (psN 8 sc_law_bad.nd (Jv (Uq (K:=K) rfl rfl) rfl qE WE (Ja (VP (N':=["each"]) (imp:=[none]) rfl (piK K (Ut (Ww (K:=K) rfl) (pv 3) UI (UJ (W5 Vu Jg)))) (Jdi rfl rfl) (fun _ _ _ _=>(pgN 0 JmB)) (fun _ _ _ _=>Uu) (fun _ _ _ _=>(pxK K (pv 0) Jg))) Je)))
  (Jo (W8 (Vp (Ja (pv 5) (Ja (pv 6) (Ja (Js (JC (K:=K) rfl) (Js Vn Jg (pv 8)) (Js V8 (Js Yk (Js YH (pv 2) Jg) Jg) Jg)) Je)))) (Jb9 (pv 3) (W5 Vu Jg) Zc))))) JO)
  (Jf (Yi (Jw (Yz (K:=K) rfl hu) (pv 1) Jg (JD _)) (Jo (YW (JcQ (K:=K) rfl QW PySem.F.slot_list_reverse PySem.F.type_list_reverse Jb1 (pv 3)))) JO)
  (Jo (JV (pv 3))))))))))))),(Jn (Zs (YJ JiT (Jd (Jc 0) Jh)))
  (Jn (Ym (Jp (Jj VH (Jc 3) (J7 Jh))) JaS JI)
  (Jn (Jt (Jj YI (Jj Ve (Jc 2) Ji) (YJ Vv (Jd (Jc 3) Jh))))
  (Jn (JiG (Jj Uk (Jc 3) (Jc 4)) (US (JL (Yj 5) (JL (Yj 6) (JL (Yj 7) UR))) rfl))
  (Jn (Ym (Jp (Jj VH (Jc 1) Ji)) (JaT (Uv (Jd (Jj WY Ji (Jj YI (Jj Ve (Jc 2) Ji) Ji)) (Jd (Jc 6) (Jd (Jc 7) Jh)))) (Jc 4)) JI)
  (Jn (Ym (Jp (Jj VH (Jc 1) Ji)) (JaT (Uv (Jd (Jc 5) (Jd (Jc 6) (Jd (Jj WY Ji (Jj YI (Jj Ve (Jc 2) Ji) Ji)) Jh)))) (Jc 4)) JI)
  (Jn (Ym (Jp (Jj VH (Jc 1) Ji)) (JiH (Jc 4) (Jj Uk (Jc 3) (Jc 4))) JI)
  (Jn (Ym (Jp (Jj VH (Jc 1) Ji)) (Jaa (Uv (Jd (Jj Uk (Jj Uk (Jc 3) (Jcg Zm Ji)) Ji) (Jd (Jj WY (Jj WY (Jj Uk (Jj Uk (Jc 3) (Jcg Zm Ji)) Ji) Ji) (Jj YI (Jj Ve (Jc 2) Ji) Ji)) (Jd Ji Jh))))) JI)
  (Jn (Ym (Jp (Jj VH (Jc 1) Ji)) (Jn (JiG (Jj Uk (Jc 3) (Jcg Zm Ji)) (US (JL (Yj 5) (JL (Yj 6) (JL (Yj 7) UR))) rfl))
  (Jn (Jt (YJ ZM (Jd (Vr (Jcf (JhU (Jc 3) V9 (Wa (Jcg Zm Ji)))) (Yj 0) Zb (Jj Uk (Jc 0) Ji) rfl) Jh)))
  (JaT (Uv (Jd (Jc 5) (Jd (Jc 6) (Jd (Jj J6 (Jj WY Ji (Jc 8)) (Jj ZX (Jj YI (Jj Ve (Jc 2) Ji) Ji) Ji)) Jh)))) (Jcg Zm Ji)))) JI)
  (Jn (Ym (Jp (Jj VH (Jc 1) Ji)) Jlc JI)
  JaS))))))))))⟩
theorem Jbw:FnScope ["script","k"] ["script","k"] (Jr Vs):=by walk_at "c"
theorem Jbo{f:Qc}{fd:QH}(F:Fun K "_law_cell" "_law_cell" Vs f fd)(ql:mg "len"=none):FnOk P w K mg base CX0 1 f fd ["script","k"] (spE K C 2 JM) :=
 okE F Jbw rfl fun _ _ _ _ _ _ hr hu=>⟨_,(Jf (Yi (Jw ZZ (pv 1) (Jv (Yn (K:=K) rfl) rfl ql Ux (Ja (pv 0) Je)) (JD _)) (Jo (JV (pxK K (pv 0) (pv 1)))) JO)
  (Jo (JV Jg))),(Jn (Ym (Jp (Jj VJ (Jc 1) (YJ Vv (Jd (Jc 0) Jh)))) (Yv (Jj Uk (Jc 0) (Jc 1))) JI)
  (Yv Ji))⟩
theorem sc_law_triples:FnScope ["script","lead","span","table","size","spot","total","k","more","away","many"] ["script"] (Jr Uo):=by walk_at "c"
theorem W1{f:Qc}{fd:QH}(F:Fun K "_law_triples" "_law_triples" Uo f fd)(qY:mg "range"=none)(vj:mg "abs"=none)(vk:mg "max"=none)(qh:Cal P w K mg base "_law_cell" 1 ["script","k"] (spE K C 2 JM)):FnOk P w K mg base CX0 2 f fd ["script"] (spE K C 1 Ye) :=
 okE F sc_law_triples rfl fun _ _ _ _ _ _ hr hu=>⟨_,(Jf (psN 1 sc_law_triples.nd (JY qh (hrM hr) rfl (Ja (pv 0) (Ja Jg Je))))
  (Jf (psN 2 sc_law_triples.nd (pxK K (JQ (Ja Jg (Ja Jg (Ja (Js Jb7 Jg Jg) Je)))) (Js Yk (Js YH (pv 1) Jg) Jg)))
  (Jf (psN 3 sc_law_triples.nd (JQ Je))
  (Jf (psN 4 sc_law_triples.nd Jg)
  (Jf (psN 5 sc_law_triples.nd Jg)
  (Jf (psN 6 sc_law_triples.nd Jg)
  (Jf (W9 Mg rfl (Z0 rfl qY (Ja (Js Yk (pv 1) Jg) Je)) (Yb (i:=7) sc_law_triples.nd rfl (.inl rfl)) (Jf (psN 8 sc_law_triples.nd (Js Yk (JY qh (hrM hr) rfl (Ja (pv 0) (Ja (Js (JC (K:=K) rfl) Jg (Js V8 Jg (pv 7))) Je))) (pv 2)))
  (Jf (psN 9 sc_law_triples.nd (Js Vn (Js Yk (JY qh (hrM hr) rfl (Ja (pv 0) (Ja (Js (JC (K:=K) rfl) Jg (Js V8 Jg (pv 7))) Je))) (Js (JC (K:=K) rfl) (Js V8 Jg (pv 2)) Jg)) (pv 2)))
  (Jf (psN 10 sc_law_triples.nd (Js (JC (K:=K) rfl) Jg (Js Yk (JY qh (hrM hr) rfl (Ja (pv 0) (Ja (Js (JC (K:=K) rfl) Jg (Js V8 Jg (pv 7))) Je))) Jg)))
  (Jf (Yi (PW.pt (Vq (Jw (Yz (K:=K) rfl hu) (pv 8) Jg (JD _)) (UK (Jw ZY (pv 4) Jg (JD _))))) (Jo (psN 5 sc_law_triples.nd (Js (JC (K:=K) rfl) (Js (JC (K:=K) rfl) (pv 5) Jg) (Jv Jed rfl vj JiP (Ja (pv 9) Je))))) (Jf (psN 4 sc_law_triples.nd (Js (JC (K:=K) rfl) (pv 4) (Jv (Jdq rfl) rfl vk JiR (Ja Jg (Ja (pv 8) Je)))))
  (Jo (psN 5 sc_law_triples.nd (pv 9)))))
  (Jf (psN 6 sc_law_triples.nd (Js (JC (K:=K) rfl) (pv 6) (pv 10)))
  (Jo (Yi (Jw JlM (pv 6) Jg (JD _)) (Jo (YW (YA (K:=K) rfl QW GZ G0 Va (pv 3) (Ja (Vp (Ja (pv 4) (Ja (pv 5) (Ja (pv 10) Je)))) Je)))) JO))))))))
  (Jo (JV (pv 3)))))))))),(Jn (Jt (Yc (Jd (Jc 0) (Jd Ji Jh))))
  (Jn (Jt (Jj Uk (J7 (Jd Ji (Jd Ji (Jd (Jj Je2 Ji Ji) Jh)))) (Jj YI (Jj Ve (Jc 1) Ji) Ji)))
  (Jn (Zs (J7 Jh))
  (Jn (Jt Ji)
  (Jn (Jt Ji)
  (Jn (Jt Ji)
  (Jn (Zr (JiC (Jd (Jj YI (Jc 1) Ji) Jh)) (Yj 7) (Jn (Jt (Jj YI (Yc (Jd (Jc 0) (Jd (Jj J6 Ji (Jj ZX Ji (Jc 7))) Jh))) (Jc 2)))
  (Jn (Jt (Jj WY (Jj YI (Yc (Jd (Jc 0) (Jd (Jj J6 Ji (Jj ZX Ji (Jc 7))) Jh))) (Jj J6 (Jj ZX Ji (Jc 2)) Ji)) (Jc 2)))
  (Jn (Jt (Jj J6 Ji (Jj YI (Yc (Jd (Jc 0) (Jd (Jj J6 Ji (Jj ZX Ji (Jc 7))) Jh))) Ji)))
  (Jn (Ym (Ub (Jp (Jj VH (Jc 8) Ji)) (Jp (Jj Jb3 (Jc 4) Ji))) (Jt (Jj J6 (Jj J6 (Jc 5) Ji) (YJ Jln (Jd (Jc 9) Jh)))) (Jn (Jt (Jj J6 (Jc 4) (YJ Jlp (Jd Ji (Jd (Jc 8) Jh)))))
  (Jt (Jc 9))))
  (Jn (Jt (Jj J6 (Jc 6) (Jc 10)))
  (Ym (Jp (Jj JmD (Jc 6) Ji)) (Jaa (Uv (Jd (Jc 4) (Jd (Jc 5) (Jd (Jc 10) Jh))))) JI)))))))
  JaS)))))))⟩
theorem sc_law:FnScope ["script","cell","table","rows","due","way","at","text"] ["script"] (Jr VT):=by walk_at "c"
theorem JjX{f:Qc}{fd:QH}(F:Fun K "law" "law" VT f fd)(ql:mg "len"=none)(qE:mg "sum"=none)(qL:Cal P w K mg base "_law_found" 4 ["text"] (spE K C 1 JZ))(qA:Cal P w K mg base "_law_strange" 1 ["cell"] (spE K C 1 JN))(wj:Cal P w K mg base "_law_due" 1 ["table"] (spE K C 1 J2))(qr:Cal P w K mg base "_law_table_text" 1 ["table"] (spE K C 1 JU))(wk:Cal P w K mg base "_law_bad" 1 ["table","way","cell"] (spE K C 3 Yx))(qB:Cal P w K mg base "_law_triples" 2 ["script"] (spE K C 1 Ye))(qh:Cal P w K mg base "_law_cell" 1 ["script","k"] (spE K C 2 JM)):FnOk P w K mg base CX0 5 f fd ["script"] (spE K C 1 Jet) :=
 okE F sc_law rfl fun _ _ _ _ _ _ hr hu=>⟨_,(Jf (psN 1 sc_law.nd (Js Yk (JY qh (hrM hr) rfl (Ja (pv 0) (Ja Jg Je))) (Js Jb7 Jg Jg)))
  (Jf (psN 2 sc_law.nd (JY wk (hrM hr) rfl (Ja (JY qB (hrM hr) rfl (Ja (pv 0) Je)) (Ja (Js Yk (Jv (Uq (K:=K) rfl rfl) rfl qE WE (Ja (pv 0) Je)) Jg) (Ja (Js Yk (Js YH (Jv (Uq (K:=K) rfl rfl) rfl qE WE (Ja (pv 0) Je)) Jg) (Js Jb7 Jg Jg)) Je)))))
  (Jf (psN 3 sc_law.nd (Ut (Ww (K:=K) rfl) (YA (K:=K) rfl Gc KW KY WX (JY qr (hrM hr) rfl (Ja (pv 2) Je)) (Ja JE Je)) UI (UJ (W5 Vu Jg))))
  (Jf (psN 4 sc_law.nd (JY wj (hrM hr) rfl (Ja (pv 2) Je)))
  (Jf (psN 5 sc_law.nd (Js Yk (pv 1) Jg))
  (Jf (psN 6 sc_law.nd (Js Yk (Js YH (pv 1) Jg) (Js (JC (K:=K) rfl) (Jv (Yn (K:=K) rfl) rfl ql Ux (Ja (pv 3) Je)) Jg)))
  (Jf (Yi (PW.pt (Vq (Jw ZY (pv 5) Jg (JD _)) (UK (Jw ZZ (pv 5) Jg (JD _))))) (Jf (YW (YA (K:=K) rfl QW LP LQ ZV (pv 3) (Ja (pv 6) (Ja (JY qA (hrM hr) rfl (Ja (Js YH (pv 1) Jg) Je)) Je))))
  (Jo (psN 4 sc_law.nd (JQ (Ja JE (Ja (Js (JC (K:=K) rfl) (pv 6) Jg) Je)))))) JO)
  (Jf (psN 7 sc_law.nd (YA (K:=K) rfl Gc Ml Mm (Jbh (K:=K) rfl) JE (Ja (VP (N':=["row"]) (imp:=[none]) rfl (piK K (pv 3)) (Jdi rfl rfl) (fun _ _ _ _=>(pgN 0 JmC)) (fun _ _ _ _=>Uu) (fun _ _ _ _=>(Js (JC (K:=K) rfl) (pv 0) JE))) Je)))
  (Jf (Yi (Jw (Yz (K:=K) rfl hu) (pv 5) Jg (JD _)) (Jf (psN 7 sc_law.nd (Js (JC (K:=K) rfl) (pv 7) (pxK K (JQ (UF 3 rfl Je)) (Js Yk (Js YH (pv 1) Jg) Jg))))
  (Jo (psN 4 sc_law.nd (JQ (Ja JE (Ja (Js (JC (K:=K) rfl) (Jv (Yn (K:=K) rfl) rfl ql Ux (Ja (pv 3) Je)) Jg) Je)))))) JO)
  (Jf (Yi (PW.pt (Vq (Jw (Yz (K:=K) rfl hu) (pv 5) Jg (JD _)) (UK (Jw (JaF (K:=K) rfl hu) (pv 3) (JQ Je) (JD _))))) (Jf (psN 7 sc_law.nd (Ut JfF (pv 7) UI (UJ (W5 Vu Jg))))
  (Jo (psN 4 sc_law.nd (JQ (Ja JE (Ja (Jv (Yn (K:=K) rfl) rfl ql Ux (Ja (pv 3) Je)) Je)))))) JO)
  (Jo (JV (JaH (Yz (K:=K) rfl hu) (JY qL (hrM hr) rfl (Ja (pv 7) Je)) (pv 4) (JD _)))))))))))))),(Jn (Jt (Jj YI (Yc (Jd (Jc 0) (Jd Ji Jh))) (Jj Je2 Ji Ji)))
  (Jn (Jt (Yc (Jd (Yc (Jd (Jc 0) Jh)) (Jd (Jj YI (YJ ZM (Jd (Jc 0) Jh)) Ji) (Jd (Jj YI (Jj Ve (YJ ZM (Jd (Jc 0) Jh)) Ji) (Jj Je2 Ji Ji)) Jh)))))
  (Jn (Zs (JhU (Jce Jaw (Yc (Jd (Jc 2) Jh)) (Jd JT Jh)) V9 (Wa (Jcg Zm Ji))))
  (Jn (Jt (Yc (Jd (Jc 2) Jh)))
  (Jn (Jt (Jj YI (Jc 1) Ji))
  (Jn (Jt (Jj YI (Jj Ve (Jc 1) Ji) (Jj J6 (YJ Vv (Jd (Jc 3) Jh)) Ji)))
  (Jn (Ym (Ub (Jp (Jj Jb3 (Jc 5) Ji)) (Jp (Jj VJ (Jc 5) Ji))) (Jn (JiH (Jc 6) (Yc (Jd (Jj Ve (Jc 1) Ji) Jh)))
  (Jt (J7 (Jd JT (Jd (Jj J6 (Jc 6) Ji) Jh))))) JI)
  (Jn (Jt (Jce JeY JT (Jd (Vr (Jcf (Jc 3)) (Yj 0) Zb (Jj J6 (Jc 0) JT) rfl) Jh)))
  (Jn (Ym (Jp (Jj VH (Jc 5) Ji)) (Jn (Jt (Jj J6 (Jc 7) (Jj Uk (J7 (U6 Jh)) (Jj YI (Jj Ve (Jc 1) Ji) Ji))))
  (Jt (J7 (Jd JT (Jd (Jj J6 (YJ Vv (Jd (Jc 3) Jh)) Ji) Jh))))) JI)
  (Jn (Ym (Ub (Jp (Jj VH (Jc 5) Ji)) (Jp (Jj Jhe (Jc 3) (J7 Jh)))) (Jn (Jt (JiE (Jc 7) V9 (Wa (Jcg Zm Ji))))
  (Jt (J7 (Jd JT (Jd (YJ Vv (Jd (Jc 3) Jh)) Jh))))) JI)
  (Yv (Jj VH (Yc (Jd (Jc 7) Jh)) (Jc 4)))))))))))))⟩
end
theorem vl1{α:Type}{us:List α}(h:us.length=1):∃a,us=[a]:=match us,h with|[a],_=>⟨a,rfl⟩
theorem vl2{α:Type}{us:List α}(h:us.length=2):∃a b,us=[a,b]:=match us,h with|[a,b],_=>⟨a,b,rfl⟩
theorem vl3{α:Type}{us:List α}(h:us.length=3):∃a b c,us=[a,b,c]:=match us,h with|[a,b,c],_=>⟨a,b,c,rfl⟩
local macro_rules | `(tactic| walk_at "b")=>`(tactic| (intro _ _ _ _ _ _ us hl;first | (obtain⟨_,e⟩:=vl1 hl;subst e;rfl) | (obtain⟨_,_,e⟩:=vl2 hl;subst e;rfl) | (obtain⟨_,_,_,e⟩:=vl3 hl;subst e;rfl)))
theorem all_mk{l:PySem.W.OpenLaw}{w:QC}{K:Qq}{h:QJ}{mg:Str->Option Qa}{fa:Qc}{C:Qc}{f15:Qc}{od15 an15:Option Qc}{sl15:Array (Option Qa)}{oc15 kV15 dc15 pm15 cd15 ct15:Qa}{f1 f2 f3 f4 f5 f6 f7 f8 f9 f10 f11 f12 f13 f14:Qc}{d1 d2 d3 d4 d5 d6 d7 d8 d9 d10 d11 d12 d13 d14:QH}{qf:Qc}{qv:Qc}{qo:Qc}{qk:Qc}{qb:Qc}{qi:Qc}{qa:Qc}{qd:Qc}{qp:Qc}{fI_BadText:Qc}{dI_BadText:QH}{wQ:Tok}{ve:Tok}{wL:Tok}(X:K.In h)(G:h.Ns mainGlobals mg)(hfa:mg "law"=some (.ref fa))
 (a1:nsIn K mainGlobals "_law_whole"=some (some (.ref f1)))
 (F1:Fun K "_law_whole" "_law_whole" U4 f1 d1)
 (a2:nsIn K mainGlobals "_law_alone"=some (some (.ref f2)))
 (F2:Fun K "_law_alone" "_law_alone" U2 f2 d2)
 (a3:nsIn K mainGlobals "check_table"=some (some (.ref f3)))
 (F3:Fun K "check_table" "check_table" Ul f3 d3)
 (a4:nsIn K mainGlobals "lines_of"=some (some (.ref f4)))
 (F4:Fun K "lines_of" "lines_of" Vt f4 d4)
 (a5:nsIn K mainGlobals "number_told"=some (some (.ref f5)))
 (F5:Fun K "number_told" "number_told" Up f5 d5)
 (a6:nsIn K mainGlobals "lump_told"=some (some (.ref f6)))
 (F6:Fun K "lump_told" "lump_told" U5 f6 d6)
 (a7:nsIn K mainGlobals "table_told"=some (some (.ref f7)))
 (F7:Fun K "table_told" "table_told" UL f7 d7)
 (a8:nsIn K mainGlobals "_law_found"=some (some (.ref f8)))
 (F8:Fun K "_law_found" "_law_found" U3 f8 d8)
 (a9:nsIn K mainGlobals "_law_strange"=some (some (.ref f9)))
 (F9:Fun K "_law_strange" "_law_strange" Um f9 d9)
 (a10:nsIn K mainGlobals "_law_due"=some (some (.ref f10)))
 (F10:Fun K "_law_due" "_law_due" We f10 d10)
 (a11:nsIn K mainGlobals "_law_table_text"=some (some (.ref f11)))
 (F11:Fun K "_law_table_text" "_law_table_text" YF f11 d11)
 (a12:nsIn K mainGlobals "_law_bad"=some (some (.ref f12)))
 (F12:Fun K "_law_bad" "_law_bad" Wd f12 d12)
 (a13:nsIn K mainGlobals "_law_cell"=some (some (.ref f13)))
 (F13:Fun K "_law_cell" "_law_cell" Vs f13 d13)
 (a14:nsIn K mainGlobals "_law_triples"=some (some (.ref f14)))
 (F14:Fun K "_law_triples" "_law_triples" Uo f14 d14)
 (a15:nsIn K mainGlobals "law"=some (some (.ref f15)))
 (l15:K.lookup f15=some ⟨oc15,od15,.func (fnOf "law" "law" (Uf VT) (Yw VT) (Jr VT) .none kV15 dc15 pm15 an15 cd15 ct15),sl15⟩)
 (c15:codeIn K cd15 "law"=true)
 (k15:keepIn K (.ref f15)=true)
 (n_LumpError:nsIn K mainGlobals "LumpError"=some (some (.ref qf)))
 (n_NoRow:nsIn K mainGlobals "NoRow"=some (some (.ref qv)))
 (n_Unlike:nsIn K mainGlobals "Unlike"=some (some (.ref qo)))
 (n_BadDeed:nsIn K mainGlobals "BadDeed"=some (some (.ref qk)))
 (n_BadTable:nsIn K mainGlobals "BadTable"=some (some (.ref qb)))
 (n_BadSeats:nsIn K mainGlobals "BadSeats"=some (some (.ref qi)))
 (n_BadText:nsIn K mainGlobals "BadText"=some (some (.ref qa)))
 (n_TooMany:nsIn K mainGlobals "TooMany"=some (some (.ref qd)))
 (n_BadRow:nsIn K mainGlobals "BadRow"=some (some (.ref qp)))
 (aI_BadText:findIn K (.ref qa) "__init__"=some (some (.ref fI_BadText)))
 (FI_BadText:Fun K "__init__" "BadText.__init__" Ua fI_BadText dI_BadText)
 (xi_BadText:JcA K qa fI_BadText=true)
 (xn_BadText:isFn K (.ref fI_BadText)=true)
 (xv_BadText:JcP K qa=true)
 (xt_BadText:takerIn K qa "at"=some none)
 (xs_BadText:findIn K (.ref qa) "__setattr__"=some (some (.builtin "object.__setattr__")))
 (xa_BadText:findIn K (.ref qa) "at"=some none)
 (lb1:PySem.W.readsIn K qf (.type "type")=true)
 (lb2:PySem.W.findCls K (.ref qf) (.type "type") "__init__"=some (.val (.builtin "ValueError.__init__")))
 (lb3:specialIn K (.ref qf) "__getattribute__"=some (some (.builtin "type.__getattribute__")))
 (xo_BadTable:excIn K qb VEm "ValueError.__new__"=true)
 (xga_BadTable:findIn K (.ref qb) "__getattribute__"=some (some (.builtin "BaseException.__getattribute__")))
 (xgn_BadTable:findIn K (.ref qb) "__getattr__"=some none)
 (xmb_BadTable:mroIn K qb (.type "BaseException")=some true)
 (xh_BadTable:hasDictIn K qb=true)
 (xf_BadTable:findIn K (.ref qb) "__class__"=some (some (.builtin "object.__class__")))
 (xm_BadTable:mroIn K qb (.type "object")=some true)
 (xga_BadText:findIn K (.ref qa) "__getattribute__"=some (some (.builtin "BaseException.__getattribute__")))
 (xgn_BadText:findIn K (.ref qa) "__getattr__"=some none)
 (xmb_BadText:mroIn K qa (.type "BaseException")=some true)
 (xh_BadText:hasDictIn K qa=true)
 (xf_BadText:findIn K (.ref qa) "__class__"=some (some (.builtin "object.__class__")))
 (xm_BadText:mroIn K qa (.type "object")=some true)
 (xo_TooMany:excIn K qd VEm "ValueError.__new__"=true)
 (xga_TooMany:findIn K (.ref qd) "__getattribute__"=some (some (.builtin "BaseException.__getattribute__")))
 (xgn_TooMany:findIn K (.ref qd) "__getattr__"=some none)
 (xmb_TooMany:mroIn K qd (.type "BaseException")=some true)
 (xh_TooMany:hasDictIn K qd=true)
 (xf_TooMany:findIn K (.ref qd) "__class__"=some (some (.builtin "object.__class__")))
 (xm_TooMany:mroIn K qd (.type "object")=some true)
 (xg1:specialIn K (.builtin "object.__class__") "__get__"=some (some (.builtin "getset_descriptor.__get__")))
 (xg2:takesIn K (.builtin "object.__class__")=some true)
 (wW:kitOne K (.ref qb) (.type "ValueError")=some true)
 (w9:kitOne K (.ref qa) (.type "ValueError")=some true)
 (va:kitOne K (.ref qd) (.type "ValueError")=some true)
 (qM:kitOne K (.ref qb) (.ref qf)=some true)
 (qS:kitOne K (.ref qa) (.ref qf)=some true)
 (qT:kitOne K (.ref qd) (.ref qf)=some true)
 (wR:kitOne K (.type "NoneType") (.ref qf)=some false)
 (ww:kitOne K (.ref qb) (.ref qv)=some false)
 (wF:kitOne K (.ref qa) (.ref qv)=some false)
 (wG:kitOne K (.ref qd) (.ref qv)=some false)
 (vm:kitOne K (.type "NoneType") (.ref qv)=some false)
 (wl:kitOne K (.ref qb) (.ref qo)=some false)
 (wx:kitOne K (.ref qa) (.ref qo)=some false)
 (wy:kitOne K (.ref qd) (.ref qo)=some false)
 (vf:kitOne K (.type "NoneType") (.ref qo)=some false)
 (qZ:kitOne K (.ref qb) (.ref qk)=some false)
 (wm:kitOne K (.ref qa) (.ref qk)=some false)
 (wn:kitOne K (.ref qd) (.ref qk)=some false)
 (vb:kitOne K (.type "NoneType") (.ref qk)=some false)
 (qU:kitOne K (.ref qb) (.ref qb)=some true)
 (q0:kitOne K (.ref qa) (.ref qb)=some false)
 (q4:kitOne K (.ref qd) (.ref qb)=some false)
 (wX:kitOne K (.type "NoneType") (.ref qb)=some false)
 (qV:kitOne K (.ref qb) (.ref qi)=some false)
 (q9:kitOne K (.ref qa) (.ref qi)=some false)
 (wa:kitOne K (.ref qd) (.ref qi)=some false)
 (wY:kitOne K (.type "NoneType") (.ref qi)=some false)
 (wb:kitOne K (.ref qb) (.ref qa)=some false)
 (wp:kitOne K (.ref qa) (.ref qa)=some true)
 (wq:kitOne K (.ref qd) (.ref qa)=some false)
 (vc:kitOne K (.type "NoneType") (.ref qa)=some false)
 (wc:kitOne K (.ref qb) (.ref qd)=some false)
 (wt:kitOne K (.ref qa) (.ref qd)=some false)
 (wu:kitOne K (.ref qd) (.ref qd)=some true)
 (vd:kitOne K (.type "NoneType") (.ref qd)=some false)
 (wv:kitOne K (.ref qb) (.ref qp)=some false)
 (wz:kitOne K (.ref qa) (.ref qp)=some false)
 (wA:kitOne K (.ref qd) (.ref qp)=some false)
 (vg:kitOne K (.type "NoneType") (.ref qp)=some false)
 (qN:exmOne K (.ref qb) (.ref qf)=some true)
 (qW:exmOne K (.ref qa) (.ref qf)=some true)
 (qX:exmOne K (.ref qd) (.ref qf)=some true)
 (wS:nsIn K mainGlobals "isinstance"=some none)
 (vp:nsIn K mainGlobals "bool"=some none)
 (vt:nsIn K mainGlobals "int"=some none)
 (wT:nsIn K mainGlobals "ValueError"=some none)
 (vw:nsIn K mainGlobals "sum"=some none)
 (vx:nsIn K mainGlobals "all"=some none)
 (vy:nsIn K mainGlobals "len"=some none)
 (vn:nsIn K mainGlobals "tuple"=some none)
 (wZ:nsIn K mainGlobals "enumerate"=some none)
 (vo:nsIn K mainGlobals "range"=some none)
 (vz:nsIn K mainGlobals "str"=some none)
 (vq:nsIn K mainGlobals "list"=some none)
 (vA:nsIn K mainGlobals "abs"=some none)
 (vB:nsIn K mainGlobals "max"=some none)
 (wU:nsIn K mainGlobals "MOST_LUMPS"=some (some (.int 30 wQ)))
 (vh:nsIn K mainGlobals "FIGURES"=some (some (.str "0123456789" ve)))
 (wM:nsIn K mainGlobals "MOST_FIGURES"=some (some (.int 200 wL)))
:∃fd:QH,(∀(s:Qd) (v:Qa),BindsTo s fd ⟨[v],[]⟩ [("script",v)])/\∀base:QJ,K.In base->base.Ns mainGlobals mg->FnOk l.prog w K mg base CX0 5 fa fd ["script"] (Jc2 K):=by
 have e:=hfa.symm.trans (mg_of X G a15);cases e
 have qg:=mg_of X G n_LumpError
 have wN:=mg_of X G n_NoRow
 have wH:=mg_of X G n_Unlike
 have wB:=mg_of X G n_BadDeed
 have qj:=mg_of X G n_BadTable
 have we:=mg_of X G n_BadSeats
 have qu:=mg_of X G n_BadText
 have qm:=mg_of X G n_TooMany
 have wJ:=mg_of X G n_BadRow
 have qq:AtX K "BadTable" qb:=⟨⟨n_BadTable,xga_BadTable,xgn_BadTable,xmb_BadTable,xh_BadTable,xf_BadTable,xm_BadTable⟩,xo_BadTable⟩
 have qF:AtX K "TooMany" qd:=⟨⟨n_TooMany,xga_TooMany,xgn_TooMany,xmb_TooMany,xh_TooMany,xf_TooMany,xm_TooMany⟩,xo_TooMany⟩
 have qG:AtY K "BadText" qa:=⟨n_BadText,xga_BadText,xgn_BadText,xmb_BadText,xh_BadText,xf_BadText,xm_BadText⟩
 have xF:Jdf K ["BadText"]:=Jd9 qG xa_BadText (Jga)
 have xG:ExcG K:=⟨xg1,xg2⟩
 have xO:OwnL K ["BadTable","BadText","TooMany"] [qb,qa,qd]:=W3 qq.toAtY (W3 qG (W3 qF.toAtY (Jhp)))
 have iV:IsiV K ["BadTable","BadText","TooMany"]:=Jg0 xO xG (WR wW (WR w9 (WR va (Jg5))))
 have qO:IsiN K ["BadTable","BadText","TooMany"] "LumpError" qf:=YU xO xG (JA qM (by decide +kernel) (JA qS (by decide +kernel) (JA qT (by decide +kernel) (YV)))) wR
 have wO:IsiN K ["BadTable","BadText","TooMany"] "NoRow" qv:=YU xO xG (JA ww (by decide +kernel) (JA wF (by decide +kernel) (JA wG (by decide +kernel) (YV)))) vm
 have wI:IsiN K ["BadTable","BadText","TooMany"] "Unlike" qo:=YU xO xG (JA wl (by decide +kernel) (JA wx (by decide +kernel) (JA wy (by decide +kernel) (YV)))) vf
 have wC:IsiN K ["BadTable","BadText","TooMany"] "BadDeed" qk:=YU xO xG (JA qZ (by decide +kernel) (JA wm (by decide +kernel) (JA wn (by decide +kernel) (YV)))) vb
 have qt:IsiN K ["BadTable","BadText","TooMany"] "BadTable" qb:=YU xO xG (JA qU (by decide +kernel) (JA q0 (by decide +kernel) (JA q4 (by decide +kernel) (YV)))) wX
 have wf:IsiN K ["BadTable","BadText","TooMany"] "BadSeats" qi:=YU xO xG (JA qV (by decide +kernel) (JA q9 (by decide +kernel) (JA wa (by decide +kernel) (YV)))) wY
 have qw:IsiN K ["BadTable","BadText","TooMany"] "BadText" qa:=YU xO xG (JA wb (by decide +kernel) (JA wp (by decide +kernel) (JA wq (by decide +kernel) (YV)))) vc
 have qx:IsiN K ["BadTable","BadText","TooMany"] "TooMany" qd:=YU xO xG (JA wc (by decide +kernel) (JA wt (by decide +kernel) (JA wu (by decide +kernel) (YV)))) vd
 have wK:IsiN K ["BadTable","BadText","TooMany"] "BadRow" qp:=YU xO xG (JA wv (by decide +kernel) (JA wz (by decide +kernel) (JA wA (by decide +kernel) (YV)))) vg
 have qR:ExmL K qf [qb,qa,qd]:=WI qN (WI qW (WI qX (Jgx)))
 have qe:=mg_none_of X G wS
 have w5:=mg_none_of X G vp
 have wd:=mg_none_of X G vt
 have qH:=mg_none_of X G wT
 have qE:=mg_none_of X G vw
 have vi:=mg_none_of X G vx
 have ql:=mg_none_of X G vy
 have wP:=mg_none_of X G vn
 have qP:=mg_none_of X G wZ
 have qY:=mg_none_of X G vo
 have wV:=mg_none_of X G vz
 have w6:=mg_none_of X G vq
 have vj:=mg_none_of X G vA
 have vk:=mg_none_of X G vB
 have qI:GV mg "MOST_LUMPS" (.int 30):=⟨_,mg_of X G wU,⟨_,rfl⟩⟩
 have wE:GV mg "FIGURES" (.str "0123456789"):=⟨_,mg_of X G vh,⟨_,rfl⟩⟩
 have qy:GV mg "MOST_FIGURES" (.int 200):=⟨_,mg_of X G wM,⟨_,rfl⟩⟩
 have F15:=JeH (st:=VT) l15 c15 k15;refine⟨fnOf "law" "law" (Uf VT) (Yw VT) (Jr VT) .none kV15 dc15 pm15 an15 cd15 ct15,fun s v=>.of_eq rfl,fun base _ _=>?_⟩
 have Z:PB l.prog w base:=⟨⟩
 have T_BadText:IniC K qa fI_BadText qf:=⟨xi_BadText,xn_BadText,xv_BadText,xm_BadText,xt_BadText,xs_BadText,lb1,lb2,lb3⟩
 have R_BadText:RaiF l.prog w K mg base "BadText" qa 1:=⟨fI_BadText,qf,dI_BadText,["self","at"],T_BadText,Jbb FI_BadText T_BadText qg,FI_BadText.binds (by walk_at "b"),qu⟩
 have qJ:=YK Z F1 (JaC (C:=C) F1 qe w5 wd) (mg_of X G a1) (by walk_at "b")
 have qK:=YK Z F2 (JaA (C:=C) F2 qe qH xG xO iV qg qO wN wO wH wI wB wC qj qt we wf qu qw qm qx wJ wK) (mg_of X G a2) (by walk_at "b")
 have qz:=Jcr Z F3 (WZ (C:=C) F3 qE qI qm qF qj qq) (mg_of X G a3) (by walk_at "b")
 have wg:=YK Z F4 (Jbp (C:=C) F4 ) (mg_of X G a4) (by walk_at "b")
 have qC:=YK Z F5 (W2 (C:=C) F5 wd vi ql wE qy) (mg_of X G a5) (by walk_at "b")
 have qQ:=YK Z F6 (JaD (C:=C) F6 wP ql qC) (mg_of X G a6) (by walk_at "b")
 have qD:=Jcr Z F7 (ZC (C:=C) F7 qP qz wg qQ qG R_BadText) (mg_of X G a7) (by walk_at "b")
 have qL:=YK Z F8 (JaB (C:=C) F8 wd qe qJ qK qD qm xG xO qx qj qt xF qu qw qg qR) (mg_of X G a8) (by walk_at "b")
 have qA:=YK Z F9 (W0 (C:=C) F9 ql) (mg_of X G a9) (by walk_at "b")
 have wj:=YK Z F10 (Jb6 (C:=C) F10 qE qY ql) (mg_of X G a10) (by walk_at "b")
 have qr:=YK Z F11 (VL (C:=C) F11 wV) (mg_of X G a11) (by walk_at "b")
 have wk:=YK Z F12 (Jb5 (C:=C) F12 qE ql w6) (mg_of X G a12) (by walk_at "b")
 have qh:=YK Z F13 (Jbo (C:=C) F13 ql) (mg_of X G a13) (by walk_at "b")
 have qB:=YK Z F14 (W1 (C:=C) F14 qY vj vk qh) (mg_of X G a14) (by walk_at "b");exact Jg6 (JjX (C:=C) F15 ql qE qL qA wj qr wk qB qh) law_true
theorem walk{l:PySem.W.OpenLaw}{q:Qp}{loose:List Str}{XP:(Str->Option Qa)->QJ->Prop}{YP:QC->QJ->Prop}{d:DefRec}{K:Params->Qq}(hn:l.most=some 63)(hdf:d.params.defaults=[])
 (hY:∀(w:QC) (h:QJ),YP w h->(K w.params).In h)
 (F:∀(w:QC) (mg:Str->Option Qa) (fa:Qc) (h:QJ),(K w.params).In h->h.Ns mainGlobals mg->mg d.name=some (.ref fa) ->
  ∃fd:QH,(∀(s:Qd) (u:Qa),BindsTo s fd ⟨[u],[]⟩ [("script",u)])/\∀base:QJ,(K w.params).In base->base.Ns mainGlobals mg->FnOk l.prog w (K w.params) mg base CX0 5 fa fd ["script"] (Jc2 (K w.params))) :
 PySem.W.WalkO q loose XP YP l.row.toRowW d [] (fun f vs=>PySem.call f vs) :=
 L2.Jig (n:=63) (k:=5) (x:="script") (CX:=fun _=>CX0) (sp:=fun w=>Jc2 (K w.params)) hn (by decide) hdf ⟨rfl,by decide,by decide⟩ hY F (fun _ _ a ns hl _ hS=>⟨a,ns,rfl,hS,hl,fun _=>rfl⟩) fun _ _ _ _ _ z=>z
end LK
end
namespace PySem.W.Fast
theorem tw11540331766185339278:True:=⟨⟩
theorem tw9814063499211833875:True:=⟨⟩
theorem tw1079923586938725758:True:=⟨⟩
theorem tw7305822199831224691:True:=⟨⟩
theorem tw3822572346280032052:True:=⟨⟩
theorem tw8026660260171570736:True:=⟨⟩
theorem tw16539250084420446342:True:=⟨⟩
theorem tw11776182746556213539:True:=⟨⟩
theorem tw1561259430052712108:True:=⟨⟩
theorem tw3699798668816634609:True:=⟨⟩
theorem tw11294525301860830179:True:=⟨⟩
theorem tw4350200308217580542:True:=⟨⟩
theorem tw9352148639081329277:True:=⟨⟩
theorem tw7662728207432305632:True:=⟨⟩
theorem tw8670403295542125483:True:=⟨⟩
theorem tw8283157137196963431:True:=⟨⟩
theorem tw8190637576665519874:True:=⟨⟩
theorem tw5609852738087989954:True:=⟨⟩
theorem tw13628023484494756186:True:=⟨⟩
theorem tw7830514627706914101:True:=⟨⟩
theorem tw9831172805471488148:True:=⟨⟩
theorem tw3230802311162277590:True:=⟨⟩
theorem tw3726648387165096911:True:=⟨⟩
theorem tw6940421632797143989:True:=⟨⟩
theorem tw4831609356847638559:True:=⟨⟩
theorem tw12963835039603460527:True:=⟨⟩
theorem tw11186589042480390831:True:=⟨⟩
theorem tw6902556623160496116:True:=⟨⟩
theorem tw13178054528426718325:True:=⟨⟩
theorem tw6163749183206503580:True:=⟨⟩
theorem tw16375517723315225392:True:=⟨⟩
theorem tw15369640123673680482:True:=⟨⟩
theorem tw2021676453599657233:True:=⟨⟩
theorem tw1211632060353839728:True:=⟨⟩
theorem tw17427326793796780420:True:=⟨⟩
theorem tw7588113681660647513:True:=⟨⟩
theorem tw16657334534033544335:True:=⟨⟩
theorem tw12053910886355941940:True:=⟨⟩
theorem tw9978144539780920131:True:=⟨⟩
theorem tw1361655495237860391:True:=⟨⟩
theorem tw9257317207563257893:True:=⟨⟩
theorem tw12352891079185069270:True:=⟨⟩
theorem tw6699264764988482305:True:=⟨⟩
theorem tw18365009818315790735:True:=⟨⟩
theorem tw2360809372807856945:True:=⟨⟩
theorem tw11632592883332852811:True:=⟨⟩
theorem tw11779387659364174101:True:=⟨⟩
theorem tw15767938304636429205:True:=⟨⟩
theorem tw7047097211438850309:True:=⟨⟩
theorem tw1279215895827574378:True:=⟨⟩
theorem tw8718092187655485765:True:=⟨⟩
theorem tw6744232935299061330:True:=⟨⟩
theorem tw870875363081879975:True:=⟨⟩
theorem tw3439435219435382673:True:=⟨⟩
theorem tw17679436207299120818:True:=⟨⟩
theorem tw9305227601780475239:True:=⟨⟩
theorem tw14607088378064279638:True:=⟨⟩
theorem tw6792729515864273219:True:=⟨⟩
theorem tw11473139024408660617:True:=⟨⟩
theorem tw5874529987059339321:True:=⟨⟩
theorem tw4428250645378706280:True:=⟨⟩
theorem tw12789171084908646236:True:=⟨⟩
theorem tw15502493837191381150:True:=⟨⟩
theorem tw7340287098501815667:True:=⟨⟩
theorem tw4448311363909361129:True:=⟨⟩
theorem tw10936438739343424779:True:=⟨⟩
theorem tw10013210987627173306:True:=⟨⟩
theorem tw1825908213115611510:True:=⟨⟩
theorem tw1874873530759235971:True:=⟨⟩
theorem tw8904912326792502211:True:=⟨⟩
theorem tw11939915733449731981:True:=⟨⟩
theorem tw17808669670107818935:True:=⟨⟩
theorem tw3850155852074187005:True:=⟨⟩
theorem tw15264088854294670632:True:=⟨⟩
theorem tw12717070928062768258:True:=⟨⟩
theorem tw8162726815240550194:True:=⟨⟩
theorem tw4624111405394851118:True:=⟨⟩
theorem tw157309660040128111:True:=⟨⟩
theorem tw5610045281576406882:True:=⟨⟩
theorem tw3206887414904160651:True:=⟨⟩
theorem tw17336264612947212086:True:=⟨⟩
theorem tw3122557293491759637:True:=⟨⟩
theorem tw16384144404895424092:True:=⟨⟩
theorem tw18418116320015707282:True:=⟨⟩
theorem tw11869013452373129656:True:=⟨⟩
theorem tw18047293434716897782:True:=⟨⟩
theorem tw1070574196228913911:True:=⟨⟩
theorem tw4309220005821725671:True:=⟨⟩
theorem tw2350814354084433772:True:=⟨⟩
theorem tw17282327674388750729:True:=⟨⟩
theorem tw9190604694097626426:True:=⟨⟩
theorem tw4349739843686975955:True:=⟨⟩
theorem tw2263118560345935394:True:=⟨⟩
theorem tw11358409986814498943:True:=⟨⟩
theorem tw8055763320268463772:True:=⟨⟩
theorem tw10483611089183983973:True:=⟨⟩
theorem tw14721984983311778228:True:=⟨⟩
theorem tw4950146001276967369:True:=⟨⟩
end PySem.W.Fast
open PySem PySem.W PyProof.Rows
set_option maxRecDepth 100000 in
set_option maxHeartbeats 0 in
theorem PySem.Challenge.cw_lumprow_k73_texts_of_no_tables_holds : PySem.Challenge.rw_lumprow_k73_texts_of_no_tables.Holds := by
 w_on; o_law; k_head; (case hw => w_witness2)
 k_fill
 refine LK.walk (l := PySem.Challenge.rw_lumprow_k73_texts_of_no_tables) rfl rfl (fun w h Y => PySem.W.kIn_of Y) ?F
 case F =>
  intro w mg fa h KX G hmg; apply LK.all_mk (C := 0) KX G hmg; all_goals first | exact L2.JeH (by k_is) (by k_is) (by k_is) | k_is | k_exc | kit_is | kts_exm | kernel_rfl
